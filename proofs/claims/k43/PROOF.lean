import PyProof.Rows.All
import Wide.All
import OpenK.AllK
import Wide.FinOn
import Lean
import PyProof.EqAt
import PyProof.EqKinds
import PyProof.TupleCall
import PySem.Challenge.RW_creelway_k43_whole_late_walks_are_walks
set_option Elab.async false
set_option linter.all false
set_option maxRecDepth 100000
set_option maxHeartbeats 4000000
section
open PySem PySem.Spec PyProof.Rows
def aDE:=@wpAny_bind
def aDF:=@wpAny_pure
def aDG:=@List.length_map
def aDH:=@Heap.get?_push_of_some
def aDI:=@List.mem_cons_self
def aDJ:=@List.mem_cons_of_mem
def aDK:=@List.mem_append_right
def aDL:=@Heap.get?_update_other
def aDM:=@Heap.lt_size
def aDN:=@Heap.get?_push_size
def aDO:=@List.size_toArray
def aDP:=@List.length_append
def aDQ:=@List.getElem?_eq_getElem
def aDR:=@List.mem_of_getElem?
def aDS:=@Around.under_plainId
def aDT:=@Bool.false_ne_true
def aDU:=@List.take_length
def aDV:=@List.map_append
def aDW:=@List.length_take
def aDX:=@Nat.lt_of_lt_of_le
def aDY:=@Heap.get?_update_self
def aDZ:=@List.mem_append_left
def aD0:=@List.length_replicate
def aD1:=@decide_eq_false
def aD2:=@decide_eq_true
def aD3:=@Nat.ne_of_lt
def aD4:=@List.getElem?_map
def aD5:=@List.map_cons
def aD6:=@Nat.ne_of_gt
def aD7:=@List.foldl_cons
def aD8:=@List.sum_cons
def aD9:=@List.length_cons
def aDa:=@List.map_map
def aDb:=@List.take_succ
def aDc:=@List.mem_singleton
def aDd:=@PySem.F.plainAttrs_list
def aDe:=@PySem.F.slot_list_append
def aDf:=@PySem.F.type_list_append
def aDg:=@Option.map_eq_some_iff
def aDh:=@List.getElem?_eq_some_iff
def aDi:=@List.mem_cons
def aDj:=@List.mem_append
def aDk:=@List.mem_map
def aDl:=@List.mem_filter
end
namespace L2
open PySem PySem.Spec PyProof.Rows
abbrev Key:=Sum Int Str
def pX:Key->Value->Bool
 | .inl k,v=>Value.isInt k v
 | .inr x,v=>Value.isStrOf x v
def aC5 (w:World):Key->Int
 | .inl k=>hashInt k
 | .inr x=>hashStr w x
def bV:∀ {k:Key} {v:Value},pX k v=true->(∃ i t,k=Sum.inl i/\v=Value.int i t)\/(∃ x t,k=Sum.inr x/\v=Value.str x t)
 | .inl i,v,h=>by
  obtain⟨t,e⟩:=Value.isInt_shape (k:=i) (v:=v) h;exact .inl ⟨i,t,rfl,e⟩
 | .inr x,v,h=>by
  obtain⟨t,e⟩:=Value.isStrOf_shape (x:=x) (v:=v) h;exact .inr ⟨x,t,rfl,e⟩
def P9 (i:Int) (t:Tok):pX (.inl i) (.int i t)=true:=by simp[pX,Value.isInt]
def Q0 (x:Str) (t:Tok):pX (.inr x) (.str x t)=true:=by simp[pX,Value.isStrOf]
def aAj (a b:Int):decide ((Sum.inl a:Key)=Sum.inl b)=(a == b):=by
 by_cases e:a=b
 .subst e;simp
 .have h:¬ (Sum.inl a:Key)=Sum.inl b:=λq=>e (Sum.inl.inj q);rw[aD1 h];exact(beq_eq_false_iff_ne.mpr e).symm
def aAk (a b:Str):decide ((Sum.inr a:Key)=Sum.inr b)=decide (a=b):=by
 by_cases e:a=b
 .subst e;simp
 .have h:¬ (Sum.inr a:Key)=Sum.inr b:=λq=>e (Sum.inr.inj q);rw[aD1 h,aD1 e]
def aAl (a:Int) (b:Str):decide ((Sum.inl a:Key)=Sum.inr b)=false:=aD1 (λq=>nomatch q)
def aAm (a:Str) (b:Int):decide ((Sum.inr a:Key)=Sum.inl b)=false:=aD1 (λq=>nomatch q)
def bB (prog:Program) (w:World):PySem.KeyKind prog w Key where
 is:=pX
 hash:=aC5 w
 inj:=λv a b ha hb=>by
  rcases bV ha with ⟨i,t,rfl,rfl⟩ | ⟨x,t,rfl,rfl⟩
  .rcases bV hb with ⟨j,u,rfl,e⟩ | ⟨y,u,rfl,e⟩
   .injection e with e1 _;rw[e1]
   .exact nomatch e
  .rcases bV hb with ⟨j,u,rfl,e⟩ | ⟨y,u,rfl,e⟩
   .exact nomatch e
   .injection e with e1 _;rw[e1]
 byValue:=λk v h=>by
  rcases bV h with ⟨i,t,rfl,rfl⟩ | ⟨x,t,rfl,rfl⟩ <;> rfl
 pyHash:=λhv h=>by
  rcases bV hv with ⟨i,t,rfl,rfl⟩ | ⟨x,t,rfl,rfl⟩
  .exact wpAny_pyHash_int h
  .exact wpAny_pyHash_str h
 eqBool:=λhu hv h=>by
  rcases bV hu with ⟨i,t,rfl,rfl⟩ | ⟨x,t,rfl,rfl⟩
  .rcases bV hv with ⟨j,u,rfl,rfl⟩ | ⟨y,u,rfl,rfl⟩
   .rw[aAj]at h;exact wpAny_eqBool_int h
   .rw[aAl]at h;exact SeqAt.EqAt.int_str i t y u _ _ _ _ h
  .rcases bV hv with ⟨j,u,rfl,rfl⟩ | ⟨y,u,rfl,rfl⟩
   .rw[aAm]at h;exact SeqAt.EqAt.str_int x t j u _ _ _ _ h
   .rw[aAk]at h;exact wpAny_eqBool_str h
 «strs»:=λk x t v h=>by
  rcases bV h with ⟨i,u,rfl,e⟩ | ⟨y,u,rfl,e⟩
  .exact nomatch e
  .injection e with e1 _
   subst e1;cases v <;> rfl
def rO (prog:Program) (w:World) (k:Key) (v:Value):(bB prog w).is k v=pX k v:=rfl
def yS (prog:Program) (w:World) (i:Int) (t:Tok):(bB prog w).is (.inl i) (.int i t)=true:=P9 i t
def yT (prog:Program) (w:World) (x:Str) (t:Tok):(bB prog w).is (.inr x) (.str x t)=true:=Q0 x t
inductive V where
 | non | bl (b:Bool) | int (i:Int) | str (x:Str) | byt (b:Array UInt8) | flt (b:UInt64) | ref (a:Addr) | ty (n:String)
 deriving DecidableEq
def RelV:V->Value->Prop
 | .non,u=>u=Value.none
 | .bl b,u=>u=Value.bool b
 | .int i,u=>∃ t,u=Value.int i t
 | .str x,u=>∃ t,u=Value.str x t
 | .byt b,u=>∃ t,u=Value.bytes b t
 | .flt b,u=>∃ t,u=Value.float b t
 | .ref a,u=>u=Value.ref a
 | .ty n,u=>u=Value.type n
abbrev Vals:List V->List Value->Prop:=Paired RelV
def Vals.length {xs:List V} {us:List Value} (r:Vals xs us):xs.length=us.length:=Paired.length r
def Vals.get:∀ {xs:List V} {us:List Value} {i:Nat} {x:V},Vals xs us->xs[i]?=some x->∃ u,us[i]?=some u/\RelV x u
 | _,_,_,_,.nil,e=>by simp at e
 | _,_,0,_,.cons r _,e=>by simp at e;subst e;exact⟨_,rfl,r⟩
 | _,_,i+1,x,.cons _ t,e=>by
  obtain⟨u,h1,h2⟩:=Vals.get (i:=i) (x:=x) t (by simpa using e);exact⟨u,by simpa using h1,h2⟩
def Vals.append:∀ {xs ys:List V} {us ws:List Value},Vals xs us->Vals ys ws->Vals (xs++ys) (us++ws)
 | _,_,_,_,.nil,s=>s
 | _,_,_,_,.cons r t,s=>.cons r (Vals.append t s)
def Vals.take:∀ {xs:List V} {us:List Value} (n:Nat),Vals xs us->Vals (xs.take n) (us.take n)
 | _,_,0,_=>.nil
 | _,_,_+1,.nil=>.nil
 | _,_,n+1,.cons r t=>.cons r (Vals.take n t)
def Vals.drop:∀ {xs:List V} {us:List Value} (n:Nat),Vals xs us->Vals (xs.drop n) (us.drop n)
 | _,_,0,r=>r
 | _,_,_+1,.nil=>.nil
 | _,_,n+1,.cons _ t=>Vals.drop n t
def RelO:Option V->Option Value->Prop
 | some v,some u=>RelV v u
 | none,none=>True
 | _,_=>False
def KV {κ:Type}:List (κ×V)->List (κ×Value)->Prop:=Paired λ(p:κ×V) (q:κ×Value)=>p.1=q.1/\RelV p.2 q.2
def kV:Key->V
 | .inl i=>.int i
 | .inr x=>.str x
inductive HO where
 | lst (xs:List V)
 | tup (xs:List V)
 | dK (kvs:List (Key×V)) | dT (kvs:List (List Key×V))
 | set (S:Int->Bool) (n:Nat)
 | ins (C dx:Addr) (fs:List (Str×V))
 | own (x:Addr)
 | xd (fs:List (Str×V))
 | met (f x:Addr)
 | rng (lo hi:Int)
 | frz (o:Obj) (u:HO)
 | tbl (ps:Array Value)
 | ext (φ:Heap->Prop)
abbrev Hp:=Addr->Option HO
def upd (H:Hp) (a:Addr) (o:HO):Hp:=λb=>if b=a then some o else H b
def aB {H:Hp} {a:Addr} {o:HO}:upd H a o a=some o:=by unfold upd;rw[if_pos rfl]
def aG {H:Hp} {a b:Addr} {o:HO} (h:b≠a):upd H a o b=H b:=by unfold upd;rw[if_neg h]
def gZ {H:Hp} {a:Addr} {o u:HO}:upd (upd H a o) a u=upd H a u:=by
 funext b;unfold upd;split <;> rfl
def bJ {H:Hp} {a b:Addr} {o u:HO} (h:H a=some o) (h':H b=some u) (d:o≠u):a≠b:=by
 intro e;subst e;rw[h]at h';exact d (Option.some.inj h')
def aN {H:Hp} {a b:Addr} {o:HO} (h:H a=some o) (h':H b=none):a≠b:=by
 intro e;subst e;rw[h]at h';cases h'
section
variable (P:Program) (w:World)
def ObjOk (H:Hp) (h:Heap) (a:Addr):HO->Prop
 | .lst xs=>xs.length<=sizeLine/\∃ (its:List Value) (n:Nat),Vals xs its/\h.get? a=some { cls:=.type "list",data:=.seq its.toArray n }
 | .tup xs=>xs.length<=sizeLine/\∃ its:List Value,Vals xs its/\IsTup h a its.toArray
 | .dK kvs=>kvs.length<=sizeLine/\(a == sysModules)=false/\∃ vs,KV kvs vs/\h.DictOf (bB P w) a vs
 | .dT kvs=>kvs.length<=sizeLine/\(a == sysModules)=false/\∃ xs:List (List Key×Addr×Value),
  Paired (λ(p:List Key×V) (q:List Key×Addr×Value)=>p.1=q.1/\H q.2.1=some (.tup (p.1.map kV))/\RelV p.2 q.2.2) kvs xs /\
  ∃ o es ep,h.get? a=some o/\o.ExactDict/\o.data=.dict es ep/\es.toList=xs.map (entryOfKey (tupleKind (bB P w)))/\(xs.map (·.1)).Nodup
 | .set S n=>h.SetOf (intKind P w) a S n
 | .ins C dx fs=>H dx=some (.own a)/\fs.length<=1000/\dx≠a/\h.get? a=some (PySem.W.instObj C dx) /\
  ∃ mA,h.Ns1 dx mA/\(∀ f,RelO (fs.lookup f) (mA f))/\PySem.Within mA (fs.map (·.1))
 | .own _=>∃ o,h.get? a=some o
 | .xd fs=>∃ mA,h.Ns1 a mA/\∀ f,RelO (fs.lookup f) (mA f)
 | .rng lo hi=>∃ t u v,h.get? a=some { cls:=.type "range",data:=.fields #[.int lo t,.int hi u,.int 1 v] }
 | .frz o u=>h.get? a=some o/\ObjOk H h a u
 | .tbl ps=>h.get? a=some { cls:=.none,data:=.fields ps }
 | .met f x=>h.get? a=some (PySem.W.methodObj (.ref f) (.ref x))
 | .ext z=>z h/\(∃ o,h.get? a=some o)/\∀ h1 h2:Heap,z h1->(∀ o,h1.get? a=some o->h2.get? a=some o)->z h2
def HOk (H:Hp) (h:Heap):Prop:=∀ a o,H a=some o->ObjOk P w H h a o
end
section
variable {P:Program} {w:World} {H H':Hp} {h h':Heap} {a:Addr} {o:HO}
def ObjOk.lt (x:ObjOk P w H h a o):a<h.objs.size:=by
 cases o with
 | lst xs=>obtain⟨_,_,_,_,e⟩:=x;exact aDM e
 | tup xs=>obtain⟨_,_,_,p⟩:=x;exact p.lt
 | dK kvs=>obtain⟨_,_,_,_,o,_,_,e,_⟩:=x;exact aDM e
 | dT kvs=>obtain⟨_,_,_,_,o,_,_,e,_⟩:=x;exact aDM e
 | set S n=>obtain⟨o,_,_,_,e,_⟩:=x;exact aDM e
 | ins C dx fs=>obtain⟨_,_,_,e,_⟩:=x;exact aDM e
 | own y=>obtain⟨_,e⟩:=x;exact aDM e
 | xd fs=>obtain⟨_,⟨_,_,_,e,_⟩,_⟩:=x;exact aDM e
 | rng lo hi=>obtain⟨_,_,_,e⟩:=x;exact aDM e
 | frz z u=>obtain⟨e,_⟩:=x;exact aDM e
 | tbl ps=>exact aDM (show h.get? a=some _ from x)
 | met f y=>exact aDM (show h.get? a=some _ from x)
 | ext D=>obtain⟨_,⟨_,e⟩,_⟩:=x;exact aDM e
def Paired.mapP {z D:Type} {F G:z->D->Prop}:∀ {l₁:List z} {l₂:List D},Paired F l₁ l₂->(∀ a b,F a b->G a b)->Paired G l₁ l₂
 | _,_,.nil,_=>.nil
 | _,_,.cons r t,f=>.cons (f _ _ r) (Paired.mapP t f)
def ObjOk.stay (x:ObjOk P w H h a o) (k:∀ b u,(b=a\/H b=some (.own a))->h.get? b=some u->h'.get? b=some u)
 (I:∀ b,H b=some (.own a)->H' b=some (.own a)) (ht:∀ b xs,H b=some (.tup xs)->H' b=some (.tup xs)):ObjOk P w H' h' a o:=by
 induction o with
 | lst xs=>obtain⟨z,its,n,r,e⟩:=x;exact⟨z,its,n,r,k _ _ (.inl rfl) e⟩
 | tup xs=>obtain⟨z,its,r,D,e,c⟩:=x;exact⟨z,its,r,D,k _ _ (.inl rfl) e,c⟩
 | dK kvs=>obtain⟨z,y,vs,r,D,es,ep,e,c⟩:=x;exact⟨z,y,vs,r,D,es,ep,k _ _ (.inl rfl) e,c⟩
 | dT kvs =>
  obtain⟨z,y,xs,r,D,es,ep,e,c⟩:=x;exact⟨z,y,xs,Paired.mapP r λp q z=>⟨z.1,ht _ _ z.2.1,z.2.2⟩,D,es,ep,k _ _ (.inl rfl) e,c⟩
 | set S n=>obtain⟨D,es,ep,t,e,c⟩:=x;exact⟨D,es,ep,t,k _ _ (.inl rfl) e,c⟩
 | ins C dx fs =>
  obtain⟨d,z,ne,e,mA,⟨od,es,ep,J,c⟩,r⟩:=x;exact⟨I _ d,z,ne,k _ _ (.inl rfl) e,mA,⟨od,es,ep,k _ _ (.inr d) J,c⟩,r⟩
 | own y=>obtain⟨D,e⟩:=x;exact⟨D,k _ _ (.inl rfl) e⟩
 | xd fs=>obtain⟨mA,⟨od,es,ep,e,c⟩,r⟩:=x;exact⟨mA,⟨od,es,ep,k _ _ (.inl rfl) e,c⟩,r⟩
 | rng lo hi=>obtain⟨t,u,v,e⟩:=x;exact⟨t,u,v,k _ _ (.inl rfl) e⟩
 | frz D u L=>obtain⟨e,q⟩:=x;exact⟨k _ _ (.inl rfl) e,L q⟩
 | tbl ps =>
  have e:h.get? a=some { cls:=.none,data:=.fields ps }:=x;show h'.get? a=some { cls:=.none,data:=.fields ps };exact k a _ (.inl rfl) e
 | met f y =>
  have e:h.get? a=some (PySem.W.methodObj (.ref f) (.ref y)):=x;show h'.get? a=some (PySem.W.methodObj (.ref f) (.ref y));exact k a _ (.inl rfl) e
 | ext M=>obtain⟨p,⟨o,e⟩,st⟩:=x;exact⟨st _ _ p λo q=>k _ _ (.inl rfl) q,⟨o,k _ _ (.inl rfl) e⟩,st⟩
def HOk.lt (x:HOk P w H h) (e:H a=some o):a<h.objs.size:=(x a o e).lt
def HOk.fresh (x:HOk P w H h) (e:h.objs.size<=a):H a=none:=by
 cases q:H a with
 | none=>rfl
 | some u=>exact absurd (aDX (x.lt q) e) (Nat.lt_irrefl _)
def HOk.kept (x:HOk P w H h) (k:∀ b u,h.get? b=some u->h'.get? b=some u):HOk P w H h':=λa o e =>
 (x a o e).stay (λb u _ q=>k b u q) (λ_ q=>q) λ_ _ q=>q
def HOk.laid (x:HOk P w H h) (k:∀ b u,h.get? b=some u->h'.get? b=some u) (I:h.objs.size<=a) (new:ObjOk P w (upd H a o) h' a o):HOk P w (upd H a o) h':=λb u e=>by
 have z:=x.fresh I
 by_cases D:b=a
 .subst D;rw[aB]at e;cases e;exact new
 .rw[aG D]at e;exact(x b u e).stay (λc v _ q=>k c v q) (λc q=>by rw[aG (aN q z)];exact q) λc xs q=>by rw[aG (aN q z)];exact q
end
def Rd (H:Hp) (a:Addr) (u:HO):Prop:=H a=some u\/∃ o,H a=some (.frz o u)
def Rd.of {H:Hp} {a:Addr} {u:HO} (h:H a=some u):Rd H a u:=.inl h
def Rd.ok {P:Program} {w:World} {H:Hp} {h:Heap} {a:Addr} {u:HO} (r:Rd H a u) (x:HOk P w H h):ObjOk P w H h a u:=by
 rcases r with r | ⟨o,r⟩
 .exact x a u r
 .obtain⟨_,q⟩:=x a _ r;exact q
def Mut:Option HO->Prop
 | some (.lst _)=>True
 | some (.dK _)=>True
 | some (.dT _)=>True
 | some (.set _ _)=>True
 | some (.ins _ _ _)=>True
 | some (.ext _)=>True
 | _=>False
section
variable {P:Program} {w:World} {H:Hp} {h h':Heap} {x e:Addr} {o':HO}
def HOk.write (ok:HOk P w H h) (L:Mut (H x)) (he:e=x\/H e=some (.own x)) (k:∀ b u,b≠e->h.get? b=some u->h'.get? b=some u) (N:∃ u,h'.get? e=some u)
 (new:ObjOk P w (upd H x o') h' x o'):HOk P w (upd H x o') h':=λb u q=>by
 have I:∀ c y,H c=some (.own y)->c≠x:=λc y r z=>by subst z;rw[r]at L;exact L
 have J:∀ c xs,H c=some (.tup xs)->c≠x:=λc xs r z=>by subst z;rw[r]at L;exact L
 by_cases M:b=x
 .subst M;rw[aB]at q;cases q;exact new
 .rw[aG M]at q
  by_cases D:b=e
  .have U:H b=some (.own x):=by
    rcases he with z | z
    .exact absurd (D.trans z) M
    .rw[D];exact z
   rw[q]at U;cases U;obtain⟨v,Y⟩:=N;exact⟨v,by rw[D];exact Y⟩
  .refine(ok b u q).stay (λc v hc r=>k c v ?_ r) (λc r=>by rw[aG (I c b r)];exact r) λc xs r=>by rw[aG (J c xs r)];exact r
   rcases hc with rfl | hc
   .exact D
   .rintro rfl;rcases he with z | z
    .exact I c b hc z
    .rw[hc]at z;cases z;exact M rfl
end
structure Un (fs ex:List Addr) (H H':Hp) (h h':Heap):Prop where
 keep:∀ b o,h.get? b=some o->H b=none->b∉fs->b∉ex->h'.get? b=some o
 slot:∀ b o,h.get? b=some o->H b=none->b∈fs->b∉ex->∃ sl,h'.get? b=some { o with slots:=sl }
 free:∀ b o,h.get? b=some o->H b=none->b∉ex->H' b=none
 there:∀ b o,h.get? b=some o->b∉ex->∃ o',h'.get? b=some o'
 tups:∀ b xs,H b=some (.tup xs)->H' b=some (.tup xs)
 frzs:∀ b o u,H b=some (.frz o u)->H' b=some (.frz o u)
 tbls:∀ b ps,H b=some (.tbl ps)->∃ more,H' b=some (.tbl (ps++more))
section
variable {fs fs' ex ex':List Addr} {H H1 H2:Hp} {h h1 h2 h':Heap} {a x e:Addr} {o:HO}
def Un.any (u:Un fs ex H H1 h h1) {b:Addr} {z:Obj} (q:h.get? b=some z) (n:H b=none) (D:b∉ex):∃ J,h1.get? b=some { z with slots:=J }:=by
 by_cases I:b∈fs
 .exact u.slot b z q n I D
 .exact⟨z.slots,u.keep b z q n I D⟩
def Un.trans (a:Un fs ex H H1 h h1) (b:Un fs ex H1 H2 h1 h2):Un fs ex H H2 h h2 where
 keep:=λc ob q n hc hx=>b.keep c ob (a.keep c ob q n hc hx) (a.free c ob q n hx) hc hx
 slot:=λc ob q n hc hx=>by
  obtain⟨sl,e1⟩:=a.slot c ob q n hc hx;obtain⟨sl',e2⟩:=b.slot c _ e1 (a.free c ob q n hx) hc hx;exact⟨sl',e2⟩
 free:=λc ob q n hx=>by
  obtain⟨o',e1⟩:=a.there c ob q hx;exact b.free c o' e1 (a.free c ob q n hx) hx
 there:=λc ob q hx=>by
  obtain⟨o',e1⟩:=a.there c ob q hx;exact b.there c o' e1 hx
 tups:=λc xs q=>b.tups c xs (a.tups c xs q)
 frzs:=λc ob xs q=>b.frzs c ob xs (a.frzs c ob xs q)
 tbls:=λc ps q=>by
  obtain⟨m1,e1⟩:=a.tbls c ps q;obtain⟨m2,e2⟩:=b.tbls c _ e1;exact⟨m1++m2,by rw[e2,Array.append_assoc]⟩
def Un.kept (k:∀ b u,h.get? b=some u->h'.get? b=some u):Un fs ex H H h h' :=
 ⟨λb z q _ _ _=>k b z q,λb z q _ _ _=>⟨z.slots,k b z q⟩,λ_ _ _ n _=>n,λb z q _=>⟨z,k b z q⟩,λ_ _ q=>q,λ_ _ _ q=>q,λ_ ps q=>⟨#[],by rw[q];simp⟩⟩
def Un.refl:Un fs ex H H h h:=Un.kept λ_ _ q=>q
def Un.laid (k:∀ b u,h.get? b=some u->h'.get? b=some u) (hp:h.objs.size<=a) (hn:H a=none):Un fs ex H (upd H a o) h h' where
 keep:=λb u q _ _ _=>k b u q
 slot:=λb u q _ _ _=>⟨u.slots,k b u q⟩
 free:=λb u q n _=>by rw[aG (aD3 (aDX (aDM q) hp))];exact n
 there:=λb u q _=>⟨u,k b u q⟩
 tups:=λb xs q=>by rw[aG (aN q hn)];exact q
 frzs:=λb u xs q=>by rw[aG (aN q hn)];exact q
 tbls:=λb ps q=>⟨#[],by rw[aG (aN q hn),q];simp⟩
def Un.write (I:Mut (H x)) (he:e=x\/H e=some (.own x)) (k:∀ b u,b≠e->h.get? b=some u->h'.get? b=some u) (J:∃ u,h'.get? e=some u):Un fs ex H (upd H x o) h h':=by
 have M:∀ b,H b=none->b≠x:=λb n z=>by subst z;rw[n]at I;exact I
 have N:∀ b,H b=none->b≠e:=λb n z=>by
  subst z;rcases he with r | r
  .exact M b n r
  .rw[n]at r;cases r
 have L:∀ b u,H b=some u->¬ Mut (some u)->b≠x:=λb u q nm z=>by subst z;rw[q]at I;exact nm I
 refine⟨λb u q n _ _=>k b u (N b n) q,λb u q n _ _=>⟨u.slots,k b u (N b n) q⟩,λb u q n _=>by rw[aG (M b n)];exact n,λb u q _=>?_,
  λb xs q=>by rw[aG (L b _ q λz=>z)];exact q,λb u xs q=>by rw[aG (L b _ q λz=>z)];exact q,λb ps q=>⟨#[],by rw[aG (L b _ q λz=>z),q];simp⟩⟩
 by_cases D:b=e
 .subst D;exact J
 .exact⟨u,k b u D q⟩
end
def trk (h:Heap) (H:Hp):List Addr:=(List.range h.objs.size).filter λa=>(H a).isSome
def wL (h:Heap) (H:Hp):Heap:=PySem.W.hideAll h (trk h H)
def Q3 (h:Heap) (H:Hp):(wL h H).objs.size=h.objs.size:=PySem.W.hideAll_size _ _
def V7 {h:Heap} {H:Hp} {b:Addr} {o:Obj} (e:h.get? b=some o) (n:H b=none):(wL h H).get? b=some o :=
 PySem.W.hideAll_get _ e λz=>by
  have q:(H b).isSome=true:=(aDl.mp z).2;rw[n]at q;simp at q
def u8 {h:Heap} {H:Hp} {b:Addr} {o:Obj} (e:(wL h H).get? b=some o):h.get? b=some o/\H b=none:=by
 have D:h.get? b=some o:=PySem.W.of_hideAll (trk h H) e;refine⟨D,?_⟩;cases q:H b with
 | none=>rfl
 | some x =>
  have I:b∈trk h H:=aDl.mpr ⟨List.mem_range.mpr (aDM D),by simp[q]⟩;have z:(wL h H).get? b=none:=PySem.W.hideAll_none (trk h H) I;rw[z]at e;cases e
structure Mod (K:PySem.W.Frag) (mg:Str->Option Value) (base:Heap):Prop where
 kin:K.In base
 glob:base.Ns mainGlobals mg
 blt:∃ mb,base.Ns builtinsNs mb/\∀ x:Str,x≠"__name__"->mb x=bootBuiltins x
 nolimit:base.NoLimit
structure Cx where
 prog:Program
 w:World
 K:PySem.W.Frag
 mg:Str->Option Value
 base:Heap
 A:Around
 N:List Str
 s₀:Shared
 H₀:Hp
 env:Env
 outer:List Env
 stack:List Env
 ex:List Addr
 fn:Str->Bool
 calm:Bool
 pn:List (Addr×Obj)
 xe:Value->Shared->Prop
def frs (l:List Env):List Addr:=l.filterMap (·.frame)
abbrev Cx.fs (X:Cx):List Addr:=frs X.outer
def Vis (z:Scope) (x:Str):Prop:=z.names.lookup x=some .local\/z.names.lookup x=some .cell\/z.names.lookup x=some .free
def Loc (z:Scope) (x:Str):Prop:=z.names.lookup x=some .local\/z.names.lookup x=some .cell
def aC6 (env:Env) (h:Heap) (m:Str->Option Value) (x:Str) (u:Value):Prop :=
 (env.kindOf x=some .local/\m x=some u)\/((env.kindOf x=some .cell\/env.kindOf x=some .free)/\∃ c,env.cells.lookup x=some c/\h.IsCell c (some u))
structure Cx.Ok (X:Cx):Prop where
 mod:Mod X.K X.mg X.base
 kind:X.env.scope.kind=.function
 glob:X.env.globals=mainGlobals
 blt:X.env.builtins=builtinsNs
 above:X.s₀.heap.objs.size<=X.env.locals
 inj:∀ x y c,X.env.cells.lookup x=some c->X.env.cells.lookup y=some c->x=y
 has:∀ x,(X.env.kindOf x=some .cell\/X.env.kindOf x=some .free)->∃ c,X.env.cells.lookup x=some c
 cab:∀ x c,X.fn x=true->X.env.cells.lookup x=some c->X.s₀.heap.objs.size<=c
 hd:X.calm=true->X.A.handled=none
 frames:X.A.frames=some X.stack
 stk:X.stack=X.outer\/(X.stack=X.env :: X.outer/\X.env.frame=some X.env.locals)
 exf:∀ b∈X.ex,b≠X.env.locals/\∀ x c,X.env.cells.lookup x=some c->c≠b
 bs:∀ b o,X.base.get? b=some o->X.s₀.heap.get? b=some o/\X.H₀ b=none
 bsz:X.base.objs.size<=X.s₀.heap.objs.size
 noex:∀ b o,X.base.get? b=some o->b∉X.ex
 exfs:∀ b∈X.ex,b∉X.fs
 funs:X.s₀.heap.FunFrames X.base X.outer
 frf:∀ b∈X.fs,X.H₀ b=none
structure Inv (X:Cx) (pins:List (Addr×Obj)) (σ:List (Option V)) (H:Hp) (s:Shared):Prop where
 ok:X.Ok
 os:s.os=X.s₀.os
 bare:AllBare s.gens
 base:Un X.fs X.ex X.H₀ H X.s₀.heap s.heap
 loc:∃ m,s.heap.Ns X.env.locals m/\∀ (i:Nat) (x:Str) (v:V),X.N[i]?=some x->σ[i]?=some (some v)->Vis X.env.scope x->∃ u,RelV v u/\aC6 X.env s.heap m x u
 cell:∀ x c,X.env.cells.lookup x=some c->∃ v,s.heap.IsCell c v
 free:H X.env.locals=none
 freeC:∀ x c,X.env.cells.lookup x=some c->H c=none
 pin:∀ p∈X.pn++pins,s.heap.get? p.1=some p.2/\H p.1=none/\p.1≠X.env.locals/\p.1∉X.fs/\∀ v,p.2.data≠.cell v
 hok:HOk X.prog X.w H s.heap
 len:σ.length=X.N.length
section
variable {X:Cx} {pins:List (Addr×Obj)} {σ:List (Option V)} {H H':Hp} {s:Shared} {h':Heap}
def Cx.Ok.nofr (ok:X.Ok) {b:Addr} {o:Obj} (e:X.base.get? b=some o):b∉X.fs:=λz=>by
 have:=(ok.funs.mem z).1;rw[e]at this;cases this
def Inv.bs (I:Inv X pins σ H s):∀ b o,X.base.get? b=some o->s.heap.get? b=some o/\H b=none:=λb o e =>
 ⟨I.base.keep b o (I.ok.bs b o e).1 (I.ok.bs b o e).2 (I.ok.nofr e) (I.ok.noex b o e),I.base.free b o (I.ok.bs b o e).1 (I.ok.bs b o e).2 (I.ok.noex b o e)⟩
def Inv.bk (I:Inv X pins σ H s):∀ b o,X.base.get? b=some o->s.heap.get? b=some o:=λb o e=>(I.bs b o e).1
def Inv.mod (I:Inv X pins σ H s):Mod X.K X.mg X.base:=I.ok.mod
def Inv.kIn (I:Inv X pins σ H s):X.K.In s.heap:=I.ok.mod.kin.keeps I.bk
def Inv.nolimit (I:Inv X pins σ H s):s.heap.NoLimit:=I.ok.mod.nolimit.keeps I.bk
def Inv.fr (I:Inv X pins σ H s):∃ m,Fr X.base X.env.locals s.heap m :=
 let ⟨m,z,_⟩:=I.loc
 ⟨m,z,I.bk,Nat.le_trans I.ok.bsz I.ok.above⟩
def Inv.lt (I:Inv X pins σ H s):X.env.locals<s.heap.objs.size:=let ⟨_,z,_⟩:=I.loc;z.lt
def Inv.sz (I:Inv X pins σ H s):X.s₀.heap.objs.size<=s.heap.objs.size:=Nat.le_trans I.ok.above (Nat.le_of_lt I.lt)
def Inv.nofs (I:Inv X pins σ H s) {a:Addr} (h:s.heap.objs.size<=a):a∉X.fs:=λz=>by
 obtain⟨_,o,D,_⟩:=I.ok.funs.mem z;exact absurd (aDX (aDM D) (Nat.le_trans I.sz h)) (Nat.lt_irrefl _)
def Inv.cne (I:Inv X pins σ H s):∀ x c,X.env.cells.lookup x=some c->c≠X.env.locals:=λx c e z=>by
 obtain⟨v,o,L,hd⟩:=I.cell x c e;obtain⟨m,⟨o',es,ep,D,J,_⟩,_⟩:=I.loc;rw[z,D]at L;cases L;rw[J]at hd;cases hd
def Inv.funs (I:Inv X pins σ H s):s.heap.FunFrames X.base X.outer:=by
 have all:∀ (l:List Env),(∀ b∈frs l,b∈X.fs)->X.s₀.heap.FunFrames X.base l->s.heap.FunFrames X.base l:=by
  intro l
  induction l with
  | nil=>intro _ _;trivial
  | cons env r N =>
   intro hs U;obtain⟨Y,⟨L,o,D,hn,ho,hd⟩,hr⟩:=U;have J:L∈X.fs:=hs L (by unfold frs;rw[List.filterMap_cons,D];exact aDI);obtain⟨sl,e⟩:=I.base.slot L o ho (I.ok.frf L J) J λz=>I.ok.exfs L z J;exact⟨Y,⟨L,_,D,hn,e,hd⟩,N (λb M=>hs b (by unfold frs;rw[List.filterMap_cons,D];exact aDJ _ M)) hr⟩
 exact all X.outer (λ_ M=>M) I.ok.funs
def Inv.stack (I:Inv X pins σ H s):s.heap.FunFrames X.base X.stack:=by
 rcases I.ok.stk with e | ⟨e,z⟩
 .rw[e];exact I.funs
 .rw[e];obtain⟨m,D,_⟩:=I.loc;refine .cons (by rw[I.ok.kind];decide) z D ?_ I.funs;exact Heap.get?_none_of_le (Nat.le_trans I.ok.bsz I.ok.above)
def Inv.stkSub (I:Inv X pins σ H s):∀ b∈frs X.stack,b∈X.env.locals :: X.fs:=λb z=>by
 rcases I.ok.stk with e | ⟨e,D⟩
 .rw[e]at z;exact aDJ _ z
 .rw[e]at z;unfold frs at z;rw[List.filterMap_cons,D]at z;exact z
def Inv.stkFree (I:Inv X pins σ H s):∀ b∈frs X.stack,H b=none:=λb hb=>by
 rcases aDi.mp (I.stkSub b hb)with e | hb
 .rw[e];exact I.free
 .obtain⟨_,o,D,_⟩:=I.ok.funs.mem hb;exact I.base.free b o D (I.ok.frf b hb) λz=>I.ok.exfs b z hb
def Inv.step {g':Array GenState} {t':Nat} {d':Drawn} {ch:List Addr} (I:Inv X pins σ H s)
 (J:∀ b∈ch,(b∈X.ex\/X.s₀.heap.objs.size<=b)/\b≠X.env.locals/\(∀ x c,X.env.cells.lookup x=some c->c≠b)/\∀ p∈X.pn++pins,p.1≠b)
 (keep:∀ b o,b≠X.env.locals->b∉X.fs->b∉ch->s.heap.get? b=some o->H b=none->h'.get? b=some o)
 (slot:∀ b o,b≠X.env.locals->b∈X.fs->b∉ch->s.heap.get? b=some o->H b=none->∃ sl,h'.get? b=some { o with slots:=sl }) (free:∀ b o,b∉ch->s.heap.get? b=some o->H b=none->H' b=none)
 (there:∀ b o,b∉ch->s.heap.get? b=some o->∃ o',h'.get? b=some o')
 (tups:∀ b xs,H b=some (.tup xs)->H' b=some (.tup xs)) (frzs:∀ b o u,H b=some (.frz o u)->H' b=some (.frz o u)) (tbls:∀ b ps,H b=some (.tbl ps)->∃ more,H' b=some (.tbl (ps++more)))
 (ns:∀ m,s.heap.Ns X.env.locals m->h'.Ns X.env.locals m) (hok:HOk X.prog X.w H' h') (hg:AllBare g') :
 Inv X pins σ H' { s with heap:=h',gens:=g',drawn:=d',toks:=t' }:=by
 have Y:∀ b o,X.s₀.heap.get? b=some o->b≠X.env.locals:=λb o e=>aD3 (aDX (aDM e) I.ok.above);have M:∀ b o,X.s₀.heap.get? b=some o->b∉X.ex->b∉ch:=λb o e D N=>by
  rcases (J b N).1 with z | z
  .exact D z
  .exact absurd (aDX (aDM e) z) (Nat.lt_irrefl _)
 have cellK:∀ x c,X.env.cells.lookup x=some c->∀ v,s.heap.IsCell c v->h'.IsCell c v:=λx c e v ⟨o,U,hd⟩=>by
  have L:c∉ch:=λz=>(J c z).2.2.1 x c e rfl
  by_cases hc:c∈X.fs
  .obtain⟨sl,q⟩:=slot c o (I.cne x c e) hc L U (I.freeC x c e);exact⟨_,q,hd⟩
  .exact⟨o,keep c o (I.cne x c e) hc L U (I.freeC x c e),hd⟩
 refine⟨I.ok,I.os,hg,⟨λb o e n N D=>?_,λb o e n N D=>?_,λb o e n D=>?_,λb o e D=>?_,λb xs e=>tups b xs (I.base.tups b xs e),λb o xs e=>frzs b o xs (I.base.frzs b o xs e),λb ps e=>?_⟩,?_,λx c e=>?_,?_,λx c e=>?_,λp hp=>?_,hok,I.len⟩
 .exact keep b o (Y b o e) N (M b o e D) (I.base.keep b o e n N D) (I.base.free b o e n D)
 .obtain⟨sl,e1⟩:=I.base.slot b o e n N D;obtain⟨al,e2⟩:=slot b _ (Y b o e) N (M b o e D) e1 (I.base.free b o e n D);exact⟨al,e2⟩
 .obtain⟨o',e1⟩:=I.base.there b o e D;exact free b o' (M b o e D) e1 (I.base.free b o e n D)
 .obtain⟨o',e1⟩:=I.base.there b o e D;exact there b o' (M b o e D) e1
 .obtain⟨m1,e1⟩:=I.base.tbls b ps e;obtain⟨m2,e2⟩:=tbls b _ e1;exact⟨m1++m2,by rw[e2,Array.append_assoc]⟩
 .obtain⟨m,hn,hl⟩:=I.loc;refine⟨m,ns m hn,λi x v e1 e2 e3=>?_⟩;obtain⟨u,r,l⟩:=hl i x v e1 e2 e3;refine⟨u,r,?_⟩;rcases l with l | ⟨k,c,e,z⟩
  .exact .inl l
  .exact .inr ⟨k,c,e,cellK x c e _ z⟩
 .obtain⟨v,z⟩:=I.cell x c e;exact⟨v,cellK x c e v z⟩
 .obtain⟨m,⟨o,_,_,U,_⟩,_⟩:=I.loc;exact free _ o (λz=>(J _ z).2.1 rfl) U I.free
 .obtain⟨v,o,U,hd⟩:=I.cell x c e;exact free c o (λz=>(J c z).2.2.1 x c e rfl) U (I.freeC x c e)
 .obtain⟨e,n,ne,nf,d⟩:=I.pin p hp;have L:p.1∉ch:=λz=>(J p.1 z).2.2.2 p hp rfl;exact⟨keep p.1 p.2 ne nf L e n,free p.1 p.2 L e n,ne,nf,d⟩
def Inv.un {t':Nat} (I:Inv X pins σ H s) (u:Un X.fs [] H H' s.heap h') (hok:HOk X.prog X.w H' h'):Inv X pins σ H' { s with heap:=h',toks:=t' }:=by
 obtain⟨m,⟨o,es,ep,N,r⟩,_⟩:=id I.loc;obtain⟨sl,U⟩:=u.any N I.free (by simp);exact I.step (g':=s.gens) (d':=s.drawn) (ch:=[]) (λ_ z=>nomatch z) (λb o _ J _ e n=>u.keep b o e n J (by simp)) (λb o _ J _ e n=>u.slot b o e n J (by simp)) (λb o _ e n=>u.free b o e n (by simp)) (λb o _ e=>u.there b o e (by simp)) u.tups u.frzs u.tbls (λm' Y=>by
  obtain⟨o',L,M,D,r'⟩:=Y;rw[N]at D;cases D;exact⟨_,L,M,U,r'⟩) hok I.bare
def Inv.call {g':Array GenState} {t':Nat} {d':Drawn} {ch:List Addr} (I:Inv X pins σ H s) (u:Un (frs X.stack) ch H H' s.heap h') (hok:HOk X.prog X.w H' h') (hg:AllBare g')
 (J:∀ b∈ch,(b∈X.ex\/X.s₀.heap.objs.size<=b)/\b≠X.env.locals/\(∀ x c,X.env.cells.lookup x=some c->c≠b)/\∀ p∈X.pn++pins,p.1≠b) :
 Inv X pins σ H' { s with heap:=h',gens:=g',drawn:=d',toks:=t' }:=by
 obtain⟨m,⟨o,es,ep,Y,r⟩,_⟩:=id I.loc;obtain⟨sl,M⟩:=u.any Y I.free λz=>(J _ z).2.1 rfl;exact I.step (ch:=ch) J (λb o M hb D e n=>u.keep b o e n (λz=>(aDi.mp (I.stkSub b z)).elim M hb) D) (λb o _ _ D e n=>u.any e n D) (λb o D e n=>u.free b o e n D) (λb o D e=>u.there b o e D) u.tups u.frzs u.tbls (λm' hm=>by
  obtain⟨o',N,U,L,r'⟩:=hm;rw[Y]at L;cases L;exact⟨_,N,U,M,r'⟩) hok hg
def Inv.turned {t':Nat} {it:Addr} (I:Inv X pins σ H s) (k:∀ b o,b≠it->s.heap.get? b=some o->h'.get? b=some o) (M:H it=none) (L:it≠X.env.locals)
 (h1:it∈X.ex\/X.s₀.heap.objs.size<=it) (h2:∀ x c,X.env.cells.lookup x=some c->c≠it) (h3:∀ p∈X.pn++pins,p.1≠it):Inv X pins σ H { s with heap:=h',toks:=t' }:=by
 have J:∀ b u,H b=some u->b≠it:=λb u e z=>by rw[z,M]at e;cases e
 refine I.step (g':=s.gens) (d':=s.drawn) (ch:=[it]) (λb N=>?_) (λb o _ _ D e _=>k b o (λz=>D (by simp[z])) e) (λb o _ _ D e _=>⟨o.slots,k b o (λz=>D (by simp[z])) e⟩) (λ_ _ _ _ n=>n)
  (λb o D e=>⟨o,k b o (λz=>D (by simp[z])) e⟩) (λ_ _ e=>e) (λ_ _ _ e=>e) (λb ps e=>⟨#[],by rw[e];simp⟩) (λm U=>?_) (λb u e=>?_) I.bare
 .have e:b=it:=by simpa using N
  subst e;exact⟨h1,L,h2,h3⟩
 .obtain⟨o,es,ep,Y,r⟩:=U;exact⟨o,es,ep,k _ o (Ne.symm L) Y,r⟩
 .refine(I.hok b u e).stay (λc v D q=>k c v ?_ q) (λ_ q=>q) λ_ _ q=>q;rcases D with z | z
  .rw[z];exact J b u e
  .exact J c _ z
def Inv.tok (I:Inv X pins σ H s) (t:Nat):Inv X pins σ H { s with toks:=t }:=I.un (h':=s.heap) (t':=t) Un.refl I.hok
def Inv.kept {t':Nat} (I:Inv X pins σ H s) (k:∀ b u,s.heap.get? b=some u->h'.get? b=some u):Inv X pins σ H { s with heap:=h',toks:=t' }:=I.un (Un.kept k) (I.hok.kept k)
def Inv.laid {a:Addr} {o:HO} {t':Nat} (I:Inv X pins σ H s) (k:∀ b u,s.heap.get? b=some u->h'.get? b=some u) (z:s.heap.objs.size<=a) (new:ObjOk X.prog X.w (upd H a o) h' a o) :
 Inv X pins σ (upd H a o) { s with heap:=h',toks:=t' }:=I.un (Un.laid k z (I.hok.fresh z)) (I.hok.laid k z new)
def Inv.write {x e:Addr} {o:HO} {t':Nat} (I:Inv X pins σ H s) (D:Mut (H x)) (he:e=x\/H e=some (.own x)) (k:∀ b u,b≠e->s.heap.get? b=some u->h'.get? b=some u) (z:∃ u,h'.get? e=some u)
 (new:ObjOk X.prog X.w (upd H x o) h' x o):Inv X pins σ (upd H x o) { s with heap:=h',toks:=t' }:=I.un (Un.write D he k z) (I.hok.write D he k z new)
def Inv.weak {z:List (Option V)} (I:Inv X pins σ H s) (J:z.length=σ.length) (w:∀ (i:Nat) v,z[i]?=some (some v)->σ[i]?=some (some v)):Inv X pins z H s :=
 ⟨I.ok,I.os,I.bare,I.base,let ⟨m,L,D⟩:=I.loc;⟨m,L,λi x v e1 M N=>D i x v e1 (w i v M) N⟩,I.cell,I.free,I.freeC,I.pin,I.hok,J.trans I.len⟩
def Inv.pins_of {D:List (Addr×Obj)} (I:Inv X pins σ H s) (h:∀ p∈D,s.heap.get? p.1=some p.2/\H p.1=none/\p.1≠X.env.locals/\p.1∉X.fs/\∀ v,p.2.data≠.cell v):Inv X D σ H s :=
 ⟨I.ok,I.os,I.bare,I.base,I.loc,I.cell,I.free,I.freeC,λp J=>(aDj.mp J).elim (λz=>I.pin p (aDZ _ z)) (h p),I.hok,I.len⟩
def yU {N:List Str} (z:N.Nodup) {i j:Nat} {x:Str} (a:N[i]?=some x) (b:N[j]?=some x):i=j:=by
 obtain⟨h1,e1⟩:=aDh.mp a;obtain⟨h2,D⟩:=aDh.mp b;exact(List.getElem_inj z).mp (e1.trans D.symm)
def uV {M:Model} {A:Around} {E:Value->Shared->Prop} {i:Nat} {x:Str} {v:V} {u:Value} {Q:Unit->Shared->Prop} (I:Inv X pins σ H s) (hN:X.N.Nodup) (hi:X.N[i]?=some x) (D:Loc X.env.scope x) (r:RelV v u)
 (h:∀ s',Inv X pins (σ.set i (some v)) H s'->(∃ a,Heap.SameBut a s.heap s'.heap/\(a=X.env.locals\/X.env.cells.lookup x=some a))->Q () s') (hf:X.fn x=true\/X.env.scope.names.lookup x=some .local:=by first | exact .inl rfl | exact .inr rfl | assumption):wpAny M A (storeName X.env x u) Q E s:=by
 obtain⟨m,hn,hl⟩:=id I.loc;have am:(X.env.scope.kind == .class || (X.env.scope.kind == .module && X.env.locals != X.env.globals))=false:=by rw[I.ok.kind];rfl
 have U:i<σ.length:=by rw[I.len];exact(aDh.mp hi).1
 have cne:=I.cne;have tracked:∀ {a:Addr} {h':Heap},(∃ o,s.heap.get? a=some o/\H a=none)->Heap.SameBut a s.heap h'->HOk X.prog X.w H h':=λ{a h'} ha hs b ob e=>by
  obtain⟨_,_,J⟩:=ha;refine(I.hok b ob e).stay (λc w' hc q=>(hs.2 c ?_).trans q) (λ_ q=>q) λ_ _ q=>q;rintro rfl;rcases hc with rfl | hc
  .rw[J]at e;cases e
  .rw[J]at hc;cases hc
 rcases D with hk | hk
 .refine wpAny_storeName_local hk hn (λh' au hs=>?_) am;obtain⟨oL,_,_,av,_⟩:=id hn;refine h _ ⟨I.ok,I.os,I.bare,⟨λb o e n Y D=>?_,λb o e n Y D=>?_,I.base.free,λb o e D=>?_,I.base.tups,I.base.frzs,I.base.tbls⟩,⟨_,au,λj y v' e1 L e3=>?_⟩,λy c e=>?_,I.free,I.freeC,λp hp=>?_,tracked ⟨oL,av,I.free⟩ hs,by simpa using I.len⟩ ⟨_,hs,.inl rfl⟩
  .exact(hs.2 b (aD3 (aDX (aDM e) I.ok.above))).trans (I.base.keep b o e n Y D)
  .obtain⟨sl,e1⟩:=I.base.slot b o e n Y D;exact⟨sl,(hs.2 b (aD3 (aDX (aDM e) I.ok.above))).trans e1⟩
  .obtain⟨o',e1⟩:=I.base.there b o e D;exact⟨o',(hs.2 b (aD3 (aDX (aDM e) I.ok.above))).trans e1⟩
  .by_cases hj:j=i
   .subst hj;rw[hi]at e1;cases e1;rw[List.getElem?_set_self U]at L;cases L;exact⟨u,r,.inl ⟨hk,by simp⟩⟩
   .rw[List.getElem?_set_ne (Ne.symm hj)]at L;obtain⟨u',r',q⟩:=hl j y v' e1 L e3;refine⟨u',r',?_⟩;rcases q with ⟨k,e⟩ | ⟨k,c,e,z⟩
    .refine .inl ⟨k,?_⟩;have:y≠x:=λe=>hj (yU hN e1 (e ▸ hi));simp[this,e]
    .exact .inr ⟨k,c,e,z.sameBut hs (cne y c e)⟩
  .obtain⟨w',z⟩:=I.cell y c e;exact⟨w',z.sameBut hs (cne y c e)⟩
  .obtain⟨e,n,ne,nf,d⟩:=I.pin p hp;exact⟨(hs.2 p.1 ne).trans e,n,ne,nf,d⟩
 .have al:X.fn x=true:=by
   rcases hf with z | z
   .exact z
   .rw[z]at hk;cases hk
  obtain⟨c,hc⟩:=I.ok.has x (.inl hk);obtain⟨w',z⟩:=I.cell x c hc;refine wpAny_storeName_cell I.ok.kind hk hc z (λh' ao hs=>?_);obtain⟨oc,ap,aq⟩:=id z;refine h { s with heap:=h' } ⟨I.ok,I.os,I.bare,⟨λb o e n Y D=>?_,λb o e n Y D=>?_,I.base.free,λb o e D=>?_,I.base.tups,I.base.frzs,I.base.tbls⟩,⟨m,hn.sameBut hs (Ne.symm (cne x c hc)),λj y v' e1 L e3=>?_⟩,λy c' e=>?_,I.free,I.freeC,λp hp=>?_,tracked ⟨oc,ap,I.freeC x c hc⟩ hs,by simpa using I.len⟩ ⟨c,hs,.inr hc⟩
  .exact(hs.2 b (aD3 (aDX (aDM e) (I.ok.cab x c al hc)))).trans (I.base.keep b o e n Y D)
  .obtain⟨sl,e1⟩:=I.base.slot b o e n Y D;exact⟨sl,(hs.2 b (aD3 (aDX (aDM e) (I.ok.cab x c al hc)))).trans e1⟩
  .obtain⟨o',e1⟩:=I.base.there b o e D;exact⟨o',(hs.2 b (aD3 (aDX (aDM e) (I.ok.cab x c al hc)))).trans e1⟩
  .by_cases hj:j=i
   .subst hj;rw[hi]at e1;cases e1;rw[List.getElem?_set_self U]at L;cases L;exact⟨u,r,.inr ⟨.inl hk,c,hc,ao⟩⟩
   .rw[List.getElem?_set_ne (Ne.symm hj)]at L;obtain⟨u',r',q⟩:=hl j y v' e1 L e3;refine⟨u',r',?_⟩;rcases q with q | ⟨k,c',e,z'⟩
    .exact .inl q
    .refine .inr ⟨k,c',e,z'.sameBut hs ?_⟩;rintro rfl;exact hj (yU hN e1 (I.ok.inj _ _ _ e hc ▸ hi))
  .by_cases ar:c'=c
   .subst ar;exact⟨_,ao⟩
   .obtain⟨w2,z2⟩:=I.cell y c' e;exact⟨w2,z2.sameBut hs ar⟩
  .obtain⟨e,n,ne,nf,d⟩:=I.pin p hp;refine⟨(hs.2 p.1 ?_).trans e,n,ne,nf,d⟩;intro q;rw[q,ap]at e;have q':oc=p.2:=Option.some.inj e;exact d w' (by rw[<- q'];exact aq)
def rP {M:Model} {A:Around} {E:Value->Shared->Prop} {i:Nat} {x:Str} {v:V} {u:Value} {Q:Unit->Shared->Prop} (I:Inv X pins σ H s) (z:X.N.Nodup) (hi:X.N[i]?=some x) (D:Loc X.env.scope x) (r:RelV v u)
 (h:∀ s',Inv X pins (σ.set i (some v)) H s'->Q () s') (J:X.fn x=true\/X.env.scope.names.lookup x=some .local:=by first | exact .inl rfl | exact .inr rfl | assumption):wpAny M A (storeName X.env x u) Q E s :=
 uV I z hi D r (λs' L _=>h s' L) J
def Inv.call' {s':Shared} {ch:List Addr} (I:Inv X pins σ H s) (D:s'.os=s.os) (u:Un (frs X.stack) ch H H' s.heap s'.heap) (hok:HOk X.prog X.w H' s'.heap) (J:AllBare s'.gens)
 (z:∀ b∈ch,(b∈X.ex\/X.s₀.heap.objs.size<=b)/\b≠X.env.locals/\(∀ x c,X.env.cells.lookup x=some c->c≠b)/\∀ p∈X.pn++pins,p.1≠b):Inv X pins σ H' s':=by
 obtain⟨h',g',d',t',o'⟩:=s';have e:o'=s.os:=D;subst e;exact I.call (g':=g') (t':=t') (d':=d') u hok J z
end
abbrev XK:=Value->Option Addr->Hp->Prop
abbrev St:=List (Option V)
abbrev VK:=V->Hp->Prop
abbrev TE:=St->Hp->VK->Prop
abbrev TT:=St->Hp->(Bool->Hp->Prop)->Prop
abbrev TA:=St->Hp->(List V->Hp->Prop)->Prop
structure oT where
 nx:St->Hp->Prop
 rt:VK
 bk:St->Hp->Prop:=λ_ _=>False
 ct:St->Hp->Prop:=λ_ _=>False
abbrev TS:=oT->St->Hp->Prop
def EP (X:Cx) (pins:List (Addr×Obj)) (σ:St) (Q:VK) (u:Value) (s':Shared):Prop:=∃ v H',Inv X pins σ H' s'/\RelV v u/\Q v H'
def TP (X:Cx) (pins:List (Addr×Obj)) (σ:St) (Q:Bool->Hp->Prop) (b:Bool) (s':Shared):Prop:=∃ H',Inv X pins σ H' s'/\Q b H'
def AP (X:Cx) (pins:List (Addr×Obj)) (σ:St) (Q:List V->Hp->Prop) (us:List Value) (s':Shared):Prop:=∃ vs H',Inv X pins σ H' s'/\Vals vs us/\Q vs H'
def SP (X:Cx) (pins:List (Addr×Obj)) (D:oT) (f:Flow) (s':Shared):Prop :=
 match f with
 | .next=>∃ z H',Inv X pins z H' s'/\D.nx z H'
 | .brk=>∃ z H',Inv X pins z H' s'/\D.bk z H'
 | .cont=>∃ z H',Inv X pins z H' s'/\D.ct z H'
 | .ret u=>∃ v z H',Inv X pins z H' s'/\RelV v u/\D.rt v H'
def PE (X:Cx) (e:Expr) (t:TE):Prop :=
 ∀ (pins:List (Addr×Obj)) (s:Shared) (σ:St) (H:Hp) (Q:VK),Inv X pins σ H s->t σ H Q->wpAny (model X.prog X.w) X.A (eval e X.env) (EP X pins σ Q) X.xe s
def PT (X:Cx) (e:Expr) (t:TT):Prop :=
 ∀ (pins:List (Addr×Obj)) (s:Shared) (σ:St) (H:Hp) (Q:Bool->Hp->Prop),Inv X pins σ H s->t σ H Q->wpAny (model X.prog X.w) X.A (isTrue e X.env (eval e X.env)) (TP X pins σ Q) X.xe s
def PW (X:Cx) (e:Expr) (t:TT):Prop :=
 ∀ (whole:Sem Value) (pins:List (Addr×Obj)) (s:Shared) (σ:St) (H:Hp) (Q:Bool->Hp->Prop),Inv X pins σ H s->t σ H Q->wpAny (model X.prog X.w) X.A (isTrue e X.env whole) (TP X pins σ Q) X.xe s
def PW.pt {X:Cx} {e:Expr} {t:TT} (h:PW X e t):PT X e t:=h _
def PA (X:Cx) (es:List Expr) (t:TA):Prop :=
 ∀ (pos:Pos) (pins:List (Addr×Obj)) (s:Shared) (σ:St) (H:Hp) (Q:List V->Hp->Prop),Inv X pins σ H s->t σ H Q->wpAny (model X.prog X.w) X.A (spliced (backTo pos (starEach es X.env))) (AP X pins σ Q) X.xe s
def PS (X:Cx) (st:Stmt) (t:TS):Prop :=
 ∀ (pins:List (Addr×Obj)) (s:Shared) (σ:St) (H:Hp) (D:oT),Inv X pins σ H s->t D σ H->wpAny (model X.prog X.w) X.A (exec st X.env) (SP X pins D) X.xe s
def PSs (X:Cx) (st:List Stmt) (t:TS):Prop :=
 ∀ (pins:List (Addr×Obj)) (s:Shared) (σ:St) (H:Hp) (D:oT),Inv X pins σ H s->t D σ H->wpAny (model X.prog X.w) X.A (execs st X.env) (SP X pins D) X.xe s
def thn {z:Type} {t:Sem z} {Q D:z->Shared->Prop} {M:Model} {A:Around} {E:Value->Shared->Prop} {s:Shared} (h:wpAny M A t Q E s) (I:∀ a s,Q a s->D a s):wpAny M A t D E s:=wpAny_mono h I λ_ _ x=>x
section
variable {X:Cx}
def aAn (i:Nat):TE:=fun σ H Q=>∃ v,σ[i]?=some (some v)/\Q v H
def tC (v:V):TE:=λ_ H Q=>Q v H
def aAo {i:Nat} {x:Str} {pos:Pos} (L:X.N[i]?=some x) (M:Vis X.env.scope x) (hd:(x == ("__debug__":Str))=false:=by decide) (D:(x == ("__classdict__":Str))=false:=by decide):PE X (.Name x pos) (aAn i):=by
 intro pins s σ H Q I h;obtain⟨v,e,h⟩:=h;obtain⟨m,U,Y⟩:=I.loc;obtain⟨u,r,l⟩:=Y i x v L e M;have fin:EP X pins σ Q u s:=⟨v,H,I,r,h⟩;rcases l with ⟨hk,hm⟩ | ⟨hk,c,J,z⟩
 .exact wpAny_Name (wpAny_loadName_local I.ok.kind hk U hm fin) hd
 .rcases hk with hk | hk
  .exact wpAny_Name (wpAny_loadName_cell I.ok.kind hk J z fin) hd
  .exact wpAny_Name (wpAny_loadName_free I.ok.kind hk J z fin D) hd
def aI {i j pos}:PE X (.Constant (.int i) j pos) (tC (.int i)):=λ_ _ _ H _ I h=>wpAny_Constant_int ⟨.int i,H,I.tok _,⟨_,rfl⟩,h⟩
def uW {b j pos}:PE X (.Constant (.bool b) j pos) (tC (.bl b)):=λ_ _ _ H _ I h=>Constant_bool ⟨.bl b,H,I,rfl,h⟩
def bO {x j pos}:PE X (.Constant (.str x) j pos) (tC (.str x)):=λ_ _ _ H _ I h=>Calls.Constant_str ⟨.str x,H,I.tok _,⟨_,rfl⟩,h⟩
def Gl (X:Cx) (x:Str):Prop:=X.env.kindOf x=some .globalImplicit
def mZ {E:Value->Shared->Prop} {pins:List (Addr×Obj)} {s:Shared} {σ:St} {H:Hp} {x:Str} {u:Value} {pos:Pos} {Q:Value->Shared->Prop} (I:Inv X pins σ H s) (z:Gl X x) (D:X.mg x=some u) (h:Q u s)
 (hd:(x == ("__debug__":Str))=false:=by decide):wpAny (model X.prog X.w) X.A (eval (.Name x pos) X.env) Q E s :=
 Calls.Name_function_global I.ok.kind z (Calls.loadGlobal_global (by rw[I.ok.glob];exact I.mod.glob.keeps I.bk) D h) hd
def kB {E:Value->Shared->Prop} {pins:List (Addr×Obj)} {s:Shared} {σ:St} {H:Hp} {x:Str} {u:Value} {pos:Pos} {Q:Value->Shared->Prop} (I:Inv X pins σ H s) (z:Gl X x) (D:X.mg x=none) (J:bootBuiltins x=some u) (h:Q u s)
 (L:x≠"__name__":=by decide) (hd:(x == ("__debug__":Str))=false:=by decide):wpAny (model X.prog X.w) X.A (eval (.Name x pos) X.env) Q E s:=by
 obtain⟨M,h1,h2⟩:=I.mod.blt;exact Calls.Name_function_global I.ok.kind z (Calls.loadGlobal_builtin (by rw[I.ok.glob];exact I.mod.glob.keeps I.bk) D (by rw[I.ok.blt];exact h1.keeps I.bk) ((h2 x L).trans J) h) hd
def fE {x:Str} {v:V} {u:Value} {pos:Pos} (z:Gl X x) (D:X.mg x=some u) (r:RelV v u) (hd:(x == ("__debug__":Str))=false:=by decide):PE X (.Name x pos) (tC v) :=
 λ_ _ _ H _ I h=>mZ I z D ⟨v,H,I,r,h⟩ hd
variable {a b:Expr} {ta tb:TE} {pos:Pos}
def PC (X:Cx) (op:CmpOp) (a b:Expr) (t:TE):Prop :=
 ∀ (pins:List (Addr×Obj)) (s:Shared) (σ:St) (H:Hp) (Q:VK),Inv X pins σ H s->t σ H Q ->
  wpAny (model X.prog X.w) X.A (eval a X.env) (λv z=>wpAny (model X.prog X.w) X.A (eval b X.env) (λu D=>wpAny (model X.prog X.w) X.A (compareOp op v u) (EP X pins σ Q) X.xe D) X.xe z) X.xe s
def V8 (b:Expr) {op:CmpOp} (h:op≠.In) (h2:op≠.NotIn):behindInMarks op b=false:=by
 have e1:(op == CmpOp.In)=false:=by cases op <;> first | rfl | exact absurd rfl h
 have z:(op == CmpOp.NotIn)=false:=by cases op <;> first | rfl | exact absurd rfl h2
 cases b <;> simp[behindInMarks,e1,z]
def tB (t:TE):TT:=fun σ H Q=>t σ H λx H1=>∃ c,x=.bl c/\Q c H1
def V9 {op:CmpOp} {t:TE} (h:PC X op a b t) (h1:behindInMarks op b=false:=by first | exact V8 _ (by decide) (by decide) | rfl):PT X (.Compare a [op] [b] pos) (tB t):=by
 intro pins s σ H Q I hw;refine wpAny_isTrue_Compare1 (thn (h pins s σ H _ I hw) λv J h1=>thn h1 λu L h2=>thn h2 λc M ⟨x,H1,z,r1,D⟩=>?_) h1;obtain⟨d,rfl,q⟩:=D;cases r1;exact wpAny_truthy_bool ⟨H1,z,q⟩
variable {tA aj:TT} {rest:List Expr}
def aC7 (t u:TT):TT:=fun σ H Q=>t σ H λc H1=>if c=true then u σ H1 Q else Q false H1
def tOr (t u:TT):TT:=fun σ H Q=>t σ H λc H1=>if c=true then Q true H1 else u σ H1 Q
def aC8 (t:TT):TT:=fun σ H Q=>t σ H λc H1=>Q (!c) H1
def u9 (z:PT X a tA):PW X (.BoolOp .And [a] pos) tA:=by
 intro D pins s σ H Q I h;refine isTrue_and (thn (z pins s σ H Q I h) λc J e=>?_);cases c with
 | true=>exact isTrue_and_nil e
 | false=>exact e
def D7 (z:PT X a tA):PW X (.BoolOp .Or [a] pos) tA:=by
 intro D pins s σ H Q I h;refine isTrue_or (thn (z pins s σ H Q I h) λc J e=>?_);cases c with
 | false=>exact isTrue_or_nil e
 | true=>exact e
def aAp (J:PT X a tA) (L:PW X (.BoolOp .And (b :: rest) pos) aj):PW X (.BoolOp .And (a :: b :: rest) pos) (aC7 tA aj):=by
 intro M pins s σ H Q I h;refine isTrue_and (thn (J pins s σ H _ I h) λc N ⟨H1,z,D⟩=>?_);cases c with
 | true=>exact L M pins N σ H1 Q z D
 | false=>exact⟨H1,z,D⟩
def W0 (J:PT X a tA) (L:PW X (.BoolOp .Or (b :: rest) pos) aj):PW X (.BoolOp .Or (a :: b :: rest) pos) (tOr tA aj):=by
 intro M pins s σ H Q I h;refine isTrue_or (thn (J pins s σ H _ I h) λc N ⟨H1,z,D⟩=>?_);cases c with
 | true=>exact⟨H1,z,D⟩
 | false=>exact L M pins N σ H1 Q z D
def wM (z:PT X a tA):PT X (.UnaryOp .Not a pos) (aC8 tA):=by
 intro pins s σ H Q I h;exact isTrue_not (z pins s σ H (λc H1=>Q (!c) H1) I h)
def aBm (ta tb:TE):TE:=fun σ H Q=>ta σ H λx H1=>∃ c,x=.bl c/\if c=true then tb σ H1 Q else Q (.bl false) H1
def aBn (ta:TE):TE:=fun σ H Q=>ta σ H λx H1=>∃ c,x=.bl c/\Q (.bl (!c)) H1
def D8 {op} {t:TE} (h:PE X a t):PE X (.BoolOp op [a] pos) t:=λpins s σ H Q I hw=>BoolOp_one (h pins s σ H Q I hw)
def wN (J:PE X a ta) (L:PE X (.BoolOp .And (b :: rest) pos) tb):PE X (.BoolOp .And (a :: b :: rest) pos) (aBm ta tb):=by
 intro pins s σ H Q I h;refine BoolOp_and (thn (J pins s σ H _ I h) λv M ⟨x,H1,D,r1,z⟩=>?_);obtain⟨c,rfl,z⟩:=z;cases r1;refine wpAny_truthy_bool ?_;cases c with
 | true=>exact L pins M σ H1 Q D z
 | false=>exact⟨.bl false,H1,D,rfl,z⟩
def aAq (D:PE X a ta):PE X (.UnaryOp .Not a pos) (aBn ta):=by
 intro pins s σ H Q I h;refine UnaryOp_ (thn (D pins s σ H _ I h) λv L ⟨x,H1,J,r1,z⟩=>?_);obtain⟨c,rfl,z⟩:=z;cases r1;exact not_of (wpAny_truthy_bool ⟨.bl (!c),H1,J,rfl,z⟩)
def tIf (t:TT) (ta tb:TE):TE:=fun σ H Q=>t σ H λc H1=>if c=true then ta σ H1 Q else tb σ H1 Q
def nA {c:Expr} (L:PT X c tA) (M:PE X a ta) (N:PE X b tb):PE X (.IfExp c a b pos) (tIf tA ta tb):=by
 intro pins s σ H Q I h;refine wpAny_IfExp (thn (L pins s σ H _ I h) λd z ⟨H1,D,J⟩=>?_);cases d with
 | true=>exact M pins z σ H1 Q D J
 | false=>exact N pins z σ H1 Q D J
end
def SqL (K:PySem.W.Frag) (H:Hp) (a:Addr) (xs:List V):Prop :=
 Rd H a (.lst xs) \/
  ∃ (o:Obj) (its:Array Value) (n:Nat),K.lookup a=some o/\o.cls=.type "list"/\o.dict=none/\o.data=.seq its n/\its.size<=sizeLine/\Vals xs its.toList
def SqT (K:PySem.W.Frag) (H:Hp) (a:Addr) (xs:List V):Prop :=
 Rd H a (.tup xs) \/
  ∃ (o:Obj) (its:Array Value) (n:Nat),K.lookup a=some o/\o.cls=.type "tuple"/\o.data=.seq its n/\its.size<=sizeLine/\Vals xs its.toList
def aC9:Value->Option V
 | .none=>some .non
 | .bool b=>some (.bl b)
 | .int i _=>some (.int i)
 | .str x _=>some (.str x)
 | .bytes b _=>some (.byt b)
 | .float b _=>some (.flt b)
 | .ref a=>some (.ref a)
 | .type n=>some (.ty n)
 | _=>none
def RelV.abs {x:V} {u:Value} (r:RelV x u):aC9 u=some x:=by
 cases x with
 | non=>cases r;rfl
 | bl _=>cases r;rfl
 | int _=>obtain⟨t,rfl⟩:=r;rfl
 | str _=>obtain⟨t,rfl⟩:=r;rfl
 | byt _=>obtain⟨t,rfl⟩:=r;rfl
 | flt _=>obtain⟨t,rfl⟩:=r;rfl
 | ref _=>cases r;rfl
 | ty _=>cases r;rfl
def RelV.inj {x y:V} {u:Value} (r:RelV x u) (q:RelV y u):x=y:=Option.some.inj (r.abs.symm.trans q.abs)
def Vals.inj:∀ {xs ys:List V} {us:List Value},Vals xs us->Vals ys us->xs=ys
 | _,_,_,.nil,.nil=>rfl
 | _,_,_,.cons r t,.cons z t'=>by rw[r.inj z,Vals.inj t t']
section
variable {X:Cx} {pins:List (Addr×Obj)} {σ:St} {H:Hp} {s:Shared} {a:Addr} {xs ys:List V}
def SqL.of {K:PySem.W.Frag} (h:H a=some (.lst xs)):SqL K H a xs:=.inl (.inl h)
def SqT.of {K:PySem.W.Frag} (h:H a=some (.tup xs)):SqT K H a xs:=.inl (.inl h)
def Inv.list (I:Inv X pins σ H s) (h:SqL X.K H a xs):∃ its:List Value,Vals xs its/\PlainL s.heap a its.toArray/\xs.length<=sizeLine:=by
 rcases h with h | ⟨o,its,n,D,J,hd,hs,hz,r⟩
 .obtain⟨z,its,n,r,e⟩:=h.ok I.hok;exact⟨its,r,⟨_,n,e,rfl,rfl,rfl⟩,z⟩
 .refine⟨its.toList,r,⟨o,n,I.kIn a o D,J,hd,by simpa using hs⟩,?_⟩;have e:=r.length;simp only[Array.length_toList]at e;omega
def Inv.tuple (I:Inv X pins σ H s) (h:SqT X.K H a xs):∃ its:List Value,Vals xs its/\IsTup s.heap a its.toArray/\xs.length<=sizeLine:=by
 rcases h with h | ⟨o,its,n,D,J,hs,hz,r⟩
 .obtain⟨z,its,r,p⟩:=h.ok I.hok;exact⟨its,r,p,z⟩
 .refine⟨its.toList,r,⟨o,I.kIn a o D,J,n,by simpa using hs⟩,?_⟩;have e:=r.length;simp only[Array.length_toList]at e;omega
def Inv.list_inj (I:Inv X pins σ H s) (h:SqL X.K H a xs) (h':SqL X.K H a ys):xs=ys:=by
 obtain⟨its,r,⟨o,n,e,_,_,d⟩,_⟩:=I.list h;obtain⟨its',D,⟨o',L,z,_,_,d'⟩,_⟩:=I.list h';rw[e]at z;cases z;rw[d]at d'
 injection d' with J _
 have:its=its':=by simpa using congrArg Array.toList J
 subst this;exact r.inj D
def Inv.tuple_inj (I:Inv X pins σ H s) (h:SqT X.K H a xs) (h':SqT X.K H a ys):xs=ys:=by
 obtain⟨its,r,⟨o,e,_,n,d⟩,_⟩:=I.tuple h;obtain⟨its',D,⟨o',z,_,L,d'⟩,_⟩:=I.tuple h';rw[e]at z;cases z;rw[d]at d'
 injection d' with J _
 have:its=its':=by simpa using congrArg Array.toList J
 subst this;exact r.inj D
end
abbrev Cx.wish (X:Cx) (E:Value->Shared->Prop):Cx:={ X with xe:=E }
abbrev Cx.nox (X:Cx):Cx:=X.wish λ_ _=>False
def Cx.Ok.wish {X:Cx} (ok:X.Ok) (E:Value->Shared->Prop):(X.wish E).Ok :=
 ⟨ok.mod,ok.kind,ok.glob,ok.blt,ok.above,ok.inj,ok.has,ok.cab,ok.hd,ok.frames,ok.stk,ok.exf,ok.bs,ok.bsz,ok.noex,ok.exfs,ok.funs,ok.frf⟩
def Cx.Ok.unwish {X:Cx} {E:Value->Shared->Prop} (ok:(X.wish E).Ok):X.Ok :=
 ⟨ok.mod,ok.kind,ok.glob,ok.blt,ok.above,ok.inj,ok.has,ok.cab,ok.hd,ok.frames,ok.stk,ok.exf,ok.bs,ok.bsz,ok.noex,ok.exfs,ok.funs,ok.frf⟩
section
variable {X:Cx} {pins:List (Addr×Obj)} {σ:St} {H:Hp} {s:Shared} {E:Value->Shared->Prop}
def Inv.wish (I:Inv X pins σ H s) (E:Value->Shared->Prop):Inv (X.wish E) pins σ H s:=⟨I.ok.wish E,I.os,I.bare,I.base,I.loc,I.cell,I.free,I.freeC,I.pin,I.hok,I.len⟩
def Inv.unwish (I:Inv (X.wish E) pins σ H s):Inv X pins σ H s:=⟨I.ok.unwish,I.os,I.bare,I.base,I.loc,I.cell,I.free,I.freeC,I.pin,I.hok,I.len⟩
def SP.unwish {D:oT} {f:Flow} {s':Shared} (h:SP (X.wish E) pins D f s'):SP X pins D f s':=by
 cases f with
 | next=>obtain⟨z,H',I,q⟩:=h;exact⟨z,H',I.unwish,q⟩
 | brk=>obtain⟨z,H',I,q⟩:=h;exact⟨z,H',I.unwish,q⟩
 | cont=>obtain⟨z,H',I,q⟩:=h;exact⟨z,H',I.unwish,q⟩
 | ret u=>obtain⟨v,z,H',I,r,q⟩:=h;exact⟨v,z,H',I.unwish,r,q⟩
def PE.nox {e:Expr} {t:TE} (h:PE X.nox e t):PE X e t:=λpins s σ H Q I hw =>
 wpAny_mono (h pins s σ H Q (I.wish _) hw) (λ_ _ ⟨v,H',D,r,q⟩=>⟨v,H',D.unwish,r,q⟩) λ_ _ z=>False.elim z
def PT.nox {e:Expr} {t:TT} (h:PT X.nox e t):PT X e t:=λpins s σ H Q I hw =>
 wpAny_mono (h pins s σ H Q (I.wish _) hw) (λ_ _ ⟨H',D,q⟩=>⟨H',D.unwish,q⟩) λ_ _ z=>False.elim z
def PSs.nox {st:List Stmt} {t:TS} (h:PSs X.nox st t):PSs X st t:=λpins s σ H D I hw =>
 wpAny_mono (h pins s σ H D (I.wish _) hw) (λ_ _ q=>q.unwish) λ_ _ z=>False.elim z
end
section
variable {X:Cx} {st:Stmt} {rest:List Stmt} {t u:TS} {e:Expr} {te:TE} {pos:Pos}
def aBo:TS:=λD σ H=>D.nx σ H
def aCa (t u:TS):TS:=λD σ H=>t { D with nx:=u D } σ H
def bE:PSs X [] aBo:=λ_ _ σ H _ I h=>wpAny_execs_nil ⟨σ,H,I,h⟩
def aF (h1:PS X st t) (h2:PSs X rest u):PSs X (st :: rest) (aCa t u):=by
 intro pins s σ H D I h;refine wpAny_execs_cons (thn (h1 pins s σ H { D with nx:=u D } I h) λf J q=>?_);cases f with
 | next =>
  obtain⟨z,H',L,q⟩:=q;exact h2 pins J z H' D L q
 | ret v=>exact q
 | brk=>exact q
 | cont=>exact q
def aK (h1:PS X st t):PSs X [st] t:=by
 intro pins s σ H D I h;refine wpAny_execs_cons (thn (h1 pins s σ H D I h) λf z q=>?_);cases f with
 | next=>exact wpAny_execs_nil q
 | ret v=>exact q
 | brk=>exact q
 | cont=>exact q
def Inv.quiet {pins:List (Addr×Obj)} {σ:St} {H:Hp} {s:Shared} (I:Inv X pins σ H s):interactive X.env=false:=by simp[interactive,I.ok.kind]
def aA9 (te:TE):TS:=λD σ H=>te σ H λ_ H1=>D.nx σ H1
def aS (he:PE X e te) (hs:swapsWith e none pos.line X.env=pure false:=by rfl):PS X (.Expr e pos) (aA9 te):=by
 intro pins s σ H D I h;exact wpAny_Expr_any (thn (he pins s σ H _ I h) λv L ⟨x,H1,z,r1,J⟩=>⟨σ,H1,z,J⟩) I.quiet hs
def aCb (te:TE):TS:=λD σ H=>te σ H D.rt
def aZ (he:PE X e te):PS X (.Return (some e) pos) (aCb te):=by
 intro pins s σ H D I h;exact wpAny_Return_some (thn (he pins s σ H _ I h) λv L ⟨x,H1,z,r1,J⟩=>⟨x,σ,H1,z,r1,J⟩)
def aCc (c:TT) (t u:TS):TS:=λD σ H=>c σ H λb H1=>if b=true then t D σ H1 else u D σ H1
def bU {c:Expr} {a b:List Stmt} {tc:TT} (M:PT X c tc) (N:PSs X a t) (U:PSs X b u):PS X (.If c a b pos) (aCc tc t u):=by
 intro pins s σ H D I h;refine wpAny_If (thn (M pins s σ H _ I h) λd z ⟨H1,J,L⟩=>?_);cases d with
 | true=>exact N pins z σ H1 D J L
 | false=>exact U pins z σ H1 D J L
def aAr:TS:=λ_ _ _=>False
def bR:PS X st aAr:=λ_ _ _ _ _ _ h=>h.elim
end
abbrev TG:=V->St->Hp->(St->Hp->Prop)->Prop
abbrev TGs:=List V->St->Hp->(St->Hp->Prop)->Prop
def PG (X:Cx) (target:Expr) (t:TG):Prop :=
 ∀ (pins:List (Addr×Obj)) (s:Shared) (σ:St) (H:Hp) (v:V) (u:Value) (Q:St->Hp->Prop),Inv X pins σ H s->RelV v u->t v σ H Q ->
  wpAny (model X.prog X.w) X.A (assign target X.env u) (λ_ s'=>∃ z H',Inv X pins z H' s'/\Q z H') X.xe s
def PGs (X:Cx) (ts:List Expr) (t:TGs):Prop :=
 ∀ (pins:List (Addr×Obj)) (s:Shared) (σ:St) (H:Hp) (vs:List V) (us:List Value) (Q:St->Hp->Prop),Inv X pins σ H s->Vals vs us->t vs σ H Q ->
  wpAny (model X.prog X.w) X.A (assignInOrder ((assignEach ts X.env).map (·.2)) us) (λ_ s'=>∃ z H',Inv X pins z H' s'/\Q z H') X.xe s
abbrev TIp:=V->V->Hp->VK->Prop
def PIp (X:Cx) (op:Operator) (t:TIp):Prop :=
 ∀ (pins:List (Addr×Obj)) (s:Shared) (σ:St) (H:Hp) (x y:V) (v u:Value) (Q:VK),Inv X pins σ H s->RelV x v->RelV y u->t x y H Q ->
  wpAny (model X.prog X.w) X.A (inplaceOp op v u) (EP X pins σ Q) X.xe s
section
variable {X:Cx} {pos:Pos}
def uX (i:Nat):TG:=λv σ H Q=>Q (σ.set i (some v)) H
def aM {i:Nat} {x:Str} (z:X.N.Nodup) (hi:X.N[i]?=some x) (D:Loc X.env.scope x) (J:X.fn x=true\/X.env.scope.names.lookup x=some .local:=by first | exact .inl rfl | exact .inr rfl | assumption):PG X (.Name x pos) (uX i):=by
 intro pins s σ H v u Q I r h;exact wpAny_assign_Name (rP I z hi D r (λs' L=>⟨_,H,L,h⟩) J)
def aBp:TGs:=λvs σ H Q=>vs=[]/\Q σ H
def W1 (t:TG) (u:TGs):TGs:=λvs σ H Q=>∃ v r,vs=v :: r/\t v σ H λz H'=>u r z H' Q
def bW:PGs X [] aBp:=by
 intro pins s σ H vs us Q I r h;obtain⟨e,h⟩:=h;subst e;cases r;exact assignInOrder_nil ⟨σ,H,I,h⟩
def aO {e:Expr} {es:List Expr} {t:TG} {u:TGs} (h1:PG X e t) (h2:PGs X es u)
 (hs:(assignEach (e :: es) X.env).map (·.2)=assign e X.env :: (assignEach es X.env).map (·.2):=by rfl):PGs X (e :: es) (W1 t u):=by
 intro pins s σ H vs us Q I r h;obtain⟨v,M,e1,h⟩:=h;subst e1;cases r with
 | cons r rr =>
  rw[hs];refine assignInOrder_cons (thn (h1 pins s σ H _ _ _ I r h) λ_ D ⟨z,H1,J,L⟩=>?_);exact h2 pins D z H1 _ _ Q J rr L
def v0 (K:PySem.W.Frag) (n:Nat) (t:TGs):TG:=λv σ H Q=>∃ a xs,v=.ref a/\SqT K H a xs/\xs.length=n/\t xs σ H Q
def eW {es:List Expr} {k:Nat} {t:TGs} {n:Nat} (D:X.calm=true) (h:PGs X es t)
 (J:(assignEach es X.env).length=n:=by rfl) (hst:(assignEach es X.env).findIdx? (·.1)=none:=by rfl):PG X (.Tuple es k pos) (v0 X.K n t):=by
 intro pins s σ H v u Q I r hw;obtain⟨a,xs,e1,L,M,hw⟩:=hw;subst e1;cases r;obtain⟨its,z,ht,hz⟩:=I.tuple L;refine assign_Tuple_tuple (I.ok.hd D) ht (by simp[J,<- M,z.length]) hst λh' N=>?_;have U:Inv X pins σ H { s with heap:=h' }:=I.kept (t':=s.toks) λb o e=>N b o (aD3 (aDM e)) e;exact h pins _ σ H xs _ Q U (by simpa using z) hw
def aAs (te:TE) (g:TG):TS:=λD σ H=>te σ H λx H1=>g x σ H1 D.nx
def oU {tg e:Expr} {te:TE} {g:TG} (he:PE X e te) (z:PG X tg g) (hs:swapsWithSole [tg] e pos.line X.env=pure false:=by rfl) (hw:swappedStores [tg] e X.env=pure none:=by rfl)
 (h1:(assignEach [tg] X.env).map (·.2)=[assign tg X.env]:=by rfl):PS X (.Assign [tg] e pos) (aAs te g):=by
 intro pins s σ H D I h;refine wpAny_Assign_stores (thn (he pins s σ H _ I h) λv J ⟨x,H1,L,r1,M⟩=>?_) hs hw;rw[h1];exact thn (z pins J σ H1 x v _ L r1 M) λ_ N q=>q
def aQ {i:Nat} {x:Str} {e:Expr} {te:TE} {pos':Pos} (z:X.N.Nodup) (hi:X.N[i]?=some x) (J:Loc X.env.scope x) (he:PE X e te) (hs:swapsWith e (some (.Name x pos')) pos.line X.env=pure false:=by rfl) (L:X.fn x=true\/X.env.scope.names.lookup x=some .local:=by first | exact .inl rfl | exact .inr rfl | assumption) :
 PS X (.Assign [.Name x pos'] e pos) (aAs te (uX i)):=by
 intro pins s σ H D I h;refine wpAny_Assign_Name (thn (he pins s σ H _ I h) λv s1 ⟨y,H1,M,r1,U⟩=>?_) hs;exact rP M z hi J r1 (λs2 Y=>⟨_,H1,Y,U⟩) L
def aCd (i:Nat) (te:TE) (I:TIp):TS:=λD σ H=>∃ x,σ[i]?=some (some x)/\te σ H λy H1=>I x y H1 λz H2=>D.nx (σ.set i (some z)) H2
def rQ {i:Nat} {x:Str} {e:Expr} {te:TE} {op:Operator} {ti:TIp} {pos':Pos} (hN:X.N.Nodup) (hi:X.N[i]?=some x) (U:Loc X.env.scope x) (he:PE X e te) (ho:PIp X op ti) (hf:X.fn x=true\/X.env.scope.names.lookup x=some .local:=by first | exact .inl rfl | exact .inr rfl | assumption) :
 PS X (.AugAssign (.Name x pos') op e pos) (aCd i te ti):=by
 intro pins s σ H D I h;obtain⟨v,e1,h⟩:=h;obtain⟨m,hn,hl⟩:=I.loc;have Y:Vis X.env.scope x:=by rcases U with k | k;exact .inl k;exact .inr (.inl k)
 obtain⟨u,r,l⟩:=hl i x v hi e1 Y;refine wpAny_AugAssign_Name ?_;have go:wpAny (model X.prog X.w) X.A (eval e X.env) (λw L=>wpAny (model X.prog X.w) X.A (inplaceOp op u w) (λr M=>wpAny (model X.prog X.w) X.A (storeName X.env x r) (λ_=>SP X pins D .next) X.xe M) X.xe L) X.xe s:=by
  refine thn (he pins s σ H _ I h) λw s1 ⟨y,H1,I1,r1,q1⟩=>?_;refine thn (ho pins s1 σ H1 v y u w _ I1 r r1 q1) λz s2 ⟨zv,H2,I2,r2,q2⟩=>?_;exact rP I2 hN hi U r2 (λs3 I3=>⟨_,H2,I3,q2⟩) hf
 rcases l with ⟨hk,hm⟩ | ⟨hk,c,hc,J⟩
 .exact wpAny_loadName_local I.ok.kind hk hn hm go
 .rcases hk with hk | hk
  .exact wpAny_loadName_cell I.ok.kind hk hc J go
  .rcases U with k | k
   .have:X.env.scope.names.lookup x=some .free:=hk;rw[k]at this;cases this
   .have:X.env.scope.names.lookup x=some .free:=hk;rw[k]at this;cases this
def ipI (f:Int->Int->Int):TIp:=λx y H Q=>∃ i j,x=.int i/\y=.int j/\Q (.int (f i j)) H
def D9:PIp X .Add (ipI λi j=>i+j):=by
 intro pins s σ H x y v u Q I r1 r2 h;obtain⟨i,j,e1,z,q⟩:=h;subst e1;subst z;obtain⟨t,rfl⟩:=r1;obtain⟨t',rfl⟩:=r2;exact iadd_int ⟨.int _,H,I.tok _,⟨_,rfl⟩,q⟩
def W2:PIp X .Sub (ipI λi j=>i - j):=by
 intro pins s σ H x y v u Q I r1 r2 h;obtain⟨i,j,e1,z,q⟩:=h;subst e1;subst z;obtain⟨t,rfl⟩:=r1;obtain⟨t',rfl⟩:=r2;exact isub_int ⟨.int _,H,I.tok _,⟨_,rfl⟩,q⟩
def W3 (c:TT) (tb:TS):TS:=λD σ H=>∃ W:Nat->St->Hp->Prop,(∃ m,W m σ H)/\∀ m σ H,W m σ H ->
 c σ H λb H1=>if b=true then ∃ N:St->Hp->Prop,(∀ z H',N z H'->∃ I,I<m/\W I z H')/\tb { D with nx:=N,ct:=N,bk:=D.nx } σ H1 else D.nx σ H1
def rR {c:Expr} {body:List Stmt} {tc:TT} {tb:TS} (hp:PassesOwn (model X.prog X.w) X.A X.env X.xe) (hc:PT X c tc) (hb:PSs X body tb):PS X (.While c body [] pos) (W3 tc tb):=by
 intro pins s σ H D I h;obtain⟨W,⟨m0,w0⟩,turn⟩:=h;refine wpAny_While (codeAny_whileLoop (λn s'=>∃ L H',Inv X pins L H' s'/\W n L H') ?_ m0 ⟨σ,H,I,w0⟩);rintro n s1 ⟨J,H1,I1,w1⟩;refine wpAny_passesOwn hp (thn (hc pins s1 J H1 _ I1 (turn n J H1 w1)) λb s2 ⟨H2,I2,U⟩=>?_);cases b with
 | true =>
  obtain⟨N,hN,U⟩:=U;rw[if_pos rfl];refine wpAny_passesOwn hp (thn (hb pins s2 J H2 _ I2 U) λf s3 Y=>?_);cases f with
  | next =>
   obtain⟨z,M,I3,n3⟩:=Y;obtain⟨m',hm,w3⟩:=hN z M n3;exact⟨m',hm,z,M,I3,w3⟩
  | cont =>
   obtain⟨z,M,I3,n3⟩:=Y;obtain⟨m',hm,w3⟩:=hN z M n3;exact⟨m',hm,z,M,I3,w3⟩
  | brk=>exact Y
  | ret v=>exact Y
 | false =>
  rw[if_neg aDT];exact wpAny_execs_nil ⟨J,H2,I2,U⟩
end
structure It where
 go:Nat->Hp->Prop
 yld:Nat->Hp->V->Hp->Prop
 stop:Nat->Hp->Prop
def kA (X:Cx) (pins:List (Addr×Obj)) (H:Hp) (b:Addr):Prop :=
 H b=none/\b≠X.env.locals/\b∉X.fs/\(b∈X.ex\/X.s₀.heap.objs.size<=b)/\(∀ x c,X.env.cells.lookup x=some c->c≠b)/\∀ p∈X.pn++pins,p.1≠b
def Inv.fpOk {X:Cx} {pins:List (Addr×Obj)} {σ:St} {H H':Hp} {s:Shared} {b:Addr} (I:Inv X pins σ H s) (D:s.heap.objs.size<=b) (J:H' b=none):kA X pins H' b:=by
 refine⟨J,aD6 (aDX I.lt D),I.nofs D,.inr (Nat.le_trans I.sz D),λx c e z=>?_,λp L z=>?_⟩
 .obtain⟨v,q⟩:=I.cell x c e;exact absurd (aDX q.lt (by rw[z];exact D)) (Nat.lt_irrefl _)
 .exact absurd (aDX (aDM (I.pin p L).1) (by rw[z];exact D)) (Nat.lt_irrefl _)
structure qM (P:Program) (w:World) (K:PySem.W.Frag) (tg:Expr) (J:It) (fp:List Addr) (it:Addr) (tn:Nat->Heap->Prop):Prop where
 mem:it∈fp
 obj:∀ i h,tn i h->∀ b∈fp,∃ o,h.get? b=some o/\∀ v,o.data≠.cell v
 keep:∀ i h h',tn i h->(∀ b∈fp,∀ o,h.get? b=some o->h'.get? b=some o)->tn i h'
 item:∀ (X:Cx),X.prog=P->X.w=w->X.K=K->X.calm=true->∀ (i:Nat) (pins:List (Addr×Obj)) (s:Shared) (σ:St) (H:Hp) (E:Value->Shared->Prop),Inv X pins σ H s->(∀ b∈fp,kA X pins H b)->tn i s.heap->J.go i H ->
  wpAny (model P w) X.A (pyNext (.ref it)) (λr s1=>∃ u,r=some u /\
   wpAny (model P w) X.A (letOwnedTupleGo tg (.ref it) u) (λ_ s2=>∃ x H',Inv X pins σ H' s2/\RelV x u/\J.yld i H x H'/\tn (i+1) s2.heap/\∀ b∈fp,H' b=none) E s1) E s
 done:∀ (X:Cx),X.prog=P->X.w=w->X.K=K->X.calm=true->∀ (i:Nat) (pins:List (Addr×Obj)) (s:Shared) (σ:St) (H:Hp) (E:Value->Shared->Prop),Inv X pins σ H s->(∀ b∈fp,kA X pins H b)->tn i s.heap->J.stop i H ->
  wpAny (model P w) X.A (pyNext (.ref it)) (λr s1=>r=none/\Inv X pins σ H s1) E s
 self:∀ (A:Around) (i:Nat) (s:Shared) (Q:Value->Shared->Prop) (E:Value->Shared->Prop),tn i s.heap->Q (.ref it) s->wpAny (model P w) A (pyIter (.ref it)) Q E s
abbrev TI:=St->Hp->(It->Hp->Prop)->Prop
def PIE (X:Cx) (pins:List (Addr×Obj)) (σ:St) (tg:Expr) (R:It->Hp->Prop) (z:Value) (D:Shared):Prop :=
 ∃ (it:Addr) (fp:List Addr) (I:Nat->Heap->Prop) (J:It) (H':Hp),z=.ref it/\Inv X pins σ H' D/\qM X.prog X.w X.K tg J fp it I/\I 0 D.heap/\(∀ b∈fp,kA X pins H' b)/\R J H'
def PI (X:Cx) (tg iter:Expr) (wi:TI):Prop :=
 ∀ (pins:List (Addr×Obj)) (s:Shared) (σ:St) (H:Hp) (R:It->Hp->Prop),Inv X pins σ H s->wi σ H R ->
  wpAny (model X.prog X.w) X.A (eval iter X.env) (λv z=>wpAny (model X.prog X.w) X.A (pyIter v) (PIE X pins σ tg R) X.xe z) X.xe s
def uY {M:Model} {A:Around} {E:Value->Shared->Prop} {s:Shared} {tg:Expr} {it:Addr} {u:Value} {o:Obj} {n:String} {vs:Array Value} {Q:Unit->Shared->Prop} (D:s.heap.get? it=some o) (I:o.cls=.type n) (hd:o.data=.fields vs)
 (J:["enumerate","zip","dict_itemiterator","dict_reverseitemiterator","odict_iterator","itertools.zip_longest","itertools.pairwise"].contains n=false) (z:Q () s):wpAny M A (letOwnedTupleGo tg (.ref it) u) Q E s:=by
 unfold letOwnedTupleGo;cases tg <;> first
  | exact aDF z
  | (cases u <;> first
   | exact aDF z
   | (refine aDE (wpAny_load D ?_)
      rw[I,hd];show wpAny M A (if (["enumerate","zip","dict_itemiterator","dict_reverseitemiterator","odict_iterator","itertools.zip_longest","itertools.pairwise"].contains n && vs[0]? == some (rawInt _))=true then _ else _) Q E s;rw[if_neg (by intro h;rw[J,Bool.false_and]at h;cases h)];exact aDF z))
def Itl (K:PySem.W.Frag) (a:Addr):It :=
 ⟨λi H=>∃ xs x,SqL K H a xs/\xs[i]?=some x,λi H x H'=>H'=H/\∀ xs,SqL K H a xs->xs[i]?=some x,λi H=>∃ xs,SqL K H a xs/\xs.length<=i⟩
def Itt (K:PySem.W.Frag) (a:Addr):It :=
 ⟨λi H=>∃ xs x,SqT K H a xs/\xs[i]?=some x,λi H x H'=>H'=H/\∀ xs,SqT K H a xs->xs[i]?=some x,λi H=>∃ xs,SqT K H a xs/\xs.length<=i⟩
def Itr (lo:Int) (n:Nat):It:=⟨λi _=>i<n,λi H x H'=>H'=H/\x=.int (lo+i),λi _=>n<=i⟩
def Q4 {P:Program} {w:World} {K:PySem.W.Frag} {tg:Expr} (a it:Addr):qM P w K tg (Itl K a) [it] it (λi h=>h.IsListIter it a i) where
 mem:=by simp
 obj:=λi h st b hb=>by
  have e:b=it:=by simpa using hb
  subst e;obtain⟨o,e,c,d⟩:=st;exact⟨o,e,λv z=>by rw[d]at z;cases z⟩
 keep:=λi h h' st k=>st.at λo e=>k it (by simp) o e
 item:=by
  intro X hP hw hK hc i pins s σ H E I hf st hg;subst hP hw hK;obtain⟨xs,x,hq,hx⟩:=hg;obtain⟨its,rv,p,hz⟩:=I.list hq;obtain⟨u,hu,ru⟩:=rv.get hx;obtain⟨f0,f1,f2,f3,f4,f5⟩:=hf it (by simp);refine wpAny_pyNext_list_item st p.isList (x:=u) (by simpa using hu) λh' st' sb=>?_;have I1:Inv X pins σ H { s with heap:=h' }:=I.turned (t':=s.toks) (λb o hb e=>(sb.2 b hb).trans e) f0 f1 f3 f4 f5;obtain⟨o,e,c,d⟩:=id st';exact⟨u,rfl,uY (s:={ s with heap:=h' }) e c d (by decide) ⟨x,H,I1,ru,⟨rfl,λys hy=>by rw[I.list_inj hy hq];exact hx⟩,st',λb hb=>(hf b hb).1⟩⟩
 done:=by
  intro X hP hw hK hc i pins s σ H E I hf st hg;subst hP hw hK;obtain⟨xs,hq,hx⟩:=hg;obtain⟨its,rv,p,hz⟩:=I.list hq;obtain⟨f0,f1,f2,f3,f4,f5⟩:=hf it (by simp);have hl:=rv.length;exact wpAny_pyNext_list_end (I.ok.hd hc) st p.isList (by simp;omega) λh' eb=>⟨rfl,I.turned (t':=s.toks) (λb o hb e=>eb b o hb e) f0 f1 f3 f4 f5⟩
 self:=λ_ _ _ _ _ st h=>wpAny_pyIter_listiter st h
def E1 {P:Program} {w:World} {K:PySem.W.Frag} {tg:Expr} (a it:Addr):qM P w K tg (Itt K a) [it] it (λi h=>h.IsTupleIter it a i) where
 mem:=by simp
 obj:=λi h st b hb=>by
  have e:b=it:=by simpa using hb
  subst e;obtain⟨o,e,c,d⟩:=st;exact⟨o,e,λv z=>by rw[d]at z;cases z⟩
 keep:=λi h h' st k=>st.at λo e=>k it (by simp) o e
 item:=by
  intro X hP hw hK hc i pins s σ H E I hf st hg;subst hP hw hK;obtain⟨xs,x,hq,hx⟩:=hg;obtain⟨its,rv,p,hz⟩:=I.tuple hq;obtain⟨u,hu,ru⟩:=rv.get hx;obtain⟨f0,f1,f2,f3,f4,f5⟩:=hf it (by simp);refine wpAny_pyNext_tuple_item st (show s.heap.IsTuple a its.toArray from p) (x:=u) (by simpa using hu) λh' st' sb=>?_;have I1:Inv X pins σ H { s with heap:=h' }:=I.turned (t':=s.toks) (λb o hb e=>(sb.2 b hb).trans e) f0 f1 f3 f4 f5;obtain⟨o,e,c,d⟩:=id st';exact⟨u,rfl,uY (s:={ s with heap:=h' }) e c d (by decide) ⟨x,H,I1,ru,⟨rfl,λys hy=>by rw[I.tuple_inj hy hq];exact hx⟩,st',λb hb=>(hf b hb).1⟩⟩
 done:=by
  intro X hP hw hK hc i pins s σ H E I hf st hg;subst hP hw hK;obtain⟨xs,hq,hx⟩:=hg;obtain⟨its,rv,p,hz⟩:=I.tuple hq;obtain⟨f0,f1,f2,f3,f4,f5⟩:=hf it (by simp);have hl:=rv.length;exact wpAny_pyNext_tuple_end (I.ok.hd hc) st (show s.heap.IsTuple a its.toArray from p) (by simp;omega) λh' eb=>⟨rfl,I.turned (t':=s.toks) (λb o hb e=>eb b o hb e) f0 f1 f3 f4 f5⟩
 self:=λ_ _ _ _ _ st h=>wpAny_pyIter_tupleiter st h
def E2 {P:Program} {w:World} {K:PySem.W.Frag} {tg:Expr} (it:Addr) (lo:Int) (n:Nat):qM P w K tg (Itr lo n) [it] it (λi h=>IsRangeIter h it (lo+(i:Nat) * 1) ((n:Int) - (i:Nat)) 1) where
 mem:=by simp
 obj:=λi h st b hb=>by
  have e:b=it:=by simpa using hb
  subst e;exact⟨_,st,λv z=>by
   have z':Data.fields _=Data.cell v:=z;cases z'⟩
 keep:=λi h h' st k=>k it (by simp) _ st
 item:=by
  intro X hP hw hK hc i pins s σ H E I hf st hg;subst hP hw hK;obtain⟨f0,f1,f2,f3,f4,f5⟩:=hf it (by simp);have W:=Walks.range (prog:=X.prog) (w:=X.w) (I.ok.hd hc) it lo 1 n;refine W.item i s _ _ hg st λv h' tk hv st' kk=>?_;obtain⟨t,rfl⟩:=hv;have I1:Inv X pins σ H { s with heap:=h',toks:=tk }:=I.turned (λb o hb e=>kk b o (by simpa using hb) e) f0 f1 f3 f4 f5;refine⟨_,rfl,uY (s:={ s with heap:=h',toks:=tk }) (n:="range_iterator") st' rfl rfl (by decide) ⟨.int (lo+i),H,I1,⟨t,?_⟩,⟨rfl,rfl⟩,st',λb hb=>(hf b hb).1⟩⟩;rw[Int.mul_one]
 done:=by
  intro X hP hw hK hc i pins s σ H E I hf st hg;subst hP hw hK;obtain⟨f0,f1,f2,f3,f4,f5⟩:=hf it (by simp);exact wpAny_pyNext_range_end (I.ok.hd hc) st (by have:n<=i:=hg;omega) λh' eb=>⟨rfl,I.turned (t':=s.toks) (λb o hb e=>eb b o hb e) f0 f1 f3 f4 f5⟩
 self:=λ_ _ _ _ _ st h=>wpAny_pyIter_rangeiter st h
section
variable {X:Cx} {tg:Expr}
def W4 (K:PySem.W.Frag) (tl:TE):TI:=fun σ H R=>tl σ H λx H1=>∃ a,x=.ref a/\(∃ xs,SqL K H1 a xs)/\R (Itl K a) H1
def aBq (K:PySem.W.Frag) (tl:TE):TI:=fun σ H R=>tl σ H λx H1=>∃ a,x=.ref a/\(∃ xs,SqT K H1 a xs)/\R (Itt K a) H1
def dC {l:Expr} {tl:TE} (J:PE X l tl):PI X tg l (W4 X.K tl):=by
 intro pins s σ H R I h;refine thn (J pins s σ H _ I h) λv z ⟨x,H1,D,r1,L⟩=>?_;obtain⟨a,e,⟨xs,M⟩,q⟩:=L;subst e;cases r1;obtain⟨its,U,p,hz⟩:=D.list M;refine wpAny_pyIter_list p.isList ?_;refine⟨z.heap.objs.size,[z.heap.objs.size],_,_,H1,rfl,D.kept (t':=z.toks) λb o e=>aDH _ e,Q4 a _,⟨_,aDN _ rfl,rfl,rfl⟩,λb N=>?_,q⟩;have e:b=z.heap.objs.size:=by simpa using N
 subst e;exact D.fpOk (Nat.le_refl _) (D.hok.fresh (Nat.le_refl _))
def E3 {l:Expr} {tl:TE} (J:PE X l tl):PI X tg l (aBq X.K tl):=by
 intro pins s σ H R I h;refine thn (J pins s σ H _ I h) λv z ⟨x,H1,D,r1,L⟩=>?_;obtain⟨a,e,⟨xs,M⟩,q⟩:=L;subst e;cases r1;obtain⟨its,U,p,hz⟩:=D.tuple M;refine wpAny_pyIter_tuple (show z.heap.IsTuple a its.toArray from p) ?_;refine⟨z.heap.objs.size,[z.heap.objs.size],_,_,H1,rfl,D.kept (t':=z.toks) λb o e=>aDH _ e,E1 a _,⟨_,aDN _ rfl,rfl,rfl⟩,λb N=>?_,q⟩;have e:b=z.heap.objs.size:=by simpa using N
 subst e;exact D.fpOk (Nat.le_refl _) (D.hok.fresh (Nat.le_refl _))
def yV {pins:List (Addr×Obj)} {σ:St} {H:Hp} {s:Shared} {R:It->Hp->Prop} {E:Value->Shared->Prop} {lo hi:Int} {t u v:Tok} {tk:Nat} (I:Inv X pins σ H s) (h1:-(2 ^ 62)<=lo) (h2:lo<2 ^ 62) (h3:-(2 ^ 62)<=hi) (h4:hi<2 ^ 62)
 (q:R (Itr lo (hi - lo).toNat) H):wpAny (model X.prog X.w) X.A (pyIter (.ref s.heap.objs.size)) (PIE X pins σ tg R) E { s with heap:=s.heap.push { cls:=.type "range",data:=.fields #[.int lo t,.int hi u,.int 1 v] },toks:=tk }:=by
 refine wpAny_pyIter_range (IsRange.new ..) (small_one h1 h2 h3 h4) ?_;have z:Inv X pins σ H { s with heap:=s.heap.push { cls:=.type "range",data:=.fields #[.int lo t,.int hi u,.int 1 v] },toks:=tk }:=I.kept λb o e=>aDH _ e;refine⟨(s.heap.push { cls:=.type "range",data:=.fields #[.int lo t,.int hi u,.int 1 v] }).objs.size,[(s.heap.push { cls:=.type "range",data:=.fields #[.int lo t,.int hi u,.int 1 v] }).objs.size],_,_,H,rfl,
  z.kept (t':=tk) λb o e=>aDH _ e,E2 _ lo (hi - lo).toNat,?_,λb D=>?_,q⟩
 .have e1:lo+((0:Nat):Int) * 1=lo:=by simp
  have J:(((hi - lo).toNat:Nat):Int) - ((0:Nat):Int)=Builtin.Range.rangeSize lo hi 1:=by rw[rangeSize_one];split <;> omega
  show IsRangeIter _ _ (lo+((0:Nat):Int) * 1) ((((hi - lo).toNat:Nat):Int) - ((0:Nat):Int)) 1;rw[e1,J];exact aDN _ rfl
 .have e:b=(s.heap.push { cls:=.type "range",data:=.fields #[.int lo t,.int hi u,.int 1 v] }).objs.size:=by simpa using D
  subst e;exact z.fpOk (Nat.le_refl _) (z.hok.fresh (Nat.le_refl _))
def aBr (ta:TA):TI:=fun σ H R=>ta σ H λvs H1=>∃ j:Int,vs=[.int j]/\-(2 ^ 62)<=j/\j<2 ^ 62/\R (Itr 0 j.toNat) H1
def aBs (ta:TA):TI:=fun σ H R=>ta σ H λvs H1=>∃ i j:Int,vs=[.int i,.int j]/\(-(2 ^ 62)<=i/\i<2 ^ 62/\-(2 ^ 62)<=j/\j<2 ^ 62)/\R (Itr i (j - i).toNat) H1
def eX {a:Expr} {ta:TA} {p pos:Pos} (D:Gl X "range") (J:X.mg "range"=none) (L:PA X [a] ta) (hs:starEach [a] X.env=[(false,eval a X.env)]:=by rfl):PI X tg (.Call (.Name "range" p) [a] [] pos) (aBr ta):=by
 intro pins s σ H R I h;refine Call_ (kB I D J boot_range (PyProof.Rows.callWith_type1 (thn (L pos pins s σ H _ I h) λus U ⟨vs,H1,M,r1,z⟩=>?_) hs rfl));obtain⟨j,e,z,N,q⟩:=z;subst e;cases r1 with
 | cons r rr =>
  cases rr;obtain⟨t,rfl⟩:=r;exact call_range_1 (yV M (by omega) (by omega) z N (by simpa using q))
def uZ {a b:Expr} {ta:TA} {p pos:Pos} (J:Gl X "range") (L:X.mg "range"=none) (M:PA X [a,b] ta) (hs:starEach [a,b] X.env=[(false,eval a X.env),(false,eval b X.env)]:=by rfl) (z:starEach [b] X.env=[(false,eval b X.env)]:=by rfl) :
 PI X tg (.Call (.Name "range" p) [a,b] [] pos) (aBs ta):=by
 intro pins s σ H R I h;refine Call_ (kB I J L boot_range (PyProof.Rows.callWith_type1 (thn (M pos pins s σ H _ I h) λus s1 ⟨vs,H1,N,r1,D⟩=>?_) (by rw[hs,z]) (by rw[z];rfl)));obtain⟨i,j,e,⟨D,U,Y,q4⟩,q⟩:=D;subst e;cases r1 with
 | cons r rr =>
  cases rr with
  | cons r' rr =>
   cases rr;obtain⟨t,rfl⟩:=r;obtain⟨t',rfl⟩:=r';exact call_range_2 (yV N D U Y q4 q)
def aBt (wi:TI) (g:TG) (tb:TS):TS:=λD σ H=>wi σ H λJ H1=>∃ W:Nat->Nat->St->Hp->Prop,(∃ m,W 0 m σ H1)/\∀ i m σ H,W i m σ H ->
 (J.stop i H/\D.nx σ H)\/(J.go i H/\∃ N:St->Hp->Prop,(∀ z H',N z H'->∃ L,L<m/\W (i+1) L z H')/\∀ x H',J.yld i H x H'->g x σ H' λI H2=>tb { D with nx:=N,ct:=N,bk:=D.nx } I H2)
def cE (fp:List Addr) (h:Heap):List (Addr×Obj):=fp.filterMap λb=>(h.get? b).map λo=>(b,o)
def bT {fp:List Addr} {h:Heap} {b:Addr} {o:Obj} (z:b∈fp) (e:h.get? b=some o):(b,o)∈cE fp h:=List.mem_filterMap.mpr ⟨b,z,by rw[e];rfl⟩
def iO {fp:List Addr} {h:Heap} {p:Addr×Obj} (z:p∈cE fp h):p.1∈fp/\h.get? p.1=some p.2:=by
 obtain⟨b,D,e⟩:=List.mem_filterMap.mp z;cases q:h.get? b with
 | none=>rw[q]at e;cases e
 | some o =>
  rw[q]at e;have I:(b,o)=p:=Option.some.inj e;subst I;exact⟨D,q⟩
def Inv.pinned {pins:List (Addr×Obj)} {σ:St} {H:Hp} {s:Shared} {fp:List Addr} (I:Inv X pins σ H s) (L:∀ b∈fp,kA X pins H b) (M:∀ b∈fp,∃ o,s.heap.get? b=some o/\∀ v,o.data≠.cell v):Inv X (pins++cE fp s.heap) σ H s :=
 I.pins_of λp N=>(aDj.mp N).elim (λz=>I.pin p (aDK _ z)) λz=>by
  obtain⟨D,e⟩:=iO z;obtain⟨U,f1,f2,_⟩:=L p.1 D;obtain⟨o,J,d⟩:=M p.1 D;rw[e]at J;cases J;exact⟨e,U,f1,f2,d⟩
def Inv.unpinned {pins pl:List (Addr×Obj)} {σ:St} {H:Hp} {s:Shared} (I:Inv X (pins++pl) σ H s):Inv X pins σ H s:=I.pins_of λp z=>I.pin p (aDK _ (aDZ _ z))
def cZ {iter:Expr} {body:List Stmt} {wi:TI} {g:TG} {tb:TS} {pos:Pos} (hp:PassesOwn (model X.prog X.w) X.A X.env X.xe) (hc:X.calm=true) (hi:PI X tg iter wi) (hg:PG X tg g) (L:PSs X body tb)
 (hs:∀ x,foldedSetIterable iter X.env x=pure x:=by intro _;rfl):PS X (.For tg iter body [] pos) (aBt wi g tb):=by
 intro pins s σ H D I h;refine wpAny_For (thn (hi pins s σ H _ I h) λv s1 h1=>thn h1 λav s2 h2=>?_) hs;obtain⟨it,fp,tn,J,H2,e,I2,T,ap,f2,W,⟨m0,w0⟩,turn⟩:=h2;subst e;have M:∀ {H':Hp},(∀ b∈fp,H' b=none)->∀ b∈fp,kA X pins H' b:=λhn b L=>⟨hn b L,(f2 b L).2⟩;refine codeAny_forLoop_any (λn s'=>∃ i U H',Inv X pins U H' s'/\tn i s'.heap/\(∀ b∈fp,H' b=none)/\W i n U H') ?_ m0 ⟨0,σ,H2,I2,ap,λb L=>(f2 b L).1,w0⟩;rintro n s3 ⟨i,Y,H3,I3,am,ao,w3⟩;rcases turn i n Y H3 w3 with ⟨stop,qn⟩ | ⟨go,N,hN,step⟩
 .refine wpAny_passesOwn hp (thn (T.done X rfl rfl rfl hc i pins s3 Y H3 X.xe I3 (M ao) am stop) λr s4 ⟨hr,I4⟩=>?_);subst hr;exact wpAny_execs_nil ⟨Y,H3,I4,qn⟩
 .refine wpAny_passesOwn hp (thn (T.item X rfl rfl rfl hc i pins s3 Y H3 X.xe I3 (M ao) am go) λr s4 ⟨u,hr,h4⟩=>?_);subst hr;refine wpAny_passesOwn hp (thn h4 λ_ s5 ⟨x,H5,I5,r5,y5,al,aq⟩=>?_);have ar:=I5.pinned (M aq) (T.obj _ _ al);refine wpAny_passesOwn hp (thn (hg _ s5 Y H5 x u _ ar r5 (step x H5 y5)) λ_ s6 ⟨au,H6,I6,q6⟩=>?_);refine wpAny_passesOwn hp (thn (L _ s6 au H6 _ I6 q6) λf s7 q7=>?_);have again:∀ {z:St} {H7:Hp},Inv X (pins++cE fp s5.heap) z H7 s7->N z H7->∃ m,m<n/\∃ i U H',Inv X pins U H' s7/\tn i s7.heap/\(∀ b∈fp,H' b=none)/\W i m U H':=λ{z H7} I7 n7=>by
   obtain⟨m',hm,w7⟩:=hN z H7 n7;refine⟨m',hm,i+1,z,H7,I7.unpinned,T.keep _ _ _ al λb L o e=>(I7.pin (b,o) (aDK _ (aDK _ (bT L e)))).1,λb L=>?_,w7⟩;obtain⟨o,e,d⟩:=T.obj _ _ al b L;exact(I7.pin (b,o) (aDK _ (aDK _ (bT L e)))).2.1
  cases f with
  | next=>obtain⟨z,H7,I7,n7⟩:=q7;exact again I7 n7
  | cont=>obtain⟨z,H7,I7,n7⟩:=q7;exact again I7 n7
  | brk=>obtain⟨z,H7,I7,q7⟩:=q7;exact⟨z,H7,I7.unpinned,q7⟩
  | ret v=>obtain⟨x7,z,H7,I7,r7,q7⟩:=q7;exact⟨x7,z,H7,I7.unpinned,r7,q7⟩
end
def gJ {K:PySem.W.Frag} {a:Addr} {xs:List V} {g:TG} {tb:TS} {D:oT} {σ:St} {H:Hp} (Pv:Nat->St->Hp->Prop) (h0:Pv 0 σ H) (M:∀ i σ H,i<=xs.length->Pv i σ H->SqL K H a xs)
 (hs:∀ i x σ H,xs[i]?=some x->Pv i σ H->g x σ H λz H2=>tb { D with nx:=Pv (i+1),ct:=Pv (i+1),bk:=D.nx } z H2) (hd:∀ σ H,Pv xs.length σ H->D.nx σ H) :
 ∃ W:Nat->Nat->St->Hp->Prop,(∃ m,W 0 m σ H)/\∀ i m σ H,W i m σ H ->
  ((Itl K a).stop i H/\D.nx σ H)\/((Itl K a).go i H/\∃ N:St->Hp->Prop,(∀ I H',N I H'->∃ L,L<m/\W (i+1) L I H')/\∀ x H',(Itl K a).yld i H x H'->g x σ H' λz H2=>tb { D with nx:=N,ct:=N,bk:=D.nx } z H2):=by
 refine⟨λi m σ H=>m=xs.length - i/\i<=xs.length/\Pv i σ H,⟨xs.length,by simp,Nat.zero_le _,h0⟩,?_⟩;rintro i m σ H ⟨rfl,hi,p⟩;have q:=M i σ H hi p
 by_cases J:i<xs.length
 .refine .inr ⟨⟨xs,xs[i],q,by simp[J]⟩,Pv (i+1),λI H' U=>⟨xs.length - (i+1),by omega,rfl,J,U⟩,λx H' y=>?_⟩;obtain⟨e,y⟩:=y;subst e;exact hs i x σ _ (y xs q) p
 .have e:i=xs.length:=by omega
  subst e;exact .inl ⟨⟨xs,q,Nat.le_refl _⟩,hd σ H p⟩
def w4 {K:PySem.W.Frag} {a:Addr} {xs:List V} {g:TG} {tb:TS} {D:oT} {σ:St} {H:Hp} (Pv:Nat->St->Hp->Prop) (h0:Pv 0 σ H) (M:∀ i σ H,i<=xs.length->Pv i σ H->SqT K H a xs)
 (hs:∀ i x σ H,xs[i]?=some x->Pv i σ H->g x σ H λz H2=>tb { D with nx:=Pv (i+1),ct:=Pv (i+1),bk:=D.nx } z H2) (hd:∀ σ H,Pv xs.length σ H->D.nx σ H) :
 ∃ W:Nat->Nat->St->Hp->Prop,(∃ m,W 0 m σ H)/\∀ i m σ H,W i m σ H ->
  ((Itt K a).stop i H/\D.nx σ H)\/((Itt K a).go i H/\∃ N:St->Hp->Prop,(∀ I H',N I H'->∃ L,L<m/\W (i+1) L I H')/\∀ x H',(Itt K a).yld i H x H'->g x σ H' λz H2=>tb { D with nx:=N,ct:=N,bk:=D.nx } z H2):=by
 refine⟨λi m σ H=>m=xs.length - i/\i<=xs.length/\Pv i σ H,⟨xs.length,by simp,Nat.zero_le _,h0⟩,?_⟩;rintro i m σ H ⟨rfl,hi,p⟩;have q:=M i σ H hi p
 by_cases J:i<xs.length
 .refine .inr ⟨⟨xs,xs[i],q,by simp[J]⟩,Pv (i+1),λI H' U=>⟨xs.length - (i+1),by omega,rfl,J,U⟩,λx H' y=>?_⟩;obtain⟨e,y⟩:=y;subst e;exact hs i x σ _ (y xs q) p
 .have e:i=xs.length:=by omega
  subst e;exact .inl ⟨⟨xs,q,Nat.le_refl _⟩,hd σ H p⟩
def dZ {lo:Int} {n:Nat} {g:TG} {tb:TS} {D:oT} {σ:St} {H:Hp} (Pv:Nat->St->Hp->Prop) (h0:Pv 0 σ H)
 (hs:∀ i σ H,i<n->Pv i σ H->g (.int (lo+i)) σ H λz H2=>tb { D with nx:=Pv (i+1),ct:=Pv (i+1),bk:=D.nx } z H2) (hd:∀ σ H,Pv n σ H->D.nx σ H) :
 ∃ W:Nat->Nat->St->Hp->Prop,(∃ m,W 0 m σ H)/\∀ i m σ H,W i m σ H ->
  ((Itr lo n).stop i H/\D.nx σ H)\/((Itr lo n).go i H/\∃ N:St->Hp->Prop,(∀ I H',N I H'->∃ L,L<m/\W (i+1) L I H')/\∀ x H',(Itr lo n).yld i H x H'->g x σ H' λz H2=>tb { D with nx:=N,ct:=N,bk:=D.nx } z H2):=by
 refine⟨λi m σ H=>m=n - i/\i<=n/\Pv i σ H,⟨n,by simp,Nat.zero_le _,h0⟩,?_⟩;rintro i m σ H ⟨rfl,hi,p⟩
 by_cases J:i<n
 .refine .inr ⟨J,Pv (i+1),λI H' M=>⟨n - (i+1),by omega,rfl,J,M⟩,λx H' y=>?_⟩;obtain⟨e,y⟩:=y;subst e y;exact hs i σ _ J p
 .have e:i=n:=by omega
  subst e;exact .inl ⟨Nat.le_refl _,hd σ H p⟩
def yW {c:TT} {tb:TS} {D:oT} {σ:St} {H:Hp} (Pv:St->Hp->Prop) (I:St->Hp->Nat) (h0:Pv σ H)
 (hs:∀ σ H,Pv σ H->c σ H λb H1=>if b=true then tb { D with nx:=λz H'=>Pv z H'/\I z H'<I σ H,ct:=λz H'=>Pv z H'/\I z H'<I σ H,bk:=D.nx } σ H1 else D.nx σ H1)
 (mono:∀ σ H Q J,(∀ b H1,Q b H1->J b H1)->c σ H Q->c σ H J):W3 c tb D σ H:=by
 refine⟨λm σ H=>m=I σ H/\Pv σ H,⟨_,rfl,h0⟩,?_⟩;rintro m σ H ⟨rfl,p⟩;refine mono σ H _ _ (λb H1 q=>?_) (hs σ H p);cases b with
 | true=>exact⟨_,λz H' ⟨L,l⟩=>⟨_,l,rfl,L⟩,q⟩
 | false=>exact q
abbrev R2:=V->V->Hp->VK->Prop
def OpR (X:Cx) (f:Value->Value->Sem Value) (r:R2):Prop :=
 ∀ (pins:List (Addr×Obj)) (s:Shared) (σ:St) (H:Hp) (x y:V) (v u:Value) (Q:VK),Inv X pins σ H s->RelV x v->RelV y u->r x y H Q ->
  wpAny (model X.prog X.w) X.A (f v u) (EP X pins σ Q) X.xe s
def UnR (X:Cx) (f:Value->Sem Value) (r:V->Hp->VK->Prop):Prop :=
 ∀ (pins:List (Addr×Obj)) (s:Shared) (σ:St) (H:Hp) (x:V) (v:Value) (Q:VK),Inv X pins σ H s->RelV x v->r x H Q ->
  wpAny (model X.prog X.w) X.A (f v) (EP X pins σ Q) X.xe s
def fJ (X:Cx) (f:Value) (r:List V->Hp->VK->Prop):Prop :=
 ∀ (pins:List (Addr×Obj)) (s:Shared) (σ:St) (H:Hp) (xs:List V) (us:List Value) (Q:VK),Inv X pins σ H s->Vals xs us->r xs H Q ->
  wpAny (model X.prog X.w) X.A (call f us) (EP X pins σ Q) X.xe s
def aCe (X:Cx) (r:V->Hp->(Bool->Hp->Prop)->Prop):Prop :=
 ∀ (pins:List (Addr×Obj)) (s:Shared) (σ:St) (H:Hp) (x:V) (v:Value) (Q:Bool->Hp->Prop),Inv X pins σ H s->RelV x v->r x H Q ->
  wpAny (model X.prog X.w) X.A (truthy v) (TP X pins σ Q) X.xe s
def tOp (r:R2) (ta tb:TE):TE:=fun σ H Q=>ta σ H λx H1=>tb σ H1 λy H2=>r x y H2 Q
def tUn (r:V->Hp->VK->Prop) (ta:TE):TE:=fun σ H Q=>ta σ H λx H1=>r x H1 Q
def rI (C:Int->Int->Prop) (g:Int->Int->V):R2:=λx y H Q=>∃ i j,x=.int i/\y=.int j/\C i j/\Q (g i j) H
def rI0 (g:Int->Int->V):R2:=λx y H Q=>∃ i j,x=.int i/\y=.int j/\Q (g i j) H
def rU (g:Int->V):V->Hp->VK->Prop:=λx H Q=>∃ i,x=.int i/\Q (g i) H
section
variable {X:Cx} {a b c:Expr} {ta tb tc:TE} {pos:Pos}
def aAt (L:PE X a ta) (M:PE X b tb) {pins:List (Addr×Obj)} {s:Shared} {σ:St} {H:Hp} {R:V->V->Hp->Prop} (I:Inv X pins σ H s)
 (h:ta σ H λx H1=>tb σ H1 λy H2=>R x y H2) {Q:Value->Shared->Prop} {f:Value->Value->Sem Value}
 (N:∀ v u J x y H2,Inv X pins σ H2 J->RelV x v->RelV y u->R x y H2->wpAny (model X.prog X.w) X.A (f v u) Q X.xe J) :
 wpAny (model X.prog X.w) X.A (eval a X.env) (λv z=>wpAny (model X.prog X.w) X.A (eval b X.env) (λu D=>wpAny (model X.prog X.w) X.A (f v u) Q X.xe D) X.xe z) X.xe s:=by
 refine thn (L pins s σ H _ I h) λv U ⟨x,H1,Y,r1,q1⟩=>?_;refine thn (M pins U σ H1 _ Y q1) λu J ⟨y,H2,I2,r2,q2⟩=>?_;exact N v u J x y H2 I2 r1 r2 q2
def aL {op:Operator} {r:R2} (z:OpR X (binaryOp op) r) (D:PE X a ta) (J:PE X b tb):PE X (.BinOp a op b pos) (tOp r ta tb):=by
 intro pins s σ H Q I h;exact wpAny_BinOp (aAt D J I h λv u L x y H2 M N U q=>z pins L σ H2 x y v u Q M N U q)
def lZ {op:UnaryOp} {r:V->Hp->VK->Prop} (z:UnR X (unaryOp op) r) (D:PE X a ta):PE X (.UnaryOp op a pos) (tUn r ta):=by
 intro pins s σ H Q I h;exact UnaryOp_ (thn (D pins s σ H _ I h) λv J ⟨x,H1,L,r1,M⟩=>z pins J σ H1 x v Q L r1 M)
def opI {f:Value->Value->Sem Value} {C:Int->Int->Prop} {g:Int->Int->Int}
 (rule:∀ (i j:Int) (t u:Tok) (s:Shared) (Q:Value->Shared->Prop) (E:Value->Shared->Prop),C i j->Q (.int (g i j) s.toks) { s with toks:=s.toks+1 }->wpAny (model X.prog X.w) X.A (f (.int i t) (.int j u)) Q E s) :
 OpR X f (rI C λi j=>.int (g i j)):=by
 intro pins s σ H x y v u Q I z D h;obtain⟨i,j,rfl,rfl,J,q⟩:=h;obtain⟨t,rfl⟩:=z;obtain⟨t',rfl⟩:=D;exact rule i j t t' s _ _ J ⟨.int (g i j),H,I.tok _,⟨_,rfl⟩,q⟩
def aBu {f:Value->Value->Sem Value} {g:Int->Int->Int}
 (rule:∀ (i j:Int) (t u:Tok) (s:Shared) (Q:Value->Shared->Prop) (E:Value->Shared->Prop),Q (.int (g i j) s.toks) { s with toks:=s.toks+1 }->wpAny (model X.prog X.w) X.A (f (.int i t) (.int j u)) Q E s) :
 OpR X f (rI0 λi j=>.int (g i j)):=by
 intro pins s σ H x y v u Q I z D h;obtain⟨i,j,rfl,rfl,q⟩:=h;obtain⟨t,rfl⟩:=z;obtain⟨t',rfl⟩:=D;exact rule i j t t' s _ _ ⟨.int (g i j),H,I.tok _,⟨_,rfl⟩,q⟩
def Q5 {f:Value->Value->Sem Value} {g:Int->Int->Bool}
 (rule:∀ (i j:Int) (t u:Tok) (s:Shared) (Q:Value->Shared->Prop) (E:Value->Shared->Prop),Q (.bool (g i j)) s->wpAny (model X.prog X.w) X.A (f (.int i t) (.int j u)) Q E s) :
 OpR X f (rI0 λi j=>.bl (g i j)):=by
 intro pins s σ H x y v u Q I z D h;obtain⟨i,j,rfl,rfl,q⟩:=h;obtain⟨t,rfl⟩:=z;obtain⟨t',rfl⟩:=D;exact rule i j t t' s _ _ ⟨.bl (g i j),H,I,rfl,q⟩
def aCf (i j:Int):Prop:=0<j/\j<1073741824
def aCg (i j:Int):Prop:=0<=j/\j<=1000000/\i.natAbs<2 ^ 64
def CMul (i j:Int):Prop:=(-(2 ^ 64)<i/\i<2 ^ 64)\/(-(2 ^ 64)<j/\j<2 ^ 64)
def CMul.ok {i j:Int} (h:CMul i j):IntMulOk i j:=by
 rcases h with ⟨h1,h2⟩ | ⟨h1,h2⟩
 .exact .of_left (intBits_le_64 h1 h2)
 .exact .of_right (intBits_le_64 h1 h2)
def bF:OpR X (binaryOp .Add) (rI0 λi j=>.int (i+j)):=aBu λ_ _ _ _ _ _ _ q=>add_int q
def eY:OpR X (binaryOp .Sub) (rI0 λi j=>.int (i - j)):=aBu λ_ _ _ _ _ _ _ q=>sub_int q
def dN:OpR X (binaryOp .Mult) (rI CMul λi j=>.int (i * j)):=opI λ_ _ _ _ _ _ _ z q=>mul_int q z.ok
def lJ:OpR X (binaryOp .FloorDiv) (rI aCf λi j=>.int (i / j)):=opI λi j _ _ _ _ _ z q=>by
 have h1:(0:Int)<j:=z.1;have h2:j<1073741824:=z.2;exact floordiv_int (by omega) (by rw[Int.fdiv_eq_ediv_of_nonneg i (by omega)];exact q) (.inl (PyProof.noPylong_small (by omega)))
def bZ:OpR X (binaryOp .Mod) (rI (λ_ j=>0<j) λi j=>.int (i % j)):=opI λi j _ _ _ _ _ z q=>by
 have h1:(0:Int)<j:=z;exact mod_int' (by omega) (by rw[Int.fmod_eq_emod_of_nonneg i (by omega)];exact q)
def rS:OpR X (binaryOp .Pow) (rI aCg λi j=>.int (i ^ j.toNat)):=opI λ_ _ _ _ _ _ _ z q=>pow_int_small z.1 z.2.1 z.2.2 q
def unI {f:Value->Sem Value} {g:Int->Int}
 (rule:∀ (i:Int) (t:Tok) (s:Shared) (Q:Value->Shared->Prop) (E:Value->Shared->Prop),Q (.int (g i) s.toks) { s with toks:=s.toks+1 }->wpAny (model X.prog X.w) X.A (f (.int i t)) Q E s) :
 UnR X f (rU λi=>.int (g i)):=by
 intro pins s σ H x v Q I z h;obtain⟨i,rfl,q⟩:=h;obtain⟨t,rfl⟩:=z;exact rule i t s _ _ ⟨.int (g i),H,I.tok _,⟨_,rfl⟩,q⟩
def iE:UnR X (unaryOp .USub) (rU λi=>.int (-i)):=unI λ_ _ _ _ _ q=>neg_int q
end
def aBv:V->V->Bool
 | .non,.non=>true | .non,.int _=>true | .int _,.non=>true | .non,.bl _=>true | .bl _,.non=>true | .non,.str _=>true | .str _,.non=>true
 | .int _,.int _=>true | .bl _,.bl _=>true | .str _,.str _=>true | .byt _,.byt _=>true
 | .int _,.str _=>true | .str _,.int _=>true | .bl _,.str _=>true | .str _,.bl _=>true
 | _,_=>false
def rEq:R2:=λx y H Q=>aBv x y=true/\Q (.bl (decide (x=y))) H
def rNe:R2:=λx y H Q=>aBv x y=true/\Q (.bl (!decide (x=y))) H
def M3 {i j:Int}:decide (V.int i=V.int j)=(i == j):=by
 rw[Bool.eq_iff_iff];simp
def W5 {i j:Bool}:decide (V.bl i=V.bl j)=(i == j):=by
 rw[Bool.eq_iff_iff];simp
def M4 {i j:Str}:decide (V.str i=V.str j)=(i == j):=by
 rw[Bool.eq_iff_iff];simp
def M5 {i j:Array UInt8}:decide (V.byt i=V.byt j)=(i.toList == j.toList):=by
 rw[Bool.eq_iff_iff];cases i;cases j;simp
section
variable {X:Cx} {a b c:Expr} {ta tb tc:TE} {pos:Pos}
def bN {pins:List (Addr×Obj)} {σ:St} {H:Hp} {s:Shared} {Q:VK} {k z:Bool} (I:Inv X pins σ H s) (q:Q (.bl k) H) (e:k=z):EP X pins σ Q (.bool z) s:=by
 subst e;exact⟨.bl k,H,I,rfl,q⟩
def M6:OpR X (compareOp .Eq) rEq:=by
 intro pins s σ H x y v u Q I D z h;obtain⟨hs,q⟩:=h;cases x with
 | non =>
  cases D;cases y with
  | non=>cases z;exact PySem.EqNone.eq_none_none (bN I q (by simp))
  | bl j=>cases z;exact PySem.EqNone.eq_none_bool (bN I q (by simp))
  | int j=>obtain⟨t',rfl⟩:=z;exact PySem.EqNone.eq_none_int (bN I q (by simp))
  | str j=>obtain⟨t',rfl⟩:=z;exact PySem.EqNone.eq_none_str (bN I q (by simp))
  | _=>exact absurd (show false=true from hs) aDT
 | bl i =>
  cases D;cases y with
  | non=>cases z;exact PySem.EqNone.eq_bool_none (bN I q (by simp))
  | bl j=>cases z;exact eq_bool (bN I q W5)
  | str j=>obtain⟨t',rfl⟩:=z;exact PySem.EqMixed.eq_bool_str (bN I q (by simp))
  | _=>exact absurd (show false=true from hs) aDT
 | int i =>
  obtain⟨t,rfl⟩:=D;cases y with
  | non=>cases z;exact PySem.EqNone.eq_int_none (bN I q (by simp))
  | int j=>obtain⟨t',rfl⟩:=z;exact eq_int (bN I q M3)
  | str j=>obtain⟨t',rfl⟩:=z;exact PySem.EqMixed.eq_int_str (bN I q (by simp))
  | _=>exact absurd (show false=true from hs) aDT
 | str i =>
  obtain⟨t,rfl⟩:=D;cases y with
  | non=>cases z;exact PySem.EqNone.eq_str_none (bN I q (by simp))
  | bl j=>cases z;exact PySem.EqMixed.eq_str_bool (bN I q (by simp))
  | int j=>obtain⟨t',rfl⟩:=z;exact PySem.EqMixed.eq_str_int (bN I q (by simp))
  | str j=>obtain⟨t',rfl⟩:=z;exact eq_str (bN I q M4)
  | _=>exact absurd (show false=true from hs) aDT
 | byt i =>
  obtain⟨t,rfl⟩:=D;cases y with
  | byt j=>obtain⟨t',rfl⟩:=z;exact PySem.W.eq_bytes (bN I q M5)
  | _=>exact absurd (show false=true from hs) aDT
 | _=>cases y <;> exact absurd (show false=true from hs) aDT
def aBw:OpR X (compareOp .NotEq) rNe:=by
 intro pins s σ H x y v u Q I D z h;obtain⟨hs,q⟩:=h;cases x with
 | non =>
  cases D;cases y with
  | non=>cases z;exact PySem.EqNone.ne_none_none (bN I q (by simp))
  | bl j=>cases z;exact PySem.EqNone.ne_none_bool (bN I q (by simp))
  | int j=>obtain⟨t',rfl⟩:=z;exact PySem.EqNone.ne_none_int (bN I q (by simp))
  | str j=>obtain⟨t',rfl⟩:=z;exact PySem.EqNone.ne_none_str (bN I q (by simp))
  | _=>exact absurd (show false=true from hs) aDT
 | bl i =>
  cases D;cases y with
  | non=>cases z;exact PySem.EqNone.ne_bool_none (bN I q (by simp))
  | bl j=>cases z;exact ne_bool (bN I q (congrArg not W5))
  | str j=>obtain⟨t',rfl⟩:=z;exact PySem.EqMixed.ne_bool_str (bN I q (by simp))
  | _=>exact absurd (show false=true from hs) aDT
 | int i =>
  obtain⟨t,rfl⟩:=D;cases y with
  | non=>cases z;exact PySem.EqNone.ne_int_none (bN I q (by simp))
  | int j=>obtain⟨t',rfl⟩:=z;exact ne_int (bN I q (congrArg not M3))
  | str j=>obtain⟨t',rfl⟩:=z;exact PySem.EqMixed.ne_int_str (bN I q (by simp))
  | _=>exact absurd (show false=true from hs) aDT
 | str i =>
  obtain⟨t,rfl⟩:=D;cases y with
  | non=>cases z;exact PySem.EqNone.ne_str_none (bN I q (by simp))
  | bl j=>cases z;exact PySem.EqMixed.ne_str_bool (bN I q (by simp))
  | int j=>obtain⟨t',rfl⟩:=z;exact PySem.EqMixed.ne_str_int (bN I q (by simp))
  | str j=>obtain⟨t',rfl⟩:=z;exact ne_str (bN I q (congrArg not M4))
  | _=>exact absurd (show false=true from hs) aDT
 | byt i =>
  obtain⟨t,rfl⟩:=D;cases y with
  | byt j=>obtain⟨t',rfl⟩:=z;exact PySem.W.ne_bytes (bN I q (congrArg not M5))
  | _=>exact absurd (show false=true from hs) aDT
 | _=>cases y <;> exact absurd (show false=true from hs) aDT
def nB:OpR X (compareOp .Lt) (rI0 λi j=>.bl (decide (i<j))):=Q5 λ_ _ _ _ _ _ _ q=>lt_int q
def W6:OpR X (compareOp .LtE) (rI0 λi j=>.bl (decide (i<=j))):=Q5 λ_ _ _ _ _ _ _ q=>le_int q
def mB:OpR X (compareOp .Gt) (rI0 λi j=>.bl (decide (j<i))):=Q5 λ_ _ _ _ _ _ _ q=>gt_int q
def M7:OpR X (compareOp .GtE) (rI0 λi j=>.bl (decide (j<=i))):=Q5 λ_ _ _ _ _ _ _ q=>ge_int q
def Q6:OpR X (compareOp .In) (λx y H Q=>∃ i j,x=.str i/\y=.str j/\Q (.bl (!(Builtin.Str.occurrences j i 0 j.length 1).isEmpty)) H):=by
 intro pins s σ H x y v u Q I z D h;obtain⟨i,j,rfl,rfl,q⟩:=h;obtain⟨t,rfl⟩:=z;obtain⟨t',rfl⟩:=D;exact in_str (bN I q rfl)
def bD (b:Expr) {op:CmpOp} (h:op≠.In:=by decide) (h2:op≠.NotIn:=by decide):behindInMarks op b=false:=by
 have e1:(op == CmpOp.In)=false:=by cases op <;> first | rfl | exact absurd rfl h
 have z:(op == CmpOp.NotIn)=false:=by cases op <;> first | rfl | exact absurd rfl h2
 cases b <;> simp[behindInMarks,e1,z]
def jB {op:CmpOp} {r:R2} (z:OpR X (compareOp op) r) (D:PE X a ta) (J:PE X b tb) (L:behindInMarks op b=false):PE X (.Compare a [op] [b] pos) (tOp r ta tb):=by
 intro pins s σ H Q I h;exact wpAny_Compare1 (aAt D J I h λv u M x y H2 N U Y q=>z pins M σ H2 x y v u Q N U Y q) L
def aBx (t:TE):TT:=fun σ H Q=>t σ H λx H'=>∃ k,x=.bl k/\Q k H'
def aY {op:CmpOp} {r:R2} (D:OpR X (compareOp op) r) (J:PE X a ta) (L:PE X b tb) (M:behindInMarks op b=false):PT X (.Compare a [op] [b] pos) (aBx (tOp r ta tb)):=by
 intro pins s σ H Q I h;refine wpAny_isTrue_Compare1 (thn (J pins s σ H _ I h) λv N ⟨x,H1,U,r1,Y⟩=>thn (L pins N σ H1 _ U Y) λu s2 ⟨y,H2,I2,r2,q2⟩ =>
  thn (D pins s2 σ H2 x y v u _ I2 r1 r2 q2) λc s3 ⟨z,H3,I3,r3,k,e,q3⟩=>?_) M
 subst e;cases r3;exact wpAny_truthy_bool ⟨H3,I3,q3⟩
def aBy (K:PySem.W.Frag) (x:V) (H:Hp) (k:Bool):Prop :=
 match x with
 | .non=>k=false
 | .bl b=>k=b
 | .int i=>k=(i != 0)
 | .str y=>y.length<=sizeLine/\k=((y.length:Int) != 0)
 | .byt y=>y.size<=sizeLine/\k=((y.size:Int) != 0)
 | .ref p=>(∃ xs,SqL K H p xs/\k=!xs.isEmpty)\/(∃ xs,SqT K H p xs/\k=!xs.isEmpty)\/∃ kvs,H p=some (.dK kvs)/\k=!kvs.isEmpty
 | _=>False
def E4 {κ:Type} {kvs:List (κ×V)} {vs:List (κ×Value)} (r:KV kvs vs):(!vs.isEmpty)=!kvs.isEmpty:=by
 cases r <;> rfl
def rV {xs:List V} {its:List Value} (r:Vals xs its):(!its.toArray.isEmpty)=!xs.isEmpty:=by
 cases r <;> simp
def oV:(sizeLine:Nat)<2 ^ 63:=by rw[sizeLine_eq];decide
def aAu:aCe X (λx H Q=>∃ k,aBy X.K x H k/\Q k H):=by
 intro pins s σ H x v Q I D h;obtain⟨k,e,q⟩:=h;have N:=oV;have hs:sizeLine=16777216:=sizeLine_eq;cases x with
 | non =>
  cases D;have z:k=false:=e;subst z;exact truthy_none ⟨H,I,q⟩
 | bl b =>
  cases D;have z:k=b:=e;subst z;exact wpAny_truthy_bool ⟨H,I,q⟩
 | int i =>
  obtain⟨t,rfl⟩:=D;have z:k=(i != 0):=e;subst z;exact PySem.P.truthy_int ⟨H,I,q⟩
 | str y =>
  obtain⟨t,rfl⟩:=D;obtain⟨L,z⟩:y.length<=sizeLine/\k=((y.length:Int) != 0):=e;subst z;exact PySem.P.truthy_str (by omega) ⟨H,I.tok _,q⟩
 | byt y =>
  obtain⟨t,rfl⟩:=D;obtain⟨L,z⟩:y.size<=sizeLine/\k=((y.size:Int) != 0):=e;subst z;exact PySem.W.truthy_bytes (by omega) ⟨H,I.tok _,q⟩
 | ref p =>
  cases D;have z:(∃ xs,SqL X.K H p xs/\k=!xs.isEmpty)\/(∃ xs,SqT X.K H p xs/\k=!xs.isEmpty)\/∃ kvs,H p=some (.dK kvs)/\k=!kvs.isEmpty:=e;rcases z with ⟨xs,J,z⟩ | ⟨xs,J,z⟩ | ⟨kvs,J,z⟩
  .subst z;obtain⟨its,r,pl,hz⟩:=I.list J;have hlen:=r.length;exact wpAny_truthy_list pl.isList (by simp only[aDO];omega) ⟨H,I.tok _,by rw[rV r];exact q⟩
  .subst z;obtain⟨its,r,pl,hz⟩:=I.tuple J;have hlen:=r.length;exact truthy_tuple pl (by simp only[aDO];omega) ⟨H,I.tok _,by rw[rV r];exact q⟩
  .subst z;obtain⟨hz,M,vs,r,m⟩:kvs.length<=sizeLine/\(p == sysModules)=false/\∃ vs,KV kvs vs/\s.heap.DictOf (bB X.prog X.w) p vs:=I.hok p _ J;have hlen:kvs.length=vs.length:=Paired.length r;exact wpAny_truthy_dict M m (by omega) ⟨H,I.tok _,by rw[E4 r];exact q⟩
 | _=>exact(show False from e).elim
def fK (z:PE X a ta) (he:∀ whole,isTrue a X.env whole=(do let v <- whole;standAt a.pos;holding [v] (truthy v))) :
 PT X a (fun σ H Q=>ta σ H λx H'=>∃ k,aBy X.K x H' k/\Q k H'):=by
 intro pins s σ H Q I h;exact isTrue_plain (thn (z pins s σ H _ I h) λv D ⟨x,H1,J,r1,L⟩=>aAu pins D σ H1 x v Q J r1 L) (he _)
def gK {x:V} {us:List Value} (r:Vals [x] us):∃ u,us=[u]/\RelV x u:=by
 cases r with
 | cons r1 r2=>cases r2;exact⟨_,rfl,r1⟩
def aBz {x y:V} {us:List Value} (r:Vals [x,y] us):∃ u z,us=[u,z]/\RelV x u/\RelV y z:=by
 cases r with
 | cons r1 r2 =>
  cases r2 with
  | cons r3 r4=>cases r4;exact⟨_,_,rfl,r1,r3⟩
def oW (D:X.calm=true):fJ X (.builtin "min") (λxs H Q=>∃ i j,xs=[.int i,.int j]/\Q (.int (if j<i then j else i)) H):=by
 intro pins s σ H xs us Q I r h;obtain⟨i,j,rfl,q⟩:=h;obtain⟨u,J,rfl,⟨t,rfl⟩,⟨t',rfl⟩⟩:=aBz r;refine min_two_ints (I.ok.hd D) λh' tk k=>⟨_,H,I.kept k,?_,q⟩
 by_cases z:j<i
 .rw[if_pos z,if_pos z];exact⟨_,rfl⟩
 .rw[if_neg z,if_neg z];exact⟨_,rfl⟩
end
structure ObjM (h:Heap) (x dx C:Addr) (mA:Str->Option Value):Prop where
 obj:h.get? x=some (PySem.W.instObj C dx)
 ns:h.Ns1 dx mA
 ne:dx≠x
def Q7 {h:Heap} {dx:Addr} {mA:Str->Option Value} (n:h.Ns1 dx mA):∃ od,h.get? dx=some od/\∀ name,PySem.W.lookIn name od=some (mA name):=by
 obtain⟨o,es,ep,I,hd,J,_,L⟩:=n;refine⟨o,I,λname=>?_⟩;have e:=L name;unfold nsFind findBy at e;rw[<- Array.find?_toList]at e;unfold PySem.W.lookIn;rw[hd];dsimp only;split
 .rename_i y q
  rw[q]at e;exact congrArg some e
 .rename_i q
  rw[q]at e;have a:es.toList.any (·.refKey)=false:=by
   rw[List.any_eq_false];intro y M;obtain⟨z,t,D⟩:=J y (Array.mem_toList_iff.mp M);simp[DictEntry.refKey,D]
  have N:¬ es.toList.any (·.refKey)=true:=by rw[a];exact aDT
  rw[if_neg N];exact congrArg some e
def ObjM.look {h:Heap} {x dx C:Addr} {mA:Str->Option Value} (I:ObjM h x dx C mA):∃ od,PySem.W.InstAt h x (PySem.W.instObj C dx) C (some od)/\∀ name,PySem.W.lookIn name od=some (mA name) :=
 let ⟨od,z,D⟩:=Q7 I.ns
 ⟨od,⟨I.obj,rfl,rfl,z⟩,D⟩
section
variable {prog:Program} {w:World} {A:Around} {E:Value->Shared->Prop} {s:Shared} {K:PySem.W.Frag} {x dx C f:Addr} {mA:Str->Option Value} {name:Str} {v:Value}
def w6 {expr:Bool} {Q:Value->Shared->Prop} (X:K.In s.heap) (I:ObjM s.heap x dx C mA) (D:PySem.W.plainGet K C name=true) (L:PySem.W.hasDictIn K C=true)
 (M:PySem.W.findIn K (.ref C) name=some none) (N:mA name=some v) (z:PySem.W.handedIn v=true) (h:Q v { s with toks:=s.toks+1 }) :
 wpAny (model prog w) A (getAttr (.ref x) name expr) Q E s:=by
 obtain⟨od,J,U⟩:=I.look;exact PySem.W.get_value X J (PySem.W.plainGet_of D).1 (PySem.W.findObj_own L M rfl (by rw[U,N])) z h
def W7 {pl:Sem Bool} {Q:Value×List Value->Shared->Prop} (X:K.In s.heap) (I:ObjM s.heap x dx C mA) (z:PySem.W.plainGet K C name=true)
 (D:PySem.W.findIn K (.ref C) name=some (some (.ref f))) (ht:PySem.W.isFn K (.ref f)=true) (L:mA name=none) (h:Q (.ref f,[.ref x]) s) :
 wpAny (model prog w) A (getMethod (.ref x) name pl) Q E s:=by
 obtain⟨od,J,M⟩:=I.look;exact PySem.W.method_fn X J (PySem.W.plainGet_of z).1 (PySem.W.plainGet_of z).2 D (beq_iff_eq.mp ht) (by show (PySem.W.lookIn name od).map (·.isSome)=some false;rw[M,L];rfl) h
def x5 {ns:List Str} {Q:Unit->Shared->Prop} (X:K.In s.heap) (I:ObjM s.heap x dx C mA)
 (hs:PySem.W.findIn K (.ref C) "__setattr__"=some (some (.builtin "object.__setattr__"))) (Y:PySem.W.plainOver K C=true) (ht:PySem.W.takerIn K C name=some none) (hh:PySem.W.hasDictIn K C=true)
 (hw:PySem.Within mA ns) (hsz:ns.length<=sizeLine)
 (h:∀ h',ObjM h' x dx C (λy=>if y=name then some v else mA y)->Heap.SameBut dx s.heap h'->Q () { s with heap:=h',toks:=s.toks+2 }) :
 wpAny (model prog w) A (setAttr (.ref x) name v) Q E s:=by
 obtain⟨od,J,hl⟩:=I.look;refine PySem.W.set_plain X J hs (PySem.W.osa_open (s:={ s with toks:=s.toks+1 }) (r:=none) X J Y ht λb=>?_);obtain⟨cd,hc,L⟩:=PySem.W.any_some hh;have hx:s.heap.get? x=some ⟨.ref C,some dx,.plain,#[]⟩:=I.obj;refine aDE (aDF (aDE (aDE (wpAny_loadPart hx (aDE (PySem.W.Looks.here (s:={ s with toks:=s.toks+1 }) (PySem.W.looks_clsIn X hc) ?_))))));rw[L];refine aDF (a:=some dx) (aDE (aDF (aDE ?_)));refine wpAny_nsSet1 (s:={ s with toks:=s.toks+1 }) I.ns λh' z D=>?_;obtain⟨oD,al,am,M,N,U⟩:=z.count (PySem.Within.cons name v hw);refine aDE (wpAny_lookBehind M (by rw[N];exact pastItsLine_dict (Nat.le_trans U (by rw[aD9];omega))) ?_);exact aDF (h _ ⟨(D.2 _ (Ne.symm I.ne)).trans I.obj,z,I.ne⟩ D)
def W8 {R:Result->Shared->Prop} {vs:List Value} {z:List (Str×Value)} (X:K.In s.heap) (D:PySem.W.makesIn K C=true)
 (hi:PySem.W.findIn K (.ref C) "__init__"=some (some (.ref f))) (I:PySem.W.typeIn K (.ref f)=some (.type "function"))
 (h:codeAny (model prog w) (A.under (.builtin "type.__call__" ⟨.ref C :: vs,z⟩)) (.call (.ref f) ⟨.ref (s.heap.objs.size+1) :: vs,z⟩) (PySem.W.InitBack (s.heap.objs.size+1) R)
  { s with heap:=(s.heap.push PySem.W.emptyDict).push (PySem.W.instObj C s.heap.objs.size) }) :
 codeAny (model prog w) A (.call (.ref C) ⟨vs,z⟩) R s:=by
 obtain⟨J,g,d,t,os⟩:=s;exact PySem.W.make_core (PySem.W.makes_of X D) (PySem.W.looks_findIn X hi) (λself=>PySem.W.bind_fn X self I) (.inl rfl) h
end
def lX (f:Str) (v:V):List (Str×V)->List (Str×V)
 | []=>[(f,v)]
 | (g,x) :: r=>if g=f then (g,v) :: r else (g,x) :: lX f v r
def pY (f g:Str) (v:V):∀ fs:List (Str×V),(lX f v fs).lookup g=if g=f then some v else fs.lookup g
 | []=>by
  show List.lookup g [(f,v)]=_
  by_cases h:g=f
  .have z:(g == f)=true:=beq_iff_eq.mpr h;simp only[List.lookup,z,if_pos h]
  .have z:(g == f)=false:=beq_eq_false_iff_ne.mpr h;simp only[List.lookup,z,if_neg h]
 | (k,x) :: r=>by
  have I:=pY f g v r;rw[show lX f v ((k,x) :: r)=(if k=f then (k,v) :: r else (k,x) :: lX f v r) from rfl]
  by_cases D:k=f
  .rw[if_pos D]
   by_cases h:g=k
   .have z:(g == k)=true:=beq_iff_eq.mpr h;simp only[List.lookup,z,if_pos (h.trans D)]
   .have z:(g == k)=false:=beq_eq_false_iff_ne.mpr h;simp only[List.lookup,z,if_neg (λe:g=f=>h (e.trans D.symm))]
  .rw[if_neg D]
   by_cases h:g=k
   .have z:(g == k)=true:=beq_iff_eq.mpr h;simp only[List.lookup,z,if_neg (λe:g=f=>D (h.symm.trans e))]
   .have z:(g == k)=false:=beq_eq_false_iff_ne.mpr h;simp only[List.lookup,z];exact I
def oX (f:Str) (v:V):∀ fs:List (Str×V),f∈(lX f v fs).map (·.1)/\∀ g,g∈fs.map (·.1)->g∈(lX f v fs).map (·.1)
 | []=>⟨by simp[lX],λg h=>by simp at h⟩
 | (k,x) :: r=>by
  obtain⟨i1,i2⟩:=oX f v r;rw[show lX f v ((k,x) :: r)=(if k=f then (k,v) :: r else (k,x) :: lX f v r) from rfl]
  by_cases z:k=f
  .rw[if_pos z];subst z;exact⟨by simp,λg h=>by simpa using h⟩
  .rw[if_neg z];refine⟨?_,λg h=>?_⟩
   .rw[aD5];exact aDJ _ i1
   .rw[aD5]at h ⊢;rcases aDi.mp h with e | e
    .exact aDi.mpr (.inl e)
    .exact aDJ _ (i2 g e)
def pZ (f:Str) (v:V):∀ fs:List (Str×V),(lX f v fs).length<=fs.length+1
 | []=>by simp[lX]
 | (k,x) :: r=>by
  have D:=pZ f v r;rw[show lX f v ((k,x) :: r)=(if k=f then (k,v) :: r else (k,x) :: lX f v r) from rfl]
  by_cases z:k=f
  .rw[if_pos z,aD9,aD9];omega
  .rw[if_neg z,aD9,aD9];omega
def RelO.some_of {v:V} {o:Option Value} (r:RelO (some v) o):∃ u,o=some u/\RelV v u:=by
 cases o with
 | none=>exact(show False from r).elim
 | some u=>exact⟨u,rfl,r⟩
def RelO.none_of {o:Option Value} (r:RelO none o):o=none:=by
 cases o with
 | none=>rfl
 | some u=>exact(show False from r).elim
def Q8 {v:V} {u:Value} (r:RelV v u):PySem.W.handedIn u=true:=by
 cases v with
 | non=>cases (show u=Value.none from r);rfl
 | bl b=>cases (show u=Value.bool b from r);rfl
 | int i=>obtain⟨t,e⟩:=(show ∃ t,u=Value.int i t from r);cases e;rfl
 | str x=>obtain⟨t,e⟩:=(show ∃ t,u=Value.str x t from r);cases e;rfl
 | byt b=>obtain⟨t,e⟩:=(show ∃ t,u=Value.bytes b t from r);cases e;rfl
 | flt b=>obtain⟨t,e⟩:=(show ∃ t,u=Value.float b t from r);cases e;rfl
 | ref a=>cases (show u=Value.ref a from r);rfl
 | ty n=>cases (show u=Value.type n from r);rfl
section
variable {P:Program} {w:World} {H H':Hp} {h h':Heap} {a C dx:Addr} {fs fs':List (Str×V)}
def wO (hok:HOk P w H h) (e:H a=some (.ins C dx fs)):∃ mA,ObjM h a dx C mA/\(∀ f,RelO (fs.lookup f) (mA f))/\PySem.Within mA (fs.map (·.1))/\fs.length<=1000/\H dx=some (.own a):=by
 obtain⟨d,z,ne,D,mA,n,r,q⟩:=(show ObjOk P w H h a (.ins C dx fs) from hok a _ e);exact⟨mA,⟨D,n,ne⟩,r,q,z,d⟩
end
structure Cls (K:PySem.W.Frag) (C:Addr):Prop where
 pg:PySem.W.plainGet K C Str.empty=true
 hd:PySem.W.hasDictIn K C=true
 po:PySem.W.plainOver K C=true
 sa:PySem.W.findIn K (.ref C) "__setattr__"=some (some (.builtin "object.__setattr__"))
def Cls.get {K:PySem.W.Frag} {C:Addr} (c:Cls K C) (f:Str):PySem.W.plainGet K C f=true:=c.pg
def NoAttr (K:PySem.W.Frag) (C:Addr) (f:Str):Prop:=PySem.W.findIn K (.ref C) f=some none
def NoAttr.taker {K:PySem.W.Frag} {C:Addr} {f:Str} (n:NoAttr K C f):PySem.W.takerIn K C f=some none:=by
 unfold PySem.W.takerIn;rw[show PySem.W.findIn K (.ref C) f=some none from n];rfl
structure x6 (K:PySem.W.Frag) (C:Addr) (m:Str) (f:Addr):Prop where
 at_:PySem.W.findIn K (.ref C) m=some (some (.ref f))
 fn:PySem.W.isFn K (.ref f)=true
 kp:PySem.W.keepIn K (.ref f)=true
section
variable {X:Cx} {pins:List (Addr×Obj)} {σ:St} {H:Hp} {s:Shared} {a C dx:Addr} {fs:List (Str×V)} {f:Str} {v:V} {A:Around} {E:Value->Shared->Prop}
def E5 {b:Bool} {Q:Value->Shared->Prop} (I:Inv X pins σ H s) (e:H a=some (.ins C dx fs)) (c:Cls X.K C) (n:NoAttr X.K C f) (l:fs.lookup f=some v)
 (h:∀ u s',Inv X pins σ H s'->RelV v u->Q u s'):wpAny (model X.prog X.w) A (getAttr (.ref a) f b) Q E s:=by
 obtain⟨mA,O,r,_,_,_⟩:=wO I.hok e;obtain⟨u,D,z⟩:=RelO.some_of (v:=v) (o:=mA f) (by rw[<- l];exact r f);exact w6 I.kIn O (c.get f) c.hd n D (Q8 z) (h u _ (I.tok _) z)
def E6 {m:Str} {g:Addr} {pl:Sem Bool} {Q:Value×List Value->Shared->Prop} (I:Inv X pins σ H s) (e:H a=some (.ins C dx fs)) (c:Cls X.K C) (k:x6 X.K C m g) (l:fs.lookup m=none)
 (h:Q (.ref g,[.ref a]) s):wpAny (model X.prog X.w) A (getMethod (.ref a) m pl) Q E s:=by
 obtain⟨mA,O,r,_,_,_⟩:=wO I.hok e;have z:mA m=none:=RelO.none_of (by rw[<- l];exact r m);exact W7 I.kIn O (c.get m) k.at_ k.fn z h
def E7 {y:V} {u:Value} {Q:Unit->Shared->Prop} (I:Inv X pins σ H s) (e:H a=some (.ins C dx fs)) (c:Cls X.K C) (n:NoAttr X.K C f) (hl:fs.length<1000) (L:RelV y u)
 (h:∀ s',Inv X pins σ (upd H a (.ins C dx (lX f y fs))) s'->Q () s'):wpAny (model X.prog X.w) A (setAttr (.ref a) f u) Q E s:=by
 obtain⟨mA,O,r,wi,_,J⟩:=wO I.hok e;have hz:(fs.map (·.1)).length<=sizeLine:=by rw[aDG,sizeLine_eq];omega
 refine x5 I.kIn O c.sa c.po n.taker c.hd wi hz λh' D M=>h _ ?_;have hd:∃ o,h'.get? dx=some o:=let ⟨o,_,_,N,_⟩:=D.ns;⟨o,N⟩;refine I.write (x:=a) (e:=dx) (by rw[e];exact True.intro) (.inr J) (λb q U z=>(M.2 b U).trans z) hd ?_;refine⟨by rw[aG O.ne];exact J,?_,O.ne,D.obj,_,D.ns,λg=>?_,λg Y=>?_⟩
 .have:=pZ f y fs;omega
 .show RelO ((lX f y fs).lookup g) (if g=f then some u else mA g);rw[pY]
  by_cases q:g=f
  .rw[if_pos q,if_pos q];exact L
  .rw[if_neg q,if_neg q];exact r g
 .by_cases q:g=f
  .rw[q];exact(oX f y fs).1
  .refine(oX f y fs).2 g (wi g λz=>Y ?_);show (if g=f then some u else mA g)=none;rw[if_neg q];exact z
def Inv.made (I:Inv X pins σ H s):Inv X pins σ (upd (upd H s.heap.objs.size (.own (s.heap.objs.size+1))) (s.heap.objs.size+1) (.ins C s.heap.objs.size []))
 { s with heap:=(s.heap.push PySem.W.emptyDict).push (PySem.W.instObj C s.heap.objs.size) }:=by
 have e1:(s.heap.push PySem.W.emptyDict).get? s.heap.objs.size=some PySem.W.emptyDict:=aDN s.heap rfl;have z:((s.heap.push PySem.W.emptyDict).push (PySem.W.instObj C s.heap.objs.size)).get? (s.heap.objs.size+1)=some (PySem.W.instObj C s.heap.objs.size):=by
  have:=aDN (s.heap.push PySem.W.emptyDict) (o:=PySem.W.instObj C s.heap.objs.size) rfl
  rwa [Heap.size_push]at this
 have D:(s.heap.push PySem.W.emptyDict).Ns s.heap.objs.size (λ_=>none):=⟨PySem.W.emptyDict,#[],_,e1,rfl,(λe he=>absurd he (by simp)),λ_=>rfl⟩;have J:=I.laid (a:=s.heap.objs.size) (o:=.own (s.heap.objs.size+1)) (h':=s.heap.push PySem.W.emptyDict) (t':=s.toks) (λb u q=>aDH _ q) (Nat.le_refl _) ⟨_,e1⟩;refine J.laid (a:=s.heap.objs.size+1) (o:=.ins C s.heap.objs.size []) (t':=s.toks) (λb u q=>aDH _ q) (Nat.le_of_eq (Heap.size_push _ _)) ?_;have ne:s.heap.objs.size≠s.heap.objs.size+1:=aD3 (Nat.lt_succ_self _);refine⟨by rw[aG ne,aB],Nat.zero_le _,ne,z,λ_=>none,(Heap.Ns1.of_empty D).at λo q=>aDH _ q,λ_=>True.intro,λy L=>absurd rfl L⟩
def x8 {prog:Program} {w:World} {env:Env} {e:Expr} {f:Str} {pos:Pos} {s:Shared} {Q:Value->Shared->Prop} (D:attributeBase e f env (eval e env)=eval e env)
 (h:wpAny (model prog w) A (eval e env) (λo z=>wpAny (model prog w) A (getAttr o f true) Q E z) E s):wpAny (model prog w) A (eval (.Attribute e f pos) env) Q E s :=
 Attribute_any_ h (by rw[arm_eval_Attribute,D])
end
def aCh (K:PySem.W.Frag) (ta:TE) (f:Str):TE:=fun σ H Q=>ta σ H λx H1=>∃ a C dx fs v,x=.ref a/\H1 a=some (.ins C dx fs)/\Cls K C/\NoAttr K C f/\fs.lookup f=some v/\Q v H1
def aCi (K:PySem.W.Frag) (ta tv:TE) (f:Str):TS:=λD σ H=>tv σ H λy H1=>ta σ H1 λx H2=>∃ a C dx fs,x=.ref a/\H2 a=some (.ins C dx fs)/\Cls K C/\NoAttr K C f/\fs.length<1000 /\
 D.nx σ (upd H2 a (.ins C dx (lX f y fs)))
section
variable {X:Cx} {o e value:Expr} {f:Str} {pos pos' ag:Pos} {ta tv:TE}
def bK (he:PE X e ta) (z:attributeBase e f X.env (eval e X.env)=eval e X.env):PE X (.Attribute e f pos) (aCh X.K ta f):=by
 intro pins s σ H Q I h;refine x8 z (thn (he pins s σ H _ I h) λu U ⟨x,H1,D,J,a,C,dx,fs,v,ex,L,c,n,l,q⟩=>?_);subst ex;obtain rfl:u=Value.ref a:=J;exact E5 D L c n l λY s2 M N=>⟨v,H1,M,N,q⟩
def dW (z:PE X o ta) (J:PE X value tv) (hs:swapsWith value (some (.Attribute o f pos')) pos.line X.env=pure false):PS X (.Assign [.Attribute o f pos'] value pos) (aCi X.K ta tv f):=by
 intro pins s σ H D I h;refine plainObj_wpAny_Assign_Attribute (thn (J pins s σ H _ I h) λu L ⟨y,H1,M,N,q⟩=>thn (z pins L σ H1 _ M q) λU s2 ⟨x,H2,Y,rx,a,C,dx,fs,ex,ea,c,n,l,q2⟩=>?_) hs;subst ex;obtain rfl:U=Value.ref a:=rx;exact E7 Y ea c n l N λs3 I3=>⟨σ,_,I3,q2⟩
end
section
variable {X:Cx} {pins:List (Addr×Obj)} {σ:St} {H:Hp} {s:Shared} {A:Around} {E:Value->Shared->Prop} {Q:Value->Shared->Prop} {c:Value} {b:Bool}
inductive qN (K:PySem.W.Frag) (H:Hp):V->Value->Prop where
 | non:qN K H .non (.type "NoneType")
 | bl (x:Bool):qN K H (.bl x) (.type "bool")
 | int (i:Int):qN K H (.int i) (.type "int")
 | str (x:Str):qN K H (.str x) (.type "str")
 | flt (x:UInt64):qN K H (.flt x) (.type "float")
 | lst {a:Addr} {xs:List V} (e:H a=some (.lst xs)):qN K H (.ref a) (.type "list")
 | frz {a:Addr} {o:Obj} {xs:List V} (e:H a=some (.frz o (.lst xs))):qN K H (.ref a) (.type "list")
 | tup {a:Addr} {xs:List V} (e:H a=some (.tup xs)):qN K H (.ref a) (.type "tuple")
 | dK {a:Addr} {kvs:List (Key×V)} (e:H a=some (.dK kvs)):qN K H (.ref a) (.type "dict")
 | dT {a:Addr} {kvs:List (List Key×V)} (e:H a=some (.dT kvs)):qN K H (.ref a) (.type "dict")
 | ins {a C dx:Addr} {fs:List (Str×V)} (e:H a=some (.ins C dx fs)) (cl:Cls K C) (ha:PySem.W.findIn K (.ref C) "__class__"=some (some (.builtin "object.__class__")))
  (hn:PySem.W.specialIn K (.builtin "object.__class__") "__get__"=some (some (.builtin "getset_descriptor.__get__"))) (htk:PySem.W.takesIn K (.builtin "object.__class__")=some true)
  (hm:PySem.W.mroIn K C (.type "object")=some true):qN K H (.ref a) (.ref C)
end
structure Room (k:Nat) (A:Around):Prop where
 hd:A.handled=none
 dp:A.depth+3 * k+5<recursionLimit
 un:A.units+16 * k+200<cLine
def Room.mono {j k:Nat} {A:Around} (r:Room k A) (h:j<=k):Room j A:=⟨r.hd,by have:=r.dp;omega,by have:=r.un;omega⟩
def Room.deeper {k:Nat} {A:Around} (r:Room (k+1) A) (env:Env):Room k (A.deeper env) :=
 ⟨r.hd,by have:=r.dp;show A.depth+1+3 * k+5<_;omega,by have:=r.un;show A.units+3+16 * k+200<_;omega⟩
def E8 {A:Around} {C:Addr} {us:List Value} {z:List (Str×Value)}:(A.under (.builtin "type.__call__" ⟨.ref C :: us,z⟩)).depth=A.depth+1:=by
 first | rfl | simp[Around.under,Code.weight,Code.isCreation,Code.isGuard,Code.isCaller,Code.frames,Code.isFrame,guardIds]
def E9 {A:Around} {C:Addr} {us:List Value} {z:List (Str×Value)}:(A.under (.builtin "type.__call__" ⟨.ref C :: us,z⟩)).units=A.units+1:=by
 first | rfl | simp[Around.under,Code.cUnits,Code.frames,Code.isFrame]
def Room.make {k:Nat} {A:Around} (r:Room (k+1) A) (C:Addr) (us:List Value) (z:List (Str×Value)):Room k (A.under (.builtin "type.__call__" ⟨.ref C :: us,z⟩)) :=
 ⟨r.hd,by have:=r.dp;rw[E8];omega,by have:=r.un;rw[E9];omega⟩
def Room.depth {k:Nat} {A:Around} (r:Room k A):A.depth<recursionLimit:=by have:=r.dp;omega
def Room.units {k:Nat} {A:Around} (r:Room k A):A.units+64<cLine:=by have:=r.un;omega
def x9:TA:=λ_ H Q=>Q [] H
def aAa (ta:TE) (tr:TA):TA:=fun σ H Q=>ta σ H λx H1=>tr σ H1 λxs H2=>Q (x :: xs) H2
section
variable {X:Cx} {e:Expr} {es:List Expr} {te:TE} {t:TA} {pos:Pos}
def aE:PA X [] x9:=λ_ _ _ _ H Q I h=>Calls.spliced_nil ⟨[],H,I,.nil,h⟩
def aA (z:PE X e te) (D:PA X es t) (hs:starEach (e :: es) X.env=(false,eval e X.env) :: starEach es X.env:=by rfl):PA X (e :: es) (aAa te t):=by
 intro pos pins s σ H Q I h;rw[hs];show wpAny _ _ (spliced ((false,eval e X.env) :: backTo pos (starEach es X.env))) _ _ s;refine Calls.spliced_cons (thn (z pins s σ H _ I h) λu J ⟨x,H1,L,r1,M⟩=>?_);exact thn (D pos pins J σ H1 _ L M) λus Y ⟨xs,H2,N,r2,U⟩=>⟨x :: xs,H2,N,.cons r1 r2,U⟩
def aCj (t:TA):TE:=fun σ H Q=>t σ H λxs H1=>xs.length<=sizeLine/\∀ p,H1 p=none->Q (.ref p) (upd H1 p (.tup xs))
def aCk (t:TA):TE:=fun σ H Q=>t σ H λxs H1=>xs.length<=sizeLine/\∀ p,H1 p=none->Q (.ref p) (upd H1 p (.lst xs))
def cF {L} (h:PA X es t):PE X (.Tuple es L pos) (aCj t):=by
 intro pins s σ H Q I M;refine wpAny_Tuple_spliced (thn (h pos pins s σ H _ I M) λus D ⟨xs,H1,J,r,z,q⟩=>⟨by rw[<- r.length];exact z,?_⟩);have N:H1 D.heap.objs.size=none:=J.hok.fresh (Nat.le_refl _);refine⟨.ref D.heap.objs.size,upd H1 D.heap.objs.size (.tup xs),J.laid (t':=D.toks) (λb u e=>aDH _ e) (Nat.le_refl _) ?_,rfl,q _ N⟩;exact⟨z,us,r,⟨_,aDN _ rfl,rfl,_,rfl⟩⟩
def dA (h:PA X es t):PE X (.List es pos) (aCk t):=by
 intro pins s σ H Q I L;refine wpAny_List_spliced (thn (h pos pins s σ H _ I L) λus D ⟨xs,H1,J,r,z,q⟩=>⟨by rw[<- r.length];exact z,?_⟩);have M:H1 D.heap.objs.size=none:=J.hok.fresh (Nat.le_refl _);refine⟨.ref D.heap.objs.size,upd H1 D.heap.objs.size (.lst xs),J.laid (t':=D.toks) (λb u e=>aDH _ e) (Nat.le_refl _) ?_,rfl,q _ M⟩;exact⟨z,us,0,r,aDN _ rfl⟩
end
abbrev Sp:=List V->Hp->VK->XK->Prop
abbrev CXT:=List Env->Hp->Shared->XK->Value->Shared->Prop
structure Env0 (P:Program) (w:World) (K:PySem.W.Frag) (mg:Str->Option Value) (base:Heap) (A:Around) (outer:List Env) (s:Shared) (H:Hp):Prop where
 frames:A.frames=some outer
 mod:Mod K mg base
 bs:∀ b o,base.get? b=some o->s.heap.get? b=some o/\H b=none
 bsz:base.objs.size<=s.heap.objs.size
 funs:s.heap.FunFrames base outer
 frf:∀ b∈frs outer,H b=none
 hok:HOk P w H s.heap
 bare:AllBare s.gens
def CE (outer:List Env) (P:Program) (w:World) (H:Hp) (s:Shared) (Q:VK) (u:Value) (s':Shared):Prop :=
 ∃ v H',s'.os=s.os/\AllBare s'.gens/\Un (frs outer) [] H H' s.heap s'.heap/\HOk P w H' s'.heap/\RelV v u/\Q v H'
def CR (CX:CXT) (outer:List Env) (P:Program) (w:World) (H:Hp) (s:Shared) (Q:VK) (E:XK) (r:Result) (s':Shared):Prop :=
 match r with
 | .ok (.ret u)=>CE outer P w H s Q u s'
 | .ok _=>False
 | .error e=>CX outer H s E e s'
structure FnOk (P:Program) (w:World) (K:PySem.W.Frag) (mg:Str->Option Value) (base:Heap) (CX:CXT) (k:Nat) (f:Addr) (fd:FuncData) (ps:List Str) (sp:Sp):Prop where
 len:∀ vs H Q E,sp vs H Q E->vs.length=ps.length
 run:∀ (A:Around) (outer:List Env) (s:Shared) (H:Hp) (args:Args) (us:List Value) (vs:List V) (Q:VK) (E:XK),Room k A->Env0 P w K mg base A outer s H->BindsTo s fd args (ps.zip us)->Vals vs us->sp vs H Q E ->
  codeAny (model P w) A (.call (.ref f) args) (CR CX outer P w H s Q E) s
def FnOk.imp {P:Program} {w:World} {K:PySem.W.Frag} {mg:Str->Option Value} {base:Heap} {CX:CXT} {k:Nat} {f:Addr} {fd:FuncData} {ps:List Str} {sp z:Sp} (F:FnOk P w K mg base CX k f fd ps sp)
 (h:∀ vs H Q E,z vs H Q E->sp vs H Q E):FnOk P w K mg base CX k f fd ps z :=
 ⟨λvs H Q E q=>F.len vs H Q E (h _ _ _ _ q),λA outer s H args us vs Q E D he I J hs=>F.run A outer s H args us vs Q E D he I J (h _ _ _ _ hs)⟩
def Env0.make {P:Program} {w:World} {K:PySem.W.Frag} {mg:Str->Option Value} {base:Heap} {A:Around} {outer:List Env} {s:Shared} {H:Hp} (e:Env0 P w K mg base A outer s H) (C:Addr) (us:List Value) (z:List (Str×Value)) :
 Env0 P w K mg base (A.under (.builtin "type.__call__" ⟨.ref C :: us,z⟩)) outer s H:=⟨by first | exact e.frames | (simpa[Around.under,Code.envs,Code.isFrame,pushEnvs]using e.frames),e.mod,e.bs,e.bsz,e.funs,e.frf,e.hok,e.bare⟩
section
variable {X:Cx} {pins:List (Addr×Obj)} {σ:St} {H:Hp} {s s':Shared}
def Inv.env0 (I:Inv X pins σ H s):Env0 X.prog X.w X.K X.mg X.base X.A X.stack s H :=
 ⟨I.ok.frames,I.ok.mod,I.bs,Nat.le_trans I.ok.bsz I.sz,I.stack,I.stkFree,I.hok,I.bare⟩
def Inv.after {Q:VK} {u:Value} (I:Inv X pins σ H s) (h:CE X.stack X.prog X.w H s Q u s'):EP X pins σ Q u s':=by
 obtain⟨v,H',os,bare,un,hok,r,q⟩:=h;obtain⟨J,g,d,t,D⟩:=s';obtain rfl:D=s.os:=os;exact⟨v,H',I.call (h':=J) (g':=g) (d':=d) (t':=t) (ch:=[]) un hok bare (λb z=>absurd z (by simp)),r,q⟩
end
def aAb (sp:Sp) (ae:List V) (E:XK) (t:TA):TE:=fun σ H Q=>t σ H λvs H1=>sp (vs++ae) H1 Q E
def aAc (C:Addr) (m:Str) (sp:Sp) (ae:List V) (E:XK) (ta:TE) (t:TA):TE:=fun σ H Q=>ta σ H λx H1=>∃ a dx fs,x=.ref a/\H1 a=some (.ins C dx fs)/\fs.lookup m=none /\
 t σ H1 λvs H2=>sp (x :: (vs++ae)) H2 Q E
def M8 (C:Addr) (sp:Sp) (ae:List V) (E:XK) (t:TA):TE:=fun σ H Q=>t σ H λvs H1=>∀ x dx,H1 x=none->H1 dx=none->dx≠x ->
 sp (.ref x :: (vs++ae)) (upd (upd H1 dx (.own x)) x (.ins C dx [])) (λv H2=>v=.non/\Q (.ref x) H2) E
def Binds (K:PySem.W.Frag) (fd:FuncData) (ps:List Str) (ds:List Value):Prop :=
 ∀ (s:Shared) (us:List Value),K.In s.heap->(us++ds).length=ps.length->BindsTo s fd ⟨us,[]⟩ (ps.zip (us++ds))
def Binds.all {K:PySem.W.Frag} {fd:FuncData} {ps:List Str} (h:∀ us:List Value,us.length=ps.length->bindArgs fd ⟨us,[]⟩=pure (ps.zip us)):Binds K fd ps []:=λs us _ z=>by
 rw[List.append_nil]at z ⊢;exact .of_eq (h us z)
def mJ (CX:CXT) (X:Cx) (E:XK):Prop:=∀ (pins:List (Addr×Obj)) (σ:St) (H:Hp) (s:Shared) (e:Value) (s':Shared),Inv X pins σ H s->CX X.stack H s E e s'->X.xe e s'
section
variable {X:Cx} {CX:CXT} {k:Nat} {f C:Addr} {fd:FuncData} {ps:List Str} {sp:Sp} {ae:List V} {ds:List Value} {E:XK} {x m:Str} {p pos apos:Pos} {e o:Expr} {es:List Expr} {ta:TE} {t:TA}
def F0 {pins:List (Addr×Obj)} {σ:St} {H:Hp} {s:Shared} {Q:VK} {us:List Value} {vs:List V} (F:FnOk X.prog X.w X.K X.mg X.base CX k f fd ps sp) (D:Room k X.A) (J:Binds X.K fd ps ds) (hd:Vals ae ds) (L:mJ CX X E)
 (I:Inv X pins σ H s) (r:Vals vs us) (h:sp (vs++ae) H Q E):wpAny (model X.prog X.w) X.A (call (.ref f) us) (EP X pins σ Q) X.xe s:=by
 have r2:Vals (vs++ae) (us++ds):=r.append hd;have M:(us++ds).length=ps.length:=by rw[<- r2.length];exact F.len _ _ _ _ h
 refine wpAny_call (codeAny_mono (F.run X.A X.stack s H ⟨us,[]⟩ (us++ds) (vs++ae) Q E D I.env0 (J s us I.kIn M) r2 h) λr s' z=>?_);cases r with
 | error e=>exact L pins σ H s e s' I z
 | ok fl =>
  cases fl with
  | ret u=>exact I.after z
  | next=>exact False.elim z
  | brk=>exact False.elim z
  | cont=>exact False.elim z
def y6 (F:FnOk X.prog X.w X.K X.mg X.base CX k f fd ps sp) (D:Room k X.A) (J:Gl X x) (L:X.mg x=some (.ref f)) (M:PySem.W.keepIn X.K (.ref f)=true) (N:Binds X.K fd ps ds) (hd:Vals ae ds) (U:mJ CX X E)
 (Y:PA X (e :: es) t) (hdb:(x == ("__debug__":Str))=false:=by decide) (he:starEach (e :: es) X.env=(false,eval e X.env) :: starEach es X.env:=by rfl) (hpl:(backTo pos (starEach es X.env)).any (·.1)=false:=by rfl) :
 PE X (.Call (.Name x p) (e :: es) [] pos) (aAb sp ae E t):=by
 intro pins s σ H Q I h;refine wpAny_Call_Name_kw (mZ I J L ?_ hdb);refine PySem.W.callWith_K (h₀:=X.base) I.ok.mod.kin M (thn (Y pos pins s σ H _ I h) λus s1 ⟨vs,H1,z,r,q⟩=>⟨z.kIn,?_⟩) he hpl;exact F0 F D N hd U z r q
def y8 {pl:Sem Bool} (he:PE X o ta) (c:Cls X.K C) (z:x6 X.K C m f) (F:FnOk X.prog X.w X.K X.mg X.base CX k f fd ps sp) (M:Room k X.A) (N:Binds X.K fd ps ds) (hd:Vals ae ds) (U:mJ CX X E) (Y:PA X (e :: es) t)
 (hst:starEach (e :: es) X.env=(false,eval e X.env) :: starEach es X.env:=by rfl) (hpl:(backTo pos (starEach es X.env)).any (·.1)=false:=by rfl)
 (ht:eval (.Call (.Attribute o m apos) (e :: es) [] pos) X.env=(do
  let D <- eval o X.env
  standAt apos.atName
  let (f,first) <- holding [D] (getMethod D m pl)
  callWith pos f first (backTo pos (starEach (e :: es) X.env)) (backToKw pos (keywordEach [] X.env))):=by rfl) :
 PE X (.Call (.Attribute o m apos) (e :: es) [] pos) (aAc C m sp ae E ta t):=by
 intro pins s σ H Q I h;refine PySem.W.methodCall_KW (pl:=pl) (thn (he pins s σ H _ I h) λu s1 ⟨x,H1,J,rx,a,dx,fs,ex,ea,l,q⟩=>?_) ht;subst ex;obtain rfl:u=Value.ref a:=rx;refine E6 J ea c z l ?_;refine PySem.W.callWith_K (first:=[.ref a]) (h₀:=X.base) I.ok.mod.kin z.kp (thn (Y pos pins s1 σ H1 _ J q) λus s2 ⟨vs,H2,L,r,q2⟩=>⟨L.kIn,?_⟩) hst hpl;exact F0 (us:=.ref a :: us) (vs:=.ref a :: vs) F M N hd U L (.cons rfl r) q2
structure Mk (K:PySem.W.Frag) (C f:Addr):Prop where
 makes:PySem.W.makesIn K C=true
 init:PySem.W.findIn K (.ref C) "__init__"=some (some (.ref f))
 fn:PySem.W.isFn K (.ref f)=true
 kp:PySem.W.keepIn K (.ref C)=true
def yX {pins:List (Addr×Obj)} {σ:St} {H:Hp} {s:Shared} {Q:VK} {us:List Value} {vs:List V} (M:Mk X.K C f) (F:FnOk X.prog X.w X.K X.mg X.base CX k f fd ps sp) (L:Room (k+1) X.A) (N:Binds X.K fd ps ds) (hd:Vals ae ds)
 (U:mJ CX X E) (I:Inv X pins σ H s) (r:Vals vs us)
 (h:∀ x dx,H x=none->H dx=none->dx≠x->sp (.ref x :: (vs++ae)) (upd (upd H dx (.own x)) x (.ins C dx [])) (λv H2=>v=.non/\Q (.ref x) H2) E) :
 wpAny (model X.prog X.w) X.A (call (.ref C) us) (EP X pins σ Q) X.xe s:=by
 have J:=h (s.heap.objs.size+1) s.heap.objs.size (I.hok.fresh (Nat.le_succ _)) (I.hok.fresh (Nat.le_refl _)) (aD3 (Nat.lt_succ_self _));have D:=Inv.made (C:=C) I;have r2:Vals (V.ref (s.heap.objs.size+1) :: (vs++ae)) (Value.ref (s.heap.objs.size+1) :: (us++ds)):=.cons rfl (r.append hd);have Y:(Value.ref (s.heap.objs.size+1) :: us++ds).length=ps.length:=by
  have e:=r2.length;rw[F.len _ _ _ _ J]at e;exact e.symm
 refine wpAny_call (W8 (f:=f) I.kIn M.makes M.init (beq_iff_eq.mp M.fn) (codeAny_mono (F.run _ X.stack _ _ ⟨Value.ref (s.heap.objs.size+1) :: us,[]⟩ (Value.ref (s.heap.objs.size+1) :: (us++ds)) _ _ E (L.make C us [])
  (D.env0.make C us []) (N _ (Value.ref (s.heap.objs.size+1) :: us) D.kIn Y) r2 J) λr s' z=>?_))
 cases r with
 | error e=>exact U pins σ _ _ e s' D z
 | ok fl =>
  cases fl with
  | ret u =>
   obtain⟨v,H',I3,rv,ev,q3⟩:=D.after z;subst ev;exact⟨rv,⟨V.ref (s.heap.objs.size+1),H',I3,rfl,q3⟩⟩
  | next=>exact False.elim z
  | brk=>exact False.elim z
  | cont=>exact False.elim z
def y9 (M:Mk X.K C f) (F:FnOk X.prog X.w X.K X.mg X.base CX k f fd ps sp) (D:Room (k+1) X.A) (J:Gl X x) (L:X.mg x=some (.ref C)) (N:Binds X.K fd ps ds) (hd:Vals ae ds) (U:mJ CX X E)
 (Y:PA X (e :: es) t) (hdb:(x == ("__debug__":Str))=false:=by decide) (he:starEach (e :: es) X.env=(false,eval e X.env) :: starEach es X.env:=by rfl) (hpl:(backTo pos (starEach es X.env)).any (·.1)=false:=by rfl) :
 PE X (.Call (.Name x p) (e :: es) [] pos) (M8 C sp ae E t):=by
 intro pins s σ H Q I h;refine wpAny_Call_Name_kw (mZ I J L ?_ hdb);refine PySem.W.callWith_K (h₀:=X.base) I.ok.mod.kin M.kp (thn (Y pos pins s σ H _ I h) λus s1 ⟨vs,H1,z,r,q⟩=>⟨z.kIn,?_⟩) he hpl;exact yX M F D N hd U z r q
def W9 (M:Mk X.K C f) (F:FnOk X.prog X.w X.K X.mg X.base CX k f fd ps sp) (z:Room (k+1) X.A) (D:Gl X x) (J:X.mg x=some (.ref C)) (L:Binds X.K fd ps ds) (hd:Vals ae ds) (N:mJ CX X E)
 (hdb:(x == ("__debug__":Str))=false:=by decide):PE X (.Call (.Name x p) [] [] pos) (M8 C sp ae E x9):=by
 intro pins s σ H Q I h;refine wpAny_Call_Name_kw (mZ I D J ?_ hdb);exact PySem.W.callWith_K0 I.kIn M.kp (yX (us:=[]) M F z L hd N I .nil h)
end
def PK (X:Cx) (ai:List Keyword) (t:TA):Prop :=
 ∀ (pos:Pos) (pins:List (Addr×Obj)) (s:Shared) (σ:St) (H:Hp) (Q:List V->Hp->Prop),Inv X pins σ H s->t σ H Q->wpAny (model X.prog X.w) X.A (evalAll ((backToKw pos (keywordEach ai X.env)).map (·.2))) (AP X pins σ Q) X.xe s
section
variable {X:Cx} {CX:CXT} {k:Nat} {f C:Addr} {fd:FuncData} {ps ks:List Str} {sp:Sp} {E:XK} {x m:Str} {p pos apos ak:Pos} {e o:Expr} {es:List Expr} {ai:List Keyword} {te ta:TE} {t tk:TA} {nm:Option Str}
def aAv:PK X [] x9:=λ_ _ _ _ H Q I h=>wpAny_evalAll_nil ⟨[],H,I,.nil,h⟩
def z7 (z:PE X e te) (D:PK X ai t):PK X (⟨nm,e,ak⟩ :: ai) (aAa te t):=by
 intro pos pins s σ H Q I h;show wpAny _ _ (evalAll ((do let v <- eval e X.env;standAt pos;pure v) :: (backToKw pos (keywordEach ai X.env)).map (·.2))) _ _ s;refine wpAny_evalAll_cons (aDE (thn (z pins s σ H _ I h) λu J ⟨x,H1,L,r1,M⟩=>aDE (wpAny_standAt (aDF ?_))));exact thn (D pos pins J σ H1 _ L M) λus Y ⟨xs,H2,N,r2,U⟩=>⟨x :: xs,H2,N,.cons r1 r2,U⟩
variable {g:List Value->List Value->List Value} {gV:List V->List V->List V}
end
structure FnScope (N P:List Str) (sc:Scope):Prop where
 kind:sc.kind=.function
 co:sc.isCoroutine=false
 gen:sc.isGenerator=false
 nd:N.Nodup
 pre:N.take P.length=P
 par:∀ x∈P,sc.names.lookup x=some .local\/sc.names.lookup x=some .cell
 nofree:∀ y∈sc.names,y.2≠.free
def vA {kindOf:Str->Option NameKind} {x:Str}:∀ {binds:List (Str×Value)} {m:Str->Option Value},(∀ v,(x,v)∉binds)->bindL kindOf binds m x=m x
 | [],_,_=>rfl
 | (n,v) :: r,m,h=>by
  unfold bindL;rw[vA λw hw=>h w (aDJ _ hw)];split
  .have:x≠n:=by rintro rfl;exact h v aDI
   simp[this]
  .rfl
def vB {kindOf:Str->Option NameKind} {x:Str}:∀ {binds:List (Str×Value)} {m:Str->Option Value},(∀ v,(x,v)∉binds)->bindC kindOf binds m x=m x
 | [],_,_=>rfl
 | (n,v) :: r,m,h=>by
  unfold bindC;rw[vB λw hw=>h w (aDJ _ hw)];split
  .rfl
  .have:x≠n:=by rintro rfl;exact h v aDI
   simp[this]
def vC {kindOf:Str->Option NameKind} {x:Str} {v:Value}:∀ {P:List Str} {vs:List Value} {i:Nat} {m:Str->Option Value},P.Nodup->P[i]?=some x->vs[i]?=some v->kindOf x=some .local ->
 bindL kindOf (P.zip vs) m x=some v
 | [],_,_,_,_,h,_,_=>by simp at h
 | _ :: _,[],_,_,_,_,h,_=>by simp at h
 | p :: P,w :: vs,0,m,nd,h1,h2,z=>by
  simp at h1 h2;subst h1;subst h2;show bindL kindOf ((p,w) :: P.zip vs) m p=_;unfold bindL;rw[vA λv D=>(List.nodup_cons.mp nd).1 (List.of_mem_zip D).1,if_pos z];simp
 | p :: P,w :: vs,i+1,m,nd,h1,h2,z=>by
  show bindL kindOf ((p,w) :: P.zip vs) m x=_;unfold bindL;exact vC (i:=i) (List.nodup_cons.mp nd).2 (by simpa using h1) (by simpa using h2) z
def vD {kindOf:Str->Option NameKind} {x:Str} {v:Value}:∀ {P:List Str} {vs:List Value} {i:Nat} {m:Str->Option Value},P.Nodup->P[i]?=some x->vs[i]?=some v->kindOf x≠some .local ->
 bindC kindOf (P.zip vs) m x=some v
 | [],_,_,_,_,h,_,_=>by simp at h
 | _ :: _,[],_,_,_,_,h,_=>by simp at h
 | p :: P,w :: vs,0,m,nd,h1,h2,z=>by
  simp at h1 h2;subst h1;subst h2;show bindC kindOf ((p,w) :: P.zip vs) m p=_;unfold bindC;rw[vB λv D=>(List.nodup_cons.mp nd).1 (List.of_mem_zip D).1,if_neg z];simp
 | p :: P,w :: vs,i+1,m,nd,h1,h2,z=>by
  show bindC kindOf ((p,w) :: P.zip vs) m x=_;unfold bindC;exact vD (i:=i) (List.nodup_cons.mp nd).2 (by simpa using h1) (by simpa using h2) z
def mC (N:List Str) (vs:List V):St:=vs.map some++List.replicate (N.length - vs.length) none
def yY (CX:CXT) (P:Program) (w:World) (K:PySem.W.Frag) (mg:Str->Option Value) (base:Heap) (N:List Str) (qual:Str) (scope:Scope) (f:Addr) (cd:Value) (A:Around) (outer:List Env) (s:Shared) (H:Hp) (E:XK):Cx where
 prog:=P
 w:=w
 K:=K
 mg:=mg
 base:=base
 A:=A.deeper (envOfC qual scope s.heap.objs.size f cd)
 N:=N
 s₀:=s
 H₀:=H
 env:=envOfC qual scope s.heap.objs.size f cd
 outer:=outer
 stack:=envOfC qual scope s.heap.objs.size f cd :: outer
 ex:=[]
 calm:=true
 fn:=λ_=>true
 pn:=[]
 xe:=λe s'=>wpAny (model P w) (A.deeper (envOfC qual scope s.heap.objs.size f cd)) (leaving (envOfC qual scope s.heap.objs.size f cd) e) (λ_ s''=>CX outer H s E e s'') (λe' s''=>CX outer H s E e' s'') s'
def yZ {z:Scope} {n:Nat} {x:Str} (h:z.names.lookup x=some .cell):∃ c,(cellsFrom n z.names []).lookup x=some c:=by
 have q:=PySem.W.cellsFrom_some z.names n [] (.inl h);exact Option.isSome_iff_exists.mp q
def Q9 {CX:CXT} {P:Program} {w:World} {K:PySem.W.Frag} {mg:Str->Option Value} {base:Heap} {N ps:List Str} {qual:Str} {scope:Scope} {f:Addr} {M:Value} {A:Around} {outer:List Env} {s U:Shared} {H:Hp} {E:XK} {us:List Value} {vs:List V}
 (S:FnScope N ps scope) (hd:A.handled=none) (D:Env0 P w K mg base A outer s H) (hl:vs.length=ps.length) (r:Vals vs us)
 (x:InCallC s s.heap.objs.size (bindL (envOfC qual scope s.heap.objs.size f M).kindOf (ps.zip us) λ_=>none) (cellsFrom (s.heap.objs.size+1) scope.names []) (bindC (envOfC qual scope s.heap.objs.size f M).kindOf (ps.zip us) λ_=>none) U) :
 Inv (yY CX P w K mg base N qual scope f M A outer s H E) [] (mC N vs) H U:=by
 have hpl:ps.length<=N.length:=by have:=congrArg List.length S.pre;rw[aDW]at this;omega
 obtain⟨h1,tk,rfl,Y⟩:=x.done;have I:∀ b:Addr,b∉(yY CX P w K mg base N qual scope f M A outer s H E).ex:=λb z=>absurd (show b∈([]:List Addr) from z) (by simp);refine⟨⟨D.mod,S.kind,rfl,rfl,Nat.le_refl _,λy z c h1 h2=>?_,λy hy=>?_,λy c _ h=>?_,λ_=>hd,Around.frames_deeper D.frames,.inr ⟨rfl,rfl⟩,λb z=>absurd z (I b),D.bs,D.bsz,λb _ _=>I b,λb z=>absurd z (I b),D.funs,D.frf⟩,
  rfl,D.bare,Un.kept Y,⟨_,x.toInCall.ns,λi y v h1 h2 h3=>?_⟩,λy c h=>⟨_,x.cell y c h⟩,D.hok.fresh (Nat.le_refl _),λy c h=>?_,λp J=>absurd (show p∈([]:List (Addr×Obj)) from J) (by simp),D.hok.kept Y,?_⟩
 .exact name_of_addr x.apart (PySem.mem_of_lookup h1) (PySem.mem_of_lookup h2)
 .have hy:scope.names.lookup y=some .cell\/scope.names.lookup y=some .free:=hy;rcases hy with hy | hy
  .exact yZ hy
  .exact absurd rfl (S.nofree _ (PySem.mem_of_lookup hy))
 .exact Nat.le_of_lt (x.above y c (PySem.mem_of_lookup h))
 .have hi:i<vs.length:=by
   unfold mC at h2
   by_cases hi:i<vs.length
   .exact hi
   .rw[List.getElem?_append_right (by simpa using hi)]at h2;rw[List.getElem?_replicate]at h2;split at h2 <;> cases h2
  have ha:vs[i]?=some v:=by
   unfold mC at h2;rw[List.getElem?_append_left (by simpa using hi),aD4]at h2;cases e:vs[i]? with
   | none=>rw[e]at h2;cases h2
   | some a=>rw[e]at h2;cases h2;rfl
  obtain⟨u,hu,rv⟩:=r.get ha;have J:ps[i]?=some y:=by
   rw[<- S.pre,List.getElem?_take_of_lt (by omega)];exact h1
  have L:ps.Nodup:=by rw[<- S.pre];exact S.nd.sublist (List.take_sublist _ _)
  refine⟨u,rv,?_⟩;rcases S.par y (aDR J)with k | k
  .exact .inl ⟨k,vC L J hu k⟩
  .obtain⟨c,e⟩:=yZ (n:=s.heap.objs.size+1) k;refine .inr ⟨.inl k,c,e,?_⟩;have q:=x.cell y c e;rw[vD L J hu (by show scope.names.lookup y≠_;rw[k];decide)]at q;exact q
 .exact D.hok.fresh (Nat.le_of_lt (x.above y c (PySem.mem_of_lookup h)))
 .unfold mC;show _=N.length;rw[aDP,aDG,aD0];omega
def X0 {CX:CXT} {P:Program} {w:World} {K:PySem.W.Frag} {mg:Str->Option Value} {base:Heap} {k:Nat} {f:Addr} {name qual:Str} {params:Arguments} {body:List Stmt} {scope:Scope} {dV kV U pm z ct oc:Value} {an od:Option Addr}
 {am:Array (Option Value)} {N ps:List Str} {sp:Sp} (lk:K.lookup f=some ⟨oc,od,.func (PySem.W.fnOf name qual params body scope dV kV U pm an z ct),am⟩) (ao:PySem.W.codeIn K z qual=true) (S:FnScope N ps scope)
 (len:∀ vs H Q E,sp vs H Q E->vs.length=ps.length)
 (L:∀ (A:Around) (outer:List Env) (s:Shared) (H:Hp) (vs:List V) (Q:VK) (E:XK),Room k (A.deeper (envOfC qual scope s.heap.objs.size f z))->sp vs H Q E ->
  ∃ t,PSs (yY CX P w K mg base N qual scope f z A outer s H E) body t/\t { nx:=λ_ H'=>Q .non H',rt:=Q } (mC N vs) H) :
 FnOk P w K mg base CX (k+1) f (PySem.W.fnOf name qual params body scope dV kV U pm an z ct) ps sp:=by
 refine⟨len,λA outer s H args us vs Q E hr Y hb r al=>?_⟩;have hl:=len _ _ _ _ al;have KX:K.In s.heap:=Y.mod.kin.keeps λb o e=>(Y.bs b o e).1;have lim:s.heap.NoLimit:=Y.mod.nolimit.keeps λb o e=>(Y.bs b o e).1;have M:∀ y∈ps.zip us,scope.names.lookup y.1=some .local\/(scope.names.lookup y.1=some .cell/\((cellsFrom (s.heap.objs.size+1) scope.names []).lookup y.1).isSome=true):=λ⟨n,v⟩ hy=>by
  rcases S.par n (List.of_mem_zip hy).1 with q | q
  .exact .inl q
  .exact .inr ⟨q,PySem.W.cellsFrom_some _ _ _ (.inl q)⟩
 refine codeAny_call_function hr.depth (KX _ _ lk) rfl S.co S.gen rfl (PySem.W.codeRec_of KX ao) (hb _ _ _ _ ?_);refine wpAny_newFunctionEnv_cells S.kind M λenv he s1 x=>?_;subst he;refine⟨lim.keeps x.toInCall.keep,codeAny_func ?_⟩;obtain⟨t,ht,hq⟩:=L A outer s H vs Q E (hr.deeper _) al;have I:Inv (yY CX P w K mg base N qual scope f z A outer s H E) [] (mC N vs) H s1:=Q9 S hr.hd Y hl r x;refine wpAny_mono (ht [] s1 (mC N vs) H _ I hq) (λfl s' hs=>?_) λe s' hs=>hs;have fin:∀ {D:St} {H':Hp} {v:V} {u:Value},Inv (yY CX P w K mg base N qual scope f z A outer s H E) [] D H' s'->RelV v u->Q v H'->CE outer P w H s Q u s' :=
  λ{D H' v u} J rv q=>⟨v,H',J.os,J.bare,J.base,J.hok,rv,q⟩
 cases fl with
 | ret u =>
  obtain⟨v,D,H',J,rv,q⟩:=hs;exact fin J rv q
 | next =>
  obtain⟨D,H',J,q⟩:=hs;exact fin (v:=V.non) (u:=Value.none) J rfl q
 | brk =>
  obtain⟨_,_,_,q⟩:=hs;exact False.elim q
 | cont =>
  obtain⟨_,_,_,q⟩:=hs;exact False.elim q
section
variable {X:Cx} {x:Str} {p pos:Pos} {e:Expr} {es:List Expr} {t:TA} {id T:String} {r:List V->Hp->VK->Prop}
def tCB (r:List V->Hp->VK->Prop) (t:TA):TE:=fun σ H Q=>t σ H λvs H1=>r vs H1 Q
def aP (z:fJ X (.builtin id) r) (D:Gl X x) (J:X.mg x=none) (L:bootBuiltins x=some (.builtin id)) (M:PA X (e :: es) t) (N:x≠"__name__":=by decide) (hdb:(x == ("__debug__":Str))=false:=by decide)
 (he:starEach (e :: es) X.env=(false,eval e X.env) :: starEach es X.env:=by rfl) (hpl:(backTo pos (starEach es X.env)).any (·.1)=false:=by rfl):PE X (.Call (.Name x p) (e :: es) [] pos) (tCB r t):=by
 intro pins s σ H Q I h;refine wpAny_Call_Name_kw (kB I D J L ?_ N hdb);exact PyProof.Rows.callWith_builtin1 (thn (M pos pins s σ H _ I h) λus U ⟨vs,H1,Y,r1,q1⟩=>z pins U σ H1 vs us Q Y r1 q1) he hpl
def cL (z:fJ X (.type T) r) (D:Gl X x) (J:X.mg x=none) (L:bootBuiltins x=some (.type T)) (M:PA X (e :: es) t) (N:x≠"__name__":=by decide) (hdb:(x == ("__debug__":Str))=false:=by decide)
 (he:starEach (e :: es) X.env=(false,eval e X.env) :: starEach es X.env:=by rfl) (hpl:(backTo pos (starEach es X.env)).any (·.1)=false:=by rfl):PE X (.Call (.Name x p) (e :: es) [] pos) (tCB r t):=by
 intro pins s σ H Q I h;refine wpAny_Call_Name_kw (kB I D J L ?_ N hdb);exact PyProof.Rows.callWith_type1 (thn (M pos pins s σ H _ I h) λus U ⟨vs,H1,Y,r1,q1⟩=>z pins U σ H1 vs us Q Y r1 q1) he hpl
end
end L2
namespace HT
open PySem PyProof.Rows
def eqAt_int (A:Around) (s:Shared) (a:Int) (t:Tok) (c:Int) (u:Tok):∃ e,SeqAt.EqAt A s (.int a t) (.int c u) e/\(e=true↔a=c) :=
 ⟨(a == c),SeqAt.EqAt.int_int a t c u,by simp⟩
section
variable {prog:Program} {w:World} {A:Around} {E:Value->Shared->Prop} {s:Shared}
def cat_tup {t b:Addr} {vs ws:List Value} {Q:Value->Shared->Prop} (ht:IsTup s.heap t vs.toArray) (hb:IsTup s.heap b ws.toArray) (N:vs≠[])
 (h1:ws=[]->Q (.ref t) s) (h2:ws≠[]->Q (.ref s.heap.objs.size) { s with heap:=s.heap.push { cls:=.type "tuple",data:=.seq (vs++ws).toArray } })
 (hsz:vs.length+ws.length<=sizeLine):wpAny (model prog w) A (binaryOp .Add (.ref t) (.ref b)) Q E s:=by
 obtain⟨⟨cls,U,data,Y⟩,M,hc,n,hd⟩:=id ht;obtain⟨⟨al,D,data2,I⟩,z,J,n2,L⟩:=id hb;simp only at hc hd J L;subst hc hd J L;have e:vs.toArray++ws.toArray=(vs++ws).toArray:=by simp
 by_cases hw:ws=[]
 .exact concat_meets ⟨_,M,rfl⟩ ⟨_,z,rfl⟩ noFill_tuple_add seq_tuple_add PySem.F.slot_tuple_add PySem.F.entry_tuple_add (PySem.F.args_tuple_add_2 _ _)
   (tuple_addW1 t b vs.toArray ws.toArray n n2 U D Y I (by simpa using N) (by simp[hw])) ⟨M,z,h1 hw⟩
 .refine concat_meets ⟨_,M,rfl⟩ ⟨_,z,rfl⟩ noFill_tuple_add seq_tuple_add PySem.F.slot_tuple_add PySem.F.entry_tuple_add (PySem.F.args_tuple_add_2 _ _)
   (tuple_addW2 t b vs.toArray ws.toArray n n2 U D Y I (by simpa using N) (by simpa using hw) (by rw[aDO,aDO];exact hsz)) ⟨M,z,?_⟩
  rw[e];exact h2 hw
def sIx (n d:Nat):Option Int->Nat
 | none=>d
 | some v=>if v<0 then (v+(n:Int)).toNat else min v.toNat n
def sIx_none (n d:Nat):sIx n d none=d:=rfl
def sIx_nat (n d k:Nat):sIx n d (some (k:Int))=min k n:=by
 show (if (k:Int)<0 then ((k:Int)+(n:Int)).toNat else min (k:Int).toNat n)=min k n;rw[if_neg (by omega),Int.toNat_natCast]
def aAw (n d:Nat) (hd:d<=n) (o:Option Int):sIx n d o<=n:=by
 cases o with
 | none=>exact hd
 | some v =>
  show (if v<0 then (v+(n:Int)).toNat else min v.toNat n)<=n
  by_cases z:v<0
  .rw[if_pos z];omega
  .rw[if_neg z];exact Nat.min_le_right _ _
def M9 (v:Int) (n d:Nat):(if v<0 then max (v+(n:Int)) 0 else min v (n:Int))=((sIx n d (some v):Nat):Int):=by
 show (if v<0 then max (v+(n:Int)) 0 else min v (n:Int))=(((if v<0 then (v+(n:Int)).toNat else min v.toNat n):Nat):Int)
 by_cases z:v<0
 .simp only[if_pos z];omega
 .simp only[if_neg z];omega
def F5 (lo hi:Option Int) (n:Nat):Builtin.Slice.sliceAdjust lo hi 1 (n:Int)=(((sIx n 0 lo:Nat):Int),((sIx n n hi:Nat):Int)):=by
 have h1:¬ ((1:Int)<0):=by omega
 unfold Builtin.Slice.sliceAdjust;simp only[h1,if_false];refine Prod.ext ?_ ?_
 .cases lo with
  | none=>rfl
  | some v=>exact M9 v n 0
 .cases hi with
  | none=>rfl
  | some v=>exact M9 v n n
def F6 (i j:Nat):Builtin.Slice.slicePlaces (i:Int) (j:Int) 1=j - i:=by
 unfold Builtin.Slice.slicePlaces;have h1:(1:Int) > 0:=by omega
 simp only[h1,if_true,Int.ediv_one];split <;> omega
def rX {v:Value} {o:Option Int} {Q:Option Int->Shared->Prop} (p:IsPart v o) (h:Q o s):wpAny (model prog w) A (Builtin.Slice.slicePartIndex v) Q E s:=by
 cases p with
 | none=>exact slicePart_none h
 | int i t=>exact slicePart_int h
def sliceApplied_gen {L:Addr} {I J:Value} {lo hi:Option Int} {n:Nat} {Q:Int×Int×Nat->Shared->Prop} (hs:s.heap.IsSliceOf L I J .none) (pl:IsPart I lo) (M:IsPart J hi)
 (h:Q (((sIx n 0 lo:Nat):Int),1,sIx n n hi - sIx n 0 lo) s):wpAny (model prog w) A (Builtin.Slice.sliceApplied (.ref L) (pure (n:Int))) Q E s:=by
 obtain⟨os,z,N,D⟩:=id hs;unfold Builtin.Slice.sliceApplied Builtin.Slice.sliceFields;refine aDE (aDE (wpAny_field z D (x:=I) rfl (aDE (wpAny_field z D (x:=J) rfl (aDE (wpAny_field z D (x:=.none) rfl (aDF ?_)))))));refine aDE (slicePart_none ?_);show wpAny _ _ (if ((1:Int) == 0)=true then _ else _) _ _ s;rw[if_neg (by decide)];refine aDE (rX pl (aDE (rX M (aDE (aDF ?_)))));show wpAny _ _ (match Builtin.Slice.sliceAdjust lo hi 1 (n:Int)with | (lo,hi)=>pure (lo,(1:Int),Builtin.Slice.slicePlaces lo hi 1)) _ _ s;rw[F5 lo hi n];show wpAny _ _ (pure (((sIx n 0 lo:Nat):Int),(1:Int),Builtin.Slice.slicePlaces ((sIx n 0 lo:Nat):Int) ((sIx n n hi:Nat):Int) 1)) _ _ s;rw[F6];exact aDF h
def X1 (xs:Array Value) (i k:Nat):((List.range k).filterMap λ(m:Nat)=>xs[((i:Int)+(m:Int) * 1).toNat]?).toArray=((xs.toList.drop i).take k).toArray:=by
 have e:(λ(m:Nat)=>xs[((i:Int)+(m:Int) * 1).toNat]?)=λm=>xs[i+m]?:=by
  funext m
  have:((i:Int)+(m:Int) * 1).toNat=i+m:=by omega
  rw[this]
 rw[e];have:=pick_run xs i k;rw[List.filterMap_map]at this;have e2:((λx=>xs[x]?)∘λx=>i+x)=λm=>xs[i+m]?:=rfl;rw[e2]at this;rw[this]
def getItem_tuple_cut {t D:Addr} {items:Array Value} {N U:Value} {lo hi:Option Int} {Q:Value->Shared->Prop} (ht:IsTup s.heap t items) (hs:s.heap.IsSliceOf D N U .none) (pl:IsPart N lo) (Y:IsPart U hi)
 (hw:¬ (sIx items.size 0 lo=0/\sIx items.size items.size hi=items.size))
 (h:Q (.ref s.heap.objs.size) { s with heap:=s.heap.push { cls:=.type "tuple",data:=.seq ((items.toList.drop (sIx items.size 0 lo)).take (sIx items.size items.size hi - sIx items.size 0 lo)).toArray } })
 (hsz:items.size<=sizeLine):wpAny (model prog w) A (getItem (.ref t) (.ref D)) Q E s:=by
 have z:sizeOk (.seq ((items.toList.drop (sIx items.size 0 lo)).take (sIx items.size items.size hi - sIx items.size 0 lo)).toArray):=by
  show ((items.toList.drop (sIx items.size 0 lo)).take (sIx items.size items.size hi - sIx items.size 0 lo)).toArray.size<=sizeLine;rw[aDO,aDW,List.length_drop,Array.length_toList];omega
 have hj:sIx items.size items.size hi<=items.size:=aAw _ _ (Nat.le_refl _) hi;obtain⟨os,I,J,al⟩:=id hs;have L:s.TypeIs (.ref D) "slice":=⟨os,I,J⟩;unfold getItem
 try with_reducible refine wpAny_holding ?_
 first | refine aDE (aDF ?_) | skip
 refine aDE (wpAny_sequenceKey ht.typeIs (by decide) ?_);refine aDE (wpAny_callSpecial?_slot (name:=Str.ofString "__getitem__") ht.typeIs PyProof.Rows.slot_tuple_getitem
  (wpAny_call_entry PyProof.Rows.slot_tuple_getitem ht.typeIs entry_tuple_getitem ?_ (args_tuple_getitem _ _)))
 show wpAny _ _ (Builtin.Tuple.tupleItemsOf (.ref t) >>= _) _ _ s;refine aDE (tupleItemsOf_ ht ?_);refine aDE (wpAny_typeOf L ?_);rw[if_pos (by decide)];refine aDE (sliceApplied_gen hs pl Y ?_);have M:¬ ((((sIx items.size 0 lo:Nat):Int) == 0 && (1:Int) == 1 && (sIx items.size items.size hi - sIx items.size 0 lo) == items.size)=true):=by
  intro q;rw[Bool.and_eq_true,Bool.and_eq_true]at q;have q1:((sIx items.size 0 lo:Nat):Int)=0:=eq_of_beq q.1.1;have q2:sIx items.size items.size hi - sIx items.size 0 lo=items.size:=eq_of_beq q.2;exact hw ⟨by omega,by omega⟩
 show wpAny _ _ (if (((sIx items.size 0 lo:Nat):Int) == 0 && (1:Int) == 1 && (sIx items.size items.size hi - sIx items.size 0 lo) == items.size)=true then _ else _) _ _ s;rw[if_neg M,X1]
 first
  | exact aDE (m:=Builtin.Tuple.tupleExact _) (wpAny_newObj_type (aDF ⟨_,rfl,aDF h⟩) z)
  | exact aDE (m:=Builtin.Tuple.tupleExact _) (wpAny_newObj_type (aDE (aDF (aDF ⟨_,rfl,aDF h⟩))) z)
  | exact aDE (aDE (m:=Builtin.Tuple.tupleExact _) (wpAny_newObj_type (aDF (aDF ⟨_,rfl,aDF h⟩)) z))
  | exact aDE (aDE (m:=Builtin.Tuple.tupleExact _) (wpAny_newObj_type (aDF ⟨_,rfl,aDF h⟩) z))
end
end HT
namespace L2
open PySem PySem.Spec PyProof.Rows
abbrev TO:=St->Hp->(Option Int->Hp->Prop)->Prop
def PO (X:Cx) (e:Option Expr) (t:TO):Prop :=
 ∀ (pins:List (Addr×Obj)) (s:Shared) (σ:St) (H:Hp) (Q:Option Int->Hp->Prop),Inv X pins σ H s->t σ H Q ->
  wpAny (model X.prog X.w) X.A (evalPart e X.env) (λu s'=>∃ o H',Inv X pins σ H' s'/\IsPart u o/\Q o H') X.xe s
def z8:TO:=λ_ H Q=>Q none H
def aCA (t:TE):TO:=fun σ H Q=>t σ H λx H1=>∃ i,x=.int i/\Q (some i) H1
def F7 {ns:List Int}:∀ {us:List Value},Vals (ns.map V.int) us->IntsAre us ns:=by
 induction ns with
 | nil=>intro us r;rw[List.map_nil]at r;cases r;exact .nil
 | cons n ns z =>
  intro us r;rw[aD5]at r;cases r with
  | cons r1 r2 =>
   obtain⟨t,e⟩:=r1;subst e;exact .cons n t (z r2)
section
variable {X:Cx} {e:Expr} {te:TE} {lo hi:Option Expr} {tl th:TO} {pos p2:Pos}
def fF:PO X none z8:=by
 intro pins s σ H Q I h;rw[evalPart_none];exact aDF ⟨none,H,I,.none,h⟩
def fG (h:PE X e te):PO X (some e) (aCA te):=by
 intro pins s σ H Q I hw;rw[evalPart_some];refine thn (h pins s σ H _ I hw) λu J ⟨x,H1,z,r1,D⟩=>?_;obtain⟨i,rfl,q⟩:=D;obtain⟨t,rfl⟩:=r1;exact⟨some i,H1,z,.int i t,q⟩
def SlR (X:Cx) (r:V->Option Int->Option Int->Hp->VK->Prop):Prop :=
 ∀ (pins:List (Addr×Obj)) (s:Shared) (σ:St) (H:Hp) (x:V) (v z D:Value) (lo hi:Option Int) (I:Addr) (Q:VK),Inv X pins σ H s->RelV x v->s.heap.IsSliceOf I z D .none->IsPart z lo->IsPart D hi->r x lo hi H Q ->
  ∃ T id,typeLookup (.type T) "__getitem__"=pure (some (.builtin id))/\s.TypeIs v T/\wpAny (model X.prog X.w) X.A (getItem v (.ref I)) (EP X pins σ Q) X.xe s
def tSl (r:V->Option Int->Option Int->Hp->VK->Prop) (te:TE) (tl th:TO):TE:=fun σ H Q=>te σ H λx H1=>tl σ H1 λl H2=>th σ H2 λu z=>r x l u z Q
def dP {r:V->Option Int->Option Int->Hp->VK->Prop} (M:SlR X r) (he:PE X e te) (N:PO X lo tl) (U:PO X hi th):PE X (.Subscript e (.Slice lo hi none p2) pos) (tSl r te tl th):=by
 intro pins s σ H Q I h;refine Subscript_ (thn (he pins s σ H _ I h) λv Y ⟨x,H1,I1,r1,q1⟩=>?_);refine wpAny_Slice (thn (N pins Y σ H1 _ I1 q1) λD s2 ⟨l,H2,I2,pl,q2⟩=>thn (U pins s2 σ H2 _ I2 q2) λJ z ⟨u,L,I3,pu,q3⟩=>?_);rw[evalPart_none];refine aDF ?_;have I4:Inv X pins σ L { z with heap:=z.heap.push { cls:=.type "slice",data:=.fields #[D,J,.none] } }:=I3.kept (t':=z.toks) λb ob q=>aDH _ q;obtain⟨T,id,hT,ht,hg⟩:=M pins { z with heap:=z.heap.push { cls:=.type "slice",data:=.fields #[D,J,.none] } } σ L x v D J l u z.heap.objs.size Q I4 r1 (Heap.IsSliceOf.new ..) pl pu q3;show wpAny (model X.prog X.w) X.A (subscriptTail e (.Slice lo hi none p2) v (.ref z.heap.objs.size)) (EP X pins σ Q) X.xe { z with heap:=z.heap.push { cls:=.type "slice",data:=.fields #[D,J,.none] } };exact tail_any (ops:=[.ref z.heap.objs.size,v]) ht hT hg (by with_unfolding_all rfl)
def fS (xs:List V) (lo hi:Option Int):List V:=(xs.drop (HT.sIx xs.length 0 lo)).take (HT.sIx xs.length xs.length hi - HT.sIx xs.length 0 lo)
def qA (xs:List V) (lo hi:Option Int):(fS xs lo hi).length<=xs.length:=by
 unfold fS;rw[aDW,List.length_drop];omega
def aCl (K:PySem.W.Frag):V->Option Int->Option Int->Hp->VK->Prop:=λx lo hi H Q=>∃ a xs,x=.ref a/\SqT K H a xs /\
 ¬ (HT.sIx xs.length 0 lo=0/\HT.sIx xs.length xs.length hi=xs.length)/\∀ p,H p=none->Q (.ref p) (upd H p (.tup (fS xs lo hi)))
def aAx:SlR X (aCl X.K):=by
 intro pins s σ H x v L M lo hi N Q I z hs pl D h;obtain⟨a,xs,rfl,J,hw,q⟩:=h;cases z;obtain⟨its,r,ht,hz⟩:=I.tuple J;have hlen:its.toArray.size=xs.length:=by rw[aDO];exact r.length.symm
 refine⟨"tuple",_,PyProof.Rows.slot_tuple_getitem.lookup,ht.typeIs,?_⟩;refine HT.getItem_tuple_cut ht hs pl D (by rw[hlen];exact hw) ?_ (by rw[hlen];exact hz);rw[hlen];refine⟨.ref s.heap.objs.size,_,I.laid (t':=s.toks) (o:=.tup (fS xs lo hi)) (λb U q=>aDH _ q) (Nat.le_refl _) ?_,rfl,q _ (I.hok.fresh (Nat.le_refl _))⟩;exact⟨Nat.le_trans (qA xs lo hi) hz,_,(r.drop (HT.sIx xs.length 0 lo)).take (HT.sIx xs.length xs.length hi - HT.sIx xs.length 0 lo),IsTup.new _ _⟩
def aCB (K:PySem.W.Frag):R2:=λx y H Q=>∃ a b xs ys,x=.ref a/\y=.ref b/\SqT K H a xs/\SqT K H b ys/\xs≠[]/\xs.length+ys.length<=sizeLine /\
 (ys=[]->Q (.ref a) H)/\(ys≠[]->∀ p,H p=none->Q (.ref p) (upd H p (.tup (xs++ys))))
def Vals.nil_iff {xs:List V} {us:List Value} (r:Vals xs us):us=[]↔xs=[]:=by
 cases r with
 | nil=>simp
 | cons _ _=>simp
def z9:OpR X (binaryOp .Add) (aCB X.K):=by
 intro pins s σ H x y v u Q I J L h;obtain⟨a,b,xs,ys,rfl,rfl,M,N,U,hz,Y,q2⟩:=h;cases J;cases L;obtain⟨its,r1,p1,_⟩:=I.tuple M;obtain⟨D,r2,p2,_⟩:=I.tuple N;refine HT.cat_tup p1 p2 (λz=>U (r1.nil_iff.mp z)) (λz=>⟨.ref a,H,I,rfl,Y (r2.nil_iff.mp z)⟩) (λz=>?_) (by rw[<- r1.length,<- r2.length];exact hz);refine⟨.ref s.heap.objs.size,_,I.laid (t':=s.toks) (o:=.tup (xs++ys)) (λb ob q=>aDH _ q) (Nat.le_refl _) ?_,rfl,q2 (λw=>z (r2.nil_iff.mpr w)) _ (I.hok.fresh (Nat.le_refl _))⟩;exact⟨by rw[aDP];exact hz,_,r1.append r2,IsTup.new _ _⟩
end
def ixN (n:Nat) (i:Int):Option Nat:=if 0<=i then (if i<n then some i.toNat else none)else if -(n:Int)<=i then some (i+n).toNat else none
def atI {z:Type} (xs:List z) (i:Int):Option z:=(ixN xs.length i).bind λj=>xs[j]?
def aAA {n:Nat} {i:Int} {j:Nat} (h:ixN n i=some j):seqIndex? i n=some j/\j<n/\-(n:Int)<=i/\i<n:=by
 unfold ixN at h
 by_cases h0:0<=i
 .rw[if_pos h0]at h
  by_cases h1:i<n
  .rw[if_pos h1]at h;have e:i.toNat=j:=Option.some.inj h;exact⟨by rw[seqIndex_of h0 h1,e],by omega,by omega,h1⟩
  .rw[if_neg h1]at h;cases h
 .rw[if_neg h0]at h
  by_cases h1:-(n:Int)<=i
  .rw[if_pos h1]at h;have e:(i+n).toNat=j:=Option.some.inj h;exact⟨by rw[seqIndex_neg (by omega) h1,e],by omega,h1,by omega⟩
  .rw[if_neg h1]at h;cases h
def wP {z:Type} {xs:List z} {i:Int} {v:z} (h:atI xs i=some v):∃ j,seqIndex? i xs.length=some j/\xs[j]?=some v/\j<xs.length/\-(xs.length:Int)<=i/\i<xs.length:=by
 unfold atI at h;cases e:ixN xs.length i with
 | none=>rw[e]at h;cases h
 | some j =>
  rw[e]at h;obtain⟨h1,h2,h3,h4⟩:=aAA e;exact⟨j,h1,h,h2,h3,h4⟩
def nC {z:Type} {xs:List z} {j:Nat} {v:z} (h:xs[j]?=some v):atI xs (j:Int)=some v:=by
 have D:j<xs.length:=(aDh.mp h).1;have e:ixN xs.length (j:Int)=some j:=by
  unfold ixN;rw[if_pos (by omega),if_pos (by omega)];simp
 unfold atI;rw[e];exact h
def zA {z:Type} (xs:List z) (v:z):atI (xs++[v]) (-1)=some v:=by
 have D:(xs++[v]).length=xs.length+1:=by simp
 have e:ixN (xs++[v]).length (-1)=some xs.length:=by
  unfold ixN;rw[D,if_neg (by decide),if_pos (by omega)]
  congr 1
  omega
 unfold atI;rw[e];show (xs++[v])[xs.length]?=some v;simp
def aAB (b:Expr):Prop:=∀ o i,subscripted b false o i=operate [o,i] (getItem o i)
def IxR (X:Cx) (r:R2):Prop :=
 ∀ (value slice:Expr) (pins:List (Addr×Obj)) (s:Shared) (σ:St) (H:Hp) (x y:V) (v u:Value) (Q:VK),Inv X pins σ H s->RelV x v->RelV y u->r x y H Q ->
  subscripted slice false v u=operate [v,u] (getItem v u)->wpAny (model X.prog X.w) X.A (subscriptTail value slice v u) (EP X pins σ Q) X.xe s
def MtR (X:Cx) (id:String) (r:V->List V->Hp->VK->Prop):Prop :=
 ∀ (pins:List (Addr×Obj)) (s:Shared) (σ:St) (H:Hp) (x:V) (xs:List V) (v:Value) (us:List Value) (Q:VK),Inv X pins σ H s->RelV x v->Vals xs us->r x xs H Q ->
  wpAny (model X.prog X.w) X.A (call (.builtin id) (v :: us)) (EP X pins σ Q) X.xe s
section
variable {X:Cx} {a b:Expr} {ta tb:TE} {pos:Pos}
def IxR.or {r z:R2} (h:IxR X r) (h':IxR X z):IxR X (λx y H Q=>r x y H Q\/z x y H Q):=by
 intro value slice pins s σ H x y v u Q I D J q hs;rcases q with q | q
 .exact h value slice pins s σ H x y v u Q I D J q hs
 .exact h' value slice pins s σ H x y v u Q I D J q hs
def bH {r:R2} (z:IxR X r) (D:PE X a ta) (J:PE X b tb) (hs:aAB b):PE X (.Subscript a b pos) (tOp r ta tb):=by
 intro pins s σ H Q I h;exact Subscript_ (aAt D J I h λv u L x y H2 M N U q=>z a b pins L σ H2 x y v u Q M N U q (hs _ _))
def aAy (K:PySem.W.Frag):R2:=λx y H Q=>∃ p xs i v,x=.ref p/\y=.int i/\SqL K H p xs/\atI xs i=some v/\Q v H
def aCC (K:PySem.W.Frag):R2:=λx y H Q=>∃ p xs i v,x=.ref p/\y=.int i/\SqT K H p xs/\atI xs i=some v/\Q v H
def aCD:R2:=λx y H Q=>∃ z i c,x=.str z/\y=.int i/\z.length<=sizeLine/\atI z.cps.toList i=some c/\Q (.str ⟨#[c]⟩) H
def bM:IxR X (aAy X.K):=by
 intro value slice pins s σ H x y v u Q I M N h hs;obtain⟨p,xs,i,z,rfl,rfl,U,he,q⟩:=h;cases M;obtain⟨t,rfl⟩:=N;obtain⟨its,r,pl,hz⟩:=I.list U;obtain⟨j,h1,h2,h3,h4,h5⟩:=wP he;obtain⟨w,L,D⟩:=r.get h2;have Y:=r.length;have hn:=oV;have fin:EP X pins σ Q w s:=⟨z,H,I,D,q⟩
 by_cases h0:0<=i
 .have J:i.toNat=j:=by
   rw[seqIndex_of h0 h5]at h1;exact Option.some.inj h1
  exact item_listR pl.isList h0 (by omega) (by rw[J];simpa using L) fin hs
 .have J:(i+(its.toArray.size:Int)).toNat=j:=by
   rw[seqIndex_neg (by omega) h4]at h1;rw[aDO,<- Y];exact Option.some.inj h1
  exact subscriptTail_builtinR (x:=w) pl.isList.typeIs slot_list_getitem.lookup
   (wpAny_getItem_list_neg (Q:=λr s'=>r=w/\EP X pins σ Q r s') pl.isList (by omega) (by rw[aDO] <;> omega) (by omega) (by rw[J];simpa using L) ⟨rfl,fin⟩) hs
def cG:IxR X (aCC X.K):=by
 intro value slice pins s σ H x y v u Q I J L h hs;obtain⟨p,xs,i,z,rfl,rfl,M,he,q⟩:=h;cases J;obtain⟨t,rfl⟩:=L;obtain⟨its,r,pl,hz⟩:=I.tuple M;obtain⟨j,h1,h2,h3,h4,h5⟩:=wP he;obtain⟨w,N,D⟩:=r.get h2;have U:=r.length;have Y:=oV;have fin:EP X pins σ Q w s:=⟨z,H,I,D,q⟩;exact subscriptTail_builtinR (x:=w) pl.typeIs slot_tuple_getitem.lookup
  (getItem_tuple (j:=j) (Q:=λr s'=>r=w/\EP X pins σ Q r s') pl (by omega) (by omega) (by rw[aDO,<- U];exact h1) (by simpa using N) ⟨rfl,fin⟩) hs
def aAz:IxR X aCD:=by
 intro value slice pins s σ H x y v u Q I D J h hs;obtain⟨z,i,c,rfl,rfl,hz,he,q⟩:=h;obtain⟨t,rfl⟩:=D;obtain⟨t',rfl⟩:=J;obtain⟨j,h1,h2,h3,h4,h5⟩:=wP he;have L:z.cps.toList.length=z.length:=by simp[Str.length]
 rw[L]at h1 h4 h5;have N:=oV;exact tail_any (typeIs_str s z t) slot_str_getitem.lookup (getItem_str (c:=c) (by
  have e1:decide (i < -(2 ^ 63:Int))=false:=aD1 (by omega);have M:decide (i≥2 ^ 63)=false:=aD1 (by omega);rw[e1,M,Bool.or_false]) (by rw[h1];simpa using h2) ⟨.str ⟨#[c]⟩,H,I.tok _,⟨_,rfl⟩,q⟩) hs
def rIx (K:PySem.W.Frag):R2:=λx y H Q=>aAy K x y H Q\/aCC K x y H Q\/aCD x y H Q
def F8:IxR X (rIx X.K):=bM.or (cG.or aAz)
def Inv.lst {pins:List (Addr×Obj)} {σ:St} {H:Hp} {s:Shared} {p:Addr} {xs:List V} (I:Inv X pins σ H s) (h:H p=some (.lst xs)) :
 ∃ (its:List Value) (n:Nat),Vals xs its/\s.heap.get? p=some { cls:=.type "list",data:=.seq its.toArray n }/\xs.length<=sizeLine:=by
 obtain⟨z,its,n,r,e⟩:=I.hok p _ h;exact⟨its,n,r,e,z⟩
def wQ (lo hi:Option Int) (n:Nat):(sliceBounds lo hi none n).1=((HT.sIx n 0 lo:Nat):Int)/\(sliceBounds lo hi none n).2.1=((HT.sIx n n hi:Nat):Int)/\(sliceBounds lo hi none n).2.2=1:=by
 refine⟨?_,?_,rfl⟩
 .cases lo with
  | none=>simp[sliceBounds,HT.sIx]
  | some i =>
   simp only[sliceBounds,HT.sIx,Option.getD_none,show (1:Int) > 0 by decide,if_true]
   by_cases h:i<0
   .simp only[h,if_true] <;> omega
   .simp only[h,if_false] <;> omega
 .cases hi with
  | none=>simp[sliceBounds,HT.sIx]
  | some i =>
   simp only[sliceBounds,HT.sIx,Option.getD_none,show (1:Int) > 0 by decide,if_true]
   by_cases h:i<0
   .simp only[h,if_true] <;> omega
   .simp only[h,if_false] <;> omega
def uE (its:List Value) (lo hi:Option Int):slicePick its.toArray lo hi none=((its.drop (HT.sIx its.length 0 lo)).take (HT.sIx its.length its.length hi - HT.sIx its.length 0 lo)).toArray:=by
 obtain⟨h1,h2,h3⟩:=wQ lo hi its.toArray.size;unfold slicePick;rw[h1,h2,h3];simp only[sliceRange_one,pick_run,aDO] <;> rfl
def aCm (K:PySem.W.Frag):V->Option Int->Option Int->Hp->VK->Prop:=λx lo hi H Q=>∃ a xs,x=.ref a/\SqL K H a xs/\∀ p,H p=none->Q (.ref p) (upd H p (.lst (fS xs lo hi)))
def lK:SlR X (aCm X.K):=by
 intro pins s σ H x v L M lo hi N Q I z hs pl D h;obtain⟨a,xs,rfl,J,q⟩:=h;cases z;obtain⟨its,r,ht,hz⟩:=I.list J;have hlen:=r.length;refine⟨"list",_,slot_list_getitem.lookup,ht.isList.typeIs,?_⟩;refine wpAny_getItem_list_slice ht.isList hs pl D .none (by simp) ?_ (by rw[aDO] <;> omega);rw[uE,<- hlen];refine⟨.ref s.heap.objs.size,_,I.laid (t':=s.toks) (o:=.lst (fS xs lo hi)) (λb U q=>aDH _ q) (Nat.le_refl _) ?_,rfl,q _ (I.hok.fresh (Nat.le_refl _))⟩;exact⟨Nat.le_trans (qA xs lo hi) hz,_,0,(r.drop (HT.sIx xs.length 0 lo)).take (HT.sIx xs.length xs.length hi - HT.sIx xs.length 0 lo),aDN _ rfl⟩
def mE:V->Bool
 | .non=>true
 | .bl _=>true
 | .int _=>true
 | .str _=>true
 | _=>false
def eqV:V->V->Bool
 | .non,.non=>true
 | .bl a,.bl b=>a == b
 | .bl a,.int b=>(if a then 1 else 0) == b
 | .int a,.bl b=>a == (if b then 1 else 0)
 | .int a,.int b=>a == b
 | .str a,.str b=>a == b
 | _,_=>false
def aBA {A:Around} {s:Shared} {y x:V} {u v:Value} (D:RelV y u) (z:RelV x v) (J:mE y=true) (I:mE x=true):SeqAt.EqAt A s u v (eqV y x):=by
 cases y with
 | non =>
  cases D;cases x with
  | non=>cases z;exact SeqAt.EqAt.same _
  | bl b=>cases z;exact SeqAt.EqAt.none_bool b
  | int b=>obtain⟨t,rfl⟩:=z;exact SeqAt.EqAt.none_int b t
  | str b=>obtain⟨t,rfl⟩:=z;exact SeqAt.EqAt.none_str b t
  | _=>exact absurd (show false=true from I) aDT
 | bl a =>
  cases D;cases x with
  | non=>cases z;exact SeqAt.EqAt.bool_none a
  | bl b=>cases z;exact SeqAt.EqAt.bool_bool a b
  | int b=>obtain⟨t,rfl⟩:=z;exact SeqAt.EqAt.bool_int a b t
  | str b=>obtain⟨t,rfl⟩:=z;exact SeqAt.EqAt.bool_str a b t
  | _=>exact absurd (show false=true from I) aDT
 | int a =>
  obtain⟨t',rfl⟩:=D;cases x with
  | non=>cases z;exact SeqAt.EqAt.int_none a t'
  | bl b=>cases z;exact SeqAt.EqAt.int_bool a t' b
  | int b=>obtain⟨t,rfl⟩:=z;exact SeqAt.EqAt.int_int a t' b t
  | str b=>obtain⟨t,rfl⟩:=z;exact SeqAt.EqAt.int_str a t' b t
  | _=>exact absurd (show false=true from I) aDT
 | str a =>
  obtain⟨t',rfl⟩:=D;cases x with
  | non=>cases z;exact SeqAt.EqAt.str_none a t'
  | bl b=>cases z;exact SeqAt.EqAt.str_bool a t' b
  | int b=>obtain⟨t,rfl⟩:=z;exact SeqAt.EqAt.str_int a t' b t
  | str b=>obtain⟨t,rfl⟩:=z;exact SeqAt.EqAt.str_str a t' b t
  | _=>exact absurd (show false=true from I) aDT
 | _=>exact absurd (show false=true from J) aDT
def eqU (x:V) (u:Value):Bool:=match u with
 | .none=>eqV .non x
 | .bool b=>eqV (.bl b) x
 | .int i _=>eqV (.int i) x
 | .str z _=>eqV (.str z) x
 | _=>false
def X2 {x y:V} {u:Value} (r:RelV y u) (f:mE y=true):eqU x u=eqV y x:=by
 cases y with
 | non=>cases r;rfl
 | bl b=>cases r;rfl
 | int i=>obtain⟨t,rfl⟩:=r;rfl
 | str z=>obtain⟨t,rfl⟩:=r;rfl
 | _=>exact absurd (show false=true from f) aDT
def nD {x:V}:∀ {xs:List V} {us:List Value},Vals xs us->xs.all mE=true->us.any (eqU x)=xs.any λy=>eqV y x
 | _,_,.nil,_=>rfl
 | y :: xs,u :: us,.cons r t,f=>by
  rw[List.all_cons,Bool.and_eq_true]at f;rw[List.any_cons,List.any_cons,X2 r f.1,nD t f.2]
def kC {A:Around} {s:Shared} {x:V} {v:Value} (z:RelV x v) (D:mE x=true):∀ {xs:List V} {us:List Value},Vals xs us->xs.all mE=true->∀ u∈us,SeqAt.EqAt A s u v (eqU x u)
 | _,_,.nil,_=>λu hu=>by cases hu
 | y :: xs,u :: us,.cons r t,f=>λI hu=>by
  rw[List.all_cons,Bool.and_eq_true]at f;rcases aDi.mp hu with rfl | hu
  .rw[X2 r f.1];exact aBA r z f.1 D
  .exact kC z D t f.2 I hu
def inV (x:V) (xs:List V):Bool:=xs.any λy=>eqV y x
def rIn (K:PySem.W.Frag) (z:Bool):R2:=λx y H Q=>∃ p xs,y=.ref p/\(SqL K H p xs\/SqT K H p xs)/\mE x=true/\xs.all mE=true/\Q (.bl (if z then !inV x xs else inV x xs)) H
def R0:OpR X (compareOp .In) (rIn X.K false):=by
 intro pins s σ H x y v u Q I z J h;obtain⟨p,xs,rfl,hq,D,fs,q⟩:=h;cases J;rcases hq with hq | hq
 .obtain⟨its,r,pl,hz⟩:=I.list hq;refine SeqAt.in_listAt (eqU x) pl.isList (λw hw=>kC z D r fs w (by simpa using hw)) ⟨.bl _,H,I,rfl,?_⟩;rw[show its.toArray.any (eqU x)=its.any (eqU x)by simp,nD r fs];exact q
 .obtain⟨its,r,pl,hz⟩:=I.tuple hq;refine SeqAt.in_tupleAt (eqU x) pl (λw hw=>kC z D r fs w (by simpa using hw)) ⟨.bl _,H,I,rfl,?_⟩;rw[show its.toArray.any (eqU x)=its.any (eqU x)by simp,nD r fs];exact q
def nE:OpR X (compareOp .NotIn) (rIn X.K true):=by
 intro pins s σ H x y v u Q I z J h;obtain⟨p,xs,rfl,hq,D,fs,q⟩:=h;cases J;rcases hq with hq | hq
 .obtain⟨its,r,pl,hz⟩:=I.list hq;refine SeqAt.notIn_listAt (eqU x) pl.isList (λw hw=>kC z D r fs w (by simpa using hw)) ⟨.bl _,H,I,rfl,?_⟩;rw[show its.toArray.any (eqU x)=its.any (eqU x)by simp,nD r fs];exact q
 .obtain⟨its,r,pl,hz⟩:=I.tuple hq;refine SeqAt.notIn_tupleAt (eqU x) pl (λw hw=>kC z D r fs w (by simpa using hw)) ⟨.bl _,H,I,rfl,?_⟩;rw[show its.toArray.any (eqU x)=its.any (eqU x)by simp,nD r fs];exact q
def aV:fJ X (.builtin "len") (λxs H Q=>∃ p ys,xs=[.ref p]/\(SqL X.K H p ys\/SqT X.K H p ys)/\Q (.int ys.length) H):=by
 intro pins s σ H xs us Q I r h;obtain⟨p,ys,rfl,hq,q⟩:=h;obtain⟨u,rfl,D⟩:=gK r;cases D;have J:=oV;rcases hq with hq | hq
 .obtain⟨its,z,pl,hz⟩:=I.list hq;have hlen:=z.length;exact Calls.call_len_list pl.isList (by simp only[aDO] <;> omega) ⟨.int ys.length,H,I.tok _,⟨s.toks+1,by rw[aDO,hlen]⟩,q⟩
 .obtain⟨its,z,pl,hz⟩:=I.tuple hq;have hlen:=z.length;exact len_tuple pl (by simp only[aDO] <;> omega) ⟨.int ys.length,H,I.tok _,⟨s.toks+1,by rw[aDO,hlen]⟩,q⟩
def wR:fJ X (.builtin "len") (λxs H Q=>∃ z,xs=[.str z]/\z.length<=sizeLine/\Q (.int z.length) H):=by
 intro pins s σ H xs us Q I r h;obtain⟨z,rfl,hz,q⟩:=h;obtain⟨u,rfl,t,rfl⟩:=gK r;have D:=oV;exact len_str (by omega) ⟨.int z.length,H,I.tok _,⟨_,rfl⟩,q⟩
def eI:fJ X (.type "list") (λxs H Q=>∃ p ys,xs=[.ref p]/\(SqL X.K H p ys\/SqT X.K H p ys)/\∀ l,H l=none->Q (.ref l) (upd H l (.lst ys))):=by
 intro pins s σ H xs us Q I r h;obtain⟨p,ys,rfl,hq,q⟩:=h;obtain⟨u,rfl,M⟩:=gK r;cases M;have fin:∀ (its:List Value),Vals ys its->ys.length<=sizeLine->∀ (h':Heap) (z:Nat),(∀ b o',s.heap.get? b=some o'->h'.get? b=some o') ->
  h'.get? s.heap.objs.size=some { cls:=.type "list",dict:=none,data:=.seq its.toArray z,slots:=#[] }->EP X pins σ Q (.ref s.heap.objs.size) { s with heap:=h' }:=λits D hz h' z kp e =>
  ⟨.ref s.heap.objs.size,_,I.laid (t':=s.toks) kp (Nat.le_refl _) (show ObjOk X.prog X.w _ h' _ (.lst ys) from ⟨hz,its,z,D,e⟩),rfl,q _ (I.hok.fresh (Nat.le_refl _))⟩
 rcases hq with hq | hq
 .obtain⟨its,D,pl,hz⟩:=I.list hq;have hlen:=D.length;obtain⟨o,J,L,n,hd⟩:=pl.isList;exact call_list_seq p (.inl rfl) J L hd (λh' z kp e=>fin its D hz h' z kp e) (by simp only[aDO] <;> omega)
 .obtain⟨its,D,pl,hz⟩:=I.tuple hq;have hlen:=D.length;obtain⟨o,J,L,n,hd⟩:=pl;exact call_list_seq p (.inr rfl) J L hd (λh' z kp e=>fin its D hz h' z kp e) (by simp only[aDO] <;> omega)
def dQ:fJ X (.type "tuple") (λxs H Q=>∃ p ys,xs=[.ref p]/\((SqL X.K H p ys/\∀ l,H l=none->Q (.ref l) (upd H l (.tup ys)))\/(SqT X.K H p ys/\Q (.ref p) H))):=by
 intro pins s σ H xs us Q I r h;obtain⟨p,ys,rfl,h⟩:=h;obtain⟨u,rfl,L⟩:=gK r;cases L;rcases h with ⟨z,q⟩ | ⟨z,q⟩
 .obtain⟨its,D,pl,hz⟩:=I.list z;have hlen:=D.length;refine call_tuple_list pl.isList (λh' kp=>?_) (by simp only[aDO] <;> omega);have J:Inv X pins σ H { s with heap:=h' }:=I.kept (t':=s.toks) kp;have M:Inv X pins σ (upd H h'.objs.size (.tup ys)) { s with heap:=h'.push { cls:=.type "tuple",data:=.seq its.toArray } } :=
   J.laid (t':=s.toks) (λb o e=>aDH _ e) (Nat.le_refl _) (show ObjOk X.prog X.w _ _ _ (.tup ys) from ⟨hz,its,D,IsTup.new _ _⟩)
  exact⟨.ref h'.objs.size,_,M,rfl,q _ (J.hok.fresh (Nat.le_refl _))⟩
 .obtain⟨its,D,pl,hz⟩:=I.tuple z;exact call_tuple_same pl ⟨.ref p,H,I,rfl,q⟩
def tyV (K:PySem.W.Frag) (T:String) (x:V) (H:Hp):Prop:=match x with
 | .str _=>T="str"
 | .int _=>T="int"
 | .ref p=>(T="list"/\∃ xs,SqL K H p xs)\/(T="tuple"/\∃ o,K.lookup p=some o/\o.cls=.type "tuple"/\o.dict=none) \/
  (T="dict"/\((∃ kvs,H p=some (.dK kvs))\/∃ kvs,H p=some (.dT kvs)))\/(T="set"/\∃ S n,H p=some (.set S n))
 | _=>False
def X3 {pins:List (Addr×Obj)} {σ:St} {H:Hp} {s:Shared} {T:String} {x:V} {v:Value} (I:Inv X pins σ H s) (r:RelV x v) (ty:tyV X.K T x H) :
 s.TypeIs v T/\∀ a,v=.ref a->∃ L,s.heap.get? a=some L/\L.dict=none:=by
 cases x with
 | str z =>
  obtain⟨t,rfl⟩:=r;cases (show T="str" from ty);exact⟨typeIs_str s z t,λ_ e=>nomatch e⟩
 | int i =>
  obtain⟨t,rfl⟩:=r;cases (show T="int" from ty);exact⟨typeIs_int s i t,λ_ e=>nomatch e⟩
 | ref p =>
  cases r;rcases ty with ⟨rfl,xs,M⟩ | ⟨rfl,o,D,N,hd⟩ | ⟨rfl,D⟩ | ⟨rfl,S,n,D⟩
  .obtain⟨its,_,pl,_⟩:=I.list M;refine⟨pl.isList.typeIs,λa e=>?_⟩;cases e;obtain⟨o,n,e,c,hd,_⟩:=pl;exact⟨o,e,hd⟩
  .refine⟨⟨o,I.kIn p o D,N⟩,λa e=>?_⟩;cases e;exact⟨o,I.kIn _ o D,hd⟩
  .have z:∃ o,s.heap.get? p=some o/\o.ExactDict:=by
    rcases D with ⟨kvs,D⟩ | ⟨kvs,D⟩
    .obtain⟨_,_,_,_,o,_,_,e,ex,_⟩:=I.hok p _ D;exact⟨o,e,ex⟩
    .obtain⟨_,_,_,_,o,_,_,e,ex,_⟩:=I.hok p _ D;exact⟨o,e,ex⟩
   obtain⟨o,e,ex⟩:=z;refine⟨⟨o,e,ex.1⟩,λa J=>?_⟩;cases J;exact⟨o,e,ex.2.1⟩
  .obtain⟨o,_,_,_,e,ex,_⟩:=I.hok p _ D;refine⟨⟨o,e,ex.1⟩,λa J=>?_⟩;cases J;exact⟨o,e,ex.2.1⟩
 | _=>exact False.elim ty
def aCn (K:PySem.W.Frag) (T:String) (r:V->List V->Hp->VK->Prop) (to:TE):TE:=fun σ H Q=>to σ H λx H1=>tyV K T x H1/\r x [] H1 Q
def tBM (K:PySem.W.Frag) (T:String) (r:V->List V->Hp->VK->Prop) (to:TE) (t:TA):TE:=fun σ H Q=>to σ H λx H1=>tyV K T x H1/\t σ H1 λxs H2=>r x xs H2 Q
variable {o e:Expr} {es:List Expr} {to:TE} {t:TA} {name:Str} {apos ab:Pos} {T id:String} {r:V->List V->Hp->VK->Prop}
def aBB (M:PlainAttrs T) (slot:Slot T name id) (J:typeOf (.builtin id)=pure (.type "method_descriptor")) (N:MtR X id r) (U:PE X o to)
 (z:attributeBase o name X.env (eval o X.env)=eval o X.env:=by rfl) (D:(apos.endLine == ab.line)=true:=by rfl):PE X (.Call (.Attribute o name apos) [] [] ab) (aCn X.K T r to):=by
 intro pins s σ H Q I h;refine wpAny_Call_method0_late z D (thn (U pins s σ H _ I h) λv Y ⟨x,H1,L,r1,ty,q1⟩=>?_);obtain⟨h1,h2⟩:=X3 L r1 ty;exact⟨T,id,M,slot,J,h1,h2,Calls.callWith_builtin rfl (PySem.evalArgs_none (N pins Y σ H1 x [] v [] Q L r1 .nil q1))⟩
def iP (Y:PlainAttrs T) (slot:Slot T name id) (M:typeOf (.builtin id)=pure (.type "method_descriptor")) (hm:MtR X id r) (ho:PE X o to) (ha:PA X (e :: es) t)
 (D:attributeBase o name X.env (eval o X.env)=eval o X.env:=by rfl)
 (L:((backTo ab (starEach (e :: es) X.env)).all (λx=>!x.1) && (backToKw ab (keywordEach [] X.env)).all (λx=>x.1.isSome)
  && decide ((e :: es).length+([]:List Keyword).length+(if ([]:List Keyword).isEmpty then 0 else 1)<30))=true:=by rfl)
 (J:(apos.endLine == ab.line)=true:=by rfl) (hs:starEach (e :: es) X.env=(false,eval e X.env) :: starEach es X.env:=by rfl) (z:(backTo ab (starEach es X.env)).any (·.1)=false:=by rfl) :
 PE X (.Call (.Attribute o name apos) (e :: es) [] ab) (tBM X.K T r to t):=by
 intro pins s σ H Q I h;refine wpAny_Call_method_late D L J rfl (thn (ho pins s σ H _ I h) λv s1 ⟨x,H1,N,r1,ty,q1⟩=>?_);obtain⟨h1,h2⟩:=X3 N r1 ty;refine⟨T,id,Y,slot,M,h1,h2,?_⟩;have U:=ha ab pins s1 σ H1 _ N q1;rw[hs]at U ⊢;refine Calls.callWith_builtin (by show (false || (backTo ab (starEach es X.env)).any (·.1))=false;rw[z] <;> rfl) (Calls.evalArgs_plain ?_);exact thn U λus s2 ⟨vs,H2,I2,r2,q2⟩=>hm pins s2 σ H2 x vs v us Q I2 r1 r2 q2
/- xs.append(e),list.index on a module's tuple .. are MtR facts of 06m -/
end
def MtM (X:Cx) (id:String) (r:V->List V->Hp->VK->Prop):Prop :=
 ∀ (pins:List (Addr×Obj)) (s:Shared) (σ:St) (H:Hp) (x:V) (xs:List V) (v:Value) (us:List Value) (Q:VK),Inv X pins σ H s->RelV x v->Vals xs us->r x xs H Q ->
  wpAny (model X.prog X.w) X.A (call (.builtin id) (v :: us)) (EP X pins σ Q) X.xe s
def Vals.one:∀ {x:V} {us:List Value},Vals [x] us->∃ u,us=[u]/\RelV x u
 | _,_,.cons r .nil=>⟨_,rfl,r⟩
def Vals.two {x y:V} {us:List Value} (h:Vals [x,y] us):∃ u v,us=[u,v]/\RelV x u/\RelV y v:=by
 cases h with
 | cons r h =>
  obtain⟨u,e,q⟩:=Vals.one h;exact⟨_,u,by rw[e],r,q⟩
def Vals.zero:∀ {us:List Value},Vals [] us->us=[]
 | _,.nil=>rfl
def Vals.dropLast {xs:List V} {us:List Value} (h:Vals xs us):Vals xs.dropLast us.dropLast:=by
 induction h with
 | nil=>exact .nil
 | cons r t z =>
  cases t with
  | nil=>exact .nil
  | cons q t'=>exact .cons r z
def Vals.eraseIdx:∀ {xs:List V} {us:List Value} (i:Nat),Vals xs us->Vals (xs.eraseIdx i) (us.eraseIdx i)
 | _,_,_,.nil=>.nil
 | _,_,0,.cons _ t=>t
 | _,_,i+1,.cons r t=>.cons r (Vals.eraseIdx i t)
def Vals.reverse {xs:List V} {us:List Value} (h:Vals xs us):Vals xs.reverse us.reverse:=by
 induction h with
 | nil=>exact .nil
 | cons r t z=>rw[List.reverse_cons,List.reverse_cons];exact Vals.append z (.cons r .nil)
def Vals.rep {xs:List V} {us:List Value} (h:Vals xs us):∀ k:Nat,Vals (List.replicate k xs).flatten (List.replicate k us).flatten
 | 0=>.nil
 | k+1=>by
  rw[List.replicate_succ,List.replicate_succ,List.flatten_cons,List.flatten_cons];exact Vals.append h (Vals.rep h k)
def F9 {z:Type} (l:List z):l.eraseIdx (l.length - 1)=l.dropLast:=by
 induction l with
 | nil=>rfl
 | cons a r D =>
  cases r with
  | nil=>rfl
  | cons b r =>
   have e:(a :: b :: r).length - 1=((b :: r).length - 1)+1:=by
    have h1:(a :: b :: r).length=r.length+2:=rfl;have h2:(b :: r).length=r.length+1:=rfl;omega
   rw[e,List.eraseIdx_cons_succ,D]
   all_goals rfl
def vE (its:List Value):∀ (k:Nat) (z:List Value),
 List.foldl (λD I=>D++I) z.toArray (List.replicate k its.toArray)=(z++(List.replicate k its).flatten).toArray
 | 0,z=>by simp
 | k+1,z=>by
  have e:z.toArray++its.toArray=(z++its).toArray:=by simp
  have J:(z++its)++(List.replicate k its).flatten=z++(List.replicate (k+1) its).flatten:=by
   rw[List.replicate_succ,List.flatten_cons,List.append_assoc]
  rw[<- J,<- vE its k (z++its),<- e,List.replicate_succ,aD7]
section
variable {X:Cx} {pins:List (Addr×Obj)} {σ:St} {H:Hp} {s:Shared} {l b:Addr} {xs ys zs:List V}
def Inv.lset {its its':List Value} {n:Nat} {f:Array Value->Array Value} {t':Nat} (I:Inv X pins σ H s) (z:H l=some (.lst xs))
 (e:s.heap.get? l=some { cls:=.type "list",data:=.seq its.toArray n }) (D:f its.toArray=its'.toArray) (J:Vals ys its') (hz:ys.length<=sizeLine) :
 Inv X pins σ (upd H l (.lst ys)) { s with heap:=s.heap.update l (Obj.mapSeq f),toks:=t' }:=by
 have q:=PySem.IsL.update e f;rw[D]at q;refine I.write (x:=l) (e:=l) (by rw[z];exact trivial) (.inl rfl) (λN u L M=>(aDL s.heap (Obj.mapSeq f) (Ne.symm L)).trans M) ⟨_,q⟩ ?_;exact⟨hz,its',_,J,q⟩
def Inv.lnew {its:List Value} {t':Nat} (I:Inv X pins σ H s) (z:Vals ys its) (hz:ys.length<=sizeLine) :
 Inv X pins σ (upd H s.heap.objs.size (.lst ys)) { s with heap:=s.heap.push { cls:=.type "list",data:=.seq its.toArray },toks:=t' } :=
 I.laid (λ_ _ q=>aDH _ q) (Nat.le_refl _) ⟨hz,its,0,z,aDN _ rfl⟩
def Inv.fresh (I:Inv X pins σ H s):H s.heap.objs.size=none:=I.hok.fresh (Nat.le_refl _)
def Inv.lstM (I:Inv X pins σ H s) (D:H l=some (.lst xs)):xs.length<=sizeLine/\∃ (its:List Value) (n:Nat),Vals xs its/\xs.length=its.length/\s.heap.get? l=some { cls:=.type "list",data:=.seq its.toArray n }:=by
 obtain⟨z,its,n,r,e⟩:=I.hok l _ D;exact⟨z,its,n,r,r.length,e⟩
def X4 {n:Nat} (h:n<=sizeLine):Builtin.List.listTooLong n=false:=by
 unfold Builtin.List.listTooLong;exact aD1 (by omega)
end
section
variable {X:Cx}
def aAC:V->List V->Hp->VK->Prop:=λx vs H Q=>∃ l xs y,x=.ref l/\vs=[y]/\H l=some (.lst xs)/\xs.length<sizeLine/\Q .non (upd H l (.lst (xs++[y])))
def cC:MtM X "list.append" aAC:=by
 intro pins s σ H x vs v us Q I J L h;obtain⟨l,xs,y,rfl,rfl,D,hz,q⟩:=h;cases J;obtain⟨u,rfl,M⟩:=L.one;obtain⟨z,its,n,r,N,e⟩:=I.lstM D;refine call_meets F.slot_list_append ⟨_,e,rfl⟩ F.entry_list_append (F.args_list_append_2 _ _) (PySem.list_append l its.toArray n u (by rw[aDO];omega)) ⟨e,?_⟩;refine⟨.non,_,I.lset (its':=its++[u]) D e (by simp) (r.append (.cons M .nil)) ?_,rfl,q⟩;rw[aDP,List.length_singleton];omega
def aCo:V->List V->Hp->VK->Prop:=λx vs H Q=>∃ l xs y,x=.ref l/\vs=[]/\H l=some (.lst xs)/\xs[xs.length - 1]?=some y/\Q y (upd H l (.lst xs.dropLast))
def aBC:MtM X "list.pop" aCo:=by
 intro pins s σ H x vs v us Q I M N h;obtain⟨l,xs,y,rfl,rfl,L,U,q⟩:=h;cases M;have D:=N.zero;subst D;obtain⟨z,its,n,r,Y,e⟩:=I.lstM L;obtain⟨u,hu,ru⟩:=r.get U;have J:its.toArray[its.toArray.size - 1]?=some u:=by
  show its.toArray[its.length - 1]?=some u;rw[<- Array.getElem?_toList,<- Y];exact hu
 refine call_meets F.slot_list_pop ⟨_,e,rfl⟩ F.entry_list_pop (F.args_list_pop_1 _) (MeetsSeq.list_pop_last l its.toArray n u J (by rw[aDO];omega)) ⟨e,?_⟩;refine⟨y,_,I.lset (its':=its.dropLast) L e ?_ r.dropLast ?_,ru,q⟩
 .show its.toArray.eraseIdxIfInBounds (its.toArray.size - 1)=its.dropLast.toArray;rw[aDO,List.eraseIdxIfInBounds_toArray,F9]
 .rw[List.length_dropLast];omega
def aCp:R2:=λx y H Q=>∃ l b xs zs,x=.ref l/\y=.ref b/\H l=some (.lst xs)/\H b=some (.lst zs)/\xs.length+zs.length<=sizeLine/\∀ p,H p=none->Q (.ref p) (upd H p (.lst (xs++zs)))
def oY:OpR X (binaryOp .Add) aCp:=by
 intro pins s σ H x y v u Q I J L h;obtain⟨l,b,xs,zs,rfl,rfl,M,N,hz,q⟩:=h;cases J;cases L;obtain⟨z,its,n,r,hl,e⟩:=I.lstM M;obtain⟨z2,D,n2,r2,hl2,U⟩:=I.lstM N;refine PySem.P.add_list e U ?_ (by rw[aDO,aDO];omega);have Y:its.toArray++D.toArray=(its++D).toArray:=by simp
 rw[Y];exact⟨.ref _,_,I.lnew (t':=s.toks) (r.append r2) (by rw[aDP];omega),rfl,q _ I.fresh⟩
def aCq:R2:=λx y H Q=>∃ l k xs,x=.ref l/\y=.int k/\H l=some (.lst xs)/\-(2 ^ 63)<=k/\k<2 ^ 63/\xs.length * k.toNat<=sizeLine /\
 ∀ p,H p=none->Q (.ref p) (upd H p (.lst (List.replicate k.toNat xs).flatten))
def aAD {z:Type} (xs:List z) (k:Nat):(List.replicate k xs).flatten.length=k * xs.length:=by
 induction k with
 | zero=>simp
 | succ k D=>rw[List.replicate_succ,List.flatten_cons,aDP,D,Nat.succ_mul,Nat.add_comm]
def X5:OpR X (binaryOp .Mult) aCq:=by
 intro pins s σ H x y v u Q I rx ry h;obtain⟨l,k,xs,rfl,rfl,hH,h1,h2,hz,q⟩:=h;cases rx;obtain⟨t,rfl⟩:=ry;obtain⟨z,its,n,r,hl,e⟩:=I.lstM hH;have hlen:its.toArray.size * k.toNat<=sizeLine:=by rw[aDO,<- hl];exact hz
 have J:¬ its.toArray.size * k.toNat > (2 ^ 63 - 1) / 8:=by
  have:(sizeLine:Nat)<=(2 ^ 63 - 1) / 8:=by decide
  omega
 have L:¬ (!Builtin.List.listFitsIndex k)=true:=by
  rw[fitsIndex_both h1 h2];exact aDT
 have D:¬ Builtin.List.listTooLong (its.toArray.size * k.toNat)=true:=by
  rw[X4 hlen];exact aDT
 have M:List.foldl (λN Y=>N++Y) #[] (List.replicate (if its.toArray.isEmpty=true then 0 else k.toNat) its.toArray)=(List.replicate k.toNat its).flatten.toArray:=by
  have f0:∀ m:Nat,List.foldl (λN Y=>N++Y) #[] (List.replicate m its.toArray)=(List.replicate m its).flatten.toArray:=λm=>by
   have:=vE its m [];rw[List.nil_append]at this;exact this
  rw[f0];cases its with
  | nil=>simp
  | cons a r'=>rw[if_neg (by simp)]
 refine wpAny_binaryOp_repeat_ref (T:="list") (U:="int") (by decide) ⟨_,e,rfl⟩ (λs'=>typeIs_int s' k t) noFill_list_mul F.fills_int_mul F.slot_int_rmul repeat_list F.slot_int_index.lookup
  (call_meets F.slot_int_rmul (typeIs_int s k t) F.entry_int_rmul (F.args_int_rmul_2 _ _) (int___rmul___int_list k t l its.toArray n)
   ⟨e,rfl,⟨_,e,rfl⟩,call_meets F.slot_list_mul ⟨_,e,rfl⟩ F.entry_list_mul (F.args_list_mul_2 _ _) (AutoListH.list___mul___list_int_3 l its.toArray n k t L J D) ⟨e,?_⟩⟩)
 rw[M];exact⟨.ref _,_,I.lnew (t':=s.toks) (r.rep k.toNat) (by rw[aAD,Nat.mul_comm];exact hz),rfl,q _ I.fresh⟩
end
end L2
namespace Att
open PySem PySem.W PySem.Calls PyProof.Rows
def qO {P:Params} {h:Heap}:∀ (ns:List Int) (vs:List Value),WellAll P h vs (ns.map WData.int)->IntsAre vs ns:=by
 intro ns
 induction ns with
 | nil =>
  intro vs w;rw[List.map_nil]at w;cases w;exact .nil
 | cons n ns z =>
  intro vs w;rw[aD5]at w;cases w with
  | cons a b =>
   cases a;exact .cons _ _ (z _ b)
def R1 {l:OpenLaw} {n:Nat} (M:l.most=some n) {P:Params} {h:Heap} {args:List WData} {vals:List Value}
 (z:l.row.toRowW.claim.pre args=true) (I:WellAll P h vals args) :
 ∃ a vs ns,vals=[Value.ref a]/\args=[WData.list (ns.map WData.int)]/\h.get? a=some { cls:=.type "list",data:=.seq vs.toArray }/\IntsAre vs ns/\ns.length<=n:=by
 have J:WShape.hasAll [] args [.list .int]=true:=(pre_splitW z).1;have L:l.pre.holds [] { args:=args }=true:=(pre_splitW z).2;obtain⟨d,r,rfl,h1,h2⟩:=hasAllW_cons J;obtain rfl:=hasAllW_nil h2;obtain⟨xs,rfl,h3⟩:=hasW_list h1;obtain⟨ns,rfl⟩:=items_int h3;have hlen:ns.length<=n:=by
  unfold OpenLaw.pre at L;have h4:(WTm.not (.lt (.lit (.int (n:Int))) (.len (.arg 0)))).holds [] { args:=[.list (ns.map .int)] }=true:=by
   have h4:=(holds_andW L).1;rw[M]at h4;exact h4
  have h5:=condW_of h4 (w_not (w_lt w_lit (w_len_list (w_arg rfl))));rw[aDG]at h5;refine Nat.le_of_not_lt λq=>?_;have N:(n:Int)<((ns.length:Nat):Int):=by omega
  first
   | (rw[aD2 N]at h5;exact absurd h5 (by decide))
   | (simp at h5;omega)
 cases I with
 | cons U Y =>
  cases Y;cases U with
  | list ho D=>exact⟨_,_,ns,rfl,rfl,ho,qO ns _ D,hlen⟩
def R3 (l:OpenLaw) (args:List WData):l.row.toRowW.claim.post args (.bool true) args=true :=
 postW_of (r:=l.row.toRowW) (X:=(true == true))
  (show WShape.has [] (.bool true) .bool=true by first | rfl | decide | simp[WShape.has,WShape.arms,WShape.armsAll])
  (show (WTm.eq .res (.lit (.bool true))).value [] { args:=args,res:=some (.bool true),after:=args }=some (.bool (true == true)) from w_eq_bool (w_res rfl) w_lit) rfl
def attach_call {l:OpenLaw} {n:Nat} {q:Program} {loose:List Str} {XP:(Str->Option Value)->Heap->Prop} {YP:World->Heap->Prop} {d:DefRec}
 (hn:l.most=some n) (U:d.params.defaults=[])
 (call:∀ (w:World) (D z:Shared) (mg mb:Str->Option Value) (J:Addr) (o:Obj) (pm N I:Value) (a:Addr) (vs:List Value) (ns:List Int),
  Ground q loose [] XP w D mg mb z.heap->YP w z.heap ->
  z.heap.get? J=some o->o.data=.func (docDef d.name d.params d.body d.scope pm N I)->z.heap.CodeRec N d.name->mg d.name=some (.ref J) ->
  z.heap.get? a=some { cls:=.type "list",data:=.seq vs.toArray }->IntsAre vs ns->ns.length<=n->z.gens=#[] ->
  codeAny (model l.prog w) callerA (.call (.ref J) ⟨[.ref a],[]⟩) (λr s'=>r=.ok (.ret (.bool true))/\OldK z.heap s'.heap/\s'.os=z.os/\AllBare s'.gens) z) :
 WalkO q loose XP YP l.row.toRowW d [] (λf vs=>PySem.call f vs):=by
 intro w D z mg mb G Y J o pm N I dV kV ho hd al hD am hg args vals as L ap aq ao ar;obtain rfl:dV=.none:=Dflts.none hD U;obtain rfl:kV=.none:=Dflts.noKw hD;obtain⟨a,vs,ns,rfl,rfl,M,hints,hlen⟩:=R1 hn L ao;refine enter_call (codeAny_mono (call w D z mg mb J o pm N I a vs ns G Y ho (fd_plain hd) al am M hints hlen hg) λr s' hq=>?_);obtain⟨rfl,h2,h3,h4⟩:=hq;exact⟨.inl ⟨.bool true,.bool true,[],rfl,λ_=>rfl,.bool true,R3 l _,λ_=>⟨List.Pairwise.nil,λ_ hm=>(nomatch hm)⟩⟩,h2,h3,h4⟩
end Att
namespace L2
open PySem PySem.Spec PyProof.Rows
def lL:∀ {vs:List Value} {ns:List Int},IntsAre vs ns->Vals (ns.map V.int) vs
 | _,_,.nil=>.nil
 | _,_,.cons n t h=>.cons ⟨t,rfl⟩ (lL h)
def aBD (H:Hp):Prop:=∀ b,H b=none\/∃ o xs,H b=some (.frz o (.lst xs))
def X6 {P:Program} {w:World} {K:PySem.W.Frag} {mg mb:Str->Option Value} {CX:CXT} {k:Nat} {fa a:Addr} {fd:FuncData} {x:Str} {sp:Sp} {D:Shared} {vs:List Value} {ns:List Int}
 (KX:K.In D.heap) (N:D.heap.Ns mainGlobals mg) (J:D.heap.Ns builtinsNs mb) (ao:∀ x:Str,x≠"__name__"->mb x=bootBuiltins x) (U:D.heap.NoLimit) (hg:D.gens=#[])
 (ha:D.heap.get? a=some { cls:=.type "list",data:=.seq vs.toArray }) (hi:IntsAre vs ns) (hl:ns.length<=sizeLine) (hr:Room k callerA)
 (F:∀ base:Heap,K.In base->base.Ns mainGlobals mg->FnOk P w K mg base CX k fa fd [x] sp) (M:∀ (s:Shared) (u:Value),BindsTo s fd ⟨[u],[]⟩ [(x,u)])
 (ap:∀ H:Hp,aBD H->SqL K H a (ns.map V.int)->sp [.ref a] H (λv _=>v=.bl true) λ_ _ _=>False)
 (aq:∀ H e s',CX [] H D (λ_ _ _=>False) e s'->False) :
 codeAny (model P w) callerA (.call (.ref fa) ⟨[.ref a],[]⟩) (λr s'=>r=.ok (.ret (.bool true))/\OldK D.heap s'.heap/\s'.os=D.os/\AllBare s'.gens) D:=by
 have rv:=lL hi;have Y:=hi.length;have core:∀ H:Hp,aBD H->SqL K H a (ns.map V.int)->HOk P w H D.heap->(∀ b,H b≠none->b=a)->(H a≠none->K.lookup a=none) ->
  codeAny (model P w) callerA (.call (.ref fa) ⟨[.ref a],[]⟩) (λr s'=>r=.ok (.ret (.bool true))/\OldK D.heap s'.heap/\s'.os=D.os/\AllBare s'.gens) D:=by
  intro H hO hS hok hA hK;have I:∀ {b:Addr} {o:Obj},D.heap.get? b=some o->H b=none->(wL D.heap H).get? b=some o:=λe n=>V7 e n;have ar:∀ {b:Addr} {o:Obj} {es:Array DictEntry} {ep:Nat},D.heap.get? b=some o->o.data=.dict es ep->H b=none:=λ{b o es ep} e d=>by
   cases q:H b with
   | none=>rfl
   | some u =>
    have e':b=a:=hA b (by rw[q];simp);subst e';rw[ha]at e;cases e;have d':Data.seq vs.toArray _=Data.dict es ep:=d;cases d'
  have L:∀ {b:Addr} {m:Str->Option Value},D.heap.Ns b m->(wL D.heap H).Ns b m:=λ{b m} ⟨o,es,ep,e,d,r⟩=>⟨o,es,ep,I e (ar e d),d,r⟩;have al:K.In (wL D.heap H):=λb o e=>I (KX b o e) (by
   cases q:H b with
   | none=>rfl
   | some u =>
    have e':b=a:=hA b (by rw[q];simp);subst e';rw[hK (by rw[q];simp)]at e;cases e)
  have hM:Mod K mg (wL D.heap H):=⟨al,L N,⟨mb,L J,ao⟩,let ⟨mc,h1,h2⟩:=U;⟨mc,L h1,h2⟩⟩;have e0:Env0 P w K mg (wL D.heap H) callerA [] D H:=⟨rfl,hM,λb o e=>u8 e,Nat.le_of_eq (Q3 _ _),trivial,λb J=>absurd (show b∈([]:List Addr) from J) (by simp),hok,.of_eq hg⟩;refine codeAny_mono ((F _ al (L N)).run callerA [] D H ⟨[.ref a],[]⟩ [.ref a] [.ref a] _ _ hr e0 (M D (.ref a)) (.cons rfl .nil) (ap H hO hS)) λr s' h=>?_;cases r with
  | error e=>exact(aq H e s' h).elim
  | ok fl =>
   cases fl with
   | next=>exact False.elim h
   | brk=>exact False.elim h
   | cont=>exact False.elim h
   | ret u =>
    obtain⟨v,H',os,bare,un,am,r',q⟩:=h;have q':v=.bl true:=q;subst q';obtain rfl:u=Value.bool true:=r';refine⟨rfl,OldK.of_keep λb o e=>?_,os,bare⟩;cases q:H b with
    | none=>exact un.keep b o e q (by intro z;exact absurd (show b∈([]:List Addr) from z) (by simp)) (by simp)
    | some u =>
     rcases hO b with z | ⟨ob,xs,z⟩
     .rw[q]at z;cases z
     .have z2:=un.frzs b ob _ z;obtain⟨e1,_⟩:=hok b _ z;obtain⟨e2,_⟩:=am b _ z2;rw[e]at e1;cases e1;exact e2
 cases hk:K.lookup a with
 | some o =>
  have e:=KX a o hk;rw[ha]at e;cases e;refine core (λ_=>none) (λ_=>.inl rfl) (.inr ⟨_,vs.toArray,_,hk,rfl,rfl,rfl,by rw[aDO,Y];exact hl,by simpa using rv⟩) (λb u z=>by have z':(none:Option HO)=some u:=z;cases z') (λb z=>absurd rfl z) λz=>absurd rfl z
 | none =>
  refine core (λb=>if b=a then some (.frz { cls:=.type "list",data:=.seq vs.toArray } (.lst (ns.map V.int)))else none) (λb=>?_) (.inl (.inr ⟨{ cls:=.type "list",data:=.seq vs.toArray },if_pos rfl⟩)) (λb u z=>?_) (λb z=>?_) λ_=>hk
  .by_cases J:b=a
   .exact .inr ⟨_,_,if_pos J⟩
   .exact .inl (if_neg J)
  .by_cases J:b=a
   .have z':=(if_pos J).symm.trans z;cases z';subst J;exact⟨ha,by rw[aDG];exact hl,vs,_,rv,ha⟩
   .have z':=(if_neg J).symm.trans z;cases z'
  .by_cases J:b=a
   .exact J
   .exact absurd (if_neg J) z
def walk_of {l:PySem.W.OpenLaw} {n k:Nat} {q:Program} {loose:List Str} {XP:(Str->Option Value)->Heap->Prop} {YP:World->Heap->Prop} {d:DefRec} {K:Params->PySem.W.Frag} {CX:World->CXT} {sp:World->Sp} {x:Str}
 (hn:l.most=some n) (hn2:n<=sizeLine) (hdf:d.params.defaults=[]) (hr:Room k callerA)
 (hY:∀ (w:World) (h:Heap),YP w h->(K w.params).In h)
 (F:∀ (w:World) (mg:Str->Option Value) (fa:Addr) (h:Heap),(K w.params).In h->h.Ns mainGlobals mg->mg d.name=some (.ref fa) ->
  ∃ fd:FuncData,(∀ (s:Shared) (u:Value),BindsTo s fd ⟨[u],[]⟩ [(x,u)]) /\
   ∀ base:Heap,(K w.params).In base->base.Ns mainGlobals mg->FnOk l.prog w (K w.params) mg base (CX w) k fa fd [x] (sp w))
 (hsp:∀ (w:World) (H:Hp) (a:Addr) (ns:List Int),ns.length<=n->aBD H->SqL (K w.params) H a (ns.map V.int)->sp w [.ref a] H (λv _=>v=.bl true) λ_ _ _=>False)
 (hCX:∀ (w:World) (H:Hp) (s:Shared) (e:Value) (s':Shared),CX w [] H s (λ_ _ _=>False) e s'->False) :
 PySem.W.WalkO q loose XP YP l.row.toRowW d [] (λf vs=>PySem.call f vs):=by
 refine Att.attach_call hn hdf λw s₀ s₁ mg mb fa o pm cd doc a vs ns G Y ho hd hcd hmg hobj hints hlen hg=>?_;have KX:=hY w _ Y;obtain⟨fd,hb,hF⟩:=F w mg fa _ KX G.T.g hmg;exact X6 KX G.T.g G.T.b G.T.builtins G.T.nolimit hg hobj hints (Nat.le_trans hlen hn2) hr hF hb (λH hO hS=>hsp w H a ns hlen hO hS) λH e s'=>hCX w H s₁ e s'
def eJ (s:Stmt) (j:Nat):Stmt:=match s with
 | .ClassDef _ _ _ body _ _ _ _ _ _ _=>body.getD j (.Pass ⟨0,0,0,0⟩)
 | _=>.Pass ⟨0,0,0,0⟩
def cQ (s:Stmt):Arguments:=match s with
 | .FunctionDef _ a _ _ _ _ _ _ _ _=>a
 | _=>{ posonlyargs:=[],args:=[],vararg:=none,kwonlyargs:=[],kw_defaults:=[],kwarg:=none,defaults:=[] }
def cA (s:Stmt):List Stmt:=match s with
 | .FunctionDef _ _ b _ _ _ _ _ _ _=>b
 | _=>[]
def aJ (s:Stmt):Scope:=match s with
 | .FunctionDef _ _ _ _ _ _ z _ _ _=>z
 | _=>{ kind:=.function,names:=[],isGenerator:=false,isCoroutine:=false }
abbrev CX0:CXT:=λ_ _ _ _ _ _=>False
abbrev E0:XK:=λ_ _ _=>False
def zB {X:Cx}:mJ CX0 X E0:=λ_ _ _ _ _ _ _ h=>h.elim
structure Fun (K:PySem.W.Frag) (x qual:Str) (st:Stmt) (f:Addr) (fd:FuncData):Prop where
 ex:∃ (oc:Value) (od:Option Addr) (kV doc pm:Value) (an:Option Addr) (cdv ct:Value) (osl:Array (Option Value)),
  fd=PySem.W.fnOf x qual (cQ st) (cA st) (aJ st) .none kV doc pm an cdv ct/\K.lookup f=some ⟨oc,od,.func fd,osl⟩/\PySem.W.codeIn K cdv qual=true
 kp:PySem.W.keepIn K (.ref f)=true
section
variable {P:Program} {w:World} {K:PySem.W.Frag} {mg:Str->Option Value} {base:Heap}
def Fun.ok {x qual:Str} {st:Stmt} {f:Addr} {fd:FuncData} {N ps:List Str} {k:Nat} {sp:Sp} (F:Fun K x qual st f fd) (S:FnScope N ps (aJ st)) (len:∀ vs H Q E,sp vs H Q E->vs.length=ps.length)
 (D:∀ (z:Value) (A:Around) (outer:List Env) (s:Shared) (H:Hp) (vs:List V) (Q:VK) (E:XK),Room k (A.deeper (envOfC qual (aJ st) s.heap.objs.size f z))->sp vs H Q E ->
  ∃ t,PSs (yY CX0 P w K mg base N qual (aJ st) f z A outer s H E).nox (cA st) t/\t { nx:=λ_ H'=>Q .non H',rt:=Q } (mC N vs) H):FnOk P w K mg base CX0 (k+1) f fd ps sp:=by
 obtain⟨Y,od,kV,L,pm,an,z,ct,M,rfl,lk,I⟩:=F.ex;refine X0 lk I S len λA outer s H vs Q E U J=>?_;obtain⟨t,h,q⟩:=D z A outer s H vs Q E U J;exact⟨t,h.nox,q⟩
def Fun.binds {x qual:Str} {st:Stmt} {f:Addr} {fd:FuncData} {ps:List Str} (F:Fun K x qual st f fd)
 (h:∀ (kV z I:Value) (J:Option Addr) (D ct:Value) (us:List Value),us.length=ps.length->bindArgs (PySem.W.fnOf x qual (cQ st) (cA st) (aJ st) .none kV z I J D ct) ⟨us,[]⟩=pure (ps.zip us)):Binds K fd ps []:=by
 obtain⟨N,od,kV,z,I,J,D,ct,L,rfl,lk,M⟩:=F.ex;exact .all (h kV z I J D ct)
def G0 {x qual:Str} {st:Stmt} {f:Addr} {M:Value} {od J:Option Addr} {I:Array (Option Value)} {kV D L z ct:Value} (l:K.lookup f=some ⟨M,od,.func (PySem.W.fnOf x qual (cQ st) (cA st) (aJ st) .none kV D L J z ct),I⟩)
 (c:PySem.W.codeIn K z qual=true) (k:PySem.W.keepIn K (.ref f)=true):Fun K x qual st f (PySem.W.fnOf x qual (cQ st) (cA st) (aJ st) .none kV D L J z ct):=⟨⟨M,od,kV,D,L,J,z,ct,I,rfl,l,c⟩,k⟩
end
def nF {A:Around} {k:Nat} (z:Room k A):A.units+1<cLine:=Nat.lt_of_le_of_lt (Nat.add_le_add_left (by decide:1<=64) _) z.units
section
variable {X:Cx}
def pv (i:Nat) {x:Str} {pos:Pos} (D:X.N[i]?=some x:=by rfl) (I:Vis X.env.scope x:=by first | exact Or.inl rfl | exact Or.inr (Or.inl rfl) | exact Or.inr (Or.inr rfl)) (hd:(x == ("__debug__":Str))=false:=by decide)
 (z:(x == ("__classdict__":Str))=false:=by decide):PE X (.Name x pos) (aAn i):=aAo D I hd z
end
def zC {A B:Prop} (h:B):if false=true then A else B:=by
 rw[if_neg aDT];exact h
def X7 {A B:Prop} (h:A):if true=true then A else B:=by
 rw[if_pos rfl];exact h
def aAd {c A B:Prop} [Decidable c] (z:c) (h:B):if (!decide c)=true then A else B:=by
 rw[aD2 z];exact zC h
def Same (H H':Hp):Prop:=∀ b o,H b=some o->H' b=some o
def Same.refl (H:Hp):Same H H:=λ_ _ h=>h
def Same.trans {H H1 H2:Hp} (a:Same H H1) (b:Same H1 H2):Same H H2:=λc o h=>b c o (a c o h)
def Same.free {H H':Hp} (e:Same H H') {l:Addr} (h:H' l=Option.none):H l=Option.none:=by
 cases q:H l with
 | none=>rfl
 | some o =>
  rw[e l o q]at h;cases h
def Same.seq {K:PySem.W.Frag} {H H':Hp} {a:Addr} {xs:List V} (e:Same H H') (h:SqL K H a xs):SqL K H' a xs:=by
 rcases h with (h | ⟨o,h⟩) | h
 .exact .inl (.inl (e _ _ h))
 .exact .inl (.inr ⟨o,e _ _ h⟩)
 .exact .inr h
def kD (scope:Scope) (env:Env):List (Str×Addr) :=
 scope.names.foldl (λz y=>if y.2 == .free then (match env.cells.lookup y.1 with | some c=>(y.1,c) :: z | none=>z)else z) []
def qB {env:Env}:∀ (names:List (Str×NameKind)) (z:List (Str×Addr)),(∀ y∈names,y.2=.free->∃ c,env.cells.lookup y.1=some c) ->
 (forIn names z λ(y:Str×NameKind) (r:List (Str×Addr))=>(match y with | (name,kind)=>if (kind == NameKind.free)=true then (do let a <- cellOf env name;pure (ForInStep.yield ((name,a) :: r)))else pure (ForInStep.yield r):Sem (ForInStep (List (Str×Addr))))) =
  pure (names.foldl (λz y=>if y.2 == .free then (match env.cells.lookup y.1 with | some c=>(y.1,c) :: z | none=>z)else z) z)
 | [],z,_=>rfl
 | (n,k) :: r,z,h=>by
  rw[List.forIn_cons,aD7];have D:=λz=>qB (env:=env) r z λy J=>h y (aDJ _ J)
  by_cases I:k=.free
  .subst I;obtain⟨c,e⟩:=h (n,.free) aDI rfl;have L:env.cells.lookup n=some c:=e;simp only[cellOf,L,beq_self_eq_true,if_true];exact D _
  .have M:(k == NameKind.free)=false:=by simpa using I
   simp only[M,Bool.false_eq_true,if_false];exact D _
def wS {scope:Scope} {env:Env} (h:∀ y∈scope.names,y.2=.free->∃ c,env.cells.lookup y.1=some c):closureFor scope env=pure (kD scope env):=by
 have e:=qB (env:=env) scope.names [] h;unfold closureFor kD;rw[<- e]
 first | rfl | simp
def vF {env:Env} {x:Str} {c:Addr}:∀ (names:List (Str×NameKind)) (D:List (Str×Addr)),(∀ z d,D.lookup z=some d->env.cells.lookup z=some d) ->
 (names.foldl (λD y=>if y.2 == .free then (match env.cells.lookup y.1 with | some c=>(y.1,c) :: D | none=>D)else D) D).lookup x=some c->env.cells.lookup x=some c
 | [],D,h,e=>h x c e
 | (n,k) :: r,D,h,e=>by
  rw[aD7]at e;refine vF r _ ?_ e;intro z d q
  by_cases L:(k == NameKind.free)=true
  .simp only[L,if_true]at q;cases I:env.cells.lookup n with
   | none=>simp only[I]at q;exact h z d q
   | some a =>
    simp only[I,List.lookup_cons]at q
    by_cases hz:(z == n)=true
    .simp only[hz]at q;have:z=n:=by simpa using hz
     subst this;rw[I];exact q
    .have J:(z == n)=false:=by simpa using hz
     simp only[J]at q;exact h z d q
  .simp only[L,if_false]at q;exact h z d q
def gC {scope:Scope} {env:Env} {x:Str} {c:Addr} (e:(kD scope env).lookup x=some c):env.cells.lookup x=some c:=vF _ _ (λ_ _ q=>by simp at q) e
def mF {env:Env} {x:Str}:∀ (names:List (Str×NameKind)) (z:List (Str×Addr)),(∀ y∈names,y.2=.free->∃ c,env.cells.lookup y.1=some c)->((x,NameKind.free)∈names\/(z.lookup x).isSome=true) ->
 ((names.foldl (λz y=>if y.2 == .free then (match env.cells.lookup y.1 with | some c=>(y.1,c) :: z | none=>z)else z) z).lookup x).isSome=true
 | [],z,_,h=>by
  rcases h with h | h
  .cases h
  .exact h
 | (n,k) :: r,z,I,h=>by
  rw[aD7];refine mF r _ (λy L=>I y (aDJ _ L)) ?_;rcases h with h | h
  .rcases aDi.mp h with h | h
   .cases h;obtain⟨c,e⟩:=I (x,.free) aDI rfl;have M:env.cells.lookup x=some c:=e;right
    simp[M,List.lookup_cons]
   .exact .inl h
  .right
   by_cases J:(k == NameKind.free)=true
   .simp only[J,if_true];cases N:env.cells.lookup n with
    | none=>exact h
    | some a =>
     simp only[List.lookup_cons]
     by_cases hz:(x == n)=true
     .simp[hz]
     .have D:(x == n)=false:=by simpa using hz
      simp only[D];exact h
   .simp only[J];exact h
def vG {scope:Scope} {env:Env} {x:Str} (z:∀ y∈scope.names,y.2=.free->∃ c,env.cells.lookup y.1=some c) (h:(x,NameKind.free)∈scope.names):∃ c,(kD scope env).lookup x=some c :=
 Option.isSome_iff_exists.mp (mF _ _ z (.inl h))
def dB (sc inn:Scope) (N:List Str) (js:List Nat) (cs:List Str):Bool :=
 (inn.kind == .function) && inn.names.all (λy=>y.2 != .cell && (y.2 != .local || inn.names.lookup y.1 == some .local) && (y.2 != .free || (sc.names.lookup y.1 == some .cell || sc.names.lookup y.1 == some .free))) &&
 (js.map λj=>N[j]?) == cs.map some && cs.all (λx=>inn.names.lookup x == some .free)
structure CompOk (sc inn:Scope) (N:List Str) (js:List Nat) (cs:List Str):Prop where
 kind:inn.kind=.function
 nocell:∀ y∈inn.names,y.2≠.cell
 names:∀ y∈inn.names,y.2=.local->inn.names.lookup y.1=some .local
 frees:∀ y∈inn.names,y.2=.free->sc.names.lookup y.1=some .cell\/sc.names.lookup y.1=some .free
 slots:(js.map λj=>N[j]?)=cs.map some
 caps:∀ x∈cs,inn.names.lookup x=some .free
def CompOk.of {D inn:Scope} {N:List Str} {js:List Nat} {cs:List Str} (h:dB D inn N js cs=true):CompOk D inn N js cs:=by
 unfold dB at h;simp only[Bool.and_eq_true]at h;obtain⟨⟨⟨h1,h2⟩,h3⟩,h4⟩:=h;rw[List.all_eq_true]at h2 h4;refine⟨by simpa using h1,λy z=>?_,λy z e=>?_,λy z e=>?_,by simpa using h3,λx I=>by simpa using h4 x I⟩
 .have:=h2 y z;simp only[Bool.and_eq_true]at this;simpa using this.1.1
 .have:=h2 y z;simp only[Bool.and_eq_true,e]at this;simpa using this.1.2
 .have:=h2 y z;simp only[Bool.and_eq_true,e]at this;simpa using this.2
def sIn (nt:Nat) (js:List Nat) (σ:St):St:=List.replicate nt none++js.map λj=>(σ[j]?).join
def fL (X:Cx) (inn:Scope) (N':List Str) (s₀:Shared) (H₀:Hp) (ex:List Addr):Cx where
 prog:=X.prog
 w:=X.w
 K:=X.K
 mg:=X.mg
 base:=X.base
 A:=X.A
 N:=N'
 s₀:=s₀
 H₀:=H₀
 env:=compEnvC inn (kD inn X.env) s₀.heap.objs.size X.env
 outer:=X.stack
 stack:=X.stack
 ex:=ex
 fn:=λ_=>false
 calm:=X.calm
 pn:=[]
 xe:=λ_ _=>False
def PIf (X:Cx) (ifs:List Expr) (t:TT):Prop :=
 ∀ (pins:List (Addr×Obj)) (s:Shared) (σ:St) (H:Hp) (Q:Bool->Hp->Prop),Inv X pins σ H s->t σ H Q ->
  wpAny (model X.prog X.w) X.A (forIn ifs true λc r=>if r=true then do let ok <- isTrue c X.env (eval c X.env);pure (ForInStep.yield ok)else pure (ForInStep.yield r)) (TP X pins σ Q) X.xe s
def aCr:TT:=λ_ H Q=>Q true H
def dE {X:Cx}:PIf X [] aCr:=λ_ _ _ H _ I h=>wpAny_tests_nil ⟨H,I,h⟩
def wT {X:Cx} {c:Expr} {t:TT} (h:PT X c t):PIf X [c] t:=λpins s σ H Q I hw=>wpAny_tests_one (h pins s σ H Q I hw)
def nG (J:It) (L:St) (g:TG) (tt:TT) (te:TE) (Q:VK) (H1:Hp):Prop:=∃ W:Nat->Nat->List V->Hp->Prop,(∃ m,W 0 m [] H1)/\∀ i m ys H,W i m ys H ->
 ys.length<sizeLine/\((J.stop i H/\∀ D,H D=none->Q (.ref D) (upd H D (.lst ys))) \/
  (J.go i H/\∃ N:List V->Hp->Prop,(∀ z H',N z H'->∃ M,M<m/\W (i+1) M z H')/\∀ x H',J.yld i H x H'->g x L H' λI H2=>tt I H2 λb U =>
   if b=true then te I U λy Y=>N (ys++[y]) Y else N ys U))
def aAe (wi:TI) (nt:Nat) (js:List Nat) (g:TG) (tt:TT) (te:TE):TE:=fun σ H Q=>wi σ H λJ H1=>nG J (sIn nt js σ) g tt te Q H1
def fR {env:Env}:∀ {names:List (Str×NameKind)} {x:Str},names.lookup x=some .free ->
 (names.map λ(n,k)=>if (k == NameKind.free && env.scope.kind == .function && env.kindOf n == some .cell)then (n,NameKind.cell)else (n,k)).lookup x=some .cell \/
 (names.map λ(n,k)=>if (k == NameKind.free && env.scope.kind == .function && env.kindOf n == some .cell)then (n,NameKind.cell)else (n,k)).lookup x=some .free
 | [],_,h=>by simp at h
 | (n,k) :: r,x,h=>by
  have I:=@fR env r x;show List.lookup x ((if (k == NameKind.free && env.scope.kind == .function && env.kindOf n == some .cell)=true then (n,NameKind.cell)else (n,k)) :: _)=_\/List.lookup x ((if (k == NameKind.free && env.scope.kind == .function && env.kindOf n == some .cell)=true then (n,NameKind.cell)else (n,k)) :: _)=_;cases z:x == n with
  | true =>
   simp only[List.lookup_cons,z]at h;cases h
   by_cases D:(NameKind.free == NameKind.free && env.scope.kind == .function && env.kindOf n == some .cell)=true
   .left;rw[if_pos D];simp[List.lookup_cons,z]
   .right;rw[if_neg D];simp[List.lookup_cons,z]
  | false =>
   simp only[List.lookup_cons,z]at h
   by_cases D:(k == NameKind.free && env.scope.kind == .function && env.kindOf n == some .cell)=true
   .rw[if_pos D];simp only[List.lookup_cons,z];exact I h
   .rw[if_neg D];simp only[List.lookup_cons,z];exact I h
def kE {env:Env}:∀ {names:List (Str×NameKind)} {x:Str},(∀ y∈names,y.2≠NameKind.cell) ->
 ((names.map λ(n,k)=>if (k == NameKind.free && env.scope.kind == .function && env.kindOf n == some .cell)then (n,NameKind.cell)else (n,k)).lookup x=some .cell \/
 (names.map λ(n,k)=>if (k == NameKind.free && env.scope.kind == .function && env.kindOf n == some .cell)then (n,NameKind.cell)else (n,k)).lookup x=some .free)->(x,NameKind.free)∈names
 | [],_,_,h=>by simp at h
 | (n,k) :: r,x,I,h=>by
  have J:=@kE env r x (λy L=>I y (aDJ _ L));have M:=I (n,k) aDI;rw[aD5]at h;cases D:x == n with
  | true =>
   have e:x=n:=by simpa using D
   subst e
   by_cases z:(k == NameKind.free && env.scope.kind == .function && env.kindOf x == some .cell)=true
   .have:k=.free:=by simp only[Bool.and_eq_true]at z;simpa using z.1.1
    subst this;exact aDI
   .simp only[if_neg z,List.lookup_cons,D]at h;rcases h with h | h
    .cases h;exact absurd rfl M
    .cases h;exact aDI
  | false =>
   refine aDJ _ (J ?_)
   by_cases z:(k == NameKind.free && env.scope.kind == .function && env.kindOf n == some .cell)=true
   .simp only[if_pos z,List.lookup_cons,D]at h;exact h
   .simp only[if_neg z,List.lookup_cons,D]at h;exact h
section
variable {X:Cx} {pins:List (Addr×Obj)} {σ:St} {H H':Hp} {s:Shared} {inn:Scope} {js:List Nat} {cs ts:List Str} {nt:Nat}
def qU {i:Nat} {v:V} (h:(sIn nt js σ)[i]?=some (some v)):nt<=i/\∃ j,js[i - nt]?=some j/\σ[j]?=some (some v):=by
 unfold sIn at h
 by_cases hi:i<nt
 .rw[List.getElem?_append_left (by simpa using hi),List.getElem?_replicate]at h;split at h <;> cases h
 .rw[List.getElem?_append_right (by simpa using hi),aD0,aD4]at h;refine⟨by omega,?_⟩;cases e:js[i - nt]? with
  | none=>rw[e]at h;cases h
  | some j =>
   rw[e]at h;have h':(σ[j]?).join=some v:=Option.some.inj h;refine⟨j,rfl,?_⟩;cases q:σ[j]? with
   | none=>rw[q]at h';cases h'
   | some o =>
    rw[q]at h';have z:o=some v:=h';rw[z]
def aCE {ex:List Addr} (I:Inv X pins σ H s) (O:CompOk X.env.scope inn X.N js cs) (hex:∀ b∈ex,b<s.heap.objs.size/\b≠X.env.locals/\b∉X.fs/\(∀ x c,X.env.cells.lookup x=some c->c≠b)/\∀ o,X.base.get? b≠some o) :
 (fL X inn (ts++cs) s H ex).Ok where
 mod:=I.ok.mod
 kind:=O.kind
 glob:=I.ok.glob
 blt:=I.ok.blt
 above:=Nat.le_refl _
 inj:=λx y c h1 h2=>I.ok.inj x y c (gC h1) (gC h2)
 has:=λx hx=>by
  have hm:(x,NameKind.free)∈inn.names:=kE O.nocell hx;exact vG (λy hy e=>I.ok.has y.1 (O.frees y hy e)) hm
 cab:=λ_ _ h=>absurd h (by show ¬ (false=true);decide)
 hd:=I.ok.hd
 frames:=I.ok.frames
 stk:=.inl rfl
 exf:=λb hb=>⟨aD3 (hex b hb).1,λx c e=>(hex b hb).2.2.2.1 x c (gC e)⟩
 bs:=I.bs
 bsz:=Nat.le_trans I.ok.bsz I.sz
 noex:=λb o e hb=>(hex b hb).2.2.2.2 o e
 exfs:=λb hb hs=>by
  rcases aDi.mp (I.stkSub b hs)with e | e
  .exact(hex b hb).2.1 e
  .exact(hex b hb).2.2.1 e
 funs:=I.stack
 frf:=I.stkFree
def X8 {ex:List Addr} {h':Heap} {tk:Nat} (U:ts.length=nt) (I:Inv X pins σ H s) (O:CompOk X.env.scope inn X.N js cs) (hex:∀ b∈ex,b<s.heap.objs.size/\b≠X.env.locals/\b∉X.fs/\(∀ x c,X.env.cells.lookup x=some c->c≠b)/\∀ o,X.base.get? b≠some o)
 (hn:∃ m,h'.Ns s.heap.objs.size m) (hk:∀ b o,s.heap.get? b=some o->h'.get? b=some o) :
 Inv (fL X inn (ts++cs) s H ex) [] (sIn nt js σ) H { s with heap:=h',toks:=tk }:=by
 have ok:(fL X inn (ts++cs) s H ex).Ok:=aCE I O hex;obtain⟨m,hn⟩:=hn;have cellK:∀ c v,s.heap.IsCell c v->h'.IsCell c v:=λc v ⟨o,ho,hd⟩=>⟨o,hk c o ho,hd⟩;have hlen:js.length=cs.length:=by have:=congrArg List.length O.slots;simpa using this
 refine⟨ok,rfl,I.bare,Un.kept hk,⟨m,hn,λi x v e1 e2 e3=>?_⟩,λx c e=>?_,I.hok.fresh (Nat.le_refl _),λx c e=>I.freeC x c (gC e),λp hp=>?_,I.hok.kept hk,?_⟩
 .obtain⟨hi,j,hj,hv⟩:=qU e2;have M:(ts++cs)[i]?=some x:=e1;rw[List.getElem?_append_right (by omega),U]at M;have hN:X.N[j]?=some x:=by
   have q:(js.map λj=>X.N[j]?)[i - nt]?=(cs.map some)[i - nt]?:=by rw[O.slots]
   rw[aD4,aD4,hj,M]at q;exact Option.some.inj q
  have D:=O.caps x (aDR M);have J:(x,NameKind.free)∈inn.names:=PySem.mem_of_lookup D;have L:=O.frees _ J rfl;obtain⟨mo,am,hl⟩:=I.loc;obtain⟨u,r,l⟩:=hl j x v hN hv (.inr L);refine⟨u,r,.inr ?_⟩;rcases l with ⟨l1,_⟩ | ⟨k,c,ec,z⟩
  .have Y:X.env.scope.names.lookup x=some .local:=l1;rcases L with q | q <;> (rw[q]at Y;cases Y)
  .refine⟨?_,?_⟩
   .exact fR (env:=X.env) D
   .obtain⟨c',al⟩:=vG (env:=X.env) (λy hy e=>I.ok.has y.1 (O.frees y hy e)) J;have:=gC al;rw[ec]at this;cases this;exact⟨c,al,cellK _ _ z⟩
 .obtain⟨v,z⟩:=I.cell x c (gC e);exact⟨v,cellK _ _ z⟩
 .exact absurd (show p∈([]:List (Addr×Obj)) from hp) (by simp)
 .show (sIn nt js σ).length=(ts++cs).length;unfold sIn;simp[U,hlen]
def Inv.track {a:Addr} {o:HO} (I:Inv X pins σ H s) (M:H a=none) (h0:X.s₀.heap.objs.size<=a) (N:a≠X.env.locals) (U:∀ x c,X.env.cells.lookup x=some c->c≠a) (Y:∀ p∈X.pn++pins,p.1≠a)
 (new:ObjOk X.prog X.w (upd H a o) s.heap a o):Inv X pins σ (upd H a o) s:=by
 have J:∀ b z,X.s₀.heap.get? b=some z->b≠a:=λb z e=>aD3 (aDX (aDM e) h0);have neT:∀ b u,H b=some u->b≠a:=λb u e=>aN e M;refine⟨I.ok,I.os,I.bare,⟨I.base.keep,I.base.slot,λb z e n hx=>?_,I.base.there,λb xs e=>?_,λb z u e=>?_,λb ps e=>?_⟩,I.loc,I.cell,?_,λx c e=>?_,λp D=>?_,λb u e=>?_,I.len⟩
 .rw[aG (J b z e)];exact I.base.free b z e n hx
 .have q:=I.base.tups b xs e;rw[aG (neT b _ q)];exact q
 .have q:=I.base.frzs b z u e;rw[aG (neT b _ q)];exact q
 .obtain⟨more,q⟩:=I.base.tbls b ps e;exact⟨more,by rw[aG (neT b _ q)];exact q⟩
 .rw[aG (Ne.symm N)];exact I.free
 .rw[aG (U x c e)];exact I.freeC x c e
 .obtain⟨q1,q2,q3,q4,q5⟩:=I.pin p D;exact⟨q1,by rw[aG (Y p D)];exact q2,q3,q4,q5⟩
 .by_cases L:b=a
  .subst L;rw[aB]at e;cases e;exact new
  .rw[aG L]at e;exact(I.hok b u e).stay (λ_ _ _ q=>q) (λc q=>by rw[aG (neT c _ q)];exact q) λc xs q=>by rw[aG (neT c _ q)];exact q
end
def GK (nt:Nat) (g:TG):Prop:=∀ v σ H Q,g v σ H Q->g v σ H λz H'=>((∀ i,nt<=i->z[i]?=σ[i]?)/\z.length=σ.length)/\Q z H'
def GKs (nt:Nat) (g:TGs):Prop:=∀ vs σ H Q,g vs σ H Q->g vs σ H λz H'=>((∀ i,nt<=i->z[i]?=σ[i]?)/\z.length=σ.length)/\Q z H'
def fT {nt i:Nat} (h:i<nt):GK nt (uX i):=λv σ H Q q=>⟨⟨λj z=>by rw[List.getElem?_set_ne (by omega)],by simp⟩,q⟩
def jC {nt:Nat}:GKs nt aBp:=λvs σ H Q ⟨e,q⟩=>⟨e,⟨λ_ _=>rfl,rfl⟩,q⟩
def cN {nt i:Nat} {u:TGs} (h:i<nt) (I:GKs nt u):GKs nt (W1 (uX i) u):=λvs σ H Q q=>by
 obtain⟨v,r,e,q⟩:=q;refine⟨v,r,e,?_⟩;have J:u r (σ.set i (some v)) H Q:=q;have w:=I r (σ.set i (some v)) H Q J;have e1:∀ j,nt<=j->(σ.set i (some v))[j]?=σ[j]?:=λj D=>by rw[List.getElem?_set_ne (by omega)]
 have:(λ(z:St) (H':Hp)=>((∀ j,nt<=j->z[j]?=(σ.set i (some v))[j]?)/\z.length=(σ.set i (some v)).length)/\Q z H')=λz H'=>((∀ j,nt<=j->z[j]?=σ[j]?)/\z.length=σ.length)/\Q z H':=by
  funext z H'
  apply propext
  constructor
  .rintro ⟨⟨a,b⟩,c⟩;exact⟨⟨λj D=>(a j D).trans (e1 j D),by simpa using b⟩,c⟩
  .rintro ⟨⟨a,b⟩,c⟩;exact⟨⟨λj D=>(a j D).trans (e1 j D).symm,by simpa using b⟩,c⟩
 rw[this]at w;exact w
def mK {K:PySem.W.Frag} {nt n:Nat} {t:TGs} (h:GKs nt t):GK nt (v0 K n t):=λv σ H Q ⟨a,xs,e,z,D,q⟩=>⟨a,xs,e,z,D,h xs σ H Q q⟩
section
variable {X:Cx} {pins:List (Addr×Obj)} {σ:St} {inn:Scope} {js:List Nat} {cs ts:List Str} {nt:Nat} {elt tg iter:Expr} {ifs:List Expr} {pos:Pos} {g:TG} {tt:TT} {te:TE}
def vH {J:It} {fp:List Addr} {it:Addr} {tn:Nat->Heap->Prop} {H2:Hp} {s2:Shared} {E:Value->Shared->Prop} {Q:VK} {RR:Value->Addr->Result->Shared->Prop}
 (bf:X.calm=true) (O:CompOk X.env.scope inn X.N js cs) (cg:ts.length=nt)
 (hg:∀ al am ex,PG (fL X inn (ts++cs) al am ex) tg g) (hk:GK nt g) (ht:∀ al am ex,PIf (fL X inn (ts++cs) al am ex) ifs tt) (he:∀ al am ex,PE (fL X inn (ts++cs) al am ex) elt te)
 (I2:Inv X pins σ H2 s2) (T:qM X.prog X.w X.K tg J fp it tn) (bg:tn 0 s2.heap) (f2:∀ b∈fp,kA X pins H2 b)
 (R:nG J (sIn nt js σ) g tt te Q H2)
 (ci:∀ D C s' H',Inv X pins σ H' s'->(∃ m,s'.heap.Ns C m)->H' C=none->C≠X.env.locals->X.s₀.heap.objs.size<=C->(∀ x c,X.env.cells.lookup x=some c->c≠C)->(∀ p∈X.pn++pins,p.1≠C)->Q (.ref D) H'->RR (.ref D) C (.ok .next) s') :
 wpAny (model X.prog X.w) X.A (newList []) (λbq br=>wpAny (model X.prog X.w) X.A (newFunctionEnv inn X.env.globals (kD inn X.env) [] X.env.qual none .none (some X.env)) (λba bt =>
  codeAny (model X.prog X.w) X.A (.compStart (.ListComp elt [⟨tg,iter,ifs,0⟩] inn pos) 0 (.ref it) bq { ba with scope:=relabel inn X.env }) (RR bq ba.locals) bt) E br) E s2:=by
 refine wpAny_newObj_type (wpAny_newFunctionEnv O.nocell (by intro y hy;simp at hy) (λao U Y=>?_) O.kind);dsimp only at U Y ⊢;generalize hD:s2.heap.objs.size=D;have I3:Inv X pins σ H2 { s2 with heap:=s2.heap.push { cls:=.type "list",dict:=none,data:=.seq ([]:List Value).toArray } }:=I2.kept (t':=s2.toks) λb o e=>aDH _ e;generalize bu:({ s2 with heap:=s2.heap.push { cls:=.type "list",dict:=none,data:=.seq ([]:List Value).toArray } }:Shared)=M at I3;have e3:M.heap=s2.heap.push { cls:=.type "list",dict:=none,data:=.seq ([]:List Value).toArray }:=by rw[<- bu]
 have cj:M.heap.get? D=some { cls:=.type "list",dict:=none,data:=.seq ([]:List Value).toArray }:=by rw[e3,<- hD];exact aDN _ rfl
 have ar:M.heap.objs.size=D+1:=by rw[e3,Heap.size_push,hD]
 have ck:(s2.heap.push { cls:=.type "list",dict:=none,data:=.seq ([]:List Value).toArray })=M.heap:=e3.symm;rw[ck]at U Y ⊢;have bb:H2 D=none:=I2.hok.fresh (by rw[hD];exact Nat.le_refl _);have up:∀ b o,M.heap.get? b=some o->ao.get? b=some o:=λb o e=>Y.extBut b o (aD3 (aDM e)) (aDH _ e);have bh:∀ b∈fp,b<M.heap.objs.size/\b≠D:=λb hb=>by
  obtain⟨o,eo,_⟩:=T.obj 0 _ bg b hb;have h1:=aDM eo;rw[hD]at h1;exact⟨by rw[ar];exact Nat.lt_succ_of_lt h1,aD3 h1⟩
 have nb:∀ b,X.s₀.heap.objs.size<=b->∀ o,X.base.get? b≠some o:=λb hb o e=>absurd (aDX (aDM e) (Nat.le_trans I2.ok.bsz hb)) (Nat.lt_irrefl _);have aw:s2.heap.objs.size<=D:=by rw[hD];exact Nat.le_refl _
 have fD:kA X pins H2 D:=I2.fpOk aw bb;have hex:∀ b∈D :: fp,b<M.heap.objs.size/\b≠X.env.locals/\b∉X.fs/\(∀ x c,X.env.cells.lookup x=some c->c≠b)/\∀ o,X.base.get? b≠some o:=λb hb=>by
  rcases aDi.mp hb with rfl | hb
  .exact⟨by rw[ar];exact Nat.lt_succ_self _,fD.2.1,fD.2.2.1,fD.2.2.2.2.1,nb _ (Nat.le_trans I2.sz aw)⟩
  .obtain⟨f0,f1,bv,f3,f4,f5⟩:=f2 b hb;refine⟨(bh b hb).1,f1,bv,f4,λo e=>?_⟩;rcases f3 with z | z
   .exact I2.ok.noex b o e z
   .exact nb b z o e
 have hC:M.heap.objs.size=M.heap.objs.size:=rfl;generalize L:fL X inn (ts++cs) M H2 (D :: fp)=I;have I4:Inv I [] (sIn nt js σ) H2 { M with heap:=ao,toks:=M.toks }:=by
  rw[<- L];exact X8 cg I3 O hex ⟨_,U⟩ up
 have xp:I.prog=X.prog:=by rw[<- L];rfl
 have xw:I.w=X.w:=by rw[<- L];rfl
 have xK:I.K=X.K:=by rw[<- L];rfl
 have xA:I.A=X.A:=by rw[<- L];rfl
 have xc:I.calm=true:=by rw[<- L];exact bf
 have xe:I.env=compEnvC inn (kD inn X.env) M.heap.objs.size X.env:=by rw[<- L];rfl
 have xx:I.xe=λ_ _=>False:=by rw[<- L];rfl
 have bi:I.ex=D :: fp:=by rw[<- L];rfl
 have bj:I.pn=[]:=by rw[<- L];rfl
 have bw:I.s₀=M:=by rw[<- L];rfl
 have cm:I.H₀=H2:=by rw[<- L];rfl
 have cn:I.fs=frs X.stack:=by rw[<- L];rfl
 have cp:PG I tg g:=by rw[<- L];exact hg _ _ _
 have cq:PIf I ifs tt:=by rw[<- L];exact ht _ _ _
 have cr:PE I elt te:=by rw[<- L];exact he _ _ _
 have ap:=I4.ok;have xl:I.env.locals=M.heap.objs.size:=by rw[xe];rfl
 have Dl:D≠I.env.locals:=by rw[xl,ar];exact aD3 (Nat.lt_succ_self _)
 have au:∀ {H':Hp} {pl:List (Addr×Obj)},(∀ b∈fp,H' b=none)->(∀ p∈pl,p.1=D)->∀ b∈fp,kA I pl H' b:=λ{H' pl} hn hpl b hb=>by
  have ax:b∈I.ex:=by rw[bi];exact aDJ _ hb
  refine⟨hn b hb,(ap.exf b ax).1,λz=>ap.exfs b ax z,.inl ax,(ap.exf b ax).2,λp hp=>?_⟩;rw[bj,List.nil_append]at hp;rw[hpl p hp];exact Ne.symm (bh b hb).2
 have DX:D∈I.ex:=by rw[bi];exact aDI
 obtain⟨W,⟨m0,w0⟩,turn⟩:=R;have loop:codeAny (model X.prog X.w) X.A (.compLoop (.ListComp elt [⟨tg,iter,ifs,0⟩] inn pos) 0 (.ref it) (.ref D) I.env) (RR (.ref D) M.heap.objs.size) { M with heap:=ao,toks:=M.toks }:=by
  refine codeAny_loop rfl (λn s'=>∃ i ys H',Inv I [] (sIn nt js σ) H' s'/\tn i s'.heap/\(∀ b∈fp,H' b=none)/\H' D=none/\(∃ (its:List Value) (c:Nat),Vals ys its/\s'.heap.get? D=some { cls:=.type "list",data:=.seq its.toArray c })/\W i n ys H') ?_ m0
   ⟨0,[],H2,I4,?_,λb hb=>(f2 b hb).1,bb,⟨[],0,.nil,up D _ cj⟩,w0⟩
  .rintro n s5 ⟨i,ys,H5,I5,bx,bz,bm,⟨its,c,rv,eD⟩,w5⟩;show wpAny _ X.A ((compTurn (.ListComp elt [⟨tg,iter,ifs,0⟩] inn pos) 0 (.ref it) (.ref D) I.env).onRaise (λx=>do noteFrame x I.env;theTreesLotGoes x)) _ _ s5;refine wpAny_noted ?_;rw[compTurn_list];refine aDE (wpAny_standAt (aDE ?_));have bc:Inv I (cE [D] s5.heap) (sIn nt js σ) H5 s5:=by
    have q:=I5.pinned (fp:=[D]) (λb hb=>?_) (λb hb=>?_)
    .simpa using q
    .have e:b=D:=by simpa using hb
     subst e;refine⟨bm,Dl,λz=>ap.exfs b DX z,.inl DX,(ap.exf b DX).2,λp hp=>?_⟩;rw[bj,List.nil_append]at hp;cases hp
    .have e:b=D:=by simpa using hb
     subst e;exact⟨_,eD,λv z=>by cases z⟩
   have bn:∀ p∈cE [D] s5.heap,p.1=D:=λp hp=>by simpa using (iO hp).1
   have memD:(D,({ cls:=.type "list",data:=.seq its.toArray c }:Obj))∈cE [D] s5.heap:=bT (by simp) eD;obtain⟨hz,cu⟩:=turn i n ys H5 w5;rcases cu with ⟨stop,fin⟩ | ⟨go,N,hN,step⟩
   .have q:=T.done I xp xw xK xc i _ s5 _ H5 (notedBy (model X.prog X.w) X.A I.env λe s'=>RR (.ref D) M.heap.objs.size (.error e) s') bc (au bz bn) bx stop;rw[xA]at q;refine wpAny_mono q (λr s6 ⟨hr,I6⟩=>?_) λ_ _ z=>z;subst hr;refine aDF ?_;have cv:=(I6.pin (D,_) (aDK _ memD)).1;have un:Un (frs X.stack) (D :: fp) H2 H5 M.heap s6.heap:=by
     have z:=I6.base;rw[cn,bi,cm,bw]at z;exact z
    have cw:s6.os=M.os:=by have z:=I6.os;rw[bw]at z;exact z
    have b_:HOk X.prog X.w H5 s6.heap:=by have z:=I6.hok;rw[xp,xw]at z;exact z
    have I7:Inv X pins σ H5 s6:=I3.call' cw un b_ I6.bare λb hb=>by
     rcases aDi.mp hb with e | hb
     .rw[e];exact⟨.inr (Nat.le_trans I2.sz aw),fD.2.1,fD.2.2.2.2.1,fD.2.2.2.2.2⟩
     .obtain⟨f0,f1,bv,f3,f4,f5⟩:=f2 b hb;exact⟨f3,f1,f4,f5⟩
    have I8:Inv X pins σ (upd H5 D (.lst ys)) s6:=I7.track bm (Nat.le_trans I2.sz aw) fD.2.1 fD.2.2.2.2.1 fD.2.2.2.2.2 ⟨Nat.le_of_lt hz,its,c,rv,cv⟩;have ca:M.heap.objs.size<=M.heap.objs.size:=Nat.le_refl _;have fC:kA X pins (upd H5 D (.lst ys)) M.heap.objs.size:=I3.fpOk ca (by
     rw[aG (by rw[<- xl];exact Ne.symm Dl)];have z:=I6.free;rw[xl]at z;exact z)
    obtain⟨mm,cb,_⟩:=I6.loc;rw[xl]at cb;exact ci D _ s6 _ I8 ⟨mm,cb⟩ fC.1 fC.2.1 (Nat.le_trans I3.sz ca) fC.2.2.2.2.1 fC.2.2.2.2.2 (fin D bm)
   .have q:=T.item I xp xw xK xc i _ s5 _ H5 (notedBy (model X.prog X.w) X.A I.env λe s'=>RR (.ref D) M.heap.objs.size (.error e) s') bc (au bz bn) bx go;rw[xA]at q;refine wpAny_mono q (λr s6 ⟨u,hr,h6⟩=>?_) λ_ _ z=>z;subst hr;refine aDE (wpAny_mono h6 (λ_ s7 ⟨x,H7,I7,r7,y7,bo,cx⟩=>?_) λ_ _ z=>z);have cy:=I7.pinned (fp:=fp) (λb hb=>au cx bn b hb) (T.obj _ _ bo);have q8:=cp _ s7 _ H7 x u _ cy r7 (hk x _ H7 _ (step x H7 y7));rw[xp,xw,xA,xx]at q8;refine aDE (wpAny_mono q8 (λ_ s8 ⟨aq,H8,I8,⟨k8,l8⟩,q8⟩=>?_) λ_ _ z=>z.elim);have q9:=cq _ s8 aq H8 _ I8 q8;rw[xp,xw,xA,xx]at q9;refine aDE (wpAny_mono q9 (λok s9 ⟨H9,I9,q9⟩=>?_) λ_ _ z=>z.elim);have ay:∀ (j:Nat) v,(sIn nt js σ)[j]?=some (some v)->aq[j]?=some (some v):=λj v e=>by
     have hj:=(qU e).1;rw[k8 j hj];exact e
    have ends:∀ {H9:Hp} {s9:Shared} {av:List V},Inv I (cE [D] s5.heap++cE fp s7.heap) aq H9 s9->∀ {h':Heap} {its':List Value} {c':Nat},(∀ b o,b≠D->s9.heap.get? b=some o->h'.get? b=some o)->Vals av its'->h'.get? D=some { cls:=.type "list",data:=.seq its'.toArray c' }->N av H9 ->
     ∀ tk,∃ m,m<n/\∃ i ys H',Inv I [] (sIn nt js σ) H' { s9 with heap:=h',toks:=tk }/\tn i h'/\(∀ b∈fp,H' b=none)/\H' D=none/\(∃ (its:List Value) (c:Nat),Vals ys its/\h'.get? D=some { cls:=.type "list",data:=.seq its.toArray c })/\W i m ys H':=λ{H9 s9 av} I9 {h' its' c'} kp cz c_ n9 tk=>by
     obtain⟨m',hm,w9⟩:=hN av H9 n9;have ce:H9 D=none:=(I9.pin (D,_) (aDK _ (aDZ _ memD))).2.1;have da:∀ b∈fp,H9 b=none:=λb hb=>by
      obtain⟨o,e,d⟩:=T.obj _ _ bo b hb;exact(I9.pin (b,o) (aDK _ (aDK _ (bT hb e)))).2.1
     have az:Inv I [] aq H9 s9:=I9.pins_of λp hp=>by cases hp
     have db:Inv I [] aq H9 { s9 with heap:=h',toks:=tk }:=az.turned (it:=D) kp ce Dl (.inl DX) (ap.exf D DX).2 (λp hp=>by rw[bj]at hp;cases hp);refine⟨m',hm,i+1,av,H9,db.weak l8.symm ay,T.keep _ _ _ bo λb hb o e=>kp b o (bh b hb).2 (I9.pin (b,o) (aDK _ (aDK _ (bT hb e)))).1,da,ce,⟨its',c',cz,c_⟩,w9⟩
    cases ok with
    | false =>
     rw[if_neg aDT]at q9;have de:=(I9.pin (D,_) (aDK _ (aDZ _ memD))).1;exact aDF ⟨rfl,ends I9 (h':=s9.heap) (λ_ _ _ e=>e) rv de q9 s9.toks⟩
    | true =>
     rw[if_pos rfl]at q9;have a_:=cr _ s9 aq H9 _ I9 q9;rw[xp,xw,xA,xx]at a_;refine aDE (aDE (wpAny_mono a_ (λv df ⟨y,dj,az,dh,a_⟩=>?_) λ_ _ z=>z.elim));have cf:=(az.pin (D,_) (aDK _ (aDZ _ memD))).1;have hlen:=rv.length;refine aDE (wpAny_list_append_plain (items:=its.toArray) ⟨c,cf⟩ (λh' hl hs=>aDF (aDF ⟨rfl,?_⟩)) (by rw[aDO];omega));obtain⟨c',e'⟩:=hl;have di:h'.get? D=some { cls:=.type "list",data:=.seq (its++[v]).toArray c' }:=by rw[e'];simp
     exact ends az (h':=h') (λb o hb e=>hs.extBut b o hb e) (rv.append (.cons dh .nil)) di a_ df.toks
  .exact T.keep 0 _ _ bg λb hb o e=>up b o (by rw[e3];exact aDH _ e)
 have e4:({ s2 with heap:=ao,toks:=s2.toks+([]:List (Str×Value)).length }:Shared)={ M with heap:=ao,toks:=M.toks }:=by rw[<- bu];rfl
 rw[e4];show codeAny _ _ (.compStart (.ListComp elt [⟨tg,iter,ifs,0⟩] inn pos) 0 (.ref it) (.ref D) (compEnvC inn (kD inn X.env) M.heap.objs.size X.env)) (RR (.ref D) M.heap.objs.size) _;rw[<- xe];refine codeAny_compStart_list loop ?_;refine T.self X.A 0 _ _ _ ?_ loop;exact T.keep 0 _ _ bg λb hb o e=>up b o (by rw[e3];exact aDH _ e)
end
section
variable {X:Cx} {inn:Scope} {js:List Nat} {cs ts:List Str} {nt:Nat} {elt tg iter:Expr} {ifs:List Expr} {pos:Pos} {g:TG} {tt:TT} {te:TE} {wi:TI}
def dH (ts cs:List Str) (js:List Nat) (M:X.calm=true) (O:CompOk X.env.scope inn X.N js cs) (hi:PI X tg iter wi)
 (hg:∀ z L ex,PG (fL X inn (ts++cs) z L ex) tg g) (hk:GK ts.length g) (ht:∀ z L ex,PIf (fL X inn (ts++cs) z L ex) ifs tt) (he:∀ z L ex,PE (fL X inn (ts++cs) z L ex) elt te)
 (hs:∀ x,foldedSetIterable iter X.env x=pure x:=by intro _;rfl):PE X (.ListComp elt [⟨tg,iter,ifs,0⟩] inn pos) (aAe wi ts.length js g tt te):=by
 intro pins s σ H Q I h;rw[eval_ListComp];refine wpAny_comprehension_free (use:=none) rfl hs (wS λy hy e=>I.ok.has y.1 (O.frees y hy e)) O.kind O.names (thn (hi pins s σ H _ I h) λxv s1 h1=>thn h1 λam s2 h2=>?_);obtain⟨it,fp,tn,J,H2,e,I2,T,U,f2,R⟩:=h2;subst e;refine vH (Q:=Q) (RR:=λY C=>compPost (model X.prog X.w) X.A X.xe none (EP X pins σ Q) Y C) M O rfl hg hk ht he I2 T U f2 R ?_;intro D C s' H' I' ⟨m,hm⟩ c1 c2 c3 c4 c5 q;refine⟨m,hm,λh' al=>?_⟩;exact⟨.ref D,H',I'.turned (it:=C) (t':=s'.toks) (λb o hb e=>al.extBut b o hb e) c1 c2 (.inr c3) c4 c5,rfl,q⟩
def N0 {i:Nat} {x:Str} {pos' U:Pos} (ts cs:List Str) (js:List Nat) (Y:X.calm=true) (hN:X.N.Nodup) (am:X.N[i]?=some x) (hx:X.env.scope.names.lookup x=some .local) (O:CompOk X.env.scope inn X.N js cs) (hi:PI X tg iter wi)
 (hg:∀ L M ex,PG (fL X inn (ts++cs) L M ex) tg g) (hk:GK ts.length g) (ht:∀ L M ex,PIf (fL X inn (ts++cs) L M ex) ifs tt) (he:∀ L M ex,PE (fL X inn (ts++cs) L M ex) elt te)
 (ao:swapsWith (.ListComp elt [⟨tg,iter,ifs,0⟩] inn pos) (some (.Name x pos')) U.line X.env=pure true) (hs:∀ x,foldedSetIterable iter X.env x=pure x:=by intro _;rfl) :
 PS X (.Assign [.Name x pos'] (.ListComp elt [⟨tg,iter,ifs,0⟩] inn pos) U) (aAs (aAe wi ts.length js g tt te) (uX i)):=by
 intro pins s σ H D I h;rw[exec_Assign_Name_used _ _ _ _ ao];refine aDE (wpAny_standAt (aDE ?_));show wpAny _ X.A (do let _ <- comprehension (.ListComp elt [⟨tg,iter,ifs,0⟩] inn pos) inn X.env _ (newList []) false (eval iter X.env) (some (assign (.Name x pos') X.env))) _ _ s;refine aDE (wpAny_mono (wpAny_comprehension_free (use:=some (assign (.Name x pos') X.env)) (Q:=λ_ s'=>SP X pins D .next s') rfl hs (wS λy hy e=>I.ok.has y.1 (O.frees y hy e)) O.kind O.names
  (thn (hi pins s σ H _ I h) λxv s1 h1=>thn h1 λav s2 h2=>?_)) (λ_ s' hq=>aDF (aDF hq)) λ_ _ e=>e)
 obtain⟨it,fp,tn,J,H2,e,I2,T,ap,f2,R⟩:=h2;subst e;refine vH (Q:=λv H'=>D.nx (σ.set i (some v)) H') (RR:=λaq C=>compPost (model X.prog X.w) X.A X.xe (some (assign (.Name x pos') X.env)) (λ_ s'=>SP X pins D .next s') aq C) Y O rfl hg hk ht he I2 T ap f2 R ?_;intro D' C s' H' I' ⟨m,hm⟩ c1 c2 c3 c4 c5 q;show wpAny _ X.A (assign (.Name x pos') X.env (.ref D')) _ _ _;refine wpAny_assign_Name (uV (v:=.ref D') I' hN am (.inl hx) rfl (λs2 I2 ⟨a,ar,ha⟩=>?_) (.inr hx));have au:C≠a:=by
  rcases ha with e | e
  .rw[e];exact c2
  .exact λz=>c4 _ _ e z.symm
 refine⟨m,hm.sameBut ar au,λh' al=>?_⟩;exact⟨_,H',I2.turned (it:=C) (t':=s2.toks) (λb o hb e=>al.extBut b o hb e) c1 c2 (.inr c3) c4 c5,q⟩
end
def iQ {K:PySem.W.Frag} {a:Addr} {xs:List V} {z:St} {g:TG} {tt:TT} {te:TE} {H:Hp} {Q:VK} (Pv:Nat->List V->Hp->Prop) (h0:Pv 0 [] H) (M:∀ i ys H,i<=xs.length->Pv i ys H->SqL K H a xs/\ys.length<sizeLine)
 (hs:∀ i x ys H,xs[i]?=some x->Pv i ys H->g x z H λI H2=>tt I H2 λb L=>if b=true then te I L λy N=>Pv (i+1) (ys++[y]) N else Pv (i+1) ys L) (hd:∀ ys H,Pv xs.length ys H->∀ D,H D=none->Q (.ref D) (upd H D (.lst ys))) :
 nG (Itl K a) z g tt te Q H:=by
 refine⟨λi m ys H=>m=xs.length - i/\i<=xs.length/\Pv i ys H,⟨xs.length,by simp,Nat.zero_le _,h0⟩,?_⟩;rintro i m ys H ⟨rfl,hi,p⟩;obtain⟨q,hz⟩:=M i ys H hi p;refine⟨hz,?_⟩
 by_cases J:i<xs.length
 .refine .inr ⟨⟨xs,xs[i],q,by simp[J]⟩,Pv (i+1),λU H' Y=>⟨xs.length - (i+1),by omega,rfl,J,Y⟩,λx H' y=>?_⟩;obtain⟨e,y⟩:=y;subst e;exact hs i x ys _ (y xs q) p
 .have e:i=xs.length:=by omega
  subst e;exact .inl ⟨⟨xs,q,Nat.le_refl _⟩,hd ys H p⟩
def G1 {lo:Int} {n:Nat} {I:St} {g:TG} {tt:TT} {te:TE} {H:Hp} {Q:VK} (Pv:Nat->List V->Hp->Prop) (h0:Pv 0 [] H) (M:∀ i ys H,i<=n->Pv i ys H->ys.length<sizeLine)
 (hs:∀ i ys H,i<n->Pv i ys H->g (.int (lo+i)) I H λJ H2=>tt J H2 λb L=>if b=true then te J L λy N=>Pv (i+1) (ys++[y]) N else Pv (i+1) ys L) (hd:∀ ys H,Pv n ys H->∀ D,H D=none->Q (.ref D) (upd H D (.lst ys))) :
 nG (Itr lo n) I g tt te Q H:=by
 refine⟨λi m ys H=>m=n - i/\i<=n/\Pv i ys H,⟨n,by simp,Nat.zero_le _,h0⟩,?_⟩;rintro i m ys H ⟨rfl,hi,p⟩;refine⟨M i ys H hi p,?_⟩
 by_cases z:i<n
 .refine .inr ⟨z,Pv (i+1),λU H' Y=>⟨n - (i+1),by omega,rfl,z,Y⟩,λx H' y=>?_⟩;obtain⟨e,y⟩:=y;subst e y;exact hs i ys _ z p
 .have e:i=n:=by omega
  subst e;exact .inl ⟨Nat.le_refl _,hd ys H p⟩
mutual
inductive Den (H:Hp):V->PyData->Prop
 | non:Den H .non .none
 | bl (b:Bool):Den H (.bl b) (.bool b)
 | int (i:Int):Den H (.int i) (.int i)
 | str (x:Str):Den H (.str x) (.str x)
 | lst {a:Addr} {vs:List V} {ds:List PyData}:H a=some (.lst vs)->Dens H vs ds->Den H (.ref a) (.list ds)
 | tup {a:Addr} {vs:List V} {ds:List PyData}:H a=some (.tup vs)->Dens H vs ds->Den H (.ref a) (.tuple ds)
inductive Dens (H:Hp):List V->List PyData->Prop
 | nil:Dens H [] []
 | cons {v:V} {d:PyData} {vs:List V} {ds:List PyData}:Den H v d->Dens H vs ds->Dens H (v :: vs) (d :: ds)
end
def Dens.length:∀ {H:Hp} {vs:List V} {ds:List PyData},Dens H vs ds->vs.length=ds.length
 | _,_,_,.nil=>rfl
 | _,_,_,.cons _ t=>congrArg Nat.succ (Dens.length t)
def Dens.append:∀ {H:Hp} {vs us:List V} {ds es:List PyData},Dens H vs ds->Dens H us es->Dens H (vs++us) (ds++es)
 | _,_,_,_,_,.nil,s=>s
 | _,_,_,_,_,.cons r t,s=>.cons r (Dens.append t s)
mutual
def Den.mono {H H':Hp} (e:Same H H'):∀ {v:V} {d:PyData},Den H v d->Den H' v d
 | _,_,.non=>.non
 | _,_,.bl b=>.bl b
 | _,_,.int i=>.int i
 | _,_,.str x=>.str x
 | _,_,.lst h t=>.lst (e _ _ h) (Dens.mono e t)
 | _,_,.tup h t=>.tup (e _ _ h) (Dens.mono e t)
def Dens.mono {H H':Hp} (e:Same H H'):∀ {vs:List V} {ds:List PyData},Dens H vs ds->Dens H' vs ds
 | _,_,.nil=>.nil
 | _,_,.cons r t=>.cons (Den.mono e r) (Dens.mono e t)
end
def Dens.ints {H:Hp}:∀ ns:List Int,Dens H (ns.map V.int) (ns.map PyData.int)
 | []=>.nil
 | n :: r=>.cons (.int n) (Dens.ints r)
def Den.ints {H:Hp} {a:Addr} {ns:List Int} (h:H a=some (.lst (ns.map V.int))):Den H (.ref a) (.list (ns.map PyData.int)):=.lst h (Dens.ints ns)
def Same.upd {H:Hp} {a:Addr} {o:HO} (h:H a=none):Same H (upd H a o):=λb u e=>by rw[aG (aN e h)];exact e
def Same.upd' {H z:Hp} {a:Addr} {o:HO} (h:z a=none) (s:Same z H):Same z (L2.upd H a o):=λb u e=>by rw[aG (aN e h)];exact s b u e
section
variable {P:Program} {w:World} {H:Hp} {h:Heap}
mutual
def Den.reads (ok:HOk P w H h):∀ {v:V} {d:PyData} {u:Value},Den H v d->RelV v u->∃ as,Reads h u d as
 | _,_,_,.non,r=>by cases r;exact⟨_,.none⟩
 | _,_,_,.bl b,r=>by cases r;exact⟨_,.bool b⟩
 | _,_,_,.int i,r=>by obtain⟨t,rfl⟩:=r;exact⟨_,.int i t⟩
 | _,_,_,.str x,r=>by obtain⟨t,rfl⟩:=r;exact⟨_,.str x t⟩
 | _,_,_,.lst (a:=a) e t,r=>by
  cases r;obtain⟨_,its,n,z,D⟩:=ok a _ e;obtain⟨as,q⟩:=Dens.reads ok t z;exact⟨_,.list D rfl rfl (by simpa using q)⟩
 | _,_,_,.tup (a:=a) e t,r=>by
  cases r;obtain⟨_,its,z,o,D,I,n,hd⟩:=ok a _ e;obtain⟨as,q⟩:=Dens.reads ok t z;exact⟨_,.tuple D I hd (by simpa using q)⟩
def Dens.reads (ok:HOk P w H h):∀ {vs:List V} {ds:List PyData} {us:List Value},Dens H vs ds->Vals vs us->∃ as,ReadsAll h us ds as
 | _,_,_,.nil,.nil=>⟨_,.nil⟩
 | _,_,_,.cons r t,.cons q s=>by
  obtain⟨a,x⟩:=Den.reads ok r q;obtain⟨b,y⟩:=Dens.reads ok t s;exact⟨_,.cons x y⟩
end
end
def aCs:R2:=λx y H Q=>∃ d e,Den H x d/\Den H y e/\SeqAt.shaped d=true/\SeqAt.shaped e=true/\Q (.bl (PyData.eqv d e)) H
def aCt:R2:=λx y H Q=>∃ d e,Den H x d/\Den H y e/\SeqAt.shaped d=true/\SeqAt.shaped e=true/\Q (.bl (!PyData.eqv d e)) H
section
variable {X:Cx}
def aBE (z:X.A.units+64<cLine):OpR X (compareOp .Eq) aCs:=by
 intro pins s σ H x y v u Q I D J h;obtain⟨d,e,hd,he,L,M,q⟩:=h;obtain⟨as,r1⟩:=hd.reads I.hok D;obtain⟨bs,r2⟩:=he.reads I.hok J;exact eq_dataH r1 r2 L M z ⟨.bl _,H,I,rfl,q⟩
def wU (z:X.A.units+64<cLine):OpR X (compareOp .NotEq) aCt:=by
 intro pins s σ H x y v u Q I D J h;obtain⟨d,e,hd,he,L,M,q⟩:=h;obtain⟨as,r1⟩:=hd.reads I.hok D;obtain⟨bs,r2⟩:=he.reads I.hok J;exact ne_dataH r1 r2 L M z ⟨.bl _,H,I,rfl,q⟩
def tyD:PyData->String
 | .none=>"NoneType" | .bool _=>"bool" | .int _=>"int" | .str _=>"str" | .list _=>"list" | .tuple _=>"tuple" | .dict _=>"dict"
def Den.ty {K:PySem.W.Frag} {H:Hp} {v:V} {d:PyData} (h:Den H v d):qN K H v (.type (tyD d)):=by
 cases h with
 | non=>exact .non
 | bl b=>exact .bl b
 | int i=>exact .int i
 | str x=>exact .str x
 | lst e _=>exact .lst e
 | tup e _=>exact .tup e
def X9 (U:X.calm=true):fJ X (.builtin "all") (λxs H Q=>∃ (p:Addr) (bs:List Bool),xs=[.ref p]/\H p=some (.lst (bs.map V.bl))/\Q (.bl (bs.all id)) H):=by
 intro pins s σ H xs us Q I r h;obtain⟨p,bs,rfl,Y,q⟩:=h;obtain⟨u,rfl,rx⟩:=gK r;cases rx;obtain⟨its,L,pl,hz⟩:=I.list (SqL.of Y);have D:=pl.isList;have J:p<s.heap.objs.size:=by obtain⟨_,e,_⟩:=D;exact aDM e
 have hlen:bs.length=its.length:=by have:=L.length;simpa using this
 refine call_all_walk (wpAny_pyIter_list D ?_);refine⟨s.heap.objs.size,[s.heap.objs.size,p],[s.heap.objs.size],its.toArray.size,_,_,λi=>(bs[i]?).getD true,rfl,Walks.list (A:=X.A.in1) (I.ok.hd U) _ p (aD3 J) its.toArray,
  ⟨⟨_,aDN _ rfl,rfl,rfl⟩,D.push _⟩,λi v s' Q' E' hP hQ=>?_,λh' tk hk=>?_⟩
 .have M:its[i]?=some v:=by simpa using hP
  have hi:i<its.length:=(aDh.mp M).1;have hb:(bs.map V.bl)[i]?=some (V.bl (bs[i]'(by omega))):=by simp[hlen,hi]
  obtain⟨u,N,ru⟩:=L.get hb;rw[M]at N;cases N;cases ru;have e:(bs[i]?).getD true=bs[i]'(by omega):=by simp[show i<bs.length by omega]
  have z:Q' ((bs[i]?).getD true) s':=hQ;rw[e]at z;exact wpAny_truthy_bool z
 .have e:((List.range its.toArray.size).all λi=>(bs[i]?).getD true)=bs.all id:=by
   rw[aDO,<- hlen];exact LSm.range_all bs
  rw[e];have kp:∀ b x,s.heap.get? b=some x->h'.get? b=some x:=LSm.kept_iter hk;exact⟨.bl _,H,I.kept kp,rfl,q⟩
def Itv (K:PySem.W.Frag) (a:Addr) (n:Nat):It :=
 ⟨λi H=>i<n/\∃ xs,SqL K H a xs/\xs.length=n,λi H x H'=>H'=H/\∀ xs,SqL K H a xs->xs.length=n->xs[n - 1 - i]?=some x,λi H=>n<=i⟩
def Y0 {P:Program} {w:World} {K:PySem.W.Frag} {tg:Expr} (a it:Addr) (n:Nat):qM P w K tg (Itv K a n) [it] it (λi h=>i<=n/\h.IsRevIter it a ((n:Int) - 1 - (i:Int))) where
 mem:=by simp
 obj:=λi h st b hb=>by
  have e:b=it:=by simpa using hb
  subst e;obtain⟨_,o,e,c,d⟩:=st;exact⟨o,e,λv z=>by rw[d]at z;cases z⟩
 keep:=λi h h' st k=>⟨st.1,st.2.at λo e=>k it (by simp) o e⟩
 item:=by
  intro X hP hw hK hc i pins s σ H E I hf st hg;subst hP hw hK;obtain⟨hi,xs,hq,hn⟩:=hg;obtain⟨its,rv,p,hz⟩:=I.list hq;have hlen:=rv.length;obtain⟨f0,f1,f2,f3,f4,f5⟩:=hf it (by simp);have hx:xs[n - 1 - i]?=some (xs[n - 1 - i]'(by omega)):=by simp[show n - 1 - i<xs.length by omega]
  obtain⟨u,hu,ru⟩:=rv.get hx;have e:(n:Int) - 1 - (i:Int)=((n - 1 - i:Nat):Int):=by omega
  have hit:=st.2;rw[e]at hit;refine wpAny_pyNext_rev_item hit p.isList (x:=u) (by simpa using hu) λh' st' sb=>?_;have I1:Inv X pins σ H { s with heap:=h' }:=I.turned (t':=s.toks) (λb o hb e=>(sb.2 b hb).trans e) f0 f1 f3 f4 f5;have e2:((n - 1 - i:Nat):Int) - 1=(n:Int) - 1 - ((i+1:Nat):Int):=by omega
  rw[e2]at st';obtain⟨o,eo,c,d⟩:=id st';exact⟨u,rfl,uY (s:={ s with heap:=h' }) eo c d (by decide) ⟨_,H,I1,ru,⟨rfl,λys hy _=>by rw[I.list_inj hy hq];exact hx⟩,⟨hi,st'⟩,λb hb=>(hf b hb).1⟩⟩
 done:=by
  intro X hP hw hK hc i pins s σ H E I hf st hg;subst hP hw hK;obtain⟨f0,f1,f2,f3,f4,f5⟩:=hf it (by simp);have hit:=st.2;have hg':n<=i:=hg;have e:(n:Int) - 1 - (i:Int)=-1:=by have:=st.1;omega
  rw[e]at hit;exact wpAny_pyNext_rev_end (I.ok.hd hc) hit λh' eb=>⟨rfl,I.turned (t':=s.toks) (λb o hb e=>eb b o hb e) f0 f1 f3 f4 f5⟩
 self:=λ_ _ _ _ _ st h=>wpAny_pyIter_revIter st.2 h
def aCu (K:PySem.W.Frag) (ta:TA):TI:=fun σ H R=>ta σ H λvs H1=>∃ a xs,vs=[.ref a]/\SqL K H1 a xs/\R (Itv K a xs.length) H1
def aBF {tg a:Expr} {ta:TA} {p pos:Pos} (J:Gl X "reversed") (L:X.mg "reversed"=none) (M:PA X [a] ta) (hs:starEach [a] X.env=[(false,eval a X.env)]:=by rfl):PI X tg (.Call (.Name "reversed" p) [a] [] pos) (aCu X.K ta):=by
 intro pins s σ H R I h;refine Call_ (kB I J L PyProof.Rows.boot_reversed (PyProof.Rows.callWith_type1 (thn (M pos pins s σ H _ I h) λus z ⟨vs,H1,D,r1,N⟩=>?_) hs rfl));obtain⟨a,xs,e,U,q⟩:=N;subst e;obtain⟨u,rfl,Y⟩:=gK r1;cases Y;obtain⟨its,rv,pl,hz⟩:=D.list U;have hlen:=rv.length;refine call_reversed_list pl.isList ?_;have es:((its.toArray.size:Nat):Int) - 1=(xs.length:Int) - 1:=by rw[hlen];simp
 rw[es];have I2:Inv X pins σ H1 { z with heap:=z.heap.push (revObj a ((xs.length:Int) - 1)) }:=D.kept (t':=z.toks) λb o e=>aDH _ e;have st:({ z with heap:=z.heap.push (revObj a ((xs.length:Int) - 1)) }:Shared).heap.IsRevIter z.heap.objs.size a ((xs.length:Int) - 1):=⟨_,aDN _ rfl,rfl,rfl⟩;refine wpAny_pyIter_revIter st ?_;refine⟨z.heap.objs.size,[z.heap.objs.size],_,_,H1,rfl,I2,Y0 a _ xs.length,⟨Nat.zero_le _,by simpa using st⟩,λb hb=>?_,q⟩;have e:b=z.heap.objs.size:=by simpa using hb
 subst e;exact D.fpOk (Nat.le_refl _) (D.hok.fresh (Nat.le_refl _))
end
def Y1 {K:PySem.W.Frag} {a:Addr} {xs:List V} {I:St} {g:TG} {tt:TT} {te:TE} {H:Hp} {Q:VK} (Pv:Nat->List V->Hp->Prop) (h0:Pv 0 [] H) (M:∀ i ys H,i<=xs.length->Pv i ys H->SqL K H a xs/\ys.length<sizeLine)
 (hs:∀ i x ys H,xs.reverse[i]?=some x->Pv i ys H->g x I H λJ H2=>tt J H2 λb L=>if b=true then te J L λy N=>Pv (i+1) (ys++[y]) N else Pv (i+1) ys L) (hd:∀ ys H,Pv xs.length ys H->∀ D,H D=none->Q (.ref D) (upd H D (.lst ys))) :
 nG (Itv K a xs.length) I g tt te Q H:=by
 refine⟨λi m ys H=>m=xs.length - i/\i<=xs.length/\Pv i ys H,⟨xs.length,by simp,Nat.zero_le _,h0⟩,?_⟩;rintro i m ys H ⟨rfl,hi,p⟩;obtain⟨q,hz⟩:=M i ys H hi p;refine⟨hz,?_⟩
 by_cases z:i<xs.length
 .refine .inr ⟨⟨z,xs,q,rfl⟩,Pv (i+1),λU H' Y=>⟨xs.length - (i+1),by omega,rfl,z,Y⟩,λx H' y=>?_⟩;obtain⟨e,y⟩:=y;subst e;refine hs i x ys _ ?_ p;rw[List.getElem?_reverse z];exact y xs q rfl
 .have e:i=xs.length:=by omega
  subst e;exact .inl ⟨Nat.le_refl _,hd ys H p⟩
def gE:bootBuiltins "list"=some (.type "list"):=by decide +kernel
def gM:bootBuiltins "tuple"=some (.type "tuple"):=by decide +kernel
def Y2:bootBuiltins "all"=some (.builtin "all"):=by decide +kernel
def cT:bootBuiltins "sorted"=some (.builtin "sorted"):=by decide +kernel
def zD:bootBuiltins "max"=some (.builtin "max"):=by decide +kernel
def rY:bootBuiltins "min"=some (.builtin "min"):=by decide +kernel
structure Bt (mg:Str->Option Value):Prop where
 len:mg "len"=none
 range:mg "range"=none
 list:mg "list"=none
 tuple:mg "tuple"=none
 bool:mg "bool"=none
 str:mg "str"=none
 int:mg "int"=none
 isinstance:mg "isinstance"=none
 all:mg "all"=none
 sorted:mg "sorted"=none
 max:mg "max"=none
 min:mg "min"=none
 set:mg "set"=none
 reversed:mg "reversed"=none
 sum:mg "sum"=none
 enumerate:mg "enumerate"=none
 zip:mg "zip"=none
 any:mg "any"=none
 abs:mg "abs"=none
def aU (P:Program) (w:World) (K:PySem.W.Frag) (mg:Str->Option Value) (base:Heap) (x:Str) (k:Nat) (ps:List Str) (sp:Sp):Prop :=
 ∃ f fd,FnOk P w K mg base CX0 k f fd ps sp/\mg x=some (.ref f)/\PySem.W.keepIn K (.ref f)=true/\Binds K fd ps []
section
variable {X:Cx} {x:Str} {j k:Nat} {ps:List Str} {sp:Sp} {t:TA} {e:Expr} {es:List Expr} {p pos:Pos}
def aW (F:aU X.prog X.w X.K X.mg X.base x j ps sp) (z:Room k X.A) (D:Gl X x) (I:PA X (e :: es) t) (J:j<=k:=by decide) (hdb:(x == ("__debug__":Str))=false:=by decide)
 (he:starEach (e :: es) X.env=(false,eval e X.env) :: starEach es X.env:=by rfl) (hpl:(backTo pos (starEach es X.env)).any (·.1)=false:=by rfl) :
 PE X (.Call (.Name x p) (e :: es) [] pos) (aAb sp [] E0 t):=by
 obtain⟨f,fd,G,L,M,N⟩:=F;exact y6 (hdb:=hdb) (he:=he) (hpl:=hpl) G (z.mono J) D L M N .nil zB I
def rZ:OpR X (compareOp .Eq) (rI0 λi j=>.bl (decide (i=j))):=Q5 λi j _ _ _ _ _ q=>eq_int (by
 have e:(i == j)=decide (i=j):=by rw[Bool.eq_iff_iff];simp
 rw[e];exact q)
def aBG:OpR X (compareOp .NotEq) (rI0 λi j=>.bl (!decide (i=j))):=Q5 λi j _ _ _ _ _ q=>ne_int (by
 have e:(i != j)=!decide (i=j):=by rw[bne];congr 1
 rw[e];exact q)
end
def aCv (t u:TS):TS:=λD σ H=>∃ M:St->Hp->Prop,t { D with nx:=M } σ H/\∀ z H',M z H'->u D z H'
def qV {X:Cx} {st:Stmt} {rest:List Stmt} {t u:TS} (h1:PS X st t) (h2:PSs X rest u):PSs X (st :: rest) (aCv t u):=by
 intro pins s σ H D I h;obtain⟨M,h,J⟩:=h;refine wpAny_execs_cons (thn (h1 pins s σ H { D with nx:=M } I h) λf L q=>?_);cases f with
 | next =>
  obtain⟨z,H',N,q⟩:=q;exact h2 pins L z H' D N (J z H' q)
 | ret v=>exact q
 | brk=>exact q
 | cont=>exact q
def aCF (t:TE):TE:=fun σ H Q=>∃ R:VK,t σ H R/\∀ v H',R v H'->Q v H'
def wV {X:Cx} {e:Expr} {t:TE} (h:PE X e t):PE X e (aCF t):=by
 intro pins s σ H Q I hw;obtain⟨R,hw,z⟩:=hw;exact thn (h pins s σ H R I hw) λu L ⟨v,H1,D,r1,J⟩=>⟨v,H1,D,r1,z v H1 J⟩
def mL {c:Prop} [Decidable c] {A B:Prop} (h1:c->A) (h2:¬ c->B):if decide c=true then A else B:=by
 by_cases h:c
 .rw[aD2 h,if_pos rfl];exact h1 h
 .rw[aD1 h,if_neg aDT];exact h2 h
def N1 {c:Prop} [Decidable c] {A B:Prop} (z:c) (h1:A):if decide c=true then A else B:=by
 rw[aD2 z,if_pos rfl];exact h1
def eC {c:Prop} [Decidable c] {A B:Prop} (z:¬ c) (h1:B):if decide c=true then A else B:=by
 rw[aD1 z,if_neg aDT];exact h1
section
variable {X:Cx} (K:PySem.W.Frag)
def zE (h:X.K=K):IxR X (aAy K):=h ▸ bM
def mG (h:X.K=K):fJ X (.builtin "len") (λxs H Q=>∃ p ys,xs=[.ref p]/\(SqL K H p ys\/SqT K H p ys)/\Q (.int ys.length) H):=h ▸ aV
def jD {es:List Expr} {k:Nat} {t:TGs} {n:Nat} {pos:Pos} (h:X.K=K) (z:X.calm=true) (hs:PGs X es t) (D:(assignEach es X.env).length=n:=by rfl) (hst:(assignEach es X.env).findIdx? (·.1)=none:=by rfl):PG X (.Tuple es k pos) (v0 K n t):=h ▸ eW z hs D hst
end
abbrev two (b:Int) (t:Tok) (c:Nat):Obj:={ cls:=.type "list",dict:=none,data:=.seq #[.int b t,.int b t] c,slots:=#[] }
def zF:∀ {its:List Value} {ns:List Int} {i:Nat} {n:Int},IntsAre its ns->ns[i]?=some n->∃ t,its[i]?=some (.int n t)
 | _,_,_,_,.nil,e=>by simp at e
 | _,_,0,_,.cons n t _,e=>by simp at e;subst e;exact⟨t,rfl⟩
 | _,_,i+1,n,.cons _ _ r,e=>by
  obtain⟨t,h⟩:=zF (i:=i) (n:=n) r (by simpa using e);exact⟨t,by simpa using h⟩
section
variable {prog:Program} {w:World} {A:Around} {R:Result->Shared->Prop} {l it S:Addr} {its:List Value} {ns:List Int} {d:Value}
def aAE (hh:A.handled=none) (hI:IntsAre its ns) (al:l≠it) (I:it≠S) (am:l≠S) :
 ∀ (k i:Nat) (s:Shared) (b:Int) (t:Tok) (c:Nat),ns.length - i=k->i<=ns.length->s.heap.IsListIter it l i->s.heap.IsList l its.toArray->s.heap.get? S=some (two b t c) ->
  (∀ h' tk t',(∀ x o,x≠it->x≠S->s.heap.get? x=some o->h'.get? x=some o)->R (.ok (.ret (.int ((ns.drop i).foldl max b) t'))) { s with heap:=h',toks:=tk }) ->
  codeAny (model prog w) A (.builtin "max.loop" ⟨[.ref it,.none,.ref S],[(Str.ofString "default",d)]⟩) R s:=by
 have nm:(toString "max"++toString ".loop":String)="max.loop":=by decide
 intro k
 induction k with
 | zero =>
  intro i s b t c hk hi st Y L hR;have e:i=ns.length:=by omega
  refine codeAny_builtin PySem.F.entry_max_loop (by
   rw[aDS PySem.F.plain_max_loop _];show wpAny _ A.in1 (seqItems? (Value.ref S) >>= _) _ _ s;refine aDE (wpAny_seqItems L rfl ?_);show wpAny _ A.in1 (tryCatch (pyNext (Value.ref it)) _ >>= _) _ _ s;refine aDE (wpAny_tryCatch (wpAny_pyNext_list_end hh st Y (by have:=hI.length;simp;omega) λh' eb=>?_));have z:=eb S _ (Ne.symm I) L;show wpAny _ A.in1 (updateSeq S (λ_=>#[]) >>= _) _ _ { s with heap:=h' };refine aDE (wpAny_updateSeq z rfl (aDE (wpAny_letGo (aDF ?_))));have q:=hR (h'.update S (Obj.mapSeq λ_=>#[])) s.toks t (λx o h1 h2 e=>(aDL _ _ (Ne.symm h2)).trans (eb x o h1 e));rw[e,List.drop_length]at q;exact q)
 | succ k ih =>
  intro i s b t c hk hi st Y L hR;have D:i<ns.length:=by omega
  obtain⟨u,hu⟩:=zF (i:=i) (n:=ns[i]) hI (by simp[D]);have M:ns.drop i=ns[i] :: ns.drop (i+1):=List.drop_eq_getElem_cons D;refine codeAny_builtin PySem.F.entry_max_loop (by
   rw[aDS PySem.F.plain_max_loop _];show wpAny _ A.in1 (seqItems? (Value.ref S) >>= _) _ _ s;refine aDE (wpAny_seqItems L rfl ?_);show wpAny _ A.in1 (tryCatch (pyNext (Value.ref it)) _ >>= _) _ _ s;refine aDE (wpAny_tryCatch (wpAny_pyNext_list_item st Y (x:=.int ns[i] u) (by simpa using hu) λh' N sb=>?_));have z:=sb.extBut S _ (Ne.symm I) L;have U:=Y.extBut sb.extBut al;show wpAny _ A.in1 (tryCatch (holding [.int ns[i] u,.int ns[i] u] (richCompare .Gt (.int ns[i] u) (.int b t) >>= _)) _ >>= _) _ _ { s with heap:=h' };refine aDE (wpAny_tryCatch (wpAny_holding (aDE (gt_int (s:={ s with heap:=h' }) ?_))));refine aDE (wpAny_holding (wpAny_truthy_bool (aDE (wpAny_letGo (aDF ?_)))))
   by_cases hb:b<ns[i]
   .have hd:decide (b<ns[i])=true:=aD2 hb;simp only[hd,if_true];refine aDE (wpAny_updateSeq z rfl (aDE (wpAny_letGo ?_)));rw[nm];obtain⟨c',e1⟩:∃ c',(h'.update S (Obj.mapSeq λ_=>#[Value.int ns[i] u,Value.int ns[i] u])).get? S=some (two ns[i] u c'):=⟨_,aDY _ z rfl⟩;refine aDF ⟨plainId_quiet PySem.F.plain_max_loop _,ih (i+1) { s with heap:=h'.update S (Obj.mapSeq λ_=>#[Value.int ns[i] u,Value.int ns[i] u]) } ns[i] u _ (by omega) D (N.at λo e=>(aDL _ _ (Ne.symm I)).trans e) (U.at λo e=>(aDL _ _ (Ne.symm am)).trans e) e1 λJ tk t' kp=>?_⟩;have q:=hR J tk t' (λx o h1 h2 e=>kp x o h1 h2 ((aDL _ _ (Ne.symm h2)).trans (sb.extBut x o h1 e)));rw[M,aD7,show max b ns[i]=ns[i]by omega]at q;exact q
   .have hd:decide (b<ns[i])=false:=aD1 hb;simp only[hd,Bool.false_eq_true,if_false];refine aDE (wpAny_letGo ?_);rw[nm];refine aDF ⟨plainId_quiet PySem.F.plain_max_loop _,ih (i+1) { s with heap:=h' } b t c (by omega) D N U z λJ tk t' kp=>?_⟩;have q:=hR J tk t' (λx o h1 h2 e=>kp x o h1 h2 (sb.extBut x o h1 e));rw[M,aD7,show max b ns[i]=b by omega]at q;exact q)
def Y3 (hh:A.handled=none) (hI:IntsAre its ns) (D:l≠it) (z:it≠S) (I:l≠S) {s:Shared} {c:Nat} (st:s.heap.IsListIter it l 0) (L:s.heap.IsList l its.toArray)
 (M:s.heap.get? S=some { cls:=.type "list",dict:=none,data:=.seq #[] c,slots:=#[] }) (N:V) (rx:RelV N d)
 (hR:∀ h' tk v u,(∀ x o,x≠it->x≠S->s.heap.get? x=some o->h'.get? x=some o)->RelV v u->(v=match ns with | []=>N | n :: r=>.int (r.foldl max n))->R (.ok (.ret u)) { s with heap:=h',toks:=tk }) :
 codeAny (model prog w) A (.builtin "max.loop" ⟨[.ref it,.none,.ref S],[(Str.ofString "default",d)]⟩) R s:=by
 have nm:(toString "max"++toString ".loop":String)="max.loop":=by decide
 cases hI with
 | nil =>
  refine codeAny_builtin PySem.F.entry_max_loop (by
   rw[aDS PySem.F.plain_max_loop _];show wpAny _ A.in1 (seqItems? (Value.ref S) >>= _) _ _ s;refine aDE (wpAny_seqItems M rfl ?_);show wpAny _ A.in1 (tryCatch (pyNext (Value.ref it)) _ >>= _) _ _ s;refine aDE (wpAny_tryCatch (wpAny_pyNext_list_end hh st L (by simp) λh' eb=>?_));refine aDE (wpAny_rule (aDF ?_));exact hR h' s.toks N d (λx o h1 _ e=>eb x o h1 e) rx rfl)
 | @cons n t its' U r =>
  refine codeAny_builtin PySem.F.entry_max_loop (by
   rw[aDS PySem.F.plain_max_loop _];show wpAny _ A.in1 (seqItems? (Value.ref S) >>= _) _ _ s;refine aDE (wpAny_seqItems M rfl ?_);show wpAny _ A.in1 (tryCatch (pyNext (Value.ref it)) _ >>= _) _ _ s;refine aDE (wpAny_tryCatch (wpAny_pyNext_list_item st L (x:=.int n t) (by simp) λh' Y sb=>?_));have J:=sb.extBut S _ (Ne.symm z) M;have al:=L.extBut sb.extBut D;show wpAny _ A.in1 (updateSeq S (λ_=>#[Value.int n t,Value.int n t]) >>= _) _ _ { s with heap:=h' };refine aDE (wpAny_updateSeq J rfl ?_);rw[nm];obtain⟨c',e1⟩:∃ c',(h'.update S (Obj.mapSeq λ_=>#[Value.int n t,Value.int n t])).get? S=some (two n t c'):=⟨_,aDY _ J rfl⟩;refine aDF ⟨plainId_quiet PySem.F.plain_max_loop _,aAE hh (.cons n t r) D z I _ 1 { s with heap:=h'.update S (Obj.mapSeq λ_=>#[Value.int n t,Value.int n t]) } n t _ rfl (by simp) (Y.at λo e=>(aDL _ _ (Ne.symm z)).trans e) (al.at λo e=>(aDL _ _ (Ne.symm I)).trans e) e1 λam tk t' kp=>?_⟩;exact hR am tk (.int (U.foldl max n)) _ (λx o h1 h2 e=>kp x o h1 h2 ((aDL _ _ (Ne.symm h2)).trans (sb.extBut x o h1 e))) ⟨t',rfl⟩ rfl)
def mxD (ns:List Int) (z:V):V:=match ns with | []=>z | n :: r=>.int (r.foldl max n)
def R4 (a d:Value):argsOk "max" ⟨[a],[(Str.ofString "default",d)]⟩:=by unfold argsOk;kernel_rfl
def R5 {E:Value->Shared->Prop} {s:Shared} {x0:V} {Q:Value->Shared->Prop} (hh:A.handled=none) (hI:IntsAre its ns) (hl:s.heap.IsList l its.toArray) (rx:RelV x0 d)
 (h:∀ h' tk u,(∀ x o,s.heap.get? x=some o->h'.get? x=some o)->RelV (mxD ns x0) u->Q u { s with heap:=h',toks:=tk }):wpAny (model prog w) A (call (.builtin "max") [.ref l] [(Str.ofString "default",d)]) Q E s:=by
 have nm:(toString "max"++toString ".loop":String)="max.loop":=by decide
 refine kmk_tree PySem.F.kind_max PySem.F.plain_max PySem.F.entry_max (R4 _ _) (by
  show wpAny _ A.in1 (Builtin.Builtins.bindParams "max" ["key","default"] 0 ⟨[],[(Str.ofString "default",d)]⟩ >>= _) _ _ s;refine aDE (wpAny_of_eq (show Builtin.Builtins.bindParams "max" ["key","default"] 0 ⟨[],[(Str.ofString "default",d)]⟩=pure [none,some d] from rfl) (aDE (aDF ?_)));refine aDE (wpAny_pyIter_list hl ?_);refine aDE (wpAny_newObj_type ?_);rw[nm];have hlt:l<s.heap.objs.size:=by obtain⟨_,e,_⟩:=hl;exact aDM e
  refine aDF ⟨plainId_quiet PySem.F.plain_max_loop _,Y3 (l:=l) (it:=s.heap.objs.size) (its:=its) hh hI (aD3 hlt) (by rw[Heap.size_push];exact aD3 (Nat.lt_succ_self _)) (by rw[Heap.size_push];exact aD3 (Nat.lt_succ_of_lt hlt)) ⟨_,aDH _ (aDN _ rfl),rfl,rfl⟩ ((hl.push _).push _) (aDN _ rfl) x0 rx λh' tk v u kp rv ev=>?_⟩;subst ev;refine h h' tk u (λx o e=>?_) rv;have hx:=aDM e;exact kp x o (aD3 hx) (by rw[Heap.size_push];exact aD3 (Nat.lt_succ_of_lt hx)) (aDH _ (aDH _ e)))
end
section
variable {X:Cx} {e f:Expr} {te tf:TE} {p pos kp:Pos}
def aCw (K:PySem.W.Frag) (te tf:TE):TE:=fun σ H Q=>te σ H λx H1=>tf σ H1 λy H2=>∃ a ns,x=.ref a/\SqL K H2 a (ns.map V.int)/\Q (mxD ns y) H2
def vI (hc:X.calm=true) (hg:Gl X "max") (hm:X.mg "max"=none) (he:PE X e te) (hf:PE X f tf)
 (hs:starEach [e] X.env=(false,eval e X.env) :: starEach [] X.env:=by rfl) (D:backTo pos (starEach [e] X.env)=(false,eval e X.env) :: backTo pos (starEach [] X.env):=by rfl) (J:(backTo pos (starEach [e] X.env)).any (·.1)=false:=by rfl)
 (L:(backToKw pos (keywordEach [⟨some "default",f,kp⟩] X.env)).all (·.1.isSome)=true:=by rfl) (M:(backToKw pos (keywordEach [⟨some "default",f,kp⟩] X.env)).any (·.1.isNone)=false:=by rfl) (N:(backToKw pos (keywordEach [⟨some "default",f,kp⟩] X.env)).filterMap (·.1)=([Str.ofString "default"]:List Str):=by rfl) :
 PE X (.Call (.Name "max" p) [e] [⟨some "default",f,kp⟩] pos) (aCw X.K te tf):=by
 intro pins s σ H Q I h;refine wpAny_Call_Name_kw (kB I hg hm zD ?_);refine callWith_kw ?_ D J L M;refine thn ((aA he aE hs) pos pins s σ H (λvs H1=>match vs with | [x]=>tf σ H1 λy H2=>∃ a ns,x=.ref a/\SqL X.K H2 a (ns.map V.int)/\Q (mxD ns y) H2 | _=>False) I h) λus s1 ⟨vs,H1,I1,r1,U⟩=>?_;obtain⟨x,rfl⟩:∃ x,vs=[x]:=by
  rcases vs with _ | ⟨x,_ | ⟨_,_⟩⟩
  .exact U.elim
  .exact⟨x,rfl⟩
  .exact U.elim
 refine thn ((z7 hf aAv) pos pins s1 σ H1 (λks H2=>match ks with | [y]=>∃ a ns,x=.ref a/\SqL X.K H2 a (ns.map V.int)/\Q (mxD ns y) H2 | _=>False) I1 U) λws s2 ⟨zs,H2,I2,r2,z⟩=>?_;obtain⟨y,rfl⟩:∃ y,zs=[y]:=by
  rcases zs with _ | ⟨x,_ | ⟨_,_⟩⟩
  .exact z.elim
  .exact⟨x,rfl⟩
  .exact z.elim
 obtain⟨a,ns,rfl,hq,z⟩:=z;obtain⟨u,rfl,Y⟩:=r1.one;obtain⟨v,rfl,rv⟩:=r2.one;cases Y;rw[N];obtain⟨its,rl,pl,hz⟩:=I2.list hq;exact R5 (I.ok.hd hc) (F7 rl) pl.isList rv λh' tk u kp Y=>⟨_,H2,I2.kept kp,Y,z⟩
end
def kF:bootBuiltins "sum"=some (.builtin "sum"):=by decide +kernel
def sA:bootBuiltins "enumerate"=some (.type "enumerate"):=by decide +kernel
def sB:∀ {ns:List Int} {us:List Value},Vals (ns.map V.int) us->IntsAre us ns
 | [],_,.nil=>.nil
 | _ :: _,_,.cons ⟨_,e⟩ t=>by subst e;exact .cons _ _ (sB t)
section
variable {X:Cx}
def kG (J:X.calm=true):fJ X (.builtin "sum") (λxs H Q=>∃ (p:Addr) (ns:List Int),xs=[.ref p]/\H p=some (.lst (ns.map V.int))/\Q (.int ns.sum) H):=by
 intro pins s σ H xs us Q I r h;obtain⟨p,ns,rfl,L,q⟩:=h;obtain⟨u,rfl,M⟩:=gK r;cases M;obtain⟨its,N,pl,hz⟩:=I.list (SqL.of L);have U:=pl.isList;have hi:=sB N;obtain⟨xs,D⟩:=hi.allInts.items;have z:s.heap.IsList p (intItems xs):=D ▸ U;refine sum_intListG (I.ok.hd J) z λh' tk t' Y=>?_;have e1:ns=xs.toList.map (·.1):=by
  rw[<- nums_intItems,<- D];exact(show numsOf its.toArray.toList=ns from hi.numsOf).symm
 have e2:preSum (numAt xs) xs.size=ns.sum:=by
  rw[preSum_eq,List.take_of_length_le (by simp),e1]
 rw[e2];exact⟨.int _,H,I.kept Y,⟨_,rfl⟩,q⟩
def Inv.turnedF {h':Heap} {pins:List (Addr×Obj)} {σ:St} {H:Hp} {s:Shared} {t':Nat} {fp:List Addr} (I:Inv X pins σ H s) (k:∀ b o,b∉fp->s.heap.get? b=some o->h'.get? b=some o) (L:∀ b∈fp,kA X pins H b):Inv X pins σ H { s with heap:=h',toks:=t' }:=by
 have J:∀ b u,H b=some u->b∉fp:=λb u e z=>by rw[(L b z).1]at e;cases e
 refine I.step (g':=s.gens) (d':=s.drawn) (ch:=fp) (λb M=>?_) (λb o _ _ D e _=>k b o D e) (λb o _ _ D e _=>⟨o.slots,k b o D e⟩) (λ_ _ _ _ n=>n)
  (λb o D e=>⟨o,k b o D e⟩) (λ_ _ e=>e) (λ_ _ _ e=>e) (λb ps e=>⟨#[],by rw[e];simp⟩) (λm N=>?_) (λb u e=>?_) I.bare
 .obtain⟨_,h1,_,h3,h4,h5⟩:=L b M;exact⟨h3,h1,h4,h5⟩
 .obtain⟨o,es,ep,U,r⟩:=N;exact⟨o,es,ep,k _ o (λz=>(L _ z).2.1 rfl) U,r⟩
 .refine(I.hok b u e).stay (λc v D q=>k c v ?_ q) (λ_ q=>q) λ_ _ q=>q;rcases D with z | z
  .rw[z];exact J b u e
  .exact J c _ z
def Inv.turnLaid {h':Heap} {pins:List (Addr×Obj)} {σ:St} {H:Hp} {s:Shared} {t':Nat} {fp:List Addr} {a:Addr} {o:HO} (I:Inv X pins σ H s) (k:∀ b o,b∉fp->s.heap.get? b=some o->h'.get? b=some o) (M:∀ b∈fp,kA X pins H b) (N:s.heap.objs.size<=a) (new:ObjOk X.prog X.w (upd H a o) h' a o) :
 Inv X pins σ (upd H a o) { s with heap:=h',toks:=t' }:=by
 have U:H a=none:=I.hok.fresh N;have J:∀ b u,H b=some u->b∉fp:=λb u e z=>by rw[(M b z).1]at e;cases e
 have ne:∀ b u,H b=some u->b≠a:=λb u e=>aN e U;refine I.step (g':=s.gens) (d':=s.drawn) (ch:=fp) (λb L=>?_) (λb o _ _ D e _=>k b o D e) (λb o _ _ D e _=>⟨o.slots,k b o D e⟩) (λb ob _ e n=>?_)
  (λb o D e=>⟨o,k b o D e⟩) (λb _ e=>by rw[aG (ne b _ e)];exact e) (λb _ _ e=>by rw[aG (ne b _ e)];exact e) (λb ps e=>⟨#[],by rw[aG (ne b _ e),e];simp⟩) (λm Y=>?_) (λb u e=>?_) I.bare
 .obtain⟨_,h1,_,h3,h4,h5⟩:=M b L;exact⟨h3,h1,h4,h5⟩
 .have:b≠a:=aD3 (aDX (aDM e) N);rw[aG this];exact n
 .obtain⟨o,es,ep,ho,r⟩:=Y;exact⟨o,es,ep,k _ o (λz=>(M _ z).2.1 rfl) ho,r⟩
 .by_cases L:b=a
  .subst L;rw[aB]at e;cases e;exact new
  .rw[aG L]at e;refine(I.hok b u e).stay (λc v D q=>k c v ?_ q) (λc q=>by rw[aG (ne c _ q)];exact q) λc _ q=>by rw[aG (ne c _ q)];exact q
   rcases D with z | z
   .rw[z];exact J b u e
   .exact J c _ z
end
def Ite (K:PySem.W.Frag) (a:Addr):It :=
 ⟨λi H=>∃ xs x,SqL K H a xs/\xs[i]?=some x,λi H v H'=>∃ t x,v=.ref t/\H t=none/\(∀ xs,SqL K H a xs->xs[i]?=some x)/\H'=upd H t (.tup [.int i,x]),λi H=>∃ xs,SqL K H a xs/\xs.length<=i⟩
def R6 {P:Program} {w:World} {K:PySem.W.Frag} {elts:List Expr} {x1} {pos:Pos} (a e it:Addr) (hne:e≠it):qM P w K (.Tuple elts x1 pos) (Ite K a) [e,it] e (λi h=>(∃ old,IsEnum h e it (i:Nat) old)/\h.IsListIter it a i) where
 mem:=by simp
 obj:=λi h st b hb=>by
  obtain⟨⟨old,he⟩,o,ho,c,d⟩:=st;rcases aDi.mp hb with z | z
  .subst z;exact⟨_,he,λv z=>by have z':Data.fields _=Data.cell v:=z;cases z'⟩
  .have z:b=it:=by simpa using z
   subst z;exact⟨o,ho,λv z=>by rw[d]at z;cases z⟩
 keep:=λi h h' st k=>⟨let ⟨old,he⟩:=st.1;⟨old,k e (by simp) _ he⟩,st.2.at λo e=>k it (by simp) o e⟩
 item:=by
  intro X hP hw hK hc i pins s σ H E I hf st hg;subst hP hw hK;obtain⟨xs,x,hq,hx⟩:=hg;obtain⟨its,rv,p,hz⟩:=I.list hq;obtain⟨u,hu,ru⟩:=rv.get hx;obtain⟨⟨old,he⟩,hit⟩:=st;have le:e<s.heap.objs.size:=aDM he;have li:it<s.heap.objs.size:=by obtain⟨_,z,_⟩:=hit;exact aDM z
  refine wpAny_pyNext_enum_item he hit p.isList (x:=u) (by simpa using hu) hne λh' e1 e2 e3 e4 kp=>?_;refine⟨_,rfl,?_⟩;have hn:H s.heap.objs.size=none:=I.hok.fresh (Nat.le_refl _);have k1:∀ b o,b∉[e,it]->s.heap.get? b=some o->h'.get? b=some o:=λb o hb q=>kp b o (λz=>hb (by simp[z])) (λz=>hb (by simp[z])) q;have tupOk:∀ h2:Heap,h2.get? s.heap.objs.size=some { cls:=.type "tuple",data:=.seq #[.int i s.toks,u] }->ObjOk X.prog X.w (upd H s.heap.objs.size (.tup [.int i,x])) h2 s.heap.objs.size (.tup [.int i,x]):=λh2 q =>
   ⟨by show 2<=sizeLine;decide,[.int i s.toks,u],.cons ⟨_,rfl⟩ (.cons ru .nil),_,q,rfl,_,rfl⟩
  refine wpAny_letOwnedTupleGo_enum (i:=((i:Nat):Int)+1) e1 λh2 f1 sb=>?_;have k2:∀ b o,b∉[e,it]->s.heap.get? b=some o->h2.get? b=some o:=λb o hb q=>sb.extBut b o (λz=>hb (by simp[z])) (k1 b o hb q);have n1:s.heap.objs.size≠e:=aD6 le;refine⟨.ref s.heap.objs.size,_,I.turnLaid (t':=s.toks+1) (h':=h2) (o:=.tup [.int i,x]) k2 hf (Nat.le_refl _) (tupOk _ (sb.extBut _ _ n1 e3)),rfl,⟨_,x,rfl,hn,λys hy=>by rw[I.list_inj hy hq];exact hx,rfl⟩,⟨⟨u,?_⟩,?_⟩,λb hb=>?_⟩
  .have:(((i+1:Nat):Int))=(i:Int)+1:=by omega
   rw[this];exact f1
  .exact e2.extBut sb.extBut (Ne.symm hne)
  .have hb':b≠s.heap.objs.size:=by
    rcases aDi.mp hb with z | z
    .subst z;exact aD3 le
    .have z:b=it:=by simpa using z
     subst z;exact aD3 li
   rw[aG hb'];exact(hf b hb).1
 done:=by
  intro X hP hw hK hc i pins s σ H E I hf st hg;subst hP hw hK;obtain⟨xs,hq,hx⟩:=hg;obtain⟨its,rv,p,hz⟩:=I.list hq;have hl:=rv.length;obtain⟨⟨old,he⟩,hit⟩:=st;exact wpAny_pyNext_enum_end (I.ok.hd hc) he hit p.isList (by simp;omega) λh' eb=>⟨rfl,I.turnedF (fp:=[e,it]) (t':=s.toks) (λb o hb e=>eb b o (λz=>hb (by simp[z])) e) hf⟩
 self:=λ_ _ _ _ _ st h=>let ⟨_,he⟩:=st.1;wpAny_pyIter_enum he h
def aCG (K:PySem.W.Frag) (ta:TA):TI:=fun σ H R=>ta σ H λvs H1=>∃ a xs,vs=[.ref a]/\SqL K H1 a xs/\R (Ite K a) H1
def N2 {X:Cx} {elts:List Expr} {L} {ag:Pos} {a:Expr} {ta:TA} {p pos:Pos} (M:Gl X "enumerate") (N:X.mg "enumerate"=none) (U:PA X [a] ta) (hs:starEach [a] X.env=[(false,eval a X.env)]:=by rfl):PI X (.Tuple elts L ag) (.Call (.Name "enumerate" p) [a] [] pos) (aCG X.K ta):=by
 intro pins s σ H R I h;refine Call_ (kB I M N sA (PyProof.Rows.callWith_type1 (thn (U pos pins s σ H _ I h) λus D ⟨vs,H1,J,r1,Y⟩=>?_) hs rfl));obtain⟨a,xs,e,hq,q⟩:=Y;subst e;obtain⟨u,rfl,rx⟩:=gK r1;cases rx;obtain⟨its,rv,pl,hz⟩:=J.list hq;refine call_enumerate_list pl.isList λh' g1 g2 g3 kp=>?_;have I2:Inv X pins σ H1 { D with heap:=h' }:=J.kept (t':=D.toks) kp;refine wpAny_pyIter_enum g1 ?_;refine⟨D.heap.objs.size+1,[D.heap.objs.size+1,D.heap.objs.size],_,_,H1,rfl,I2,R6 a _ _ (aD6 (Nat.lt_succ_self _)),⟨⟨_,g1⟩,g2⟩,λb hb=>?_,q⟩;have e:D.heap.objs.size<=b:=by
  rcases aDi.mp hb with z | z
  .rw[z];exact Nat.le_succ _
  .have z:b=D.heap.objs.size:=by simpa using z
   rw[z];exact Nat.le_refl _
 exact J.fpOk e (J.hok.fresh e)
def zG {K:PySem.W.Frag} {a:Addr} {xs:List V} {g:TG} {tb:TS} {D:oT} {σ:St} {H:Hp} (Pv:Nat->St->Hp->Prop) (h0:Pv 0 σ H) (M:∀ i σ H,i<=xs.length->Pv i σ H->SqL K H a xs)
 (hs:∀ i x σ H t,xs[i]?=some x->Pv i σ H->H t=none->g (.ref t) σ (upd H t (.tup [.int i,x])) λz H2=>tb { D with nx:=Pv (i+1),ct:=Pv (i+1),bk:=D.nx } z H2) (hd:∀ σ H,Pv xs.length σ H->D.nx σ H) :
 ∃ W:Nat->Nat->St->Hp->Prop,(∃ m,W 0 m σ H)/\∀ i m σ H,W i m σ H ->
  ((Ite K a).stop i H/\D.nx σ H)\/((Ite K a).go i H/\∃ N:St->Hp->Prop,(∀ I H',N I H'->∃ L,L<m/\W (i+1) L I H')/\∀ x H',(Ite K a).yld i H x H'->g x σ H' λz H2=>tb { D with nx:=N,ct:=N,bk:=D.nx } z H2):=by
 refine⟨λi m σ H=>m=xs.length - i/\i<=xs.length/\Pv i σ H,⟨xs.length,by simp,Nat.zero_le _,h0⟩,?_⟩;rintro i m σ H ⟨rfl,hi,p⟩;have q:=M i σ H hi p
 by_cases J:i<xs.length
 .refine .inr ⟨⟨xs,xs[i],q,by simp[J]⟩,Pv (i+1),λI H' U=>⟨xs.length - (i+1),by omega,rfl,J,U⟩,λx H' y=>?_⟩;obtain⟨t,x,rfl,Y,y,rfl⟩:=y;exact hs i x σ _ t (y xs q) p Y
 .have e:i=xs.length:=by omega
  subst e;exact .inl ⟨⟨xs,q,Nat.le_refl _⟩,hd σ H p⟩
open PySem.W
section
variable {O:KeyOrd} {key:Nat->O.α} {n:Nat} {aa:Nat->Nat->(Bool->Shared->Prop)->Shared->Prop} {s:Shared}
def Ans (O:KeyOrd) (key:Nat->O.α) (n:Nat) (aa:Nat->Nat->(Bool->Shared->Prop)->Shared->Prop) (s:Shared):Prop:=∀ i j C,i<n->j<n->C (O.blt (key i) (key j)) s->aa i j C s
def KP (O:KeyOrd) (key:Nat->O.α) (p:Array Nat) (i:Nat):O.α:=key (p.getD i 0)
structure InR (n:Nat) (p:Array Nat):Prop where
 pos:0<n
 size:p.size=n
 mem:∀ x∈p,x<n
def InR.at {p:Array Nat} (h:InR n p) (i:Nat):p.getD i 0<n:=by
 unfold Array.getD;split
 .exact h.mem _ (Array.getElem_mem _)
 .exact h.pos
def InR.perm {p q:Array Nat} (h:InR n p) (e:q.Perm p):InR n q:=⟨h.pos,e.size_eq.trans h.size,λx z=>h.mem x (e.mem_iff.mp z)⟩
def nH {p q:Array Nat} {i j:Nat} (h:p[i]?=q[j]?):p.getD i 0=q.getD j 0:=by
 rw[Array.getD_eq_getD_getElem?,Array.getD_eq_getD_getElem?,h]
def G2 {p:Array Nat} {i j:Nat} (z:j<=p.size) (k:Nat):KP O key (kas_rev p i j) k=if i<=k/\k<j then KP O key p (i+j - 1 - k)else KP O key p k:=by
 have e:=getElem?_mirror_all (i:=i) z k;unfold KP kas_rev
 by_cases h:i<=k/\k<j
 .rw[if_pos h]at e ⊢;exact congrArg key (nH e)
 .rw[if_neg h]at e ⊢;exact congrArg key (nH e)
def aBH {p:Array Nat} {k d:Nat} (z:k<p.size) (hd:d<=k) (x:Nat):KP O key (bubble p k d) x=if x=k - d then KP O key p k else if k - d<x/\x<=k then KP O key p (x - 1)else KP O key p x:=by
 have e:=getElem?_bubble z d hd x;unfold KP
 by_cases h1:x=k - d
 .rw[if_pos h1]at e ⊢;exact congrArg key (nH e)
 .rw[if_neg h1]at e ⊢
  by_cases h2:k - d<x/\x<=k
  .rw[if_pos h2]at e ⊢;exact congrArg key (nH e)
  .rw[if_neg h2]at e ⊢;exact congrArg key (nH e)
def Up (O:KeyOrd) (key:Nat->O.α) (p:Array Nat) (m:Nat):Prop:=∀ i j,i<=j->j<m->O.kle (KP O key p i) (KP O key p j)
def Dn (O:KeyOrd) (key:Nat->O.α) (p:Array Nat) (m:Nat):Prop:=∀ i j,i<=j->j<m->O.kle (KP O key p j) (KP O key p i)
def Up.more {p:Array Nat} {m:Nat} (h:Up O key p m) (I:1<=m) (D:O.kle (KP O key p (m - 1)) (KP O key p m)):Up O key p (m+1):=λi j z J=>by
 by_cases q:j<m
 .exact h i j z q
 .have:j=m:=by omega
  subst this
  by_cases r:i=j
  .subst r;exact KeyOrd.kle_refl _
  .exact KeyOrd.kle_trans (h i (j - 1) (by omega) (by omega)) D
def Dn.more {p:Array Nat} {m:Nat} (h:Dn O key p m) (I:1<=m) (D:O.kle (KP O key p m) (KP O key p (m - 1))):Dn O key p (m+1):=λi j z J=>by
 by_cases q:j<m
 .exact h i j z q
 .have:j=m:=by omega
  subst this
  by_cases r:i=j
  .subst r;exact KeyOrd.kle_refl _
  .exact KeyOrd.kle_trans D (h i (j - 1) (by omega) (by omega))
def G3 (A:Ans O key n aa s) {p:Array Nat} (L:InR n p):∀ (f m:Nat) (Q:Nat->Shared->Prop),1<=m->Up O key p m ->
 (∀ D,m<=D->D<=m+f->Up O key p D->(D<m+f->O.klt (KP O key p D) (KP O key p (D - 1)))->Q D s)->(kas_asc p f m).kasWp aa Q s
 | 0,m,Q,M,I,J=>J m (Nat.le_refl _) (Nat.le_refl _) I λz=>absurd z (Nat.lt_irrefl _)
 | f+1,m,Q,M,I,J=>by
  show aa _ _ _ s;refine A _ _ _ (L.at _) (L.at _) ?_;cases N:O.blt (key (p.getD m 0)) (key (p.getD (m - 1) 0))with
  | true =>
   show KasT.kasWp aa (if true=true then _ else _) Q s;rw[if_pos rfl];exact J m (Nat.le_refl _) (Nat.le_add_right _ _) I λ_=>N
  | false =>
   show KasT.kasWp aa (if false=true then _ else _) Q s;rw[if_neg aDT];exact G3 A L f (m+1) Q (by omega) (I.more M N) λD h1 h2 h3 h4=>J D (by omega) (by omega) h3 λz=>h4 (by omega)
def Y4 (O:KeyOrd) (key:Nat->O.α) (p:Array Nat) (m q:Nat):Prop:=∀ k,m - (q+1)<=k->k<m->KP O key p k=KP O key p (m - 1)
def sC {p:Array Nat} {i j:Nat} (z:j<=p.size) (h:∀ k,i<=k->k<j->KP O key p k=KP O key p (j - 1)) (k:Nat):KP O key (kas_rev p i j) k=KP O key p k:=by
 rw[G2 z]
 by_cases q:i<=k/\k<j
 .rw[if_pos q,h _ (by omega) (by omega),h k q.1 q.2]
 .rw[if_neg q]
def Dn.same {p q:Array Nat} {m:Nat} (h:Dn O key p m) (e:∀ k,KP O key q k=KP O key p k):Dn O key q m:=λi j h1 h2=>by rw[e,e];exact h i j h1 h2
def Up.same {p q:Array Nat} {m:Nat} (h:Up O key p m) (e:∀ k,KP O key q k=KP O key p k):Up O key q m:=λi j h1 h2=>by rw[e,e];exact h i j h1 h2
def fM (p:Array Nat) (i j:Nat):(kas_rev p i j).Perm p:=mirror_perm _ _ _ _
def qW (A:Ans O key n aa s):∀ (f:Nat) (p:Array Nat) (m q:Nat) (Q:Array Nat×Nat×Nat->Shared->Prop),InR n p->m+f<=n->1<=m->q+1<=m->Dn O key p m->Y4 O key p m q ->
 (∀ I D J,I.Perm p->m<=D->D<=n->J+1<=D->Dn O key I D->Y4 O key I D J->Q (I,D,J) s)->(kas_desc f p m q).kasWp aa Q s
 | 0,p,m,q,Q,L,hf,N,U,hd,he,M=>M p m q (Array.Perm.refl _) (Nat.le_refl _) (by omega) U hd he
 | f+1,p,m,q,Q,L,hf,N,U,hd,he,M=>by
  show aa _ _ _ s;refine A _ _ _ (L.at _) (L.at _) ?_;have one:∀ p:Array Nat,Y4 O key p (m+1) 0:=λp k h1 h2=>by rw[show k=m+1 - 1 by omega]
  cases Y:O.blt (key (p.getD m 0)) (key (p.getD (m - 1) 0))with
  | true =>
   show KasT.kasWp aa (if true=true then _ else _) Q s;rw[if_pos rfl];have hl:O.kle (KP O key p m) (KP O key p (m - 1)):=KeyOrd.kle_of_klt Y
   by_cases q0:q > 0
   .rw[if_pos q0];have sm:=sC (O:=O) (key:=key) (p:=p) (i:=m - (q+1)) (j:=m) (by rw[L.size];omega) he;refine qW A f _ (m+1) 0 Q (L.perm (fM ..)) (by omega) (by omega) (by omega) (Dn.same (hd.more N hl) sm) (one _) λI D J e h1 h2 h3 h4 h5=>M I D J (e.trans (fM ..)) (by omega) h2 h3 h4 h5
   .rw[if_neg q0];exact qW A f p (m+1) 0 Q L (by omega) (by omega) (by omega) (hd.more N hl) (one _) λI D J e h1 h2 h3 h4 h5=>M I D J e (by omega) h2 h3 h4 h5
  | false =>
   show KasT.kasWp aa (if false=true then _ else _) Q s;rw[if_neg aDT];show aa _ _ _ s;refine A _ _ _ (L.at _) (L.at _) ?_;cases hc:O.blt (key (p.getD (m - 1) 0)) (key (p.getD m 0))with
   | true =>
    show KasT.kasWp aa (if true=true then _ else _) Q s;rw[if_pos rfl];exact M p m q (Array.Perm.refl _) (Nat.le_refl _) (by omega) U hd he
   | false =>
    show KasT.kasWp aa (if false=true then _ else _) Q s;rw[if_neg aDT];have eq:KP O key p m=KP O key p (m - 1):=O.total _ _ Y hc;refine qW A f p (m+1) (q+1) Q L (by omega) (by omega) (by omega) (hd.more N hc) (λk h1 h2=>?_) λI D J e h1 h2 h3 h4 h5=>M I D J e (by omega) h2 h3 h4 h5;show KP O key p k=KP O key p m
    by_cases z:k=m
    .rw[z]
    .rw[eq];exact he k (by omega) (by omega)
def N3 (A:Ans O key n aa s) {p:Array Nat} {m:Nat} {Q:Nat×Array Nat->Shared->Prop} (D:InR n p) (L:1<=m) (J:m<=n) (hd:Dn O key p m)
 (M:∀ z I,I.Perm p->1<=z->z<=n->Up O key I z->Q (z,I) s):(kas_tail3 m n p).kasWp aa Q s:=by
 unfold kas_tail3;rw[KasT.kasWp_bind];have up:Up O key (kas_rev p 0 m) m:=λi j h1 h2=>by
  rw[G2 (by rw[D.size];exact J),G2 (by rw[D.size];exact J),if_pos (by omega),if_pos (by omega)];exact hd _ _ (by omega) (by omega)
 exact G3 A (D.perm (fM ..)) _ _ _ L up λz h1 h2 h3 _=>M z _ (fM ..) (by omega) (by omega) h3
def N4 (A:Ans O key n aa s) {p:Array Nat} {m:Nat} {Q:Nat×Array Nat->Shared->Prop} (J:InR n p) (hn:m+1<=n) (hd:Dn O key p (m+1))
 (U:∀ z D,D.Perm p->1<=z->z<=n->Up O key D z->Q (z,D) s):(kas_descPart m n p).kasWp aa Q s:=by
 unfold kas_descPart;rw[KasT.kasWp_bind];refine qW A _ p (m+1) 0 _ J (by omega) (by omega) (by omega) hd (λk h1 h2=>by rw[show k=m+1 - 1 by omega]) λD z L e h1 h2 h3 h4 h5=>?_;show KasT.kasWp aa (if L > 0 then _ else _) Q s
 by_cases Y:L > 0
 .rw[if_pos Y];have I:=J.perm e;have sm:=sC (O:=O) (key:=key) (p:=D) (i:=z - (L+1)) (j:=z) (by rw[I.size];exact h2) h5;exact N3 A (I.perm (fM ..)) (show 1<=z by omega) h2 (Dn.same h4 sm) λM p2 N a b c=>U M p2 ((N.trans (fM ..)).trans e) a b c
 .rw[if_neg Y];exact N3 A (J.perm e) (show 1<=z by omega) h2 h4 λM p2 N a b c=>U M p2 (N.trans e) a b c
def Y5 (A:Ans O key n aa s) {p:Array Nat} {Q:Nat×Array Nat->Shared->Prop} (z:InR n p)
 (D:∀ I M,M.Perm p->1<=I->I<=n->Up O key M I->Q (I,M) s):(kas_count n p).kasWp aa Q s:=by
 have N:=z.pos;unfold kas_count;rw[KasT.kasWp_bind];refine G3 A z _ 1 _ (Nat.le_refl _) (λi j h1 h2=>by rw[show i=j by omega];exact KeyOrd.kle_refl _) λm h1 h2 J L=>?_;show KasT.kasWp aa (if (m == n)=true then _ else _) Q s
 by_cases e:m=n
 .rw[if_pos (by simpa using e)];exact D m p (Array.Perm.refl _) h1 (by omega) J
 .rw[if_neg (by simpa using e)];have L:=L (by omega)
  by_cases g:m > 1
  .rw[if_pos g];show aa _ _ _ s;refine A _ _ _ (z.at _) (z.at _) ?_;cases U:O.blt (key (p.getD 0 0)) (key (p.getD (m - 1) 0))with
   | true =>
    show KasT.kasWp aa (if true=true then _ else _) Q s;rw[if_pos rfl];exact D m p (Array.Perm.refl _) h1 (by omega) J
   | false =>
    show KasT.kasWp aa (if false=true then _ else _) Q s;rw[if_neg aDT];have all:∀ k,0<=k->k<m->KP O key p k=KP O key p (m - 1):=λk _ Y =>
     KeyOrd.kle_antisymm (J k (m - 1) (by omega) (by omega)) (KeyOrd.kle_trans (show O.kle (KP O key p (m - 1)) (KP O key p 0) from U) (J 0 k (by omega) Y))
    have sm:=sC (O:=O) (key:=key) (p:=p) (i:=0) (j:=m) (by rw[z.size];omega) all;refine N4 A (z.perm (fM ..)) (by omega) (Dn.same (Dn.more (λi j h1 h2=>?_) h1 (KeyOrd.kle_of_klt L)) sm) λm2 p2 e2 a b c=>D m2 p2 (e2.trans (fM ..)) a b c;rw[all i (by omega) (by omega),all j (by omega) h2];exact KeyOrd.kle_refl _
  .rw[if_neg g];refine N4 A z (by omega) (Dn.more (λi j h1 h2=>?_) h1 (KeyOrd.kle_of_klt L)) D;rw[show i=j by omega];exact KeyOrd.kle_refl _
def sD (A:Ans O key n aa s) {p:Array Nat} (I:InR n p) {k:Nat}:∀ (f l r:Nat) (Q:Nat->Shared->Prop),Up O key p k->l<=r->r<=k->r - l<=f->(∀ i,i<l->O.kle (KP O key p i) (KP O key p k))->(∀ i,r<=i->i<k->O.kle (KP O key p k) (KP O key p i)) ->
 (∀ J,J<=k->(∀ i,i<J->O.kle (KP O key p i) (KP O key p k))->(∀ i,J<=i->i<k->O.kle (KP O key p k) (KP O key p i))->Q J s)->(kas_place p k f l r).kasWp aa Q s
 | 0,l,r,Q,z,h1,h2,h3,h4,h5,D=>D l (by omega) h4 λi a b=>h5 i (by omega) b
 | f+1,l,r,Q,z,h1,h2,h3,h4,h5,D=>by
  unfold kas_place
  by_cases e:l≥r
  .rw[if_pos e];exact D l (by omega) h4 λi a b=>h5 i (by omega) b
  .rw[if_neg e];show aa _ _ _ s;refine A _ _ _ (I.at _) (I.at _) ?_;have M:l<=(l+r) / 2:=by omega
   have N:(l+r) / 2<r:=by omega
   cases L:O.blt (key (p.getD k 0)) (key (p.getD ((l+r) / 2) 0))with
   | true =>
    show KasT.kasWp aa (if true=true then _ else _) Q s;rw[if_pos rfl];refine sD A I f l ((l+r) / 2) Q z M (by omega) (by omega) h4 (λi a b=>?_) D;exact KeyOrd.kle_trans (KeyOrd.kle_of_klt (show O.klt (KP O key p k) (KP O key p ((l+r) / 2)) from L)) (z _ i a b)
   | false =>
    show KasT.kasWp aa (if false=true then _ else _) Q s;rw[if_neg aDT];refine sD A I f ((l+r) / 2+1) r Q z (by omega) h2 (by omega) (λi a=>?_) h5 D;exact KeyOrd.kle_trans (z i ((l+r) / 2) (by omega) (by omega)) (show O.kle (KP O key p ((l+r) / 2)) (KP O key p k) from L)
def Y6 (A:Ans O key n aa s):∀ (f:Nat) (p:Array Nat) (k:Nat) (Q:Array Nat->Shared->Prop),InR n p->1<=k->k+f=n->Up O key p k->(∀ D,D.Perm p->Up O key D n->Q D s)->(kas_bin f p k).kasWp aa Q s
 | 0,p,k,Q,J,hk,N,z,L=>L p (Array.Perm.refl _) (by rw[<- N];exact z)
 | f+1,p,k,Q,J,hk,N,z,L=>by
  unfold kas_bin;rw[KasT.kasWp_bind];refine sD A J k 0 k _ z (Nat.zero_le _) (Nat.le_refl _) (by omega) (λi a=>absurd a (Nat.not_lt_zero _)) (λi a b=>by omega) λl hl h1 h2=>?_;have U:(bubble p k (k - l)).Perm p:=bubble_perm _ _ _;refine Y6 A f _ (k+1) Q (J.perm U) (by omega) (by omega) (λi j M hj=>?_) λD e u=>L D (e.trans U) u;have Y:=λx=>aBH (O:=O) (key:=key) (p:=p) (k:=k) (d:=k - l) (by rw[J.size];omega) (by omega) x;rw[Y i,Y j,show k - (k - l)=l by omega]
  by_cases i1:i=l
  .rw[if_pos i1]
   by_cases I:j=l
   .rw[if_pos I];exact KeyOrd.kle_refl _
   .rw[if_neg I,if_pos (by omega)];exact h2 (j - 1) (by omega) (by omega)
  .rw[if_neg i1]
   by_cases i2:l<i/\i<=k
   .rw[if_pos i2,if_neg (show ¬ j=l by omega),if_pos (by omega)];exact z (i - 1) (j - 1) (by omega) (by omega)
   .rw[if_neg i2]
    by_cases I:j=l
    .rw[if_pos I];exact h1 i (by omega)
    .rw[if_neg I]
     by_cases j2:l<j/\j<=k
     .rw[if_pos j2];exact z i (j - 1) (by omega) (by omega)
     .rw[if_neg j2];exact z i j M (by omega)
def aAF (A:Ans O key n aa s) (J:0<n) {Q:Array Nat->Shared->Prop} (z:∀ p,p.Perm (List.range n).toArray->Up O key p n->Q p s):(kas_sort n).kasWp aa Q s:=by
 unfold kas_sort;rw[KasT.kasWp_bind];have D:InR n (List.range n).toArray:=⟨J,by simp,λx L=>by simpa using L⟩;refine Y5 A D λm p e h1 h2 I=>?_;show KasT.kasWp aa (if m<n then _ else _) Q s
 by_cases q:m<n
 .rw[if_pos q];have em:max m 1=m:=by omega
  show KasT.kasWp aa (kas_bin (n - max m 1) p (max m 1)) Q s;rw[em];exact Y6 A _ p m Q (D.perm e) h1 (by omega) I λM N u=>z M (N.trans e) u
 .rw[if_neg q];have:m=n:=by omega
  subst this;exact z p e I
end
end L2
namespace CW
def goM (c:Int):List Int->Nat->Int->List Int
 | [],h,n=>(List.range h).map (λ(k:Nat)=>n+(k:Int))
 | p :: r,h,n=>(List.range (min h (p - n).toNat)).map (λ(k:Nat)=>n+(k:Int)) ++
  (if ((h - min h (p - n).toNat:Nat):Int)<c then goM c r (h - min h (p - n).toNat+1) (p+1)else p :: goM c r (h - min h (p - n).toNat) (p+1))
def cU (row:List Int) (c:Int):List Int:=goM c row 0 0
def gN (k:Nat) (n:Int):(List.range (k+1)).map (λ(j:Nat)=>n+(j:Int))=n :: (List.range k).map (λ(j:Nat)=>(n+1)+(j:Int)):=by
 rw[List.range_succ_eq_map,aD5,aDa]
 congr 1
 .simp
 .apply List.map_congr_left
  intro j _;simp only[Function.comp];omega
def lM {c:Int} {p:Int} {r:List Int} {h:Nat} {n:Int} (z:h=0\/p<=n):goM c (p :: r) h n=if (h:Int)<c then goM c r (h+1) (p+1)else p :: goM c r h (p+1):=by
 have e:min h (p - n).toNat=0:=by omega
 simp only[goM,e,List.range_zero,List.map_nil,List.nil_append,Nat.sub_zero]
def wW {c:Int} {p:Int} {r:List Int} {h:Nat} {n:Int} (D:n<p):goM c (p :: r) (h+1) n=n :: goM c (p :: r) h (n+1):=by
 have e:min (h+1) (p - n).toNat=min h (p - (n+1)).toNat+1:=by omega
 have z:h+1 - (min h (p - (n+1)).toNat+1)=h - min h (p - (n+1)).toNat:=by omega
 rw[goM,goM,e,z,gN];simp
def nI (c:Int) (h:Nat) (n:Int):goM c [] (h+1) n=n :: goM c [] h (n+1):=by
 simp only[goM];exact gN h n
def wX (c:Int) (n:Int):goM c [] 0 n=[]:=rfl
def nJ {c:Int} {row:List Int} {n m:Int}:goM c row 0 n=goM c row 0 m:=by
 cases row with
 | nil=>rfl
 | cons p r=>rw[lM (.inl rfl),lM (.inl rfl)]
def wY {c:Int}:∀ (row:List Int) (h:Nat) (n:Int),(goM c row h n).length=row.length+h
 | [],h,n=>by simp[goM]
 | p :: r,h,n=>by
  rw[goM];have z:min h (p - n).toNat<=h:=Nat.min_le_left _ _;split
  .rw[aDP,aDG,List.length_range,wY r,aD9];omega
  .rw[aDP,aDG,List.length_range,aD9,wY r,aD9];omega
def oZ (row:List Int) (c:Int):(cU row c).length=row.length:=by simp[cU,wY]
def gY (r:List Int):Prop:=r.Pairwise (·<·)
def Y7 {c:Int}:∀ (row:List Int) (h:Nat) (n:Int),gY row->(∀ x∈row,n<=x\/h=0)->∀ y∈goM c row h n,(n<=y\/h=0)/\(h=0->∀ x,row.head?=some x->x<=y)
 | [],h,n,_,_=>λy D=>by
  simp only[goM,aDk,List.mem_range]at D;obtain⟨k,hk,rfl⟩:=D;exact⟨.inl (by omega),λh0=>by omega⟩
 | p :: r,h,n,Y,hn=>λy D=>by
  have hp:n<=p\/h=0:=hn p aDI;have M:gY r:=(List.pairwise_cons.mp Y).2;have I:∀ x∈r,p+1<=x:=λx J=>by have:=(List.pairwise_cons.mp Y).1 x J;omega
  rw[goM]at D;have N:y∈(List.range (min h (p - n).toNat)).map (λ(k:Nat)=>n+(k:Int))->n<=y/\h≠0:=λq=>by
   simp only[aDk,List.mem_range]at q;obtain⟨k,hk,rfl⟩:=q;omega
  have L:∀ h',y∈goM c r h' (p+1)->p<=y:=λh' q=>by
   have z:=Y7 r h' (p+1) M (λx J=>.inl (I x J)) y q;rcases z.1 with z1 | z1
   .omega
   .cases r with
    | nil=>subst z1;simp[goM]at q
    | cons x r' =>
     have:=z.2 z1 x rfl;have:=I x aDI;omega
  rcases aDj.mp D with q | q
  .have:=N q;exact⟨.inl this.1,λh0=>absurd h0 this.2⟩
  .have U:p<=y:=by
    split at q
    .exact L _ q
    .rcases aDi.mp q with q | q
     .omega
     .exact L _ q
   refine⟨?_,λ_ x J=>?_⟩
   .rcases hp with z | z
    .exact .inl (by omega)
    .exact .inr z
   .cases J;exact U
def N5 {c:Int} (Y:1<=c):∀ (row:List Int) (h:Nat) (n:Int),gY row->(∀ x∈row,n<=x\/h=0)->gY (goM c row h n)
 | [],h,n,_,_=>by
  unfold gY;simp only[goM];rw[List.pairwise_map];exact(List.pairwise_lt_range).imp (λ{x y} q=>by omega)
 | p :: r,h,n,U,hn=>by
  have hp:n<=p\/h=0:=hn p aDI;have J:gY r:=(List.pairwise_cons.mp U).2;have I:∀ x∈r,p+1<=x:=λx D=>by have:=(List.pairwise_cons.mp U).1 x D;omega
  have L:∀ h',gY (goM c r h' (p+1)):=λh'=>N5 Y r h' (p+1) J (λx D=>.inl (I x D));have N:∀ h' y,y∈goM c r h' (p+1)->p+1<=y:=λh' y q=>by
   have z:=Y7 r h' (p+1) J (λx D=>.inl (I x D)) y q;rcases z.1 with z1 | z1
   .exact z1
   .cases r with
    | nil=>subst z1;simp[goM]at q
    | cons x r' =>
     have:=z.2 z1 x rfl;have:=I x aDI;omega
  rw[goM];unfold gY;rw[List.pairwise_append];refine⟨?_,?_,λx D y M=>?_⟩
  .rw[List.pairwise_map];exact(List.pairwise_lt_range).imp (λ{x y} q=>by omega)
  .split
   .exact L _
   .rw[List.pairwise_cons];exact⟨λy M=>by have:=N _ y M;omega,L _⟩
  .simp only[aDk,List.mem_range]at D;obtain⟨k,hk,rfl⟩:=D;have al:p<=y:=by
    split at M
    .have:=N _ y M;omega
    .rcases aDi.mp M with q | q
     .omega
     .have:=N _ y q;omega
   omega
def stp (c:Int) (l:Nat) (x:Bool):Nat×Bool :=
 if x then (if (l:Int)<c then (l+1,false)else (l,true))else (if 0<l then (l - 1,true)else (0,false))
def run (c:Int):Nat->List Bool->Nat×List Bool
 | l,[]=>(l,[])
 | l,x :: xs=>((run c (stp c l x).1 xs).1,(stp c l x).2 :: (run c (stp c l x).1 xs).2)
def bG:Int->List Bool->List Int
 | _,[]=>[]
 | n,true :: xs=>n :: bG (n+1) xs
 | n,false :: xs=>bG (n+1) xs
def dR:List Int->Int->Nat->List Bool
 | _,_,0=>[]
 | [],n,k+1=>false :: dR [] (n+1) k
 | p :: r,n,k+1=>if p=n then true :: dR r (n+1) k else false :: dR (p :: r) (n+1) k
def sE:∀ (k:Nat) (row:List Int) (n:Int),(dR row n k).length=k
 | 0,row,n=>by cases row <;> rfl
 | k+1,[],n=>by rw[dR,aD9,sE k]
 | k+1,p :: r,n=>by
  rw[dR];split <;> rw[aD9,sE k]
def N6 (c:Int):∀ (xs:List Bool) (l:Nat),(run c l xs).2.length=xs.length
 | [],_=>rfl
 | x :: xs,l=>by rw[run,aD9,aD9,N6 c xs]
def wZ {c:Int}:∀ (k:Nat) (row:List Int) (h:Nat) (n:Int),gY row->(∀ x∈row,n<=x/\x<n+k) ->
 goM c row h n=bG n (run c h (dR row n k)).2++goM c [] (run c h (dR row n k)).1 (n+k)
 | 0,row,h,n,_,D=>by
  cases row with
  | nil=>simp[dR,run,bG]
  | cons p r=>have:=D p aDI;omega
 | k+1,[],h,n,I,D=>by
  have z:=λh'=>wZ (c:=c) k [] h' (n+1) I (λx q=>by cases q);have e:n+1+(k:Int)=n+((k+1:Nat):Int):=by omega
  rw[e]at z;rw[dR,run];cases h with
  | zero =>
   simp only[stp,Bool.false_eq_true,if_false,Nat.lt_irrefl,bG];rw[<- z 0];rfl
  | succ h =>
   simp only[stp,Bool.false_eq_true,if_false,Nat.succ_pos,if_true,Nat.add_sub_cancel,bG,List.cons_append];rw[<- z h,nI]
 | k+1,p :: r,h,n,I,D=>by
  have e:n+1+(k:Int)=n+((k+1:Nat):Int):=by omega
  have U:=D p aDI;have M:gY r:=(List.pairwise_cons.mp I).2;have J:∀ x∈r,p<x:=λx q=>(List.pairwise_cons.mp I).1 x q
  by_cases L:p=n
  .subst L;have z:=λh'=>wZ (c:=c) k r h' (p+1) M (λx q=>by have:=J x q;have:=D x (aDJ _ q);omega);rw[e]at z;rw[dR,if_pos rfl,run,lM (.inr (Int.le_refl _))]
   by_cases N:(h:Int)<c
   .simp only[stp,if_true,N,bG];exact z _
   .simp only[stp,if_true,N,if_false,bG,List.cons_append];rw[<- z]
  .have z:=λh'=>wZ (c:=c) k (p :: r) h' (n+1) I (λx q=>by
    have:=D x q;rcases aDi.mp q with rfl | q'
    .omega
    .have:=J x q';omega)
   rw[e]at z;rw[dR,if_neg L,run];cases h with
   | zero =>
    simp only[stp,Bool.false_eq_true,if_false,Nat.lt_irrefl,bG];rw[<- z 0];exact nJ
   | succ h =>
    simp only[stp,Bool.false_eq_true,if_false,Nat.succ_pos,if_true,Nat.add_sub_cancel,bG,List.cons_append];rw[<- z h,wW (by omega)]
def mM (c:Int):∀ (xs ys:List Bool) (l:Nat),run c l (xs++ys)=((run c (run c l xs).1 ys).1,(run c l xs).2++(run c (run c l xs).1 ys).2)
 | [],ys,l=>rfl
 | x :: xs,ys,l=>by
  rw[List.cons_append,run,run,mM c xs ys];rfl
def Y8 {c:Int} {l:Nat} {x:Bool} (z:(l:Int)<=c):stp c (stp c l x).1 (stp c l x).2=(l,x)/\(((stp c l x).1:Nat):Int)<=c:=by
 unfold stp;cases x with
 | true =>
  by_cases h:(l:Int)<c
  .simp[h];omega
  .simp[h];omega
 | false =>
  by_cases h:0<l
  .have h2:((l - 1:Nat):Int)<c:=by omega
   simp[h,h2];omega
  .have:l=0:=by omega
   subst this;simp;omega
def zH {c:Int}:∀ (xs:List Bool) (l:Nat),(l:Int)<=c->run c (run c l xs).1 (run c l xs).2.reverse=(l,xs.reverse)
 | [],l,_=>rfl
 | x :: xs,l,h=>by
  have z:=Y8 (x:=x) h;have D:=zH xs (stp c l x).1 z.2;rw[run];simp only[List.reverse_cons];rw[mM,D];simp only[run,z.1]
def fH:∀ (xs ys:List Bool) (n:Int),bG n (xs++ys)=bG n xs++bG (n+xs.length) ys
 | [],ys,n=>by simp[bG]
 | true :: xs,ys,n=>by
  rw[List.cons_append,bG,bG,fH xs ys,List.cons_append,aD9]
  congr 3;omega
 | false :: xs,ys,n=>by
  rw[List.cons_append,bG,bG,fH xs ys,aD9]
  congr 2;omega
def gO:∀ (xs:List Bool) (n:Int) (y:Int),y∈bG n xs->n<=y/\y<n+xs.length
 | [],n,y,h=>by cases h
 | true :: xs,n,y,h=>by
  rw[aD9];rcases aDi.mp h with rfl | h
  .omega
  .have:=gO xs (n+1) y h;omega
 | false :: xs,n,y,h=>by
  have:=gO xs (n+1) y h;rw[aD9];omega
def mN:∀ (xs:List Bool) (n:Int),gY (bG n xs)
 | [],n=>List.Pairwise.nil
 | true :: xs,n=>by
  unfold gY;rw[bG,List.pairwise_cons];exact⟨λy z=>by have:=gO xs (n+1) y z;omega,mN xs (n+1)⟩
 | false :: xs,n=>mN xs (n+1)
def kH:∀ (xs:List Bool) (n:Int),dR (bG n xs) n xs.length=xs
 | [],n=>rfl
 | true :: xs,n=>by rw[bG,aD9,dR,if_pos rfl,kH xs]
 | false :: xs,n=>by
  rw[bG,aD9];have z:=kH xs (n+1);cases e:bG (n+1) xs with
  | nil=>rw[e]at z;rw[dR,z]
  | cons p r =>
   have:=gO xs (n+1) p (by rw[e];exact aDI);rw[e]at z;rw[dR,if_neg (by omega),z]
def hJ:∀ (k:Nat) (row:List Int) (n:Int),gY row->(∀ x∈row,n<=x/\x<n+k)->bG n (dR row n k)=row
 | 0,row,n,_,z=>by
  cases row with
  | nil=>rfl
  | cons p r=>have:=z p aDI;omega
 | k+1,[],n,D,z=>by rw[dR,bG];exact hJ k [] (n+1) D (λx q=>by cases q)
 | k+1,p :: r,n,D,z=>by
  have M:=z p aDI;have L:gY r:=(List.pairwise_cons.mp D).2;have I:∀ x∈r,p<x:=λx q=>(List.pairwise_cons.mp D).1 x q;rw[dR]
  by_cases J:p=n
  .subst J;rw[if_pos rfl,bG,hJ k r (p+1) L (λx q=>by have:=I x q;have:=z x (aDJ _ q);omega)]
  .rw[if_neg J,bG];exact hJ k (p :: r) (n+1) D (λx q=>by
    have:=z x q;rcases aDi.mp q with rfl | q'
    .omega
    .have:=I x q';omega)
def Y9 (row:List Int):List Int:=row.reverse.map (λz=>-z)
def jE:∀ (xs:List Bool) (n:Int),Y9 (bG n xs)=bG (1 - n - xs.length) xs.reverse
 | [],n=>rfl
 | true :: xs,n=>by
  have z:=jE xs (n+1);unfold Y9 at *;rw[bG,List.reverse_cons,aDV,z,List.reverse_cons,fH,aD9,List.length_reverse];simp only[aD5,List.map_nil,bG]
  congr 1
  .congr 1;omega
  .congr 1;omega
 | false :: xs,n=>by
  have z:=jE xs (n+1);unfold Y9 at *;rw[bG,z,List.reverse_cons,fH,aD9];simp only[bG,List.append_nil]
  congr 1;omega
def vJ (c:Int):∀ (j l:Nat),(run c l (List.replicate j false)).1=l - j
 | 0,l=>by simp[run]
 | j+1,l=>by
  rw[List.replicate_succ,run];simp only;rw[vJ c j];unfold stp
  by_cases h:0<l
  .simp[h];omega
  .simp[h];omega
def aBI (c:Int) {row:List Int} (z:gY row):∃ (n:Int) (k:Nat),(∀ x∈row,n<=x/\x<n+k)/\(run c 0 (dR row n k)).1=0:=by
 have h1:∃ (n:Int) (k:Nat),∀ x∈row,n<=x/\x<n+k:=by
  clear z
  induction row with
  | nil=>exact⟨0,0,λx h=>by cases h⟩
  | cons p r D =>
   obtain⟨n,k,h⟩:=D;refine⟨min n p,((max (n+k) (p+1)) - min n p).toNat,λx hx=>?_⟩;rcases aDi.mp hx with rfl | hx
   .omega
   .have:=h x hx;omega
 obtain⟨n,k,h⟩:=h1;refine⟨n,k+(run c 0 (dR row n k)).1,λx hx=>by have:=h x hx;omega,?_⟩;have e:∀ (k j:Nat) (row:List Int) (n:Int),gY row->(∀ x∈row,n<=x/\x<n+k)->dR row n (k+j)=dR row n k++List.replicate j false:=by
  intro k
  induction k with
  | zero =>
   intro j row n z hx;cases row with
   | nil =>
    rw[Nat.zero_add];show dR [] n j=[]++_;rw[List.nil_append];clear hx
    induction j generalizing n with
    | zero=>rfl
    | succ j D=>rw[dR,D,List.replicate_succ]
   | cons p r=>have:=hx p aDI;omega
  | succ k D =>
   intro j row n z hx;rw[show k+1+j=(k+j)+1 by omega];cases row with
   | nil=>rw[dR,dR,D j [] (n+1) z (λx q=>by cases q)];rfl
   | cons p r =>
    have M:=hx p aDI;have L:gY r:=(List.pairwise_cons.mp z).2;have J:∀ x∈r,p<x:=λx q=>(List.pairwise_cons.mp z).1 x q;rw[dR,dR]
    by_cases I:p=n
    .subst I;rw[if_pos rfl,if_pos rfl,D j r (p+1) L (λx q=>by have:=J x q;have:=hx x (aDJ _ q);omega)];rfl
    .rw[if_neg I,if_neg I,D j (p :: r) (n+1) z (λx q=>by
      have:=hx x q;rcases aDi.mp q with rfl | q'
      .omega
      .have:=J x q';omega)];rfl
 rw[e k _ row n z h,mM];simp only;rw[vJ];omega
def N7 {c:Int} {row:List Int} {n:Int} {k:Nat} (z:gY row) (D:∀ x∈row,n<=x/\x<n+k) (h0:(run c 0 (dR row n k)).1=0):cU row c=bG n (run c 0 (dR row n k)).2:=by
 unfold cU;rw[nJ (m:=n),wZ k row 0 n z D,h0,wX,List.append_nil]
def zI {c:Int} {xs:List Bool} {n:Int} (h0:(run c 0 xs).1=0):cU (bG n xs) c=bG n (run c 0 xs).2:=by
 have e:=kH xs n;have:=N7 (c:=c) (row:=bG n xs) (n:=n) (k:=xs.length) (mN xs n) (λx z=>gO xs n x z) (by rw[e];exact h0);rw[e]at this;exact this
def R7 {c:Int} {row:List Int} (J:0<=c) (z:gY row):Y9 (cU (Y9 (cU row c)) c)=row:=by
 obtain⟨n,k,I,h0⟩:=aBI c z;have D:=zH (c:=c) (dR row n k) 0 (by omega);rw[h0]at D;rw[N7 z I h0,jE,zI (by rw[D]),D,jE,List.reverse_reverse,List.length_reverse,N6,sE];rw[show 1 - (1 - n - (k:Int)) - (k:Int)=n by omega];exact hJ k row n z I
end CW
namespace CW
open PySem L2
def cR {ns:List Int} {i:Int} (h0:0<=i) (h1:i<ns.length):∃ n,n∈ns/\ns[i.toNat]?=some n/\atI (ns.map V.int) i=some (.int n):=by
 have z:i.toNat<ns.length:=by omega
 refine⟨ns[i.toNat],List.getElem_mem z,by simp[z],?_⟩;have q:atI (ns.map V.int) ((i.toNat:Nat):Int)=some (.int ns[i.toNat]):=nC (by simp[z]);rw[Int.toNat_of_nonneg h0]at q;exact q
def bC {n:Nat} (h:n<=10000):n<sizeLine:=Nat.lt_of_le_of_lt h (by decide)
def cV {n:Nat} (h:n<=10000):n<=sizeLine:=Nat.le_of_lt (bC h)
def G4 (ns:List Int):Prop:=∀ n∈ns,0<=n/\n<9967
def R8 (ns:List Int) (lo hi:Option Int):∃ z:List Int,fS (ns.map V.int) lo hi=z.map V.int/\z.length<=ns.length/\∀ n∈z,n∈ns:=by
 refine⟨(ns.drop (HT.sIx ns.length 0 lo)).take (HT.sIx ns.length ns.length hi - HT.sIx ns.length 0 lo),?_,?_,?_⟩
 .unfold fS;simp only[aDG,List.map_take,List.map_drop]
 .simp only[aDW,List.length_drop];omega
 .intro n D;exact List.mem_of_mem_drop (List.mem_of_mem_take D)
def Z0 (ns:List Int) (k:Nat) (h:k<=ns.length):fS (ns.map V.int) none (some (k:Int))=(ns.take k).map V.int:=by
 unfold fS;rw[HT.sIx_none,HT.sIx_nat,aDG,List.drop_zero,Nat.sub_zero,Nat.min_eq_left h,List.map_take]
def sF (ns:List Int) (k:Nat) (h:k<=ns.length):fS (ns.map V.int) (some (k:Int)) none=(ns.drop k).map V.int:=by
 unfold fS;rw[HT.sIx_none,HT.sIx_nat,aDG,Nat.min_eq_left h,<- List.map_drop,<- List.map_take,List.take_of_length_le (by simp)]
inductive N8 (vs:List V) (H:Hp) (Q:VK) (E_:XK):Prop
 | mk (n:Nat) (h0_:vs=[.int n]) (h1_:n<=1000) (h2_:Q (.int (10 ^ n)) H):N8 vs H Q E_
def sd1 (D z:Int):Int:=(D * 40014+z % 999983+29) % 2147483563
def sd2 (z:Int) (ys:List Int):Int:=(z * z+52774 * z+13 * ((List.map V.int ys).length:Int)+7) % 2147483629
def rs1 (z:Int):Int:=z - 10 ^ (18:Int).toNat
inductive lN (K:PySem.W.Frag) (vs:List V) (H:Hp) (Q:VK) (E_:XK):Prop
 | mk (a:Addr) (script:List Int) (m:Nat) (h0_:vs=[.ref a,.int m]) (h1_:SqL K H a (script.map V.int)) (h2_:script.length<=63) (h3_:m<=1000) (h4_:∀ (l:Addr) (ns:List Int) (H':Hp),ns.length=m->G4 ns->H l=none->Same H H'->H' l=some (.lst (ns.map V.int))->Q (.ref l) H'):lN K vs H Q E_
def Row (r:List Int):Prop:=r.Pairwise (·<·)
def Row.lt {r:List Int} (h:Row r) {i j:Nat} {x y:Int} (z:i<j) (D:r[i]?=some x) (I:r[j]?=some y):x<y:=by
 obtain⟨h1,rfl⟩:=aDh.mp D;obtain⟨h2,rfl⟩:=aDh.mp I;exact List.pairwise_iff_getElem.mp h i j h1 h2 z
def kI (H:Hp) (Q:VK) (ns:List Int):Prop:=∀ (l:Addr) (H':Hp),H l=none->Same H H'->H' l=some (.lst (ns.map V.int))->Q (.ref l) H'
inductive sG (vs:List V) (H:Hp) (Q:VK) (E_:XK):Prop
 | mk (a:Addr) (row:List Int) (h0_:vs=[.ref a]) (h1_:H a=some (.lst (row.map V.int))) (h2_:Row row) (h3_:row.length<=60) (h4_:Q .non H):sG vs H Q E_
structure Cn (mg:Str->Option Value) (tC:Tok):Prop where
 MOST_STONES:mg "MOST_STONES"=some (.int 60 tC)
def sI {l:List Int} {i:Nat} {z:Int} (f:Int->Int) (h:l[i]?=some z):((l.take i).map f).map V.int++[V.int (f z)]=((l.take (i+1)).map f).map V.int:=by
 rw[aDb,h];simp
def kJ {l:List Int} {i:Nat} {x:V} (h:(l.map V.int)[i]?=some x):∃ z,x=.int z/\l[i]?=some z:=by
 rw[aD4]at h;cases e:l[i]? with
 | none=>rw[e]at h;cases h
 | some z=>rw[e]at h;exact⟨z,(Option.some.inj h).symm,rfl⟩
def nK {z:Type} (l:List z) (i:Nat) (h:i<=60) (f:z->Int):((((l.take i).map f).map V.int)).length<sizeLine:=by
 simp only[aDG,aDW];exact bC (by omega)
def eV (row:List Int):List Int:=row.reverse.map (λz=>-z)
def R9 (row:List Int) (b:Int):List Int:=row.map (λz=>z+b)
inductive gP (vs:List V) (H:Hp) (Q:VK) (E_:XK):Prop
 | mk (a:Addr) (row:List Int) (h0_:vs=[.ref a]) (h1_:H a=some (.lst (row.map V.int))) (h2_:Row row) (h3_:row.length<=60) (h4_:kI H Q (eV row)):gP vs H Q E_
def aBJ (H:Hp) (v:V) (p:Int×Int):Prop:=∃ t,v=.ref t/\H t=some (.tup [.int p.1,.int p.2])
abbrev Prs (H:Hp):List V->List (Int×Int)->Prop:=Paired (aBJ H)
def TupS (H H':Hp):Prop:=∀ t xs,H t=some (.tup xs)->H' t=some (.tup xs)
def Prs.mono {H H':Hp} (h:TupS H H') {vs:List V} {ps:List (Int×Int)} (r:Prs H vs ps):Prs H' vs ps:=Paired.mapP r λ_ _ ⟨t,e,q⟩=>⟨t,e,h _ _ q⟩
def TupS.new {H:Hp} {a:Addr} {o:HO} (h:H a=none):TupS H (upd H a o):=λt xs e=>by rw[aG (aN e h)];exact e
def TupS.lst {H:Hp} {a:Addr} {xs ys:List V} (h:H a=some (.lst xs)):TupS H (upd H a (.lst ys)):=λt zs e=>by rw[aG (bJ e h (by intro z;cases z))];exact e
def TupS.same {H H':Hp} (h:Same H H'):TupS H H':=λt xs e=>h _ _ e
def TupS.trans {H H1 H2:Hp} (a:TupS H H1) (b:TupS H1 H2):TupS H H2:=λt xs e=>b _ _ (a _ _ e)
def pD (p:Int×Int):PyData:=.tuple [.int p.1,.int p.2]
def Prs.dens {H:Hp}:∀ {vs:List V} {ps:List (Int×Int)},Prs H vs ps->Dens H vs (ps.map pD)
 | _,_,.nil=>.nil
 | _,_,.cons ⟨t,e,q⟩ r=>by subst e;exact .cons (.tup q (.cons (.int _) (.cons (.int _) .nil))) (Prs.dens r)
def Paired.append' {I J:Type} {F:I->J->Prop}:∀ {l₁ z:List I} {l₂ D:List J},Paired F l₁ l₂->Paired F z D->Paired F (l₁++z) (l₂++D)
 | _,_,_,_,.nil,s=>s
 | _,_,_,_,.cons r t,s=>.cons r (Paired.append' t s)
def aCH (ps:List (Int×Int)) (x:Int):List (Int×Int) :=
 match ps.getLast? with
 | some p=>if p.2=x - 1 then ps.dropLast++[(p.1,x)]else ps++[(x,x)]
 | none=>[(x,x)]
def aAf (row:List Int):List (Int×Int):=row.foldl aCH []
def aBK (H:Hp) (Q:VK) (ps:List (Int×Int)):Prop:=∀ (l:Addr) (vs:List V) (H':Hp),H l=none->Same H H'->H' l=some (.lst vs)->Prs H' vs ps->Q (.ref l) H'
def zJ (ns:List Int):PyData.canLayAll0 (ns.map PyData.int)=true:=by
 induction ns with
 | nil=>rfl
 | cons p r z=>simp[PyData.canLayAll0,PyData.canLay0,z]
def G5 (ns:List Int):PyData.depthAll (ns.map PyData.int)=0:=by
 induction ns with
 | nil=>simp[PyData.depthAll]
 | cons p r z=>simp[PyData.depthAll,PyData.depth,z]
def zK (ns:List Int):SeqAt.shaped (.list (ns.map PyData.int))=true:=by
 simp[SeqAt.shaped,PyData.canLay0,zJ,PyData.depth,G5]
inductive N9 (vs:List V) (H:Hp) (Q:VK) (E_:XK):Prop
 | mk (a:Addr) (ns:List Int) (m:Nat) (h0_:vs=[.ref a,.int m]) (h1_:H a=some (.lst (ns.map V.int))) (h2_:G4 ns) (h3_:m+3<=ns.length) (h4_:m<=60) (h5_:∀ row,Row row->row.length<=m->(∀ x∈row,-15<=x/\x<=800)->kI H Q row):N9 vs H Q E_
def zL {r:List Int} {x:Int} (h:Row r) (z:∀ y∈r,y<x):Row (r++[x]):=by
 unfold Row;rw[List.pairwise_append];exact⟨h,List.pairwise_singleton _ _,λa D b I=>by rw[aDc.mp I];exact z a D⟩
def Z1 {row:List Int} {c:Nat} {b:Int} (h:Row row) (J:0<=b):Row (row.take c++(row.drop c).map (λz=>z+b)):=by
 unfold Row at *;rw[List.pairwise_append];have hs:=h;rw[<- List.take_append_drop c row,List.pairwise_append]at hs;obtain⟨h1,h2,h3⟩:=hs;refine⟨h1,?_,λx D y I=>?_⟩
 .rw[List.pairwise_map];exact h2.imp (λ{x y} q=>by omega)
 .obtain⟨z,hz,rfl⟩:=aDk.mp I;have:=h3 x D z hz;omega
mutual
def sml:PyData->Bool
 | .list xs=>decide (xs.length<=5000) && G6 xs
 | .tuple xs=>decide (xs.length<=5000) && G6 xs
 | .dict _=>false
 | .none=>true
 | .bool _=>true
 | .int _=>true
 | .str _=>true
def G6:List PyData->Bool
 | []=>true
 | x :: xs=>sml x && G6 xs
end
def nL {d:PyData} (h:SeqAt.shaped d=true):PyData.eqv d d=true:=SeqAt.eqv_refl d (SeqAt.canLay_of_shaped h)
def gQ {row:List Int} (h:Row row):Row (eV row):=by
 unfold Row eV at *;rw[List.pairwise_map,List.pairwise_reverse];exact h.imp (λ{x y} q=>by omega)
def kK (row:List Int):(eV row).length=row.length:=by simp[eV]
def iR (row:List Int):eV (eV row)=row:=by
 unfold eV;rw[<- List.map_reverse,List.reverse_reverse,aDa]
 conv=>rhs;rw[<- List.map_id row]
 apply List.map_congr_left
 intro x _;simp
def Z2 {row:List Int} {b:Int} (h:Row row):Row (R9 row b):=by
 unfold Row R9 at *;rw[List.pairwise_map];exact h.imp (λ{x y} q=>by omega)
def zM (row:List Int) (b:Int):(R9 row b).length=row.length:=by simp[R9]
inductive zN (K:PySem.W.Frag) (vs:List V) (H:Hp) (Q:VK) (E_:XK):Prop
 | mk (a:Addr) (ns:List Int) (h0_:vs=[.ref a]) (h1_:SqL K H a (ns.map V.int)) (h2_:ns.length<=63) (h3_:∀ H',Q (.bl true) H'):zN K vs H Q E_
def pA {row:List Int} {c:Int} (h:Row row) (z:1<=c:=by omega):Row (cU row c):=N5 z row 0 0 h (λ_ _=>.inr rfl)
inductive dF (vs:List V) (H:Hp) (Q:VK) (E_:XK):Prop
 | mk (c:Int) (h0_:vs=[.int c]) (h1_:1<=c) (h2_:Q .non H):dF vs H Q E_
inductive kL (vs:List V) (H:Hp) (Q:VK) (E_:XK):Prop
 | mk (a:Addr) (row:List Int) (c:Int) (h0_:vs=[.ref a,.int c]) (h1_:H a=some (.lst (row.map V.int))) (h2_:Row row) (h3_:row.length<=60) (h4_:1<=c) (h5_:kI H Q (cU row c)):kL vs H Q E_
def hU (row:List Int) (c:Int):List Int:=eV (cU (eV row) c)
inductive xB (vs:List V) (H:Hp) (Q:VK) (E_:XK):Prop
 | mk (a:Addr) (row:List Int) (c:Int) (h0_:vs=[.ref a,.int c]) (h1_:H a=some (.lst (row.map V.int))) (h2_:Row row) (h3_:row.length<=60) (h4_:1<=c) (h5_:kI H Q (hU row c)):xB vs H Q E_
def vK {row:List Int} {c:Int} (h:Row row) (z:1<=c:=by omega):Row (hU row c):=gQ (pA (gQ h))
def S0 (row:List Int) (c:Int):(hU row c).length=row.length:=by simp[hU,kK,oZ]
def G7 {row:List Int} {c:Int} (h:Row row) (z:1<=c):hU (cU row c) c=row:=R7 (by omega) h
def G8 {row:List Int} {c:Int} (h:Row row) (z:1<=c):cU (hU row c) c=row:=by
 have:=G7 (gQ h) z;unfold hU at *;rw[<- iR (cU (eV (cU (eV row) c)) c),this,iR]
end CW
namespace CW
end CW
namespace CW
open PySem L2
def sJ {z D:Type} {F:z->D->Prop}:∀ {l₁:List z} {l₂:List D} {i:Nat} {x:z},Paired F l₁ l₂->l₁[i]?=some x->∃ y,l₂[i]?=some y/\F x y
 | _,_,_,_,.nil,e=>by simp at e
 | _,_,0,_,.cons r _,e=>by simp at e;subst e;exact⟨_,rfl,r⟩
 | _,_,i+1,x,.cons _ t,e=>by
  obtain⟨y,h1,h2⟩:=sJ (i:=i) (x:=x) t (by simpa using e);exact⟨y,by simpa using h1,h2⟩
def zO (z:Int) (ns:List Int):inV (.int z) (ns.map V.int)=decide (z∈ns):=by
 unfold inV
 induction ns with
 | nil=>rfl
 | cons n r D =>
  rw[aD5,List.any_cons,D];have e:eqV (.int n) (.int z)=decide (n=z):=by
   show (n == z)=_;rw[Bool.eq_iff_iff];simp
  rw[e,Bool.eq_iff_iff];simp only[Bool.or_eq_true,decide_eq_true_eq,aDi]
  constructor
  .rintro (h | h)
   .exact .inl h.symm
   .exact .inr h
  .rintro (h | h)
   .exact .inl h.symm
   .exact .inr h
def zP:∀ (r:List Int) (n:Int),(r.foldl max n=n\/r.foldl max n∈r)/\n<=r.foldl max n/\∀ x∈r,x<=r.foldl max n
 | [],n=>⟨.inl rfl,Int.le_refl _,λx h=>by cases h⟩
 | y :: r,n=>by
  obtain⟨h1,h2,h3⟩:=zP r (max n y);rw[aD7];refine⟨?_,by omega,λx hx=>?_⟩
  .rcases h1 with h1 | h1
   .by_cases z:y<=n
    .exact .inl (by omega)
    .exact .inr (by rw[h1,show max n y=y by omega];exact aDI)
   .exact .inr (aDJ _ h1)
  .rcases aDi.mp hx with rfl | hx
   .omega
   .exact h3 x hx
def hiM (row:List Int):Int:=match row with | []=>0 | n :: r=>r.foldl max n
def aBL (row:List Int):mxD row (.int 0)=.int (hiM row):=by cases row <;> rfl
def LP (H:Hp) (a:Addr) (ps:List (Int×Int)):Prop:=∃ us,H a=some (.lst us)/\Prs H us ps
def LP.mono {H H':Hp} (h:Same H H') {a:Addr} {ps:List (Int×Int)} (r:LP H a ps):LP H' a ps:=let ⟨us,e,p⟩:=r;⟨us,h _ _ e,p.mono (TupS.same h)⟩
def Prs.len {H:Hp} {us:List V} {ps:List (Int×Int)} (h:Prs H us ps):us.length=ps.length:=Paired.length h
def szs (ps:List (Int×Int)):List Int:=ps.map (·.1)
structure Trn (ps:List (Int×Int)):Prop where
 pos:∀ p∈ps,1<=p.1
 few:(szs ps).sum<=60
def gR:∀ {ps:List (Int×Int)},(∀ p∈ps,1<=p.1)->(ps.length:Int)<=(szs ps).sum
 | [],_=>by simp[szs]
 | p :: r,h=>by
  have h1:=h p (aDI);have h2:=gR (ps:=r) λq z=>h q (aDJ _ z);simp only[szs,aD5,aD8,aD9]at h2 ⊢;omega
def Trn.len {ps:List (Int×Int)} (h:Trn ps):ps.length<=60:=by
 have h1:=gR h.pos;have:=h.few;omega
inductive nM (vs:List V) (H:Hp) (Q:VK) (E_:XK):Prop
 | mk (a:Addr) (ps:List (Int×Int)) (h0_:vs=[.ref a]) (h1_:LP H a ps) (h2_:Trn ps) (h3_:∀ H',Same H H'->Q .non H'):nM vs H Q E_
def dI {H:Hp} {us:List V} {ps:List (Int×Int)} (h:Prs H us ps) {i:Nat} {x:V} (e:us[i]?=some x):∃ p t,ps[i]?=some p/\x=.ref t/\H t=some (.tup [.int p.1,.int p.2]):=by
 obtain⟨p,z,t,e1,D⟩:=sJ h e;exact⟨p,t,z,e1,D⟩
def sK {ps:List (Int×Int)} {i:Nat} {p:Int×Int} (f:Int×Int->Int) (h:ps[i]?=some p):((ps.take i).map f).map V.int++[V.int (f p)]=((ps.take (i+1)).map f).map V.int:=by
 rw[aDb,h];simp
def rkP (p q:Int×Int):Prop:=p.2 - p.1<=q.2 - q.1/\p.2 - p.1+1<=q.1 - p.2 - 1
def Rnk (ps:List (Int×Int)):Prop:=∀ (j:Nat) (p q:Int×Int),ps[j]?=some p->ps[j+1]?=some q->rkP p q
def vL (us:List V) (k:Nat):fS us (some (k:Int)) none=us.drop k:=by
 unfold fS;rw[HT.sIx_none,HT.sIx_nat]
 by_cases h:k<=us.length
 .rw[Nat.min_eq_left h,List.take_of_length_le (by simp)]
 .rw[Nat.min_eq_right (by omega),Nat.sub_self,List.take_zero,List.drop_eq_nil_of_le (by omega)]
def O0 (us:List V) (k:Nat):fS us none (some (k:Int))=us.take k:=by
 unfold fS;rw[HT.sIx_none,HT.sIx_nat,List.drop_zero,Nat.sub_zero]
 by_cases h:k<=us.length
 .rw[Nat.min_eq_left h]
 .rw[Nat.min_eq_right (by omega),List.take_of_length_le (by omega),List.take_of_length_le (by omega)]
def Rnk.nil:Rnk (aAf []):=λj p q h=>by simp[aAf]at h
end CW
namespace L2
open PySem PySem.W PySem.Spec PyProof.Rows
def plt (a b:Int×Int):Bool:=decide (a.1<b.1) || (decide (a.1=b.1) && decide (a.2<b.2))
def fU {a b:Int×Int}:plt a b=true↔a.1<b.1\/(a.1=b.1/\a.2<b.2):=by simp[plt]
def fV {a b:Int×Int}:plt a b=false↔¬ (a.1<b.1\/(a.1=b.1/\a.2<b.2)):=by rw[<- fU];simp
def kM:KeyOrd where
 α:=Int×Int
 blt:=plt
 irrefl a:=by rw[fV];omega
 trans a b c h1 h2:=by rw[fU]at *;omega
 negTrans a b c h:=by rw[fU]at *;rw[fU];omega
 total a b h1 h2:=by
  rw[fV]at h1 h2;exact Prod.ext (by omega) (by omega)
def PairV (h:Heap) (v:Value) (p:Int×Int):Prop:=∃ t o n z D,v=.ref t/\h.get? t=some o/\o.cls=.type "tuple"/\o.data=.seq #[.int p.1 z,.int p.2 D] n
def dG {z D:Type} {F:z->D->Prop} {x:z} {y:D}:∀ {l:List z} {m:List D} {i:Nat},Paired F l m->i<l.length->F (l.getD i x) (m.getD i y)
 | _,_,0,.cons r _,_=>r
 | _,_,i+1,.cons _ t,h=>by
  simp only[List.getD_cons_succ];exact dG t (by simpa using h)
 | _,_,_,.nil,h=>absurd h (Nat.not_lt_zero _)
section
variable {prog:Program} {w:World} {A:Around} {E:Value->Shared->Prop} {s:Shared}
def Z3 {x y:Value} {p q:Int×Int} {Q:Bool->Shared->Prop} (z:PairV s.heap x p) (D:PairV s.heap y q) (h:Q (plt p q) s):wpAny (model prog w) A (keyLt' (tuples' true) x y) Q E s:=by
 obtain⟨t,o,n,U,Y,rfl,e1,c1,I⟩:=z;obtain⟨t',o',n',J,L,rfl,M,c2,N⟩:=D;refine kat_lt e1 I M N ?_;refine kat_cons (wpAny_eqBool_int ?_)
 by_cases g1:p.1=q.1
 .rw[show (p.1 == q.1)=true by simpa using g1];refine kat_yes (kat_cons (wpAny_eqBool_int ?_))
  by_cases g2:p.2=q.2
  .rw[show (p.2 == q.2)=true by simpa using g2];refine kat_yes (kat_nil ?_);have e:plt p q=false:=by rw[fV];omega
   rw[e]at h;exact h
  .rw[show (p.2 == q.2)=false by simpa using g2];refine kat_no (kat_one _ _ (lt_int ?_));have e:plt p q=decide (p.2<q.2):=by
    rw[Bool.eq_iff_iff,fU];simp;omega
   rw[e]at h;exact h
 .rw[show (p.1 == q.1)=false by simpa using g1];refine kat_no (oneLt_int ?_);have e:plt p q=decide (p.1<q.1):=by
   rw[Bool.eq_iff_iff,fU];simp;omega
  rw[e]at h;exact h
def vM {h:Heap}:∀ {vs:List Value} {ps:List (Int×Int)},Paired (PairV h) vs ps->∃ fs:List Value,KatTups h vs fs/\fs.length=vs.length/\∀ v∈fs,∃ i t,v=Value.int i t
 | _,_,.nil=>⟨[],.nil,rfl,λv D=>(by cases D)⟩
 | _,_,.cons ⟨t,o,n,I,M,e,J,L,hd⟩ r=>by
  subst e;obtain⟨fs,a,b,c⟩:=vM r;refine⟨.int _ I :: fs,.cons J L hd rfl a,by simp[b],λv D=>?_⟩;rcases aDi.mp D with z | z
  .exact⟨_,_,z⟩
  .exact c v z
abbrev xC (vs:List Value) (p:Array Nat):List Value:=p.toList.map λi=>vs.getD i Value.none
def S1 {vs:List Value} (z:vs.length<2):xC vs (List.range vs.length).toArray=vs:=by
 cases vs with
 | nil=>rfl
 | cons v t =>
  cases t with
  | nil=>rfl
  | cons w r=>exact absurd z (by show ¬ r.length+1+1<2;omega)
def G9 {a:Addr} {vs:List Value} {ps:List (Int×Int)} {n:Nat} {P:Fin->Shared->Prop} (M:s.heap.get? a=some (seqObj "list" vs.toArray n)) (Y:Paired (PairV s.heap) vs ps) (N:vs.length<64)
 (h:∀ p:Array Nat,p.Perm (List.range vs.length).toArray->Up kM (λi=>ps.getD i (0,0)) p vs.length->P (.done (.ret .none)) { s with heap:=sortedHeap s.heap a vs (xC vs p).toArray }) :
 wpAny (model prog w) A (Builtin.«list.sort» ⟨[.ref a],[]⟩) P E s:=by
 have ha:a<s.heap.objs.size:=aDM M;have L:vs.length<=sizeLine:=Nat.le_trans (Nat.le_of_lt N) (by decide);rw[list_sort_plain];refine aDE (listItems_at M rfl (aDE (listUpdate_at M rfl ?_ (by rw[aDO];omega) (Nat.zero_le _))));obtain⟨e1,U⟩:∃ e1,(s.heap.update a (Obj.mapSeq λ_=>(#[]:Array Value))).get? a=some (seqObj "list" #[] e1):=⟨_,get?_update_seq M _⟩;refine aDE (seqEpoch_at U rfl (aDE (wpAny_newTuple (aDE (wpAny_newList (wpAny_holding ?_) (Nat.zero_le _))) (by show vs.length<=_;exact L))));have k6:∀ b o,b≠a->s.heap.get? b=some o->(((s.heap.update a (Obj.mapSeq λ_=>(#[]:Array Value))).push (seqObj "tuple" vs.toArray 0)).push (seqObj "list" #[] 0)).get? b=some o:=λb o hb q =>
  aDH _ (aDH _ ((Heap.get?_update_ne _ _ _ _ hb).trans q))
 have D:(((s.heap.update a (Obj.mapSeq λ_=>(#[]:Array Value))).push (seqObj "tuple" vs.toArray 0)).push (seqObj "list" #[] 0)).get? a=some (seqObj "list" #[] e1):=aDH _ (aDH _ U);have I:Paired (PairV (((s.heap.update a (Obj.mapSeq λ_=>(#[]:Array Value))).push (seqObj "tuple" vs.toArray 0)).push (seqObj "list" #[] 0))) vs ps:=Paired.mapP Y λv p ⟨t,o,n,k1,k2,e,q,c,d⟩ =>
  ⟨t,o,n,k1,k2,e,k6 t o (λz=>by subst z;rw[M]at q;cases q;exact absurd c (by simp[seqObj])) q,c,d⟩
 show wpAny (model prog w) A _ P E { s with heap:=((s.heap.update a (Obj.mapSeq λ_=>(#[]:Array Value))).push (seqObj "tuple" vs.toArray 0)).push (seqObj "list" #[] 0) };have fin:∀ p:Array Nat,p.Perm (List.range vs.length).toArray->Up kM (λi=>ps.getD i (0,0)) p vs.length->P (.done (.ret .none)) { s with heap:=sortedHeap s.heap a vs (xC vs p).toArray }:=h;clear h;unfold sortedHeap at fin;generalize ((s.heap.update a (Obj.mapSeq λ_=>(#[]:Array Value))).push (seqObj "tuple" vs.toArray 0)).push (seqObj "list" #[] 0)=h6 at D I fin;dsimp only
 by_cases h2:vs.toArray.size<2
 .rw[if_pos h2,if_pos h2];refine aDE (aDF ?_);rw[StateT.run_pure];refine aDE (aDF ?_);dsimp only;have eo:xC vs (List.range vs.length).toArray=vs:=S1 (by simpa using h2);have ea:(arrOf (SortSt.mk' general' (vs.toArray.zip vs.toArray) #[] 7 none)).map (·.2)=vs.toArray:=by
   show (vs.toArray.zip vs.toArray).map (·.2)=vs.toArray;apply Array.toList_inj.mp
   simp;exact List.map_snd_zip (Nat.le_refl _)
  rw[ea];refine aDE (seqEpoch_at D rfl (aDE (listUpdate_at D rfl ?_ (Nat.zero_le _) (by rw[aDO];omega))));simp only[bne_self_eq_false,Bool.false_eq_true,if_false];have f:=fin (List.range vs.length).toArray (Array.Perm.refl _) λi j am hj=>by
   have:i=j:=by simp at h2;omega
   subst this;exact KeyOrd.kle_refl _
  rw[eo]at f;exact aDF f
 .rw[if_neg h2,if_neg h2];have hl2:2<=vs.length:=by simp at h2;omega
  obtain⟨fs,t6,lf,hf⟩:=vM I;refine aDE (kat_kind (s:={ s with heap:=h6 }) (T:=.type "int") t6 (by omega) (λv Y=>?_) rfl ?_)
  .obtain⟨i,t,rfl⟩:=hf v Y;exact Looks.now
  have A2:Ans kM (λi=>ps.getD i (0,0)) vs.length (kas_ask prog w A (tuples' true) vs) { s with heap:=h6 }:=λi j C hi hj hC=>by
   unfold kas_ask;exact Z3 (s:={ s with heap:=h6 }) (dG I hi) (dG I hj) hC
  refine aDE (wpAny_mono (kat_run (s:={ s with heap:=h6 }) (κ:=tuples' true) (ks:=vs) (vs:=vs) (Q:=λJ s'=>s'={ s with heap:=h6 }/\failedOf J=none/\∃ p:Array Nat,p.Perm (List.range vs.length).toArray/\Up kM (λi=>ps.getD i (0,0)) p vs.length/\(arrOf J).map (·.2)=(xC vs p).toArray)
   (G:=λp s'=>s'={ s with heap:=h6 }/\p.Perm (List.range vs.length).toArray/\Up kM (λi=>ps.getD i (0,0)) p vs.length) rfl hl2 N (λp J s' g1 g2 g3 ⟨g4,g5,g6⟩=>⟨g4,g3,p,g5,g6,kat_snds rfl g2⟩) (aAF A2 (by omega) λp e u=>⟨rfl,e,u⟩)) ?_ λ_ _ e=>e)
  rintro ⟨⟨⟩,J⟩ s' ⟨rfl,al,p,e,u,ea⟩;dsimp only;rw[ea,al];have hsz:(xC vs p).toArray.size<=sizeLine:=by
   have:=e.size_eq;simp only[aDO,List.length_range]at this;rw[aDO,aDG,Array.length_toList,this];exact L
  refine aDE (seqEpoch_at D rfl (aDE (listUpdate_at D rfl ?_ (Nat.zero_le _) (by omega))));simp only[bne_self_eq_false,Bool.false_eq_true,if_false];exact aDF (fin p e u)
def aAG {l:Addr} {vs:List Value} {ps:List (Int×Int)} {Q:Value->Shared->Prop} (M:s.heap.IsList l vs.toArray) (N:Paired (PairV s.heap) vs ps) (D:vs.length<64)
 (h:∀ p:Array Nat,p.Perm (List.range vs.length).toArray->Up kM (λi=>ps.getD i (0,0)) p vs.length->Q (.ref (s.heap.objs.size+1)) { s with heap:=sortedAll s.heap vs (xC vs p).toArray }) :
 wpAny (model prog w) A (call (.builtin "sorted") [.ref l]) Q E s:=by
 have z:vs.length<=sizeLine:=Nat.le_trans (Nat.le_of_lt D) (by decide);refine Calls.call_function_entry kind_sorted plain_sorted entry_sorted (args_sorted1 _) ?_;unfold Builtin.«sorted»;refine aDE (m:=checkCount "sorted" 1 1 _) (aDF (aDE (collect_list M (aDE (wpAny_newList ?_ z)) z)));unfold sortedAll at h;have L:((s.heap.push (seqObj "list" #[] 0)).update s.heap.objs.size (Obj.mapSeq (·++vs.toArray))).objs.size=s.heap.objs.size+1:=by rw[Heap.size_update,size_push']
 have I:(((s.heap.push (seqObj "list" #[] 0)).update s.heap.objs.size (Obj.mapSeq (·++vs.toArray))).push (seqObj "list" vs.toArray 0)).get? (s.heap.objs.size+1)=some (seqObj "list" vs.toArray 0):=L ▸ aDN _ rfl;have kp:∀ b o,s.heap.get? b=some o->(((s.heap.push (seqObj "list" #[] 0)).update s.heap.objs.size (Obj.mapSeq (·++vs.toArray))).push (seqObj "list" vs.toArray 0)).get? b=some o:=λb o q =>
  aDH _ ((Heap.get?_update_ne _ _ _ _ (aD3 (aDM q))).trans (aDH _ q))
 show wpAny _ _ _ _ _ { s with heap:=((s.heap.push (seqObj "list" #[] 0)).update s.heap.objs.size (Obj.mapSeq (·++vs.toArray))).push (seqObj "list" vs.toArray 0) };rw[L];generalize ((s.heap.push (seqObj "list" #[] 0)).update s.heap.objs.size (Obj.mapSeq (·++vs.toArray))).push (seqObj "list" vs.toArray 0)=h2 at I kp h;have J:Paired (PairV h2) vs ps:=Paired.mapP N λv p ⟨t,o,n,U,Y,e,q,c,d⟩=>⟨t,o,n,U,Y,e,kp t o q,c,d⟩;refine aDE (wpAny_holding (wpAny_call_entry slot_list_sort ⟨_,I,rfl⟩ entry_list_sort (G9 (s:={ s with heap:=h2 }) I J D λp e u=>⟨_,rfl,?_⟩) (args_list_sort _)));exact aDF ⟨_,rfl,h p e u⟩
end
def ple (a b:Int×Int):Prop:=a.1<b.1\/(a.1=b.1/\a.2<=b.2)
def uF {z:Type} (d:z) (l:List z) {p:List Nat} (h:p.Perm (List.range l.length)):(p.map λi=>l.getD i d).Perm l:=by
 have e:(List.range l.length).map (λi=>l.getD i d)=l:=by
  apply List.ext_getElem
  .simp
  .intro i h1 h2;simp[h2]
 have:=h.map λi=>l.getD i d
 rwa [e]at this
section
variable {X:Cx}
def nN:fJ X (.builtin "sorted") (λxs H Q=>∃ (a:Addr) (us:List V) (ps:List (Int×Int)),xs=[.ref a]/\H a=some (.lst us)/\CW.Prs H us ps/\ps.length<64 /\
 ∀ (l:Addr) (L:List V) (U:List (Int×Int)),H l=none->CW.Prs H L U->U.Perm ps->U.Pairwise ple->Q (.ref l) (upd H l (.lst L))):=by
 intro pins s σ H xs us Q I r h;obtain⟨a,D,ps,rfl,ha,Y,ap,q⟩:=h;obtain⟨u,rfl,rx⟩:=gK r;cases rx;obtain⟨its,rv,pl,hz⟩:=I.list (SqL.of ha);have l1:D.length=ps.length:=Paired.length Y;have l2:D.length=its.length:=rv.length;have hv:Paired (PairV s.heap) its ps:=by
  have go:∀ (D:List V) (its:List Value) (ps:List (Int×Int)),Vals D its->CW.Prs H D ps->Paired (PairV s.heap) its ps:=by
   intro D
   induction D with
   | nil=>intro its ps r p;cases r;cases p;exact .nil
   | cons x xs ih =>
    intro its ps r p;cases r with
    | cons r1 r2 =>
     cases p with
     | cons p1 p2 =>
      refine .cons ?_ (ih _ _ r2 p2);obtain⟨t,e,et⟩:=p1;subst e;cases r1;obtain⟨_,its',al,o,ho,hc,n,hd⟩:=(show ObjOk X.prog X.w H s.heap t (.tup [.int _,.int _]) from I.hok t _ et);obtain⟨u1,u2,rfl,⟨k1,rfl⟩,⟨k2,rfl⟩⟩:=al.two;exact⟨t,o,n,k1,k2,rfl,ho,hc,hd⟩
  exact go D its ps rv Y
 refine aAG pl.isList hv (by omega) λp e u=>?_;have J:p.toList.Perm (List.range its.length):=by
  have:=e.toList;simpa using this
 have M:∀ i∈p.toList,i<its.length:=λi hi=>by
  have:=J.mem_iff.mp hi;simpa using this
 have am:p.toList.length=its.length:=by rw[J.length_eq,List.length_range]
 have key:∀ (q:List Nat),(∀ i∈q,i<its.length)->Vals (q.map λi=>D.getD i V.non) (q.map λi=>its.getD i Value.none)/\CW.Prs H (q.map λi=>D.getD i V.non) (q.map λi=>ps.getD i (0,0)):=by
  intro q
  induction q with
  | nil=>intro _;exact⟨.nil,.nil⟩
  | cons i q ih =>
   intro hq;have hi:=hq i aDI;obtain⟨a1,a2⟩:=ih λj N=>hq j (aDJ _ N);exact⟨.cons (dG rv (by omega)) a1,.cons (dG Y (by omega)) a2⟩
 obtain⟨k1,k2⟩:=key p.toList M;obtain⟨e0,at0⟩:=sortedAll_at s.heap its (xC its p).toArray;have hn:H (s.heap.objs.size+1)=none:=I.hok.fresh (Nat.le_succ _);refine⟨.ref (s.heap.objs.size+1),_,I.laid (t':=s.toks) (o:=.lst (p.toList.map λi=>D.getD i V.non)) (λb o e=>sortedAll_old e) (Nat.le_succ _) ⟨?_,xC its p,e0,k1,at0⟩,rfl,q _ _ (p.toList.map λi=>ps.getD i (0,0)) hn k2 ?_ ?_⟩
 .rw[aDG,am];exact Nat.le_trans (show its.length<=64 by omega) (by decide)
 .exact uF (0,0) ps (by rw[<- l1,l2];exact J)
 .rw[List.pairwise_iff_getElem];intro i j hi N ao;simp only[aDG]at hi N;have z:=u i j (Nat.le_of_lt ao) (by omega);have gd:∀ (k:Nat) (hk:k<p.toList.length),(p.toList.map λi=>ps.getD i (0,0))[k]'(by simpa using hk)=KP kM (λi=>ps.getD i (0,0)) p k:=λk hk=>by
   unfold KP;rw[List.getElem_map]
   congr 1
   rw[Array.getElem_toList,Array.getD,dif_pos (by simpa using hk)];rfl
  rw[gd i hi,gd j N];have z':plt (KP kM (λi=>ps.getD i (0,0)) p j) (KP kM (λi=>ps.getD i (0,0)) p i)=false:=z;generalize KP kM (λi=>ps.getD i (0,0)) p j=x at z';generalize KP kM (λi=>ps.getD i (0,0)) p i=y at z';have z2:=fV.mp z';show (y:Int×Int).1<(x:Int×Int).1\/((y:Int×Int).1=(x:Int×Int).1/\(y:Int×Int).2<=(x:Int×Int).2);have z3:¬ ((x:Int×Int).1<(y:Int×Int).1\/((x:Int×Int).1=(y:Int×Int).1/\(x:Int×Int).2<(y:Int×Int).2)):=z2;omega
def fW:fJ X (.builtin "sorted") (λxs H Q=>∃ (a:Addr) (ns:List Int),xs=[.ref a]/\H a=some (.lst (ns.map V.int))/\ns.length<64 /\
 ∀ (l:Addr) (D:List Int),H l=none->D.Perm ns->D.Pairwise (·<=·)->Q (.ref l) (upd H l (.lst (D.map V.int)))):=by
 intro pins s σ H xs us Q I r h;obtain⟨a,ns,rfl,M,N,q⟩:=h;obtain⟨u,rfl,U⟩:=gK r;cases U;obtain⟨its,J,pl,hz⟩:=I.list (SqL.of M);have Y:=J.length;rw[aDG]at Y;refine sorted_ints pl.isList (sB J) (by omega) λout z hI L hs=>?_;obtain⟨e0,at0⟩:=sortedAll_at s.heap its out;have hn:H (s.heap.objs.size+1)=none:=I.hok.fresh (Nat.le_succ _);refine⟨.ref (s.heap.objs.size+1),_,I.laid (t':=s.toks) (o:=.lst (z.map V.int)) (λb o e=>sortedAll_old e) (Nat.le_succ _) ⟨?_,out.toList,e0,lL hI,at0⟩,rfl,q _ z hn L hs⟩;rw[aDG,L.length_eq];exact Nat.le_trans (show ns.length<=64 by omega) (by decide)
end
end L2
namespace L2
open PySem PySem.Spec PyProof.Rows
def UpA (xs:Array Nat):Prop:=xs.toList.Pairwise (·<·)
def aAg (m i:Nat):Nat:=(i * 5+1) % (m+1)
def Z4 (m:Nat):Nat->Nat->Nat->Nat
 | 0,_,_=>0
 | f+1,i,j=>if i=j then 0 else Z4 m f (aAg m i) j+1
def aAh (m:Nat):Prop:=∀ i j:Fin (m+1),i.val≠j.val->Z4 m (m+1) i j=Z4 m (m+1) (aAg m i) j+1
instance (m:Nat):Decidable (aAh m):=by unfold aAh;infer_instance
structure TabG (w:World) (t:SetTable) (n:Nat):Prop where
 plain:t.plain=true
 led:t.led=true\/w.params.followText "set-order"=true
 dum:t.dummies=#[]
 up:UpA t.place
 sz:t.place.size=n
 msk:(t.mask=7/\n<=4)\/(t.mask=31/\n<=18)
def TabG.fresh {w:World} {led:Bool} (h:led=true\/w.params.followText "set-order"=true):TabG w (.fresh 0 0 led) 0 :=
 ⟨rfl,h,rfl,.nil,rfl,.inl ⟨rfl,by decide⟩⟩
section
variable {K:PySem.W.Frag} {x qual:Str} {st:Stmt} {f:Addr} {fd:FuncData} {p1 p2 p3 p4:Str}
def Fun.binds1 (F:Fun K x qual st f fd) (h:∀ (kV z I:Value) (J:Option Addr) (D ct u:Value),bindArgs (PySem.W.fnOf x qual (cQ st) (cA st) (aJ st) .none kV z I J D ct) ⟨[u],[]⟩=pure [(p1,u)]):Binds K fd [p1] [] :=
 F.binds λa b c d e g us L=>match us,L with | [u],_=>h a b c d e g u
def Fun.binds2 (F:Fun K x qual st f fd) (h:∀ (kV z I:Value) (J:Option Addr) (D ct u v:Value),bindArgs (PySem.W.fnOf x qual (cQ st) (cA st) (aJ st) .none kV z I J D ct) ⟨[u,v],[]⟩=pure [(p1,u),(p2,v)]):Binds K fd [p1,p2] [] :=
 F.binds λa b c d e g us L=>match us,L with | [u,v],_=>h a b c d e g u v
def Fun.binds3 (F:Fun K x qual st f fd) (h:∀ (kV z I:Value) (J:Option Addr) (D ct u v w:Value),bindArgs (PySem.W.fnOf x qual (cQ st) (cA st) (aJ st) .none kV z I J D ct) ⟨[u,v,w],[]⟩=pure [(p1,u),(p2,v),(p3,w)]):Binds K fd [p1,p2,p3] [] :=
 F.binds λa b c d e g us L=>match us,L with | [u,v,w],_=>h a b c d e g u v w
def Fun.binds4 (F:Fun K x qual st f fd) (h:∀ (kV D J:Value) (L:Option Addr) (I ct u v w z:Value),bindArgs (PySem.W.fnOf x qual (cQ st) (cA st) (aJ st) .none kV D J L I ct) ⟨[u,v,w,z],[]⟩=pure [(p1,u),(p2,v),(p3,w),(p4,z)]):Binds K fd [p1,p2,p3,p4] [] :=
 F.binds λa b c d e g us M=>match us,M with | [u,v,w,z],_=>h a b c d e g u v w z
end
section
variable {κ:Type} [DecidableEq κ]
def cW (kvs:List (κ×V)) (k:κ):Option V:=(kvs.find? λz=>decide (z.1=k)).map (·.2)
def eK (kvs:List (κ×V)) (k:κ) (v:V):List (κ×V) :=
 if (kvs.any λz=>decide (z.1=k))=true then kvs.map (λz=>if z.1=k then (z.1,v)else z)else kvs++[(k,v)]
def qC (kvs:List (κ×V)) (k:κ):List (κ×V):=kvs.filter λz=>decide (z.1≠k)
def cO {p:κ×V} {r:List (κ×V)} {k:κ} (e:p.1=k):cW (p :: r) k=some p.2:=by simp[cW,List.find?_cons,e]
def cH {p:κ×V} {r:List (κ×V)} {k:κ} (e:¬ p.1=k):cW (p :: r) k=cW r k:=by simp[cW,List.find?_cons,e]
def kN (k:κ):∀ kvs:List (κ×V),(kvs.any λz=>decide (z.1=k))=(cW kvs k).isSome
 | []=>rfl
 | p :: r=>by
  rw[List.any_cons]
  by_cases e:p.1=k
  .simp only[cO e,aD2 e,Bool.true_or,Option.isSome_some]
  .rw[cH e,aD1 e,Bool.false_or];exact kN k r
def zQ (k j:κ) (y:V):∀ kvs:List (κ×V),cW (kvs.map λD=>if D.1=k then (D.1,y)else D) j=(cW kvs j).map λx=>if j=k then y else x
 | []=>rfl
 | p :: r=>by
  have I:=zQ k j y r;rw[aD5]
  by_cases h:p.1=k
  .rw[if_pos h]
   by_cases e:p.1=j
   .rw[cO (p:=(p.1,y)) e,cO e,Option.map_some,if_pos (e.symm.trans h)]
   .rw[cH (p:=(p.1,y)) e,cH e,I]
  .rw[if_neg h]
   by_cases e:p.1=j
   .rw[cO (p:=p) e,cO e,Option.map_some,if_neg (λz=>h (e.trans z))]
   .rw[cH (p:=p) e,cH e,I]
def vN (k j:κ) (y:V):∀ kvs:List (κ×V),cW kvs k=none->cW (kvs++[(k,y)]) j=if j=k then some y else cW kvs j
 | [],_=>by
  by_cases e:k=j
  .rw[if_pos e.symm];exact cO (p:=(k,y)) e
  .rw[if_neg (λz=>e z.symm)];exact cH (p:=(k,y)) e
 | p :: r,D=>by
  rw[List.cons_append];have I:¬ p.1=k:=λz=>by rw[cO z]at D;cases D
  rw[cH I]at D;have J:=vN k j y r D
  by_cases e:p.1=j
  .rw[cO e,cO e,if_neg (λz=>I (e.trans z))]
  .rw[cH e,cH e,J]
def Z5 (kvs:List (κ×V)) (k j:κ) (y:V):cW (eK kvs k y) j=if j=k then some y else cW kvs j:=by
 unfold eK
 by_cases a:(kvs.any λz=>decide (z.1=k))=true
 .rw[if_pos a,zQ];rw[kN]at a
  by_cases e:j=k
  .obtain⟨x,D⟩:=Option.isSome_iff_exists.mp a;rw[if_pos e,e,D,Option.map_some,if_pos rfl]
  .rw[if_neg e];cases cW kvs j with
   | none=>rfl
   | some x=>rw[Option.map_some,if_neg e]
 .rw[if_neg a];refine vN k j y kvs ?_;rw[kN]at a;cases q:cW kvs k with
  | none=>rfl
  | some x=>rw[q]at a;exact(a rfl).elim
def hV (kvs:List (κ×V)) (k:κ) (v:V):(eK kvs k v).length<=kvs.length+1:=by
 unfold eK;split
 .rw[aDG];omega
 .rw[aDP,aD9,List.length_nil];omega
def zR {kvs:List (κ×V)} {k:κ} (v:V) (h:cW kvs k=none):eK kvs k v=kvs++[(k,v)]:=by
 unfold eK;rw[kN,h];exact if_neg (by decide)
def RelO.isSome_eq {o:Option V} {u:Option Value} (r:RelO o u):o.isSome=u.isSome:=by
 cases o with
 | none=>cases u with
  | none=>rfl
  | some _=>exact(show False from r).elim
 | some _=>cases u with
  | none=>exact(show False from r).elim
  | some _=>rfl
def RelO.getD {o:Option V} {u:Option Value} {d:V} {d':Value} (r:RelO o u) (rd:RelV d d'):RelV (o.getD d) (u.getD d'):=by
 cases o with
 | none=>cases u with
  | none=>exact rd
  | some _=>exact(show False from r).elim
 | some _=>cases u with
  | none=>exact(show False from r).elim
  | some _=>exact r
def KV.val {kvs:List (κ×V)} {vs:List (κ×Value)} (r:KV kvs vs) (k:κ):RelO (cW kvs k) (valueAt vs k):=by
 unfold KV at r
 induction r with
 | nil=>exact True.intro
 | @cons p q ps D h t J =>
  obtain⟨h1,h2⟩:=h
  by_cases e:p.1=k
  .have I:q.1=k:=h1.symm.trans e;have b:valueAt (q :: D) k=some q.2:=by simp[valueAt,List.find?_cons,I]
   rw[cO e,b];exact h2
  .have I:¬ q.1=k:=λz=>e (h1.trans z);have b:valueAt (q :: D) k=valueAt D k:=by simp[valueAt,List.find?_cons,I]
   rw[cH e,b];exact J
def KV.any {kvs:List (κ×V)} {vs:List (κ×Value)} (r:KV kvs vs) (k:κ):(kvs.any λz=>decide (z.1=k))=vs.any λz=>decide (z.1=k):=by
 unfold KV at r
 induction r with
 | nil=>rfl
 | cons h t D=>rw[List.any_cons,List.any_cons,D,h.1]
def KV.repl {kvs:List (κ×V)} {vs:List (κ×Value)} (r:KV kvs vs) (k:κ) {y:V} {u:Value} (I:RelV y u) :
 KV (kvs.map λD=>if D.1=k then (D.1,y)else D) (vs.map λD=>if D.1=k then (D.1,u)else D):=by
 unfold KV at r ⊢
 induction r with
 | nil=>exact .nil
 | @cons p q ps L h t J =>
  rw[aD5,aD5];refine .cons ?_ J;obtain⟨h1,h2⟩:=h
  by_cases e:p.1=k
  .rw[if_pos e,if_pos (h1.symm.trans e)];exact⟨h1,I⟩
  .rw[if_neg e,if_neg (λz=>e (h1.trans z))];exact⟨h1,h2⟩
def KV.put {kvs:List (κ×V)} {vs:List (κ×Value)} (r:KV kvs vs) (k:κ) {y:V} {u:Value} (z:RelV y u):KV (eK kvs k y) (stored vs k u):=by
 unfold eK stored;rw[r.any k]
 by_cases e:(vs.any λD=>decide (D.1=k))=true
 .rw[if_pos e,if_pos e];exact r.repl k z
 .rw[if_neg e,if_neg e];exact Paired.snoc r ⟨rfl,z⟩
def KV.drop {kvs:List (κ×V)} {vs:List (κ×Value)} (r:KV kvs vs) (k:κ):KV (qC kvs k) (without vs k):=by
 unfold KV at r ⊢;unfold qC without
 induction r with
 | nil=>exact .nil
 | @cons p q ps J h t D =>
  obtain⟨h1,h2⟩:=h;rw[List.filter_cons,List.filter_cons]
  by_cases e:p.1=k
  .have a:¬ decide (p.1≠k)=true:=by simp[e]
   have b:¬ decide (q.1≠k)=true:=by simp[h1.symm.trans e]
   rw[if_neg a,if_neg b];exact D
  .have I:¬ q.1=k:=λz=>e (h1.trans z);have a:decide (p.1≠k)=true:=by simp[e]
   have b:decide (q.1≠k)=true:=by simp[I]
   rw[if_pos a,if_pos b];exact .cons ⟨h1,h2⟩ D
def KV.length {kvs:List (κ×V)} {vs:List (κ×Value)} (r:KV kvs vs):kvs.length=vs.length:=Paired.length r
def Z6 (kvs:List (κ×V)) (k:κ):(qC kvs k).length<=kvs.length:=List.length_filter_le _ _
end
def nO {P:Program} {w:World} {k:Key} {u:Value} (r:RelV (kV k) u):(bB P w).is k u=true:=by
 cases k with
 | inl i=>obtain⟨t,e⟩:=(show ∃ t,u=Value.int i t from r);subst e;exact yS P w i t
 | inr x=>obtain⟨t,e⟩:=(show ∃ t,u=Value.str x t from r);subst e;exact yT P w x t
def vO {P:Program} {w:World}:∀ {ks:List Key} {us:List Value},Vals (ks.map kV) us->ItemsAre (bB P w) ks us
 | [],_,r=>by rw[List.map_nil]at r;cases r;exact .nil
 | k :: ks,_,r=>by
  rw[aD5]at r;cases r with
  | cons h t=>exact .cons (nO h) (vO t)
abbrev KT (H:Hp):List (List Key×V)->List (List Key×Addr×Value)->Prop:=Paired λp q=>p.1=q.1/\H q.2.1=some (.tup (p.1.map kV))/\RelV p.2 q.2.2
def KT.val {H:Hp} {kvs:List (List Key×V)} {xs:List (List Key×Addr×Value)} (r:KT H kvs xs) (k:List Key):RelO (cW kvs k) ((atKey xs k).map (·.2)):=by
 induction r with
 | nil=>exact True.intro
 | @cons p q ps D h t J =>
  obtain⟨h1,_,h2⟩:=h
  by_cases e:p.1=k
  .have I:q.1=k:=h1.symm.trans e;have b:atKey (q :: D) k=some q.2:=by simp[atKey,List.find?_cons,I]
   rw[cO e,b];exact h2
  .have I:¬ q.1=k:=λz=>e (h1.trans z);have b:atKey (q :: D) k=atKey D k:=by simp[atKey,List.find?_cons,I]
   rw[cH e,b];exact J
def KT.repl {H:Hp} {kvs:List (List Key×V)} {xs:List (List Key×Addr×Value)} (r:KT H kvs xs) (k:List Key) {y:V} {u:Value} (I:RelV y u) :
 KT H (kvs.map λD=>if D.1=k then (D.1,y)else D) (xs.map (putAt k u)):=by
 induction r with
 | nil=>exact .nil
 | @cons p q ps L h t J =>
  rw[aD5,aD5];refine .cons ?_ J;obtain⟨h1,h2,h3⟩:=h;unfold putAt
  by_cases e:p.1=k
  .rw[if_pos e,if_pos (h1.symm.trans e)];exact⟨h1,h2,I⟩
  .rw[if_neg e,if_neg (λz=>e (h1.trans z))];exact⟨h1,h2,h3⟩
def KT.put {H:Hp} {kvs:List (List Key×V)} {xs:List (List Key×Addr×Value)} (r:KT H kvs xs) (k:List Key) {b:Addr} {y:V} {u:Value} (D:H b=some (.tup (k.map kV))) (z:RelV y u) :
 KT H (eK kvs k y) (storedH xs k b u):=by
 have e:(kvs.any λI=>decide (I.1=k))=(atKey xs k).isSome:=by
  rw[kN,(r.val k).isSome_eq,Option.isSome_map]
 unfold eK storedH;rw[e]
 by_cases q:(atKey xs k).isSome=true
 .rw[if_pos q,if_pos q];exact r.repl k z
 .rw[if_neg q,if_neg q];exact Paired.snoc r ⟨rfl,D,z⟩
def KT.keeps {H H':Hp} {kvs:List (List Key×V)} {xs:List (List Key×Addr×Value)} (r:KT H kvs xs) (ht:∀ b ys,H b=some (.tup ys)->H' b=some (.tup ys)):KT H' kvs xs :=
 Paired.mapP r λ_ _ z=>⟨z.1,ht _ _ z.2.1,z.2.2⟩
section
variable {P:Program} {w:World} {H:Hp} {h:Heap} {a:Addr}
def aAi {u:HO} (ok:HOk P w H h) (e:Rd H a u):ObjOk P w H h a u:=e.ok ok
def nP {kvs:List (Key×V)} (ok:HOk P w H h) (e:Rd H a (.dK kvs)):kvs.length<=sizeLine/\(a == sysModules)=false/\∃ vs,KV kvs vs/\h.DictOf (bB P w) a vs :=
 show ObjOk P w H h a (.dK kvs) from aAi ok e
def nQ {kvs:List (Key×V)} (ok:HOk P w H h) (e:H a=some (.dK kvs)):kvs.length<=sizeLine/\(a == sysModules)=false/\∃ vs,KV kvs vs/\h.DictOf (bB P w) a vs:=nP ok (.inl e)
def pB {ks:List Key} (ok:HOk P w H h) (e:H a=some (.tup (ks.map kV))):(tupleKind (bB P w)).is h ks a:=by
 obtain⟨_,its,r,o,h1,h2,n,h3⟩:=(show ObjOk P w H h a (.tup (ks.map kV)) from ok a _ e);exact⟨o,its.toArray,n,h1,h2,h3,by simpa using vO r⟩
def sL {kvs:List (List Key×V)} (ok:HOk P w H h) (e:Rd H a (.dT kvs)):kvs.length<=sizeLine/\(a == sysModules)=false /\
 ∃ xs,KT H kvs xs/\h.DictOfH (tupleKind (bB P w)) a xs:=by
 obtain⟨z,y,xs,r,o,es,ep,h1,h2,h3,h4,h5⟩:=(show ObjOk P w H h a (.dT kvs) from aAi ok e);refine⟨z,y,xs,r,o,es,ep,h1,h2,h3,h4,λx hx=>?_,h5⟩;have all:∀ {l:List (List Key×V)} {m:List (List Key×Addr×Value)},KT H l m->∀ x∈m,(tupleKind (bB P w)).is h x.1 x.2.1:=by
  intro l m q
  induction q with
  | nil=>intro x hx;exact nomatch hx
  | @cons p q ps J D t I =>
   intro x hx;rcases aDi.mp hx with e | hx
   .subst e;exact pB ok (by rw[<- D.1];exact D.2.1)
   .exact I x hx
 exact all r x hx
def aCI {kvs:List (List Key×V)} (ok:HOk P w H h) (e:H a=some (.dT kvs)):kvs.length<=sizeLine/\(a == sysModules)=false /\
 ∃ xs,KT H kvs xs/\h.DictOfH (tupleKind (bB P w)) a xs:=sL ok (.inl e)
end
def DGet (H:Hp) (a:Addr) (y:V) (r:Option V):Prop :=
 (∃ kvs k,Rd H a (.dK kvs)/\y=kV k/\r=cW kvs k)\/∃ kvs k b,Rd H a (.dT kvs)/\y=.ref b/\H b=some (.tup (k.map kV))/\r=cW kvs k
def DPut (H:Hp) (a:Addr) (y v:V) (H':Hp):Prop :=
 (∃ kvs k,H a=some (.dK kvs)/\y=kV k/\kvs.length<sizeLine/\H'=upd H a (.dK (eK kvs k v))) \/
 ∃ kvs k b,H a=some (.dT kvs)/\y=.ref b/\H b=some (.tup (k.map kV))/\kvs.length<sizeLine/\H'=upd H a (.dT (eK kvs k v))
def DGet.k {H:Hp} {a:Addr} {kvs:List (Key×V)} {k:Key} (e:H a=some (.dK kvs)):DGet H a (kV k) (cW kvs k):=.inl ⟨kvs,k,.inl e,rfl,rfl⟩
def DPut.k {H:Hp} {a:Addr} {kvs:List (Key×V)} {k:Key} {v:V} (e:H a=some (.dK kvs)) (z:kvs.length<sizeLine):DPut H a (kV k) v (upd H a (.dK (eK kvs k v))):=.inl ⟨kvs,k,e,rfl,z,rfl⟩
section
variable {X:Cx} {pins:List (Addr×Obj)} {σ:St} {H:Hp} {s:Shared} {a:Addr} {y v:V} {u r:Value} {o:Option V} {A:Around} {E:Value->Shared->Prop}
def Inv.big (I:Inv X pins σ H s):sysModules<s.heap.objs.size:=by
 have h:mainGlobals<s.heap.objs.size:=(I.mod.glob.keeps I.bk).lt;exact Nat.lt_trans (by decide) h
def S2 {Q:Value->Shared->Prop} (hu:A.units+1<cLine) (I:Inv X pins σ H s) (g:DGet H a y (some v)) (Y:RelV y u) (h:∀ L s',Inv X pins σ H s'->RelV v L->Q L s') :
 wpAny (model X.prog X.w) A (getItem (.ref a) u) Q E s:=by
 rcases g with ⟨kvs,k,e,M,l⟩ | ⟨kvs,k,b,e,M,eb,l⟩
 .subst M;obtain⟨z,hd,vs,D,N⟩:=nP I.hok e;obtain⟨L,hw,J⟩:=RelO.some_of (v:=v) (o:=valueAt vs k) (by rw[l];exact D.val k);exact wpAny_getItem_of (nO Y) N.mapOf hw (h L _ (I.tok _) J)
 .subst M;cases (show u=Value.ref b from Y);obtain⟨z,hd,xs,D,N⟩:=sL I.hok e;obtain⟨L,hw,J⟩:=RelO.some_of (v:=v) (o:=(atKey xs k).map (·.2)) (by rw[l];exact D.val k);obtain⟨p,hp,U⟩:=aDg.mp hw;refine wpAny_getItem_heap (tupleKind_room_in1 hu) (pB I.hok eb) N hp ?_;rw[U];exact h L _ (I.tok _) J
def aCx {Q:Value->Shared->Prop} (N:A.units+1<cLine) (I:Inv X pins σ H s) (g:DGet H a y o) (M:RelV y u) (h:∀ s',Inv X pins σ H s'->Q (.bool o.isSome) s') :
 wpAny (model X.prog X.w) A (compareOp .In u (.ref a)) Q E s:=by
 rcases g with ⟨kvs,k,e,J,l⟩ | ⟨kvs,k,b,e,J,U,l⟩
 .subst J;obtain⟨z,hd,vs,D,L⟩:=nP I.hok e;refine wpAny_in_of (nO M) hd L.mapOf ?_;rw[<- (D.val k).isSome_eq,<- l];exact h _ (I.tok _)
 .subst J;cases (show u=Value.ref b from M);obtain⟨z,hd,xs,D,L⟩:=sL I.hok e;refine wpAny_in_heap (tupleKind_room_in1 N) (pB I.hok U) hd L ?_;have q:=(D.val k).isSome_eq;rw[Option.isSome_map]at q;rw[<- q,<- l];exact h _ (I.tok _)
def aAH {Q:Value->Shared->Prop} (N:A.units+1<cLine) (I:Inv X pins σ H s) (g:DGet H a y o) (M:RelV y u) (h:∀ s',Inv X pins σ H s'->Q (.bool (!o.isSome)) s') :
 wpAny (model X.prog X.w) A (compareOp .NotIn u (.ref a)) Q E s:=by
 rcases g with ⟨kvs,k,e,J,l⟩ | ⟨kvs,k,b,e,J,U,l⟩
 .subst J;obtain⟨z,hd,vs,D,L⟩:=nP I.hok e;refine wpAny_notIn_of (nO M) hd L.mapOf ?_;rw[<- (D.val k).isSome_eq,<- l];exact h _ (I.tok _)
 .subst J;cases (show u=Value.ref b from M);obtain⟨z,hd,xs,D,L⟩:=sL I.hok e;refine wpAny_notIn_heap (tupleKind_room_in1 N) (pB I.hok U) hd L ?_;have q:=(D.val k).isSome_eq;rw[Option.isSome_map]at q;rw[<- q,<- l];exact h _ (I.tok _)
def qX {h':Heap} {t':Nat} {D:HO} (I:Inv X pins σ H s) (J:Mut (H a)) (hs:Heap.SameBut a s.heap h') (he:∃ q,h'.get? a=some q) (new:ObjOk X.prog X.w (upd H a D) h' a D) :
 Inv X pins σ (upd H a D) { s with heap:=h',toks:=t' } :=
 I.write (x:=a) (e:=a) J (.inl rfl) (λb q L z=>(hs.2 b L).trans z) he new
def xD {P:Program} {w:World} {H':Hp} {h':Heap} {kvs:List (Key×V)} {vs:List (Key×Value)} (z:kvs.length<=sizeLine) (hd:(a == sysModules)=false) (D:KV kvs vs) (I:h'.DictOf (bB P w) a vs) :
 ObjOk P w H' h' a (.dK kvs):=⟨z,hd,vs,D,I⟩
def T1 {H':Hp} {Q:Unit->Shared->Prop} (hu:A.units+1<cLine) (I:Inv X pins σ H s) (g:DPut H a y v H') (ry:RelV y u) (rv:RelV v r) (h:∀ s',Inv X pins σ H' s'->Q () s') :
 wpAny (model X.prog X.w) A (setItem (.ref a) u r) Q E s:=by
 rcases g with ⟨kvs,k,e,M,l,N⟩ | ⟨kvs,k,b,e,M,eb,l,N⟩
 .subst M N;obtain⟨z,hd,vs,D,U⟩:=nQ I.hok e;have hz:vs.length<=sizeLine:=by rw[<- D.length];exact z
  have Y:(eK kvs k v).length<=sizeLine:=by have:=hV kvs k v;omega
  refine wpAny_setItem_pairs (hsz:=hz) (nO ry) U λh' J hs=>h _ ?_;have he:∃ q,h'.get? a=some q:=let ⟨q,_,_,L,_⟩:=J;⟨q,L⟩;exact qX I (by rw[e];exact True.intro) hs he (xD Y hd (D.put k rv) J)
 .subst M N;cases (show u=Value.ref b from ry);obtain⟨z,hd,xs,D,U⟩:=aCI I.hok e;have hz:xs.length<=sizeLine:=by rw[<- Paired.length D];exact z
  have Y:(eK kvs k v).length<=sizeLine:=by have:=hV kvs k v;omega
  refine wpAny_setItem_heap (hsz:=hz) (tupleKind_room_in1 hu) (pB I.hok eb) U λh' J hs=>h _ ?_;obtain⟨q,es,ep,L,h2,h3,h4,_,h5⟩:=J;refine qX I (by rw[e];exact True.intro) hs ⟨q,L⟩ ⟨Y,hd,_,(D.put k eb rv).keeps λc ys ec=>?_,q,es,ep,L,h2,h3,h4,h5⟩;rw[aG (bJ ec e (λz=>nomatch z))];exact ec
end
section
variable {X:Cx} {pins:List (Addr×Obj)} {σ:St} {H:Hp} {s:Shared} {a:Addr} {kvs:List (Key×V)} {k:Key} {u:Value} {A:Around} {E:Value->Shared->Prop}
def T3 {Q:Unit->Shared->Prop} (I:Inv X pins σ H s) (e:H a=some (.dK kvs)) (M:RelV (kV k) u) (l:(cW kvs k).isSome=true) (h:∀ s',Inv X pins σ (upd H a (.dK (qC kvs k))) s'->Q () s') :
 wpAny (model X.prog X.w) A (delItem (.ref a) u) Q E s:=by
 obtain⟨z,hd,vs,D,L⟩:=nQ I.hok e;refine wpAny_delItem_slot L.typeIs (by decide) PySem.F.slot_dict_delitem
  (call_meetsIn PySem.F.slot_dict_delitem L.typeIs PySem.F.entry_dict_delitem (PySem.F.args_dict_delitem_2 _ _) (meets_dict_delitem_pairs (bB X.prog X.w) a (nO M)) ⟨vs,L,by rw[<- D.length];exact z,by rw[<- (D.val k).isSome_eq];exact l,λh' J hs=>h _ ?_⟩)
 have he:∃ q,h'.get? a=some q:=let ⟨q,_,_,N,_⟩:=J;⟨q,N⟩;exact qX I (by rw[e];exact True.intro) hs he (xD (Nat.le_trans (Z6 kvs k) z) hd (D.drop k) J)
def aCJ {Q:Value->Shared->Prop} (I:Inv X pins σ H s) (e:Rd H a (.dK kvs)) (h:∀ t s',Inv X pins σ H s'->Q (.int kvs.length t) s'):wpAny (model X.prog X.w) A (call (.builtin "len") [.ref a]) Q E s:=by
 obtain⟨z,hd,vs,D,J⟩:=nP I.hok e;refine call_len_dict hd J (by rw[<- D.length];rw[sizeLine_eq]at z;omega) ?_;rw[<- D.length];exact h _ _ (I.tok _)
def aAI {Q:Bool->Shared->Prop} (I:Inv X pins σ H s) (e:Rd H a (.dK kvs)) (h:∀ s',Inv X pins σ H s'->Q (!kvs.isEmpty) s'):wpAny (model X.prog X.w) A (truthy (.ref a)) Q E s:=by
 obtain⟨z,hd,vs,D,J⟩:=nP I.hok e;refine wpAny_truthy_dict hd J (by rw[<- D.length];rw[sizeLine_eq]at z;omega) ?_;have q:kvs.isEmpty=vs.isEmpty:=by cases D <;> rfl
 rw[<- q];exact h _ (I.tok _)
end
def aBM (i:Expr):Prop:=∀ z D,subscripted i false z D=operate [z,D] (getItem z D)
def O1 {prog:Program} {w:World} {A:Around} {E:Value->Shared->Prop} {s:Shared} {env:Env} {value slice:Expr} {pos:Pos} {T id:String} {Q:Value->Shared->Prop}
 (U:typeLookup (.type T) "__getitem__"=pure (some (.builtin id))) (hs:aBM slice)
 (h:wpAny (model prog w) A (eval value env) (λo I=>wpAny (model prog w) A (eval slice env) (λi z=>z.TypeIs o T/\wpAny (model prog w) A (getItem o i) Q E z) E I) E s) :
 wpAny (model prog w) A (eval (.Subscript value slice pos) env) Q E s:=by
 refine Subscript_ (wpAny_mono h (λo I L=>wpAny_mono L (λi z D=>?_) λ_ _ x=>x) λ_ _ x=>x);obtain⟨N,D⟩:=D;unfold subscriptTail;refine aDE ?_;rw[getitemInPython_of_ne N.not_modules];refine aDE (wpAny_specialOf N U ?_);have fin:wpAny (model prog w) A (subscripted slice false o i) (λr J=>wpAny (model prog w) A (letTemporaryGo value o r >>= λ_=>pure r) Q E J) E z:=by
  rw[hs o i];exact wpAny_operating (wpAny_mono D (λr J M=>aDE (wpAny_letTemporaryGo (aDF M))) λ_ _ x=>x)
 first
  | exact aDF (aDE fin)
  | exact aDE (aDF (aDE fin))
  | exact aDE fin
def zS {X:Cx} {pins:List (Addr×Obj)} {σ:St} {H:Hp} {s:Shared} {a:Addr} {y:V} {o:Option V} (I:Inv X pins σ H s) (g:DGet H a y o):s.TypeIs (.ref a) "dict":=by
 rcases g with ⟨kvs,k,e,_,_⟩ | ⟨kvs,k,b,e,_,_,_⟩
 .obtain⟨_,_,vs,_,z⟩:=nP I.hok e;exact z.typeIs
 .obtain⟨_,_,xs,_,z⟩:=sL I.hok e;exact z.typeIs
def aCK (td ty:TE):TE:=fun σ H Q=>td σ H λx H1=>ty σ H1 λy H2=>∃ a v,x=.ref a/\DGet H2 a y (some v)/\Q v H2
def aCy (ty td:TE):TE:=fun σ H Q=>ty σ H λy H1=>td σ H1 λx H2=>∃ a o,x=.ref a/\DGet H2 a y o/\Q (.bl o.isSome) H2
def aAJ (ty td:TE):TE:=fun σ H Q=>ty σ H λy H1=>td σ H1 λx H2=>∃ a o,x=.ref a/\DGet H2 a y o/\Q (.bl (!o.isSome)) H2
def aCL (td ty tv:TE):TS:=λD σ H=>tv σ H λv H1=>td σ H1 λx H2=>ty σ H2 λy I=>∃ a z,x=.ref a/\DPut I a y v z/\D.nx σ z
def aCM (td ty:TE):TS:=λD σ H=>td σ H λx H1=>ty σ H1 λy H2=>∃ a kvs k,x=.ref a/\H2 a=some (.dK kvs)/\y=kV k/\(cW kvs k).isSome=true/\D.nx σ (upd H2 a (.dK (qC kvs k)))
section
variable {X:Cx} {o i e value:Expr} {pos pos' ag:Pos} {td ty tv:TE}
def jF (J:X.A.units+1<cLine) (L:PE X o td) (hi:PE X i ty) (hs:aBM i):PE X (.Subscript o i pos) (aCK td ty):=by
 intro pins s σ H Q I h;refine O1 PySem.F.slot_dict_getitem.lookup hs (thn (L pins s σ H _ I h) λu M ⟨x,H1,N,U,Y⟩=>thn (hi pins M σ H1 _ N Y) λiv s2 ⟨y,H2,D,ry,a,v,ex,g,q2⟩=>?_);subst ex;obtain rfl:u=Value.ref a:=U;exact⟨zS D g,S2 J D g ry λw' s3 I3 z=>⟨v,H2,I3,z,q2⟩⟩
def aBN (z:X.A.units+1<cLine) (hi:PE X i ty) (D:PE X o td):PC X .In i o (aCy ty td):=by
 intro pins s σ H Q I h;refine thn (hi pins s σ H _ I h) λiv J ⟨y,H1,L,M,N⟩=>thn (D pins J σ H1 _ L N) λu s2 ⟨x,H2,U,Y,a,ov,ex,g,q2⟩=>?_;subst ex;obtain rfl:u=Value.ref a:=Y;exact aCx z U g M λs3 I3=>⟨.bl ov.isSome,H2,I3,rfl,q2⟩
def T4 (z:X.A.units+1<cLine) (hi:PE X i ty) (D:PE X o td):PC X .NotIn i o (aAJ ty td):=by
 intro pins s σ H Q I h;refine thn (hi pins s σ H _ I h) λiv J ⟨y,H1,L,M,N⟩=>thn (D pins J σ H1 _ L N) λu s2 ⟨x,H2,U,Y,a,ov,ex,g,q2⟩=>?_;subst ex;obtain rfl:u=Value.ref a:=Y;exact aAH z U g M λs3 I3=>⟨.bl (!ov.isSome),H2,I3,rfl,q2⟩
def xE (z:X.A.units+1<cLine) (J:PE X o td) (hi:PE X i ty) (L:PE X value tv) (hs:swapsWith value (some (.Subscript o i pos')) pos.line X.env=pure false) :
 PS X (.Assign [.Subscript o i pos'] value pos) (aCL td ty tv):=by
 intro pins s σ H D I h;refine wpAny_Assign_Subscript (thn (L pins s σ H _ I h) λr M ⟨v,H1,N,U,Y⟩=>thn (J pins M σ H1 _ N Y) λu s2 ⟨x,H2,I2,rx,q2⟩=>thn (hi pins s2 σ H2 _ I2 q2) λiv s3 ⟨y,H3,I3,ry,a,H4,ex,g,q3⟩=>?_) hs;subst ex;obtain rfl:u=Value.ref a:=rx;exact T1 z I3 g ry U λs4 I4=>⟨σ,H4,I4,q3⟩
def aAK (z:PE X o td) (hi:PE X i ty):PS X (.Delete [.Subscript o i ag] pos) (aCM td ty):=by
 intro pins s σ H D I h;refine wpAny_Delete (wpAny_deleteEach_cons (wpAny_delete_Subscript (thn (z pins s σ H _ I h) λu J ⟨x,H1,L,M,N⟩=>thn (hi pins J σ H1 _ L N) λiv s2 ⟨y,H2,U,Y,a,kvs,k,ex,e,ey,l,q2⟩=>?_)));subst ex ey;obtain rfl:u=Value.ref a:=M;exact T3 U e Y l λs3 I3=>wpAny_deleteEach_nil ⟨σ,_,I3,q2⟩
end
def Z7 {P:Program} {w:World} {H:Hp} (h:Heap) (z:sysModules<h.objs.size):ObjOk P w H (h.push { cls:=.type "dict",data:=.dict #[] }) h.objs.size (.dK []) :=
 ⟨Nat.zero_le _,beq_eq_false_iff_ne.mpr (Ne.symm (aD3 z)),[],.nil,Heap.DictOf.new h⟩
def aBO:TE:=λ_ H Q=>∀ p,H p=none->Q (.ref p) (upd H p (.dK []))
section
variable {X:Cx} {pos:Pos}
def gS:PE X (.Dict [] [] pos) aBO:=λpins s σ H Q I h =>
 wpAny_Dict_empty ⟨.ref s.heap.objs.size,_,I.laid (a:=s.heap.objs.size) (o:=.dK []) (t':=s.toks) (λ_ _ q=>aDH _ q) (Nat.le_refl _) (Z7 s.heap I.big),rfl,h _ (I.hok.fresh (Nat.le_refl _))⟩
end
structure M1 (X:Cx) (o:Expr) (m:Str) (apos:Pos) (e:Expr) (ab:Pos):Prop where
 base:attributeBase o m X.env (eval o X.env)=eval o X.env
 few:((backTo ab (starEach [e] X.env)).all (λx=>!x.1) && (backToKw ab (keywordEach [] X.env)).all (λx=>x.1.isSome)
  && decide (([e]:List Expr).length+([]:List Keyword).length+(if ([]:List Keyword).isEmpty then 0 else 1)<30))=true
 line:(apos.endLine == ab.line)=true
 trees:backTo ab (starEach [e] X.env)=[(false,eval e X.env)]
structure M2 (X:Cx) (o:Expr) (m:Str) (apos:Pos) (e f:Expr) (ab:Pos):Prop where
 base:attributeBase o m X.env (eval o X.env)=eval o X.env
 few:((backTo ab (starEach [e,f] X.env)).all (λx=>!x.1) && (backToKw ab (keywordEach [] X.env)).all (λx=>x.1.isSome)
  && decide (([e,f]:List Expr).length+([]:List Keyword).length+(if ([]:List Keyword).isEmpty then 0 else 1)<30))=true
 line:(apos.endLine == ab.line)=true
 trees:backTo ab (starEach [e,f] X.env)=[(false,eval e X.env),(false,eval f X.env)]
def IsD (H:Hp) (a:Addr):Prop:=(∃ kvs,Rd H a (.dK kvs))\/∃ kvs,Rd H a (.dT kvs)
def sM {X:Cx} {pins:List (Addr×Obj)} {σ:St} {H:Hp} {s:Shared} {a:Addr} (I:Inv X pins σ H s) (d:IsD H a) :
 s.TypeIs (.ref a) "dict"/\(∀ b,Value.ref a=.ref b->∃ z,s.heap.get? b=some z/\z.dict=none)/\(a == sysModules)=false:=by
 rcases d with ⟨kvs,e⟩ | ⟨kvs,e⟩
 .obtain⟨_,hd,vs,_,D⟩:=nP I.hok e;refine⟨D.typeIs,λb q=>?_,hd⟩;cases q;obtain⟨z,_,_,h1,h2,_⟩:=D;exact⟨z,h1,h2.2.1⟩
 .obtain⟨_,hd,xs,_,D⟩:=sL I.hok e;refine⟨D.typeIs,λb q=>?_,hd⟩;cases q;obtain⟨z,_,_,h1,h2,_⟩:=D;exact⟨z,h1,h2.2.1⟩
section
variable {X:Cx} {pins:List (Addr×Obj)} {σ:St} {H:Hp} {s:Shared} {a:Addr} {y d:V} {u r:Value} {o:Option V} {A:Around} {E:Value->Shared->Prop}
def aBP {Q:Value->Shared->Prop} (U:A.units+1<cLine) (I:Inv X pins σ H s) (g:DGet H a y o) (M:RelV y u) (rd:RelV d r) (h:∀ N s',Inv X pins σ H s'->RelV (o.getD d) N->Q N s') :
 wpAny (model X.prog X.w) A (call (.builtin "dict.get") [.ref a,u,r]) Q E s:=by
 rcases g with ⟨kvs,k,e,L,l⟩ | ⟨kvs,k,b,e,L,Y,l⟩
 .subst L;obtain⟨z,hd,vs,D,J⟩:=nP I.hok e;refine call_meetsIn PySem.F.slot_dict_get J.typeIs PySem.F.entry_dict_get (PySem.F.args_dict_get_3 _ _ _) (meets_dict_get_default (bB X.prog X.w) a (nO M) hd r) ⟨_,J.mapOf,h _ _ (I.tok _) ?_⟩;rw[l];exact(D.val k).getD rd
 .subst L;cases (show u=Value.ref b from M);obtain⟨z,hd,xs,D,J⟩:=sL I.hok e;refine call_meetsIn PySem.F.slot_dict_get J.typeIs PySem.F.entry_dict_get (PySem.F.args_dict_get_3 _ _ _) (meetsH_dict_get_default (tupleKind (bB X.prog X.w)) a b hd r) ⟨tupleKind_room_in1 U,k,xs,pB I.hok Y,J,h _ _ (I.tok _) ?_⟩;rw[l];exact(D.val k).getD rd
end
def aBQ (td ty tx:TE):TE:=fun σ H Q=>td σ H λx H1=>∃ a,x=.ref a/\IsD H1 a/\ty σ H1 λy H2=>tx σ H2 λz D=>∃ o,DGet D a y o/\Q (o.getD z) D
section
variable {X:Cx} {o e f:Expr} {apos ab:Pos} {td ty tx:TE}
def Z8 (L:X.A.units+1<cLine) (M:PE X o td) (he:PE X e ty) (N:PE X f tx) (m:M2 X o "get" apos e f ab):PE X (.Call (.Attribute o "get" apos) [e,f] [] ab) (aBQ td ty tx):=by
 intro pins s σ H Q I h;refine wpAny_Call_method m.base m.few m.line PySem.F.plainAttrs_dict PySem.F.slot_dict_get PySem.F.type_dict_get (thn (M pins s σ H _ I h) λu U ⟨x,H1,J,Y,a,ex,d,q1⟩=>?_);subst ex;obtain rfl:u=Value.ref a:=Y;obtain⟨t1,t2,_⟩:=sM J d;refine⟨t1,t2,?_⟩;rw[m.trees];refine Calls.callWith_builtin rfl (Calls.evalArgs_plain (Calls.spliced_cons (thn (he pins U σ H1 _ J q1) λiv s2 ⟨y,H2,I2,ry,q2⟩ =>
  Calls.spliced_cons (thn (N pins s2 σ H2 _ I2 q2) λfv s3 ⟨z,H3,I3,rz,ov,g,q3⟩=>Calls.spliced_nil ?_))))
 exact aBP L I3 g ry rz λw' s4 I4 D=>⟨_,H3,I4,D,q3⟩
end
section
variable {X:Cx} {pins:List (Addr×Obj)} {σ:St} {H:Hp} {s:Shared} {d:Addr} {kvs:List (Key×V)}
def Inv.freezeD (I:Inv X pins σ H s) (e:H d=some (.dK kvs)):∃ od,s.heap.get? d=some od/\Inv X pins σ (upd H d (.frz od (.dK kvs))) s:=by
 obtain⟨z,hd,vs,D,L⟩:=nQ I.hok e;obtain⟨ep,J⟩:=L.dictAt;obtain⟨od,es,M,_⟩:=id J;refine⟨od,M,?_⟩;have ne:∀ b u,H b=some u->(∀ ks,u≠.dK ks)->b≠d:=λb u q n z=>by rw[z,e]at q;cases q;exact n _ rfl
 have U:∀ b,H b=none->b≠d:=λb q z=>by rw[z,e]at q;cases q
 have up:∀ b u,H b=some u->(∀ ks,u≠.dK ks)->upd H d (.frz od (.dK kvs)) b=some u:=λb u q n=>by rw[aG (ne b u q n)];exact q
 have un:Un X.fs [] H (upd H d (.frz od (.dK kvs))) s.heap s.heap:=⟨λ_ _ q _ _ _=>q,λ_ o q _ _ _=>⟨o.slots,q⟩,λb _ _ n _=>by rw[aG (U b n)];exact n,λ_ o q _=>⟨o,q⟩,
  λb xs q=>up b _ q (λ_ z=>by cases z),λb o u q=>up b _ q (λ_ z=>by cases z),λb ps q=>⟨#[],by rw[up b _ q (λ_ z=>by cases z)];simp⟩⟩
 exact I.un (t':=s.toks) un λb u q=>by
  by_cases N:b=d
  .subst N;rw[aB]at q;cases q;exact⟨M,z,hd,vs,D,L⟩
  .rw[aG N]at q;exact(I.hok b u q).stay (λ_ _ _ z=>z) (λc z=>up c _ z λ_ z=>by cases z) λc xs z=>up c _ z λ_ z=>by cases z
end
def Itd (d:Addr) (od:Obj) (kvs:List (Key×V)):It :=
 ⟨λi H=>H d=some (.frz od (.dK kvs))/\i<kvs.length,λi H v H'=>∃ t k x,v=.ref t/\H t=none/\kvs[i]?=some (k,x)/\H'=upd H t (.tup [kV k,x]),λi H=>H d=some (.frz od (.dK kvs))/\kvs.length<=i⟩
def O2 {kvs:List (Key×V)} {vs:List (Key×Value)} (r:KV kvs vs) {i:Nat} {k:Key} {x:V} (e:kvs[i]?=some (k,x)):∃ u,vs[i]?=some (k,u)/\RelV x u:=by
 induction r generalizing i with
 | nil=>simp at e
 | cons h _ z =>
  cases i with
  | zero =>
   rename_i p q _ _ _
   obtain⟨p1,p2⟩:=p;obtain⟨D,I⟩:=q;simp only[List.getElem?_cons_zero,Option.some.injEq,Prod.mk.injEq]at e;obtain⟨rfl,rfl⟩:=e;obtain⟨h1,h2⟩:=h;simp only at h1 h2;subst h1;exact⟨_,rfl,h2⟩
  | succ i=>exact z e
def Z9 {P:Program} {w:World} {k:Key} {u:Value} (h:(bB P w).is k u=true):RelV (kV k) u:=by
 rw[rO]at h;rcases bV h with ⟨i,t,rfl,rfl⟩ | ⟨x,t,rfl,rfl⟩
 .exact⟨_,rfl⟩
 .exact⟨_,rfl⟩
def I0 {P:Program} {w:World} {K:PySem.W.Frag} {elts:List Expr} {x1} {pos:Pos} (d it:Addr) (od:Obj) (kvs:List (Key×V)) (vs:List (Key×Value)) (ep:Nat) (rel:KV kvs vs) (hat:∀ h:Heap,h.get? d=some od->h.DictAt (bB P w) d vs ep) (hne:d≠it) :
 qM P w K (.Tuple elts x1 pos) (Itd d od kvs) [it] it (λi h=>∃ ok ov,IsItemIter h it d i vs.length ep ok ov) where
 mem:=by simp
 obj:=λi h st b hb=>by
  obtain⟨ok,ov,he⟩:=st;have z:b=it:=by simpa using hb
  subst z;exact⟨_,he,λv z=>by have z':Data.fields _=Data.cell v:=z;cases z'⟩
 keep:=λi h h' st k=>let ⟨ok,ov,he⟩:=st;⟨ok,ov,k it (by simp) _ he⟩
 item:=by
  intro X hP hw hK hc i pins s σ H E I hf st hg;subst hP hw hK;obtain⟨hd,hi⟩:=hg;obtain⟨⟨k,x⟩,hx⟩:∃ p,kvs[i]?=some p:=⟨kvs[i],by simp[hi]⟩;obtain⟨u,hu,ru⟩:=O2 rel hx;obtain⟨ok,ov,he⟩:=st;have hod:s.heap.get? d=some od:=(I.hok d _ hd).1;have li:it<s.heap.objs.size:=aDM he;refine wpAny_pyNext_items_item he (hat _ hod) hu λkey h' hkey ho hT hsz kp=>?_;refine⟨_,rfl,?_⟩;have hn:H s.heap.objs.size=none:=I.hok.fresh (Nat.le_refl _);have tupOk:∀ h2:Heap,h2.get? s.heap.objs.size=some { cls:=.type "tuple",data:=.seq #[key,u] }->ObjOk X.prog X.w (upd H s.heap.objs.size (.tup [kV k,x])) h2 s.heap.objs.size (.tup [kV k,x]):=λh2 q =>
   ⟨by show 2<=sizeLine;decide,[key,u],.cons (Z9 hkey) (.cons ru .nil),_,q,rfl,_,rfl⟩
  refine wpAny_letOwnedTupleGo_items ho λh2 f1 sb=>?_;have k2:∀ b o,b∉[it]->s.heap.get? b=some o->h2.get? b=some o:=λb o hb q=>sb.extBut b o (λz=>hb (by simp[z])) (kp b o (λz=>hb (by simp[z])) q);have n1:s.heap.objs.size≠it:=aD6 li;refine⟨.ref s.heap.objs.size,_,I.turnLaid (t':=s.toks) (h':=h2) (o:=.tup [kV k,x]) k2 hf (Nat.le_refl _) (tupOk _ (sb.extBut _ _ n1 hT)),rfl,⟨_,k,x,rfl,hn,hx,rfl⟩,⟨_,_,f1⟩,λb hb=>?_⟩;have hb':b≠s.heap.objs.size:=by
   have z:b=it:=by simpa using hb
   subst z;exact aD3 li
  rw[aG hb'];exact(hf b hb).1
 done:=by
  intro X hP hw hK hc i pins s σ H E I hf st hg;subst hP hw hK;obtain⟨hd,hi⟩:=hg;obtain⟨ok,ov,he⟩:=st;have hod:s.heap.get? d=some od:=(I.hok d _ hd).1;have hl:=rel.length;exact wpAny_pyNext_items_end (I.ok.hd hc) he (hat _ hod) (by simp;omega) λh' eb=>⟨rfl,I.turnedF (fp:=[it]) (t':=s.toks) (λb o hb e=>eb b o (λz=>hb (by simp[z])) e) hf⟩
 self:=λ_ _ _ _ _ st h=>let ⟨_,_,he⟩:=st;PySem.W.kcp_self he h
def aBR (td:TE):TI:=fun σ H R=>td σ H λx H1=>∃ d kvs,x=.ref d/\H1 d=some (.dK kvs)/\∀ od,R (Itd d od kvs) (upd H1 d (.frz od (.dK kvs)))
def nR {X:Cx} {elts:List Expr} {x1} {ag:Pos} {o:Expr} {td:TE} {apos pos:Pos} (ho:PE X o td) (L:attributeBase o "items" X.env (eval o X.env)=eval o X.env:=by rfl) (M:(apos.endLine == pos.line)=true:=by rfl) :
 PI X (.Tuple elts x1 ag) (.Call (.Attribute o "items" apos) [] [] pos) (aBR td):=by
 intro pins s σ H R I h;refine wpAny_Call_method0_late L M (thn (ho pins s σ H _ I h) λu D ⟨x,H1,I1,rx,d,kvs,ex,hd,q⟩=>?_);subst ex;obtain rfl:u=Value.ref d:=rx;obtain⟨z,Y,vs,al,dd⟩:=nQ I1.hok hd;obtain⟨ep,am⟩:=id dd.dictAt;obtain⟨od,N,I2⟩:=I1.freezeD hd;obtain⟨t1,t2,_⟩:=sM I1 (.inl ⟨kvs,.inl hd⟩);refine⟨"dict","dict.items",PySem.F.plainAttrs_dict,PySem.F.slot_dict_items,PySem.F.type_dict_items,t1,t2,Calls.callWith_builtin rfl (PySem.evalArgs_none ?_)⟩;refine call_meetsIn PySem.F.slot_dict_items dd.typeIs PySem.F.entry_dict_items (PySem.F.args_dict_items_1 _) (meets_dict_items (bB X.prog X.w) d Y) ⟨⟨vs,dd⟩,?_⟩;have hv:(D.heap.push { cls:=.type "dict_items",data:=.fields #[.ref d] }).IsItemsView D.heap.objs.size d:=⟨_,aDN _ rfl,rfl,rfl⟩;have h1:(D.heap.push { cls:=.type "dict_items",data:=.fields #[.ref d] }).get? d=some od:=aDH _ N;have J:∀ h:Heap,h.get? d=some od->h.DictAt (bB X.prog X.w) d vs ep:=λh e=>am.at λo q=>by rw[N]at q;cases q;exact e
 refine wpAny_pyIter_items hv (J _ h1) ?_;generalize ao:({ cls:=.type "dict_itemiterator",data:=.fields #[.none,.bool false,.ref d,.int 0 0,.int vs.length 0,.int ep 0,.none,.none] }:Obj)=ob;have kp:∀ b o,D.heap.get? b=some o->((D.heap.push { cls:=.type "dict_items",data:=.fields #[.ref d] }).push ob).get? b=some o:=λb o e=>aDH _ (aDH _ e);have hsz:(D.heap.push { cls:=.type "dict_items",data:=.fields #[.ref d] }).objs.size=D.heap.objs.size+1:=Heap.size_push ..;have I3:=I2.kept (t':=D.toks) kp;have U:D.heap.objs.size<=(D.heap.push { cls:=.type "dict_items",data:=.fields #[.ref d] }).objs.size:=by rw[hsz];exact Nat.le_succ _
 have ap:d≠(D.heap.push { cls:=.type "dict_items",data:=.fields #[.ref d] }).objs.size:=λz=>by
  have:=aDM N;rw[z]at this;exact absurd this (Nat.not_lt.mpr U)
 refine⟨_,[_],_,_,_,rfl,I3,I0 d _ od kvs vs ep al J ap,⟨.none,.none,?_⟩,λb hb=>?_,q od⟩
 .rw[<- ao];exact aDN _ rfl
 .have z:b=(D.heap.push { cls:=.type "dict_items",data:=.fields #[.ref d] }).objs.size:=by simpa using hb
  rw[z];exact I2.fpOk U (I2.hok.fresh U)
def mO {d:Addr} {od:Obj} {kvs:List (Key×V)} {z:St} {g:TG} {tt:TT} {te:TE} {H:Hp} {Q:VK} (Pv:Nat->List V->Hp->Prop) (h0:Pv 0 [] H) (M:∀ i ys H,i<=kvs.length->Pv i ys H->H d=some (.frz od (.dK kvs))/\ys.length<sizeLine)
 (hs:∀ i k x ys H t,kvs[i]?=some (k,x)->Pv i ys H->H t=none->g (.ref t) z (upd H t (.tup [kV k,x])) λI H2=>tt I H2 λb L=>if b=true then te I L λy N=>Pv (i+1) (ys++[y]) N else Pv (i+1) ys L) (hd:∀ ys H,Pv kvs.length ys H->∀ D,H D=none->Q (.ref D) (upd H D (.lst ys))) :
 nG (Itd d od kvs) z g tt te Q H:=by
 refine⟨λi m ys H=>m=kvs.length - i/\i<=kvs.length/\Pv i ys H,⟨kvs.length,by simp,Nat.zero_le _,h0⟩,?_⟩;rintro i m ys H ⟨rfl,hi,p⟩;obtain⟨q,hz⟩:=M i ys H hi p;refine⟨hz,?_⟩
 by_cases J:i<kvs.length
 .refine .inr ⟨⟨q,J⟩,Pv (i+1),λU H' Y=>⟨kvs.length - (i+1),by omega,rfl,J,Y⟩,λx H' y=>?_⟩;obtain⟨t,k,v,rfl,hn,hx,rfl⟩:=y;exact hs i k v ys _ t hx p hn
 .have e:i=kvs.length:=by omega
  subst e;exact .inl ⟨⟨q,Nat.le_refl _⟩,hd ys H p⟩
def aCN (td ty tx:TE):TE:=fun σ H Q=>td σ H λx H1=>∃ a,x=.ref a/\IsD H1 a/\ty σ H1 λy H2=>tx σ H2 λz D=>∃ kvs k,D a=some (.dK kvs)/\y=kV k/\kvs.length<sizeLine /\
 (∀ v,cW kvs k=some v->Q v D)/\(cW kvs k=none->Q z (upd D a (.dK (eK kvs k z))))
section
variable {X:Cx} {o e f:Expr} {apos ab:Pos} {td ty tx:TE}
def O3 (N:PE X o td) (he:PE X e ty) (hf:PE X f tx) (m:M2 X o "setdefault" apos e f ab):PE X (.Call (.Attribute o "setdefault" apos) [e,f] [] ab) (aCN td ty tx):=by
 intro pins s σ H Q I h;refine wpAny_Call_method m.base m.few m.line PySem.F.plainAttrs_dict PySem.F.slot_dict_setdefault PySem.F.type_dict_setdefault (thn (N pins s σ H _ I h) λu s1 ⟨x,H1,I1,rx,a,ex,d,q1⟩=>?_);subst ex;obtain rfl:u=Value.ref a:=rx;obtain⟨t1,t2,_⟩:=sM I1 d;refine⟨t1,t2,?_⟩;rw[m.trees];refine Calls.callWith_builtin rfl (Calls.evalArgs_plain (Calls.spliced_cons (thn (he pins s1 σ H1 _ I1 q1) λiv s2 ⟨y,H2,I2,ry,q2⟩ =>
  Calls.spliced_cons (thn (hf pins s2 σ H2 _ I2 q2) λfv s3 ⟨z,H3,U,rz,kvs,k,ea,ey,hl,q3,q4⟩=>Calls.spliced_nil ?_))))
 subst ey;obtain⟨hz,J,vs,D,dd⟩:=nQ U.hok ea;refine call_meetsIn PySem.F.slot_dict_setdefault dd.typeIs PySem.F.entry_dict_setdefault (PySem.F.args_dict_setdefault_3 _ _ _) (kt_meets_setdefault (bB X.prog X.w) a (nO ry) J fv) ⟨vs,dd,by rw[<- D.length];exact hz,λv hv=>?_,λhn h' M hs=>?_⟩
 .have r:=D.val k;rw[hv]at r;cases L:cW kvs k with
  | none=>rw[L]at r;exact r.elim
  | some Y=>rw[L]at r;exact⟨Y,H3,U.tok _,r,q3 Y L⟩
 .have r:=D.val k;rw[hn]at r;have L:cW kvs k=none:=by
   cases L:cW kvs k with
   | none=>rfl
   | some Y=>rw[L]at r;exact r.elim
  refine⟨z,_,qX (t':=_) U (by rw[ea];exact True.intro) hs ?_ (xD ?_ J (D.put k rz) M),rz,q4 L⟩
  .obtain⟨_,al⟩:=M.dictAt;obtain⟨o,es,N,_⟩:=id al;exact⟨o,N⟩
  .have:=hV kvs k z;omega
end
def Inv.thaw {X:Cx} {pins:List (Addr×Obj)} {σ:St} {H:Hp} {s:Shared} {d:Addr} {od:Obj} {kvs:List (Key×V)} (I:Inv X pins σ H s) (e:H d=some (.frz od (.dK kvs))) (h0:∀ o u,X.H₀ d≠some (.frz o u)):Inv X pins σ (upd H d (.dK kvs)) s:=by
 obtain⟨Y,hok⟩:=I.hok d _ e;have ne:∀ b u,H b=some u->(∀ o v,u≠.frz o v)->b≠d:=λb u q n z=>by rw[z,e]at q;cases q;exact n _ _ rfl
 have D:∀ b,H b=none->b≠d:=λb q z=>by rw[z,e]at q;cases q
 have up:∀ b u,H b=some u->(∀ o v,u≠.frz o v)->upd H d (.dK kvs) b=some u:=λb u q n=>by rw[aG (ne b u q n)];exact q
 refine⟨I.ok,I.os,I.bare,⟨I.base.keep,I.base.slot,λb o q n x=>?_,I.base.there,λb xs q=>up b _ (I.base.tups b xs q) (λ_ _ z=>by cases z),λb o u q=>?_,λb ps q=>?_⟩,I.loc,I.cell,?_,λx c q=>?_,λp q=>?_,λb u q=>?_,I.len⟩
 .rw[aG (D b (I.base.free b o q n x))];exact I.base.free b o q n x
 .have J:b≠d:=λz=>by rw[z]at q;exact h0 _ _ q
  rw[aG J];exact I.base.frzs b o u q
 .obtain⟨more,L⟩:=I.base.tbls b ps q;exact⟨more,up b _ L (λ_ _ z=>by cases z)⟩
 .rw[aG (D _ I.free)];exact I.free
 .rw[aG (D _ (I.freeC x c q))];exact I.freeC x c q
 .obtain⟨L,n,M,N,U⟩:=I.pin p q;exact⟨L,by rw[aG (D _ n)];exact n,M,N,U⟩
 .by_cases J:b=d
  .subst J;rw[aB]at q;cases q;exact hok
  .rw[aG J]at q;exact(I.hok b u q).stay (λ_ _ _ z=>z) (λc z=>up c _ z λ_ _ z=>by cases z) λc xs z=>up c _ z λ_ _ z=>by cases z
def aCO (t:TE):TE:=fun σ H Q=>∃ d kvs,H d=some (.dK kvs)/\t σ H λv H'=>∃ od,H' d=some (.frz od (.dK kvs))/\Q v (upd H' d (.dK kvs))
def qY {X:Cx} {e:Expr} {t:TE} (h:PE X e t):PE X e (aCO t):=by
 intro pins s σ H Q I q;obtain⟨d,kvs,hd,q⟩:=q;have h0:∀ o u,X.H₀ d≠some (.frz o u):=λo u z=>by
  have:=I.base.frzs d o u z;rw[hd]at this;cases this
 exact thn (h pins s σ H _ I q) λu N ⟨v,H1,D,J,od,L,M⟩=>⟨v,_,D.thaw L h0,J,M⟩
open PySem.W
def xF {P:Program} {w:World} {ks:List Int} {vs:List Value} (z:vs.length=ks.length) (h:∀ (j:Nat) (v:Value),vs[j]?=some v->∃ k,ks[j]?=some k/\(bB P w).is (Sum.inl k) v=true):IntsAre vs ks:=by
 induction vs generalizing ks with
 | nil=>cases ks with
  | nil=>exact .nil
  | cons _ _=>cases z
 | cons v r I=>cases ks with
  | nil=>cases z
  | cons k ks =>
   obtain⟨J,h1,h2⟩:=h 0 v rfl;cases h1;rw[rO]at h2;rcases bV h2 with ⟨i,t,e1,D⟩ | ⟨x,t,e1,D⟩
   .cases e1;subst D;exact .cons _ _ (I (by simpa using z) λj v e=>h (j+1) v e)
   .cases e1
def zT (kvs:List (Key×V)) (ks:List Int):Prop:=kvs.map Prod.fst=ks.map Sum.inl
section
variable {X:Cx}
def nU (hc:X.calm=true):fJ X (.builtin "sorted") (λxs H Q=>∃ (a:Addr) (kvs:List (Key×V)) (ks:List Int),xs=[.ref a]/\H a=some (.dK kvs)/\zT kvs ks/\ks.length<64 /\
 ∀ (l:Addr) (ms:List Int),H l=none->ms.Perm ks->ms.Pairwise (·<=·)->Q (.ref l) (upd H l (.lst (ms.map V.int)))):=by
 intro pins s σ H xs us Q I r h;obtain⟨a,kvs,ks,rfl,ha,hk,au,q⟩:=h;obtain⟨u,rfl,rx⟩:=gK r;cases rx;obtain⟨z,N,vs,M,dd⟩:=nQ I.hok ha;obtain⟨ep,ap⟩:=id dd.dictAt;have hlen:vs.length=ks.length:=by
  have e1:=M.length;have e2:=congrArg List.length hk;simp at e2;omega
 have U:vs.length<=sizeLine:=Nat.le_trans (show vs.length<=64 by omega) (by decide);refine Calls.call_function_entry kind_sorted plain_sorted entry_sorted (args_sorted1 _) ?_;unfold Builtin.«sorted»;refine aDE (m:=checkCount "sorted" 1 1 _) (aDF ?_);refine aDE (kdu_collect (A:=X.A.in1) (kdl_dict (knd:=bB X.prog X.w) (kvs:=vs) (ep:=ep) N) (I.ok.hd hc) ap U λh' tk D aq J=>?_);have hl:D.toList.length=vs.length:=by rw[Array.length_toList];exact J.1
 have hI:IntsAre D.toList ks:=xF (P:=X.prog) (w:=X.w) (by omega) λj v e=>by
  obtain⟨k,x,h1,h2⟩:=J.2 j v (by rw[<- Array.getElem?_toList];exact e);have hj:j<vs.length:=(aDh.mp h1).1;have h3:(kvs.map Prod.fst)[j]?=some k:=by
   have Y:j<kvs.length:=by rw[M.length];exact hj
   obtain⟨u,e1,e2⟩:=O2 M (i:=j) (k:=(kvs[j]).1) (x:=(kvs[j]).2) (aDQ Y);rw[h1]at e1;cases e1;simp[Y]
  rw[hk,aD4]at h3;obtain⟨n,h4,h5⟩:=aDg.mp h3;subst h5;exact⟨n,h4,h2⟩
 refine aDE (wpAny_newList ?_ (by omega));have e0:(h'.push (seqObj "list" D.toList.toArray 0)).get? h'.objs.size=some (seqObj "list" D.toList.toArray 0):=aDN _ rfl;have kp:∀ b o,h'.get? b=some o->(h'.push (seqObj "list" D.toList.toArray 0)).get? b=some o:=λb o e=>aDH _ e;have I':=I.kept (t':=tk) aq;have al:h'.objs.size<(h'.push (seqObj "list" D.toList.toArray 0)).objs.size:=by rw[size_push'];exact Nat.lt_succ_self _
 have L:(h'.push (seqObj "list" D.toList.toArray 0)).objs.size=h'.objs.size+1:=size_push' ..;show wpAny _ _ _ _ _ { s with heap:=h'.push (seqObj "list" D.toList.toArray 0),toks:=tk };generalize h'.push (seqObj "list" D.toList.toArray 0)=h2 at e0 kp al L;refine aDE (wpAny_holding (wpAny_call_entry slot_list_sort ⟨_,e0,rfl⟩ entry_list_sort (list_sort_tree (s:={ s with heap:=h2,toks:=tk }) e0 hI (by omega) λout am ar hp hs=>⟨_,rfl,?_⟩) (args_list_sort _)));obtain⟨n0,at0⟩:=sortedHeap_at (out:=out) e0;have hn:H h'.objs.size=none:=I'.hok.fresh (Nat.le_refl _);refine aDF ⟨_,rfl,.ref h'.objs.size,_,I'.laid (t':=tk) (o:=.lst (am.map V.int)) (λb o e=>?_) (Nat.le_refl _) ⟨?_,out.toList,n0,lL ar,at0⟩,rfl,q _ am hn hp hs⟩
 .have hb:=aDM e;have ao:b<h'.objs.size:=hb;exact(sortedHeap_old (aD3 ao) (by show b<h2.objs.size;rw[L];exact Nat.lt_succ_of_lt ao)).trans (kp b o e)
 .rw[aDG,hp.length_eq];exact Nat.le_trans (show ks.length<=64 by omega) (by decide)
end
end L2
namespace L2
open PySem PySem.Spec PyProof.Rows
def Itw (d:Addr) (od:Obj) (kvs:List (Key×V)):It :=
 ⟨λi H=>H d=some (.frz od (.dK kvs))/\i<kvs.length,λi H v H'=>H'=H/\∃ k,kvs[i]?=some (k,v),λi H=>H d=some (.frz od (.dK kvs))/\kvs.length<=i⟩
def zU {P:Program} {w:World} {K:PySem.W.Frag} {tg:Expr} (d it:Addr) (od:Obj) (kvs:List (Key×V)) (vs:List (Key×Value)) (ep:Nat) (rel:KV kvs vs) (hat:∀ h:Heap,h.get? d=some od->h.DictAt (bB P w) d vs ep) (hne:d≠it) :
 qM P w K tg (Itw d od kvs) [it] it (λi h=>h.IsValIter it d i vs.length ep) where
 mem:=by simp
 obj:=λi h st b hb=>by
  obtain⟨o,he,hc,hd⟩:=st;have z:b=it:=by simpa using hb
  subst z;exact⟨o,he,λv z=>by rw[hd]at z;cases z⟩
 keep:=λi h h' st k=>let ⟨o,he,r⟩:=st;⟨o,k it (by simp) _ he,r⟩
 item:=by
  intro X hP hw hK hc i pins s σ H E I hf st hg;subst hP hw hK;obtain⟨hd,hi⟩:=hg;obtain⟨⟨k,x⟩,hx⟩:∃ p,kvs[i]?=some p:=⟨kvs[i],by simp[hi]⟩;obtain⟨u,hu,ru⟩:=O2 rel hx;have hod:s.heap.get? d=some od:=(I.hok d _ hd).1;refine wpAny_pyNext_values_item st (hat _ hod) hu λh' st' sb=>?_;obtain⟨o,e,c,dd⟩:=id st';exact⟨u,rfl,uY (s:={ s with heap:=h' }) e c dd (by decide) ⟨x,H,I.turnedF (fp:=[it]) (t':=s.toks) (λb o hb e=>sb.extBut b o (λz=>hb (by simp[z])) e) hf,ru,⟨rfl,k,hx⟩,st',λb hb=>(hf b hb).1⟩⟩
 done:=by
  intro X hP hw hK hc i pins s σ H E I hf st hg;subst hP hw hK;obtain⟨hd,hi⟩:=hg;have hod:s.heap.get? d=some od:=(I.hok d _ hd).1;have hl:=rel.length;exact wpAny_pyNext_values_end (I.ok.hd hc) st (hat _ hod) (by simp;omega) λh' eb=>⟨rfl,I.turnedF (fp:=[it]) (t':=s.toks) (λb o hb e=>eb b o (λz=>hb (by simp[z])) e) hf⟩
 self:=λ_ _ _ _ _ st h=>wpAny_pyIter_valiter st h
def aAL (td:TE):TI:=fun σ H R=>td σ H λx H1=>∃ d kvs,x=.ref d/\H1 d=some (.dK kvs)/\∀ od,R (Itw d od kvs) (upd H1 d (.frz od (.dK kvs)))
def vP {X:Cx} {tg:Expr} {o:Expr} {td:TE} {apos pos:Pos} (ho:PE X o td) (L:attributeBase o "values" X.env (eval o X.env)=eval o X.env:=by rfl) (M:(apos.endLine == pos.line)=true:=by rfl) :
 PI X tg (.Call (.Attribute o "values" apos) [] [] pos) (aAL td):=by
 intro pins s σ H R I h;refine wpAny_Call_method0_late L M (thn (ho pins s σ H _ I h) λu D ⟨x,H1,I1,rx,d,kvs,ex,hd,q⟩=>?_);subst ex;obtain rfl:u=Value.ref d:=rx;obtain⟨z,Y,vs,al,dd⟩:=nQ I1.hok hd;obtain⟨ep,am⟩:=id dd.dictAt;obtain⟨od,N,I2⟩:=I1.freezeD hd;obtain⟨t1,t2,_⟩:=sM I1 (.inl ⟨kvs,.inl hd⟩);refine⟨"dict","dict.values",PySem.F.plainAttrs_dict,PySem.F.slot_dict_values,PySem.F.type_dict_values,t1,t2,Calls.callWith_builtin rfl (PySem.evalArgs_none ?_)⟩;refine call_meetsIn PySem.F.slot_dict_values dd.typeIs PySem.F.entry_dict_values (PySem.F.args_dict_values_1 _) (meets_dict_values (bB X.prog X.w) d Y) ⟨⟨vs,dd⟩,?_⟩;have hv:(D.heap.push { cls:=.type "dict_values",data:=.fields #[.ref d] }).IsValuesView D.heap.objs.size d:=⟨_,aDN _ rfl,rfl,rfl⟩;have h1:(D.heap.push { cls:=.type "dict_values",data:=.fields #[.ref d] }).get? d=some od:=aDH _ N;have J:∀ h:Heap,h.get? d=some od->h.DictAt (bB X.prog X.w) d vs ep:=λh e=>am.at λo q=>by rw[N]at q;cases q;exact e
 refine wpAny_pyIter_values hv (J _ h1) ?_;generalize ao:({ cls:=.type "dict_valueiterator",data:=.fields #[.ref d,.int 0 0,.int vs.length 0,.int ep 0] }:Obj)=ob;have kp:∀ b o,D.heap.get? b=some o->((D.heap.push { cls:=.type "dict_values",data:=.fields #[.ref d] }).push ob).get? b=some o:=λb o e=>aDH _ (aDH _ e);have hsz:(D.heap.push { cls:=.type "dict_values",data:=.fields #[.ref d] }).objs.size=D.heap.objs.size+1:=Heap.size_push ..;have I3:=I2.kept (t':=D.toks) kp;have U:D.heap.objs.size<=(D.heap.push { cls:=.type "dict_values",data:=.fields #[.ref d] }).objs.size:=by rw[hsz];exact Nat.le_succ _
 have ap:d≠(D.heap.push { cls:=.type "dict_values",data:=.fields #[.ref d] }).objs.size:=λz=>by
  have:=aDM N;rw[z]at this;exact absurd this (Nat.not_lt.mpr U)
 refine⟨_,[_],_,_,_,rfl,I3,zU d _ od kvs vs ep al J ap,?_,λb hb=>?_,q od⟩
 .rw[<- ao];exact⟨_,aDN _ rfl,rfl,rfl⟩
 .have z:b=(D.heap.push { cls:=.type "dict_values",data:=.fields #[.ref d] }).objs.size:=by simpa using hb
  rw[z];exact I2.fpOk U (I2.hok.fresh U)
def qD {d:Addr} {od:Obj} {kvs:List (Key×V)} {z:St} {g:TG} {tt:TT} {te:TE} {H:Hp} {Q:VK} (Pv:Nat->List V->Hp->Prop) (h0:Pv 0 [] H) (M:∀ i ys H,i<=kvs.length->Pv i ys H->H d=some (.frz od (.dK kvs))/\ys.length<sizeLine)
 (hs:∀ i k x ys H,kvs[i]?=some (k,x)->Pv i ys H->g x z H λI H2=>tt I H2 λb L=>if b=true then te I L λy N=>Pv (i+1) (ys++[y]) N else Pv (i+1) ys L) (hd:∀ ys H,Pv kvs.length ys H->∀ D,H D=none->Q (.ref D) (upd H D (.lst ys))) :
 nG (Itw d od kvs) z g tt te Q H:=by
 refine⟨λi m ys H=>m=kvs.length - i/\i<=kvs.length/\Pv i ys H,⟨kvs.length,by simp,Nat.zero_le _,h0⟩,?_⟩;rintro i m ys H ⟨rfl,hi,p⟩;obtain⟨q,hz⟩:=M i ys H hi p;refine⟨hz,?_⟩
 by_cases J:i<kvs.length
 .refine .inr ⟨⟨q,J⟩,Pv (i+1),λU H' Y=>⟨kvs.length - (i+1),by omega,rfl,J,Y⟩,λx H' y=>?_⟩;obtain⟨rfl,k,hx⟩:=y;exact hs i k x ys _ hx p
 .have e:i=kvs.length:=by omega
  subst e;exact .inl ⟨⟨q,Nat.le_refl _⟩,hd ys H p⟩
def zV (A:Around) (s:Shared) (a:Int) (t:Tok) (c:Int) (u:Tok) (prog:Program) (w:World) (E:Value->Shared->Prop) (Q:Value->Shared->Prop) (h:Q (.bool (decide (c<a))) s) :
 wpAny (model prog w) A (richCompare .Gt (.int a t) (.int c u)) Q E s :=
 (PyProof.Rows.gt_int h:wpAny (model prog w) A (compareOp .Gt (.int a t) (.int c u)) Q E s)
section
open PySem.SeqAt
open PySem.AutoSeq1 (wpAny_loadPart')
open PySem.MeetsSeq PySem.MeetsSeq2 PySem.MeetsSeq3
def aAM (l b:Addr) (p q:Int×Int) (k1 N m1 U:Tok) (n n2:Nat) (dd al:Option Addr) (sl am:Array (Option Value)) :
 Meets (Builtin.«tuple.__gt__» ⟨[.ref l,.ref b],[]⟩)
  (λ_ R s=>s.heap.get? l=some { cls:=.type "tuple",dict:=dd,data:=.seq #[.int p.1 k1,.int p.2 N] n,slots:=sl }/\s.heap.get? b=some { cls:=.type "tuple",dict:=al,data:=.seq #[.int q.1 m1,.int q.2 U] n2,slots:=am } /\
   R (.ok (.ret (.bool (plt q p)))) s) :=
 .of_wp λprog w A R s h=>by
  obtain⟨Y,g,d,tk,os⟩:=s;obtain⟨hl,hb,h⟩:=h;have f2:=AutoSeq1.sub_tuple_tuple
  wp_walk using wpAny_loadPart' hl,wpAny_loadPart' hb,wpAny_forIn_list _ (λrest b s'=>b.1=none/\s'=⟨Y,g,d,tk,os⟩/\(rest=[(Value.int p.1 k1,Value.int q.1 m1),(Value.int p.2 N,Value.int q.2 U)] \/
   (p.1=q.1/\rest=[(Value.int p.2 N,Value.int q.2 U)])\/(p.1=q.1/\p.2=q.2/\rest=[]))) _
  case turn =>
   rintro ⟨y,x⟩ rest b s' ⟨J,rfl,hc⟩;rcases hc with hz | ⟨e1,hz⟩ | ⟨_,_,hz⟩
   .injection hz with L I
    injection L with hy hx
    subst hy hx;obtain⟨e,he,D⟩:=HT.eqAt_int A.in1 ⟨Y,g,d,tk,os⟩ p.1 k1 q.1 m1;refine aDE (he prog w _ _ ?_);cases e with
    | true =>
     wp_walk
     exact⟨rfl,rfl,.inr (.inl ⟨D.mp rfl,I⟩)⟩
    | false =>
     have ao:p.1≠q.1:=λz=>absurd (D.mpr z) aDT;have M:=zV A.in1 ⟨Y,g,d,tk,os⟩ p.1 k1 q.1 m1 prog w;have ev:plt q p=decide (q.1<p.1):=by rw[Bool.eq_iff_iff,fU];simp;omega
     rw[ev]at h
     wp_walk using M
     exact⟨_,rfl,by simpa using h⟩
   .injection hz with L I
    injection L with hy hx
    subst hy hx;obtain⟨e,he,D⟩:=HT.eqAt_int A.in1 ⟨Y,g,d,tk,os⟩ p.2 N q.2 U;refine aDE (he prog w _ _ ?_);cases e with
    | true =>
     wp_walk
     exact⟨rfl,rfl,.inr (.inr ⟨e1,D.mp rfl,I⟩)⟩
    | false =>
     have ao:p.2≠q.2:=λz=>absurd (D.mpr z) aDT;have M:=zV A.in1 ⟨Y,g,d,tk,os⟩ p.2 N q.2 U prog w;have ev:plt q p=decide (q.2<p.2):=by rw[Bool.eq_iff_iff,fU];simp;omega
     rw[ev]at h
     wp_walk using M
     exact⟨_,rfl,by simpa using h⟩
   .cases hz
  case fin =>
   rintro ⟨b1,b2⟩ s' ⟨J,rfl,hc⟩;simp only at J;subst J;rcases hc with hz | ⟨_,hz⟩ | ⟨e1,e2,_⟩
   .cases hz
   .cases hz
   have ev:plt q p=false:=by rw[fV];omega
   rw[ev]at h
   wp_walk
   exact⟨_,rfl,by simpa[Builtin.Tuple.tupleCompareSizes]using h⟩
  case h=>exact⟨rfl,rfl,.inl rfl⟩
end
section
variable {prog:Program} {w:World} {A:Around} {E:Value->Shared->Prop} {s:Shared}
def a6 {x y:Value} {p q:Int×Int} {Q:Value->Shared->Prop} (Y:PairV s.heap x p) (hy:PairV s.heap y q) (hu:A.units<cLine) (h:Q (.bool (plt q p)) s):wpAny (model prog w) A (richCompare .Gt x y) Q E s:=by
 obtain⟨t,⟨cls,dd,data,sl⟩,n,k1,k2,rfl,M,N,hd⟩:=Y;obtain⟨t',⟨U,J,data2,L⟩,n2,m1,m2,rfl,z,D,I⟩:=hy;simp only at N hd D I;subst N hd D I;exact richCompare_meets_room (op:=.Gt) ⟨_,M,rfl⟩ ⟨_,z,rfl⟩ PySem.F.slot_tuple_gt PySem.F.entry_tuple_gt (PySem.F.args_tuple_gt_2 _ _) (aAM t t' p q k1 k2 m1 m2 n n2 dd J sl L)
  ⟨M,z,show Value.bool (plt q p)≠Value.notImplemented/\Q (.bool (plt q p)) s from ⟨(λx=>nomatch x),h⟩⟩ hu
end
def Top (ps:List (Int×Int)) (i:Nat) (j:Nat):Prop:=j<i/\∀ k,k<i->plt (ps.getD j (0,0)) (ps.getD k (0,0))=false
def Top.keep {ps:List (Int×Int)} {i j:Nat} (h:Top ps i j) (g:plt (ps.getD j (0,0)) (ps.getD i (0,0))=false):Top ps (i+1) j:=⟨Nat.lt_succ_of_lt h.1,λk z=>by
 by_cases e:k=i
 .rw[e];exact g
 .exact h.2 k (by omega)⟩
def Top.take {ps:List (Int×Int)} {i j:Nat} (h:Top ps i j) (g:plt (ps.getD j (0,0)) (ps.getD i (0,0))=true):Top ps (i+1) i:=⟨Nat.lt_succ_self i,λk z=>by
 by_cases e:k=i
 .rw[e,fV];omega
 .have h1:=h.2 k (by omega);rw[fV]at h1 ⊢;rw[fU]at g;omega⟩
abbrev aBS (v:Value) (c:Nat):Obj:={ cls:=.type "list",dict:=none,data:=.seq #[v,v] c,slots:=#[] }
section
variable {prog:Program} {w:World} {A:Around} {R:Result->Shared->Prop} {l it S:Addr} {its:List Value} {ps:List (Int×Int)}
def PairV.at {h h':Heap} {v:Value} {p:Int×Int} (x:PairV h v p) (k:∀ t o,v=.ref t->h.get? t=some o->o.cls=.type "tuple"->h'.get? t=some o):PairV h' v p:=by
 obtain⟨t,o,n,D,I,e,J,z,hd⟩:=x;exact⟨t,o,n,D,I,e,k t o e J z,z,hd⟩
def aAN (hh:A.handled=none) (hu:A.in1.units<cLine) (ao:l≠it) (J:it≠S) (ap:l≠S) :
 ∀ (k i:Nat) (s:Shared) (j:Nat) (c:Nat),its.length - i=k->i<=its.length->Top ps i j->s.heap.IsListIter it l i->s.heap.IsList l its.toArray->s.heap.get? S=some (aBS (its.getD j .none) c)->Paired (PairV s.heap) its ps ->
  (∀ h' tk j',(∀ x o,x≠it->x≠S->s.heap.get? x=some o->h'.get? x=some o)->Top ps its.length j'->R (.ok (.ret (its.getD j' .none))) { s with heap:=h',toks:=tk }) ->
  codeAny (model prog w) A (.builtin "max.loop" ⟨[.ref it,.none,.ref S],[]⟩) R s:=by
 have nm:(toString "max"++toString ".loop":String)="max.loop":=by decide
 intro k
 induction k with
 | zero =>
  intro i s j c hk hi ht st hl N hP hR;have e:i=its.length:=by omega
  refine codeAny_builtin PySem.F.entry_max_loop (by
   rw[aDS PySem.F.plain_max_loop _];show wpAny _ A.in1 (seqItems? (Value.ref S) >>= _) _ _ s;refine aDE (wpAny_seqItems N rfl ?_);show wpAny _ A.in1 (tryCatch (pyNext (Value.ref it)) _ >>= _) _ _ s;refine aDE (wpAny_tryCatch (wpAny_pyNext_list_end hh st hl (by simp;omega) λh' eb=>?_));have D:=eb S _ (Ne.symm J) N;show wpAny _ A.in1 (updateSeq S (λ_=>#[]) >>= _) _ _ { s with heap:=h' };refine aDE (wpAny_updateSeq D rfl (aDE (wpAny_letGo (aDF ?_))));exact hR (h'.update S (Obj.mapSeq λ_=>#[])) s.toks j (λx o h1 h2 e=>(aDL _ _ (Ne.symm h2)).trans (eb x o h1 e)) (e ▸ ht))
 | succ k ih =>
  intro i s j c hk hi ht st hl N hP hR;have I:i<its.length:=by omega
  have aq:j<its.length:=Nat.lt_trans ht.1 I;have hx:its[i]?=some (its.getD i .none):=by simp[List.getD_eq_getElem?_getD,I]
  refine codeAny_builtin PySem.F.entry_max_loop (by
   rw[aDS PySem.F.plain_max_loop _];show wpAny _ A.in1 (seqItems? (Value.ref S) >>= _) _ _ s;refine aDE (wpAny_seqItems N rfl ?_);show wpAny _ A.in1 (tryCatch (pyNext (Value.ref it)) _ >>= _) _ _ s;refine aDE (wpAny_tryCatch (wpAny_pyNext_list_item st hl (x:=its.getD i .none) (by simpa using hx) λh' Y U=>?_));have D:=U.extBut S _ (Ne.symm J) N;have al:=hl.extBut U.extBut ao;have am:∀ t o,s.heap.get? t=some o->o.cls=.type "tuple"->t≠it:=λt o e c z=>by
    obtain⟨o',e',c',_⟩:=st;rw[z,e']at e;cases e;rw[c']at c;exact absurd c (by simp)
   have ar:∀ t o,s.heap.get? t=some o->o.cls=.type "tuple"->t≠S:=λt o e c z=>by
    rw[z,N]at e;cases e;exact absurd c (by simp)
   have L:Paired (PairV h') its ps:=Paired.mapP hP λv p x=>x.at λt o _ e c=>U.extBut t o (am t o e c) e;have pi:PairV h' (its.getD i .none) (ps.getD i (0,0)):=dG L I;have pj:PairV h' (its.getD j .none) (ps.getD j (0,0)):=dG L aq;show wpAny _ A.in1 (tryCatch (holding [its.getD i .none,its.getD i .none] (richCompare .Gt (its.getD i .none) (its.getD j .none) >>= _)) _ >>= _) _ _ { s with heap:=h' };refine aDE (wpAny_tryCatch (wpAny_holding (aDE (a6 (s:={ s with heap:=h' }) pi pj hu ?_))));refine aDE (wpAny_holding (wpAny_truthy_bool (aDE (wpAny_letGo (aDF ?_)))));cases hb:plt (ps.getD j (0,0)) (ps.getD i (0,0))with
   | true =>
    simp only[if_true];refine aDE (wpAny_updateSeq D rfl (aDE (wpAny_letGo ?_)));rw[nm];obtain⟨c',e1⟩:∃ c',(h'.update S (Obj.mapSeq λ_=>#[its.getD i .none,its.getD i .none])).get? S=some (aBS (its.getD i .none) c'):=⟨_,aDY _ D rfl⟩;refine aDF ⟨plainId_quiet PySem.F.plain_max_loop _,ih (i+1) { s with heap:=h'.update S (Obj.mapSeq λ_=>#[its.getD i .none,its.getD i .none]) } i _ (by omega) I (ht.take hb) (Y.at λo e=>(aDL _ _ (Ne.symm J)).trans e) (al.at λo e=>(aDL _ _ (Ne.symm ap)).trans e) e1 (Paired.mapP hP λv p x=>x.at λt o _ e c=>(aDL _ _ (Ne.symm (ar t o e c))).trans (U.extBut t o (am t o e c) e)) λM tk t' kp=>?_⟩;exact hR M tk t' (λx o h1 h2 e=>kp x o h1 h2 ((aDL _ _ (Ne.symm h2)).trans (U.extBut x o h1 e)))
   | false =>
    simp only[Bool.false_eq_true,if_false];refine aDE (wpAny_letGo ?_);rw[nm];refine aDF ⟨plainId_quiet PySem.F.plain_max_loop _,ih (i+1) { s with heap:=h' } j c (by omega) I (ht.keep hb) Y al D L λM tk t' kp=>?_⟩;exact hR M tk t' (λx o h1 h2 e=>kp x o h1 h2 (U.extBut x o h1 e)))
def a7 (hh:A.handled=none) (hu:A.in1.units<cLine) (I:l≠it) (D:it≠S) (J:l≠S) {s:Shared} {c:Nat} (h0:0<its.length) (st:s.heap.IsListIter it l 0) (hl:s.heap.IsList l its.toArray)
 (U:s.heap.get? S=some { cls:=.type "list",dict:=none,data:=.seq #[] c,slots:=#[] }) (hP:Paired (PairV s.heap) its ps)
 (hR:∀ h' tk j',(∀ x o,x≠it->x≠S->s.heap.get? x=some o->h'.get? x=some o)->Top ps its.length j'->R (.ok (.ret (its.getD j' .none))) { s with heap:=h',toks:=tk }) :
 codeAny (model prog w) A (.builtin "max.loop" ⟨[.ref it,.none,.ref S],[]⟩) R s:=by
 have nm:(toString "max"++toString ".loop":String)="max.loop":=by decide
 have hx:its[0]?=some (its.getD 0 .none):=by simp[List.getD_eq_getElem?_getD,h0]
 refine codeAny_builtin PySem.F.entry_max_loop (by
  rw[aDS PySem.F.plain_max_loop _];show wpAny _ A.in1 (seqItems? (Value.ref S) >>= _) _ _ s;refine aDE (wpAny_seqItems U rfl ?_);show wpAny _ A.in1 (tryCatch (pyNext (Value.ref it)) _ >>= _) _ _ s;refine aDE (wpAny_tryCatch (wpAny_pyNext_list_item st hl (x:=its.getD 0 .none) (by simpa using hx) λh' Y M=>?_));have L:=M.extBut S _ (Ne.symm D) U;have al:=hl.extBut M.extBut I;have am:∀ t o,s.heap.get? t=some o->o.cls=.type "tuple"->t≠it:=λt o e c z=>by
   obtain⟨o',e',N,_⟩:=st;rw[z,e']at e;cases e;rw[N]at c;exact absurd c (by simp)
  have ao:∀ t o,s.heap.get? t=some o->o.cls=.type "tuple"->t≠S:=λt o e c z=>by
   rw[z,U]at e;cases e;exact absurd c (by simp)
  show wpAny _ A.in1 (updateSeq S (λ_=>#[its.getD 0 .none,its.getD 0 .none]) >>= _) _ _ { s with heap:=h' };refine aDE (wpAny_updateSeq L rfl ?_);rw[nm];obtain⟨N,e1⟩:∃ N,(h'.update S (Obj.mapSeq λ_=>#[its.getD 0 .none,its.getD 0 .none])).get? S=some (aBS (its.getD 0 .none) N):=⟨_,aDY _ L rfl⟩;have t1:Top ps 1 0:=⟨by decide,λk hk=>by
   have e:k=0:=by omega
   rw[e,fV];omega⟩
  refine aDF ⟨plainId_quiet PySem.F.plain_max_loop _,aAN (ps:=ps) (its:=its) hh hu I D J _ 1 { s with heap:=h'.update S (Obj.mapSeq λ_=>#[its.getD 0 .none,its.getD 0 .none]) } 0 _ rfl h0 t1 (Y.at λo e=>(aDL _ _ (Ne.symm D)).trans e) (al.at λo e=>(aDL _ _ (Ne.symm J)).trans e) e1 (Paired.mapP hP λv p x=>x.at λt o _ e c=>(aDL _ _ (Ne.symm (ao t o e c))).trans (M.extBut t o (am t o e c) e)) λap tk t' kp=>?_⟩;exact hR ap tk t' (λx o h1 h2 e=>kp x o h1 h2 ((aDL _ _ (Ne.symm h2)).trans (M.extBut x o h1 e))))
def T5 (a:Value):argsOk "max" ⟨[a],[]⟩:=by unfold argsOk;kernel_rfl
def J0 {E:Value->Shared->Prop} {s:Shared} {Q:Value->Shared->Prop} (hh:A.handled=none) (hu:A.in1.in1.units<cLine) (hl:s.heap.IsList l its.toArray) (h0:0<its.length) (hP:Paired (PairV s.heap) its ps)
 (h:∀ h' tk j,(∀ x o,s.heap.get? x=some o->h'.get? x=some o)->Top ps its.length j->Q (its.getD j .none) { s with heap:=h',toks:=tk }):wpAny (model prog w) A (call (.builtin "max") [.ref l]) Q E s:=by
 have nm:(toString "max"++toString ".loop":String)="max.loop":=by decide
 refine kmk_tree PySem.F.kind_max PySem.F.plain_max PySem.F.entry_max (T5 _) (by
  show wpAny _ A.in1 (Builtin.Builtins.bindParams "max" ["key","default"] 0 ⟨[],[]⟩ >>= _) _ _ s;refine aDE (wpAny_of_eq (show Builtin.Builtins.bindParams "max" ["key","default"] 0 ⟨[],[]⟩=pure [none,none] from rfl) (aDE (aDF ?_)));refine aDE (wpAny_pyIter_list hl ?_);refine aDE (wpAny_newObj_type ?_);rw[nm];have hlt:l<s.heap.objs.size:=by obtain⟨_,e,_⟩:=hl;exact aDM e
  refine aDF ⟨plainId_quiet PySem.F.plain_max_loop _,a7 (l:=l) (it:=s.heap.objs.size) (its:=its) (ps:=ps) hh (by first | exact hu | (simp at hu ⊢;omega)) (aD3 hlt) (by rw[Heap.size_push];exact aD3 (Nat.lt_succ_self _)) (by rw[Heap.size_push];exact aD3 (Nat.lt_succ_of_lt hlt)) h0 ⟨_,aDH _ (aDN _ rfl),rfl,rfl⟩ ((hl.push _).push _) (aDN _ rfl) (Paired.mapP hP λv p x=>x.at λt o _ e _=>aDH _ (aDH _ e)) λh' tk j kp ht=>?_⟩;refine h h' tk j (λx o e=>?_) ht;have hx:=aDM e;exact kp x o (aD3 hx) (by rw[Heap.size_push];exact aD3 (Nat.lt_succ_of_lt hx)) (aDH _ (aDH _ e)))
end
section
variable {X:Cx} {pins:List (Addr×Obj)} {σ:St} {H:Hp} {s:Shared}
def a8 (I:Inv X pins σ H s):∀ {z:List V} {its:List Value} {ps:List (Int×Int)},Vals z its->CW.Prs H z ps->Paired (PairV s.heap) its ps:=by
 intro z
 induction z with
 | nil=>intro its ps r p;cases r;cases p;exact .nil
 | cons x xs J =>
  intro its ps r p;cases r with
  | cons r1 r2 =>
   cases p with
   | cons p1 p2 =>
    refine .cons ?_ (J r2 p2);obtain⟨t,e,L⟩:=p1;subst e;cases r1;obtain⟨_,its',D,o,M,N,n,hd⟩:=(show ObjOk X.prog X.w H s.heap t (.tup [.int _,.int _]) from I.hok t _ L);obtain⟨u1,u2,rfl,⟨U,rfl⟩,⟨Y,rfl⟩⟩:=D.two;exact⟨t,o,n,U,Y,rfl,M,N,hd⟩
def T6 (Y:X.calm=true) (hu:X.A.units+64<cLine):fJ X (.builtin "max") (λxs H Q=>∃ (a:Addr) (us:List V) (ps:List (Int×Int)),xs=[.ref a]/\H a=some (.lst us)/\CW.Prs H us ps/\us≠[] /\
 ∀ j x,Top ps ps.length j->us[j]?=some x->Q x H):=by
 intro pins s σ H xs us Q I r h;obtain⟨a,z,ps,rfl,ha,N,D,q⟩:=h;obtain⟨u,rfl,rx⟩:=gK r;cases rx;obtain⟨its,J,pl,hz⟩:=I.list (SqL.of ha);have l1:z.length=ps.length:=Paired.length N;have L:z.length=its.length:=J.length;have h0:0<its.length:=by rw[<- L];exact List.length_pos_iff.mpr D
 refine J0 (I.ok.hd Y) (by simp only[Around.in1_units];omega) pl.isList h0 (a8 I J N) λh' tk j kp ht=>?_;have hj:j<z.length:=by rw[L];exact ht.1
 have U:z[j]?=some z[j]:=aDQ hj;obtain⟨v,hv,M⟩:=J.get U;refine⟨z[j],H,I.kept kp,?_,q j z[j] (by rw[<- l1,L];exact ht) U⟩;rw[List.getD_eq_getElem?_getD,hv];exact M
end
def T7 {X:Cx} {a:Expr} {ta:TE} (z:PE X a ta) (he:∀ whole,isTrue a X.env whole=(do let v <- whole;standAt a.pos;holding [v] (truthy v))) :
 PT X a (fun σ H Q=>ta σ H λx H'=>∃ d kvs,x=.ref d/\H' d=some (.dK kvs)/\Q (!kvs.isEmpty) H'):=by
 intro pins s σ H Q I h;refine isTrue_plain (thn (z pins s σ H _ I h) λv M ⟨x,H1,D,r1,d,kvs,ex,hd,J⟩=>?_) (he _);subst ex;obtain rfl:v=Value.ref d:=r1;exact aAI D (.inl hd) λs' L=>⟨H1,L,J⟩
def vQ:bootBuiltins "abs"=some (.builtin "abs"):=by decide +kernel
def vR {X:Cx}:fJ X (.builtin "abs") (λxs H Q=>∃ i:Int,xs=[.int i]/\Q (.int (if i<0 then -i else i)) H):=by
 intro pins s σ H xs us Q I r h;obtain⟨i,rfl,q⟩:=h;obtain⟨u,rfl,z⟩:=gK r;obtain⟨t,rfl⟩:=z;exact call_abs_int λu tk=>⟨.int (if i<0 then -i else i),H,I.tok _,⟨u,rfl⟩,q⟩
def DK {z:Type}:Sem z->Prop
 | .pure _=>True
 | .raise _=>True
 | .unsupported _=>True
 | .finish _=>True
 | .rule _ k=>∀ u,DK (k u)
 | .at _ k=>∀ u,DK (k u)
 | .load _ _ k=>∀ o,DK (k o)
 | .update _ _ f k=>(∀ o,(f o).dict=o.dict/\(f o).cls=o.cls/\(o.isFreed=false->(f o).isFreed=false))/\∀ u,DK (k u)
 | .alloc _ k=>∀ a,DK (k a)
 | .loadIfAlive _ k=>∀ o,DK (k o)
 | .point _ k=>∀ u,DK (k u)
 | .register _ _=>True
 | .fresh k=>∀ t,DK (k t)
 | .ask k=>∀ x,DK (k x)
 | .choose _ _ k=>∀ n,DK (k n)
 | .os _ _ _=>False
 | .call _ _ _ _ _=>False
 | .handled _ k=>∀ h,DK (k h)
 | .newGen _ _=>False
 | .genState _ k=>∀ g,DK (k g)
 | .resume _ _ _ _=>False
 | .yield _ _ _ _=>False
 | .stack k=>∀ l,DK (k l)
 | .fork _ _=>False
 | .thread k=>∀ n,DK (k n)
 | .await _ _ _ _ _=>False
def DK.bind {J L:Type} {f:J->Sem L}:∀ {t:Sem J},DK t->(∀ a,DK (f a))->DK (t.bind f):=by
 intro t
 induction t with
 | pure a=>intro _ D;exact D a
 | raise e=>intro _ _;trivial
 | unsupported w=>intro _ _;trivial
 | finish e=>intro _ _;trivial
 | rule M k z=>intro h D u;exact z u (h u) D
 | «at» pos k z=>intro h D u;exact z u (h u) D
 | load a part k z=>intro h D o;exact z o (h o) D
 | update a part g k z=>intro h D;exact⟨h.1,λu=>z u (h.2 u) D⟩
 | alloc o k z=>intro h D a;exact z a (h a) D
 | loadIfAlive a k z=>intro h D o;exact z o (h o) D
 | point live k z=>intro h D u;exact z u (h u) D
 | register a k z=>intro _ _;trivial
 | fresh k z=>intro h D t;exact z t (h t) D
 | ask k z=>intro h D x;exact z x (h x) D
 | choose N n k z=>intro h D x;exact z x (h x) D
 | os U live k z=>intro h _;exact h.elim
 | call c hd Y live k z=>intro h _;exact h.elim
 | handled own k z=>intro h D x;exact z x (h x) D
 | newGen c k z=>intro h _;exact h.elim
 | genState g k z=>intro h D x;exact z x (h x) D
 | resume g r live k z=>intro h _;exact h.elim
 | yield v Y live k z=>intro h _;exact h.elim
 | stack k z=>intro h D x;exact z x (h x) D
 | fork c k z=>intro h _;exact h.elim
 | thread k z=>intro h D x;exact z x (h x) D
 | await a take I live k z=>intro h _;exact h.elim
def HD (h0 h:Heap):Prop:=∀ b o,h0.get? b=some o->∃ o',h.get? b=some o'/\o'.dict=o.dict/\o'.cls=o.cls
def HD.trans {a b c:Heap} (x:HD a b) (y:HD b c):HD a c:=λd o e=>by
 obtain⟨z,e1,D,c1⟩:=x d o e;obtain⟨I,J,L,c2⟩:=y d z e1;exact⟨I,J,L.trans D,c2.trans c1⟩
def J1 {h:Heap} {a:Addr} {o:Obj} (e:h.get? a=some o):o.isFreed=false:=(Heap.get?_some_iff.mp e).2
def HD.update {h:Heap} {a:Addr} {f:Obj->Obj} (z:∀ o,(f o).dict=o.dict/\(f o).cls=o.cls/\(o.isFreed=false->(f o).isFreed=false)):HD h (h.update a f):=λb o e=>by
 by_cases q:b=a
 .subst q;exact⟨f o,aDY f e ((z o).2.2 (J1 e)),(z o).1,(z o).2.1⟩
 .exact⟨o,(Heap.get?_update_ne _ _ _ _ q).trans e,rfl,rfl⟩
def ObjOk.there {P:Program} {w:World} {H:Hp} {h:Heap} {a:Addr} {u:HO} (x:ObjOk P w H h a u):∃ o,h.get? a=some o:=by
 cases u with
 | lst xs=>obtain⟨_,_,_,_,e⟩:=x;exact⟨_,e⟩
 | tup xs=>obtain⟨_,_,_,o,e,_⟩:=x;exact⟨_,e⟩
 | dK kvs=>obtain⟨_,_,_,_,o,_,_,e,_⟩:=x;exact⟨_,e⟩
 | dT kvs=>obtain⟨_,_,_,_,o,_,_,e,_⟩:=x;exact⟨_,e⟩
 | set S n=>obtain⟨o,_,_,_,e,_⟩:=x;exact⟨_,e⟩
 | ins C dx fs=>obtain⟨_,_,_,e,_⟩:=x;exact⟨_,e⟩
 | own y=>exact x
 | xd fs=>obtain⟨_,⟨_,_,_,e,_⟩,_⟩:=x;exact⟨_,e⟩
 | rng lo hi=>obtain⟨_,_,_,e⟩:=x;exact⟨_,e⟩
 | frz z u=>obtain⟨e,_⟩:=x;exact⟨_,e⟩
 | tbl ps=>exact⟨_,show h.get? a=some _ from x⟩
 | met f y=>exact⟨_,show h.get? a=some _ from x⟩
 | ext D=>obtain⟨_,e,_⟩:=x;exact e
section
variable {X:Cx} {pins:List (Addr×Obj)} {σ:St} {H:Hp} {s:Shared} {E:XK}
structure Body (X:Cx):Prop where
 ex:X.ex=[]
 stk:X.stack=X.env :: X.outer
 fr:X.env.frame=some X.env.locals
def Body.mem (b:Body X) {c:Addr}:c∈frs X.stack↔c=X.env.locals\/c∈X.fs:=by
 rw[b.stk];unfold frs;rw[List.filterMap_cons,b.fr,aDi];rfl
end
section
variable {X:Cx}
def T8:fJ X (.builtin "len") (λxs H Q=>∃ (a:Addr) (kvs:List (Key×V)),xs=[.ref a]/\H a=some (.dK kvs)/\Q (.int kvs.length) H):=by
 intro pins s σ H xs us Q I r h;obtain⟨a,kvs,rfl,z,q⟩:=h;obtain⟨u,rfl,D⟩:=gK r;cases D;exact aCJ I (Rd.of z) λt s' J=>⟨.int _,H,J,⟨_,rfl⟩,q⟩
end
open PySem.MeetsSeq
end L2
namespace L2
open PySem PySem.W PySem.Spec PyProof.Rows
end L2
namespace L2
open PySem PySem.Spec PyProof.Rows
def T9 {d:Addr} {od:Obj} {kvs:List (Key×V)} {g:TG} {tb:TS} {D:oT} {σ:St} {H:Hp} (Pv:Nat->St->Hp->Prop) (h0:Pv 0 σ H) (M:∀ i σ H,i<=kvs.length->Pv i σ H->H d=some (.frz od (.dK kvs)))
 (hs:∀ i k x σ H t,kvs[i]?=some (k,x)->Pv i σ H->H t=none->g (.ref t) σ (upd H t (.tup [kV k,x])) λz H2=>tb { D with nx:=Pv (i+1),ct:=Pv (i+1),bk:=D.nx } z H2) (hd:∀ σ H,Pv kvs.length σ H->D.nx σ H) :
 ∃ W:Nat->Nat->St->Hp->Prop,(∃ m,W 0 m σ H)/\∀ i m σ H,W i m σ H ->
  ((Itd d od kvs).stop i H/\D.nx σ H)\/((Itd d od kvs).go i H/\∃ N:St->Hp->Prop,(∀ I H',N I H'->∃ L,L<m/\W (i+1) L I H')/\∀ x H',(Itd d od kvs).yld i H x H'->g x σ H' λz H2=>tb { D with nx:=N,ct:=N,bk:=D.nx } z H2):=by
 refine⟨λi m σ H=>m=kvs.length - i/\i<=kvs.length/\Pv i σ H,⟨kvs.length,by simp,Nat.zero_le _,h0⟩,?_⟩;rintro i m σ H ⟨rfl,hi,p⟩;have q:=M i σ H hi p
 by_cases J:i<kvs.length
 .refine .inr ⟨⟨q,J⟩,Pv (i+1),λI H' U=>⟨kvs.length - (i+1),by omega,rfl,J,U⟩,λx H' y=>?_⟩;obtain⟨t,k,v,rfl,Y,hx,rfl⟩:=y;exact hs i k v σ _ t hx p Y
 .have e:i=kvs.length:=by omega
  subst e;exact .inl ⟨⟨q,Nat.le_refl _⟩,hd σ H p⟩
section
variable {X:Cx}
def Its (x:Str):It:=⟨λi _=>i<x.cps.size,λi H v H'=>H'=H/\∃ c,x.cps[i]?=some c/\v=.str ⟨#[c]⟩,λi _=>x.cps.size<=i⟩
def a9 {P:Program} {w:World} {K:PySem.W.Frag} {tg:Expr} (x:Str) (t:Tok) (it:Addr):qM P w K tg (Its x) [it] it (λi h=>h.IsStrIter it "str_ascii_iterator" x t i) where
 mem:=by simp
 obj:=λi h st b hb=>by
  have e:b=it:=by simpa using hb
  subst e;obtain⟨o,e,c,d⟩:=st;exact⟨o,e,λv z=>by rw[d]at z;cases z⟩
 keep:=λi h h' st k=>let ⟨o,he,r⟩:=st;⟨o,k it (by simp) _ he,r⟩
 item:=by
  intro X hP hw hK hc i pins s σ H E I hf st hg;subst hP hw hK;obtain⟨c,hx⟩:∃ c,x.cps[i]?=some c:=⟨_,Array.getElem?_eq_getElem hg⟩;refine wpAny_pyNext_ascii_item st hx λh' st' sb=>?_;obtain⟨o,e,cc,d⟩:=id st';exact⟨_,rfl,uY (s:={ s with heap:=h',toks:=s.toks+1 }) e cc d (by decide) ⟨.str ⟨#[c]⟩,H,I.turnedF (fp:=[it]) (t':=s.toks+1) (λb o hb e=>sb.extBut b o (λz=>hb (by simp[z])) e) hf,⟨_,rfl⟩,⟨rfl,c,hx,rfl⟩,st',λb hb=>(hf b hb).1⟩⟩
 done:=by
  intro X hP hw hK hc i pins s σ H E I hf st hg;subst hP hw hK;exact wpAny_pyNext_ascii_end (I.ok.hd hc) st (Array.getElem?_eq_none hg) λh' eb=>⟨rfl,I.turnedF (fp:=[it]) (t':=s.toks) (λb o hb e=>eb b o (λz=>hb (by simp[z])) e) hf⟩
 self:=λ_ _ _ _ _ st h=>wpAny_pyIter_striter_ascii st h
def aCz (td:TE):TI:=fun σ H R=>td σ H λx H1=>∃ z:Str,x=.str z/\z.cps.all (·<128)=true/\R (Its z) H1
def aBT {tg:Expr} {o:Expr} {td:TE} (L:PE X o td):PI X tg o (aCz td):=by
 intro pins s σ H R I h;refine thn (L pins s σ H _ I h) λu D ⟨x,H1,J,M,z,ex,N,q⟩=>?_;subst ex;obtain⟨t,rfl⟩:=M;refine wpAny_pyIter_ascii N ?_;refine⟨D.heap.objs.size,[D.heap.objs.size],_,_,H1,rfl,J.kept (t':=D.toks) λb o e=>aDH _ e,a9 z t _,⟨_,aDN _ rfl,rfl,rfl⟩,λb U=>?_,q⟩;have e:b=D.heap.objs.size:=by simpa using U
 subst e;exact J.fpOk (Nat.le_refl _) (J.hok.fresh (Nat.le_refl _))
def b4 {z:Str} {I:St} {g:TG} {tt:TT} {te:TE} {H:Hp} {Q:VK} (Pv:Nat->List V->Hp->Prop) (h0:Pv 0 [] H) (N:∀ i ys H,i<=z.cps.size->Pv i ys H->ys.length<sizeLine)
 (hs:∀ i c ys H,z.cps[i]?=some c->Pv i ys H->g (.str ⟨#[c]⟩) I H λJ H2=>tt J H2 λb M=>if b=true then te J M λy U=>Pv (i+1) (ys++[y]) U else Pv (i+1) ys M) (hd:∀ ys H,Pv z.cps.size ys H->∀ D,H D=none->Q (.ref D) (upd H D (.lst ys))) :
 nG (Its z) I g tt te Q H:=by
 refine⟨λi m ys H=>m=z.cps.size - i/\i<=z.cps.size/\Pv i ys H,⟨z.cps.size,by simp,Nat.zero_le _,h0⟩,?_⟩;rintro i m ys H ⟨rfl,hi,p⟩;refine⟨N i ys H hi p,?_⟩
 by_cases L:i<z.cps.size
 .refine .inr ⟨L,Pv (i+1),λY H' p'=>⟨z.cps.size - (i+1),by omega,rfl,L,p'⟩,λx H' y=>?_⟩;obtain⟨e,c,hc,rfl⟩:=y;subst e;exact hs i c ys _ hc p
 .have e:i=z.cps.size:=by omega
  subst e;exact .inl ⟨Nat.le_refl _,hd ys H p⟩
end
open PySem.W
section
variable {X:Cx} {pos:Pos}
def pC:∀ {xs:List V} {us:List Value} (n:Nat),Vals xs us->Vals (xs.take n) (us.take n)
 | _,_,0,_=>by simp;exact .nil
 | _,_,_+1,.nil=>.nil
 | _,_,n+1,.cons r t=>.cons r (pC n t)
def lO:∀ {xs:List V} {us:List Value} (n:Nat),Vals xs us->Vals (xs.drop n) (us.drop n)
 | _,_,0,h=>h
 | _,_,_+1,.nil=>.nil
 | _,_,n+1,.cons _ t=>lO n t
def sN:∀ {a:List V} {b:List Value} {z:List V} {D:List Value},Vals a b->Vals z D->Vals (a++z) (b++D)
 | _,_,_,_,.nil,h=>h
 | _,_,_,_,.cons r t,h=>.cons r (sN t h)
def b5 {e:Expr} {es:List Expr} {t:TG} {u:TGs} {p:Pos} (h1:PG X e t) (h2:PGs X es u)
 (hs:(assignEach (.Starred e p :: es) X.env).map (·.2)=assign e X.env :: (assignEach es X.env).map (·.2):=by rfl):PGs X (.Starred e p :: es) (W1 t u):=by
 intro pins s σ H vs us Q I r h;obtain⟨v,M,e1,h⟩:=h;subst e1;cases r with
 | cons r1 r2 =>
  rw[hs];refine assignInOrder_cons (thn (h1 pins s σ H _ _ _ I r1 h) λ_ D ⟨z,H1,J,L⟩=>?_);exact h2 pins D z H1 _ _ Q J r2 L
end
end L2
namespace L2
open PySem PySem.Spec PyProof.Rows
structure GDict (P:Program) (w:World) (K:PySem.W.Frag) (d:Addr) (kvs:List (Key×Value)):Prop where
 nsys:(d == sysModules)=false
 obj:∃ es ep,K.lookup d=some ⟨.type "dict",none,.dict es ep,#[]⟩/\KeysOf (bB P w) es/\Pairs (bB P w) es.toList kvs/\(kvs.map (·.1)).Nodup
def GDict.of {P:Program} {w:World} {K:PySem.W.Frag} {h:Heap} {d:Addr} {kvs:List (Key×Value)} (g:GDict P w K d kvs) (x:K.In h):h.DictOf (bB P w) d kvs:=by
 obtain⟨es,ep,a,b,c,e⟩:=g.obj;exact⟨_,es,ep,x _ _ a,⟨rfl,rfl,rfl⟩,rfl,b,c,e⟩
def sO (x:Str) (t:Tok):pX (Sum.inr x) (.str x t)=true:=by
 show (x == x)=true;exact beq_self_eq_true x
abbrev sP (w:World) (p:Str×Tok×Addr):DictEntry:=⟨PyData.keyHash w.params p.1,.str p.1 p.2.1,.ref p.2.2⟩
def b6 {P:Program} {w:World} {K:PySem.W.Frag} {d:Addr} {ep:Nat} (l:List (Str×Tok×Addr)) (h:K.lookup d=some ⟨.type "dict",none,.dict (l.map (sP w)).toArray ep,#[]⟩) (hs:(d == sysModules)=false) (nd:(l.map (·.1)).Nodup):GDict P w K d (l.map λp=>(Sum.inr p.1,.ref p.2.2)):=by
 refine⟨hs,_,ep,h,λe he=>?_,?_,?_⟩
 .have D:e∈l.map (sP w):=by simpa using he
  obtain⟨p,_,rfl⟩:=aDk.mp D;exact⟨Sum.inr p.1,sO p.1 p.2.1,rfl⟩
 .rw[List.toList_toArray];clear h nd hs
  induction l with
  | nil=>exact .nil
  | cons p l I=>exact .cons (sO p.1 p.2.1) rfl I
 .rw[aDa];have e:(l.map ((·.1)∘λp:Str×Tok×Addr=>((Sum.inr p.1:Key),Value.ref p.2.2)))=(l.map (·.1)).map (Sum.inr:Str->Key):=by rw[aDa];rfl
  rw[e];exact nd.map (f:=(Sum.inr:Str->Key)) λa b h=>by intro z;exact h (Sum.inr.inj z)
section
variable {X:Cx} {i:Expr} {ty:TE} {p pos:Pos}
def aCP (kvs:List (Key×Value)) (ty:TE):TE:=fun σ H Q=>ty σ H λy H1=>∃ (x:Str) (t:Addr),y=.str x/\valueAt kvs (Sum.inr x)=some (.ref t)/\Q (.ref t) H1
def aAO {D:Str} {d:Addr} {kvs:List (Key×Value)} (g:GDict X.prog X.w X.K d kvs) (L:Gl X D) (M:X.mg D=some (.ref d)) (hi:PE X i ty) (hs:aBM i) (hdb:(D == ("__debug__":Str))=false:=by decide):PE X (.Subscript (.Name D p) i pos) (aCP kvs ty):=by
 intro pins s σ H Q I h;refine O1 PySem.F.slot_dict_getitem.lookup hs (mZ I L M (thn (hi pins s σ H _ I h) λiv s2 ⟨y,H2,z,N,x,t,U,ht,Y⟩=>?_) hdb);subst U;have J:=g.of z.kIn;refine⟨?_,wpAny_getItem_of (knd:=bB X.prog X.w) (k:=Sum.inr x) (nO (k:=Sum.inr x) N) J.mapOf ht ⟨.ref t,H2,z.tok _,rfl,Y⟩⟩;obtain⟨o,es,ep,e,ex,_⟩:=J;exact⟨o,e,ex.1⟩
end
end L2
namespace CW
open PySem L2
abbrev nT (n:Int):Str:=(toString n:Str)
abbrev jY (x:Str):List Nat:=x.cps.toList
def U0 (x:Str):(jY x).length=x.length:=Array.length_toList
abbrev dg (m:Nat):List Nat:=(Nat.toDigits 10 m).map Char.toNat
abbrev J3:Str:="abcdefghijklmnopqrstuvwxyz"
def U1 (x:Str):Prop:=x.cps.all (·<128)=true
def sQ (t z:Str) (most:Int):Bool:=decide (t≠"") && (decide ((t.length:Int)<=most) && (jY t).all λc=>decide (c∈jY z))
end CW
namespace L2
open PySem PySem.Spec PyProof.Rows
end L2
namespace CW
open PySem L2
def b7 {X:Cx} {x z:Str} {pos:Pos} (I:Gl X x) (D:∃ t,X.mg x=some (.str z t)) (hd:(x == ("__debug__":Str))=false:=by decide):PE X (.Name x pos) (tC (.str z)):=by
 obtain⟨t,D⟩:=D;exact fE I D ⟨t,rfl⟩ hd
def b8 {X:Cx} {x:Str} {z:Int} {pos:Pos} (I:Gl X x) (D:∃ t,X.mg x=some (.int z t)) (hd:(x == ("__debug__":Str))=false:=by decide):PE X (.Name x pos) (tC (.int z)):=by
 obtain⟨t,D⟩:=D;exact fE I D ⟨t,rfl⟩ hd
def b9 (x:Str):Option (Int×Int):=if x="shut" then some (1,0)else if x="walk" then some (1,2)else if x="put" then some (1,1)else if x="take" then some (1,1)else if x="mirror" then some (1,0)else if x="lay" then some (2,1)else if x="late" then some (1,3)else if x="strike" then some (1,1)else none
end CW
namespace L2
open PySem PySem.Spec PyProof.Rows
section
variable {X:Cx}
def aBU {i:Nat} {x:Str} {pos:Pos} {pins:List (Addr×Obj)} {s:Shared} {σ:St} {H:Hp} {v:V} {Q:Value->Shared->Prop} {E:Value->Shared->Prop} (I:Inv X pins σ H s) (L:X.N[i]?=some x) (M:Vis X.env.scope x) (e:σ[i]?=some (some v)) (h:∀ u,RelV v u->Q u s)
 (hd:(x == ("__debug__":Str))=false:=by decide) (D:(x == ("__classdict__":Str))=false:=by decide):wpAny (model X.prog X.w) X.A (eval (.Name x pos) X.env) Q E s:=by
 obtain⟨m,U,Y⟩:=I.loc;obtain⟨u,r,l⟩:=Y i x v L e M;rcases l with ⟨hk,hm⟩ | ⟨hk,c,J,z⟩
 .exact wpAny_Name (wpAny_loadName_local I.ok.kind hk U hm (h u r)) hd
 .rcases hk with hk | hk
  .exact wpAny_Name (wpAny_loadName_cell I.ok.kind hk J z (h u r)) hd
  .exact wpAny_Name (wpAny_loadName_free I.ok.kind hk J z (h u r) D) hd
end
section
variable {X:Cx} {pins:List (Addr×Obj)} {σ:St} {H H':Hp} {s:Shared} {h':Heap}
def Inv.many {t':Nat} (I:Inv X pins σ H s) (k:∀ b u,s.heap.get? b=some u->h'.get? b=some u) (ext:∀ b o,H b=some o->H' b=some o) (new:∀ b o,H' b=some o->H b=none->s.heap.objs.size<=b) (hok:∀ b o,H' b=some o->H b=none->ObjOk X.prog X.w H' h' b o)
 (z:∀ b o,H b=some o->ObjOk X.prog X.w H' h' b o):Inv X pins σ H' { s with heap:=h',toks:=t' }:=by
 refine I.un (H':=H') ⟨λb o e n _ _=>k b o e,λb o e n _ _=>⟨o.slots,k b o e⟩,λb o e n _=>?_,λb o e _=>⟨o,k b o e⟩,λb xs e=>ext b _ e,λb o u e=>ext b _ e,λb ps e=>⟨#[],by rw[ext b _ e];simp⟩⟩ (λb o e=>?_)
 .cases q:H' b with
  | none=>rfl
  | some o'=>exact absurd (aDM e) (Nat.not_lt.mpr (new b o' q n))
 .cases q:H b with
  | none=>exact hok b o e q
  | some o' =>
   have:=ext b o' q;rw[e]at this;cases this;exact z b o q
end
structure TsOk (h:Heap) (b0:Nat) (no:List Addr) (xs ys:Array Value) (Ts:List Addr):Prop where
 at_:∀ (j:Nat) (T:Addr),Ts[j]?=some T->∃ x y,xs[j]?=some x/\ys[j]?=some y/\IsPair h T x y
 new:∀ T∈Ts,b0<=T/\T∉no
 nd:Ts.Nodup
def TsOk.keep {h h':Heap} {z:Nat} {no:List Addr} {xs ys:Array Value} {D:List Addr} (t:TsOk h z no xs ys D) (k:∀ c o,c∉no->h.get? c=some o->h'.get? c=some o):TsOk h' z no xs ys D :=
 ⟨λj T e=>let ⟨x,y,h1,h2,h3⟩:=t.at_ j T e;⟨x,y,h1,h2,k T _ (t.new T (aDR e)).2 h3⟩,t.new,t.nd⟩
open PySem.W
structure ZS (h:Heap) (z TI TO i1 i2 l1 l2:Addr) (xs ys:Array Value) (a b:Value):Prop where
 hz:IsZip h z TI TO .none
 hTI:IsPair h TI (.ref i1) (.ref i2)
 hTO:IsPair h TO a b
 h1:h.IsListIter i1 l1 0
 h2:h.IsListIter i2 l2 0
 hl1:h.IsList l1 xs
 hl2:h.IsList l2 ys
def ZS.keep {h h':Heap} {z TI TO i1 i2 I J S:Addr} {xs ys:Array Value} {a b:Value} (q:ZS h z TI TO i1 i2 I J xs ys a b) (D:S≠z/\S≠TI/\S≠i1/\S≠i2/\S≠I/\S≠J) (L:S≠TO)
 (k:∀ c o,c≠S->h.get? c=some o->h'.get? c=some o):ZS h' z TI TO i1 i2 I J xs ys a b :=
 ⟨k _ _ D.1.symm q.hz,k _ _ D.2.1.symm q.hTI,k _ _ L.symm q.hTO,q.h1.at λo e=>k _ o D.2.2.1.symm e,q.h2.at λo e=>k _ o D.2.2.2.1.symm e,q.hl1.at λo e=>k _ o D.2.2.2.2.1.symm e,q.hl2.at λo e=>k _ o D.2.2.2.2.2.symm e⟩
def iT:List Addr->List V->List V->Addr->Option (V×V)
 | T :: z,x :: xs,y :: ys,b=>if b=T then some (x,y)else iT z xs ys b
 | _,_,_,_=>none
def lP:∀ {z:List Addr} {xs ys:List V} {b:Addr} {p:V×V},iT z xs ys b=some p->b∈z/\∃ j:Nat,z[j]?=some b/\xs[j]?=some p.1/\ys[j]?=some p.2
 | [],_,_,_,_,h=>by simp[iT]at h
 | T :: z,[],_,_,_,h=>by simp[iT]at h
 | T :: z,x :: xs,[],_,_,h=>by simp[iT]at h
 | T :: z,x :: xs,y :: ys,b,p,h=>by
  unfold iT at h;split at h
  .rename_i e
   cases h;subst e;exact⟨aDI,0,rfl,rfl,rfl⟩
  .obtain⟨h1,j,h2,h3,h4⟩:=lP h;exact⟨aDJ _ h1,j+1,by simpa using h2,by simpa using h3,by simpa using h4⟩
def zW:∀ {z:List Addr} {xs ys:List V} {j:Nat} {T:Addr} {x y:V},z.Nodup->z[j]?=some T->xs[j]?=some x->ys[j]?=some y->iT z xs ys T=some (x,y)
 | [],_,_,_,_,_,_,_,h,_,_=>by simp at h
 | T0 :: z,[],_,_,_,_,_,_,_,h,_=>by simp at h
 | T0 :: z,D :: xs,[],_,_,_,_,_,_,_,h=>by simp at h
 | T0 :: z,D :: xs,I :: ys,0,T,x,y,_,h,h1,h2=>by
  simp at h h1 h2;subst h h1 h2;simp[iT]
 | T0 :: z,D :: xs,I :: ys,j+1,T,x,y,nd,h,h1,h2=>by
  rw[List.nodup_cons]at nd;simp only[List.getElem?_cons_succ]at h h1 h2;have:T≠T0:=λe=>nd.1 (by rw[<- e];exact aDR h);unfold iT;rw[if_neg this];exact zW nd.2 h h1 h2
def qE (H:Hp) (S:Addr) (z:List Addr) (xs ys:List V):Hp:=λb=>if b=S then some (.lst (z.map V.ref))else match iT z xs ys b with | some p=>some (.tup [p.1,p.2]) | none=>H b
def vS:∀ z:List Addr,Vals (z.map V.ref) (z.map Value.ref)
 | []=>.nil
 | T :: z=>.cons rfl (vS z)
def U2 {X:Cx} {pins:List (Addr×Obj)} {σ:St} {H:Hp} {s:Shared} (I:Inv X pins σ H s) {h2:Heap} {tk c:Nat} {S:Addr} {D:List Addr} {xs ys:List V}
 (J:∀ b o,s.heap.get? b=some o->h2.get? b=some o) (L:s.heap.objs.size<=S) (N:h2.get? S=some { cls:=.type "list",dict:=none,data:=.seq (D.map Value.ref).toArray c,slots:=#[] })
 (nT:∀ T∈D,S<T) (nd:D.Nodup) (hl:D.length=xs.length) (hl2:xs.length=ys.length) (hz:xs.length<=sizeLine)
 (at_:∀ (j:Nat) (T:Addr),D[j]?=some T->∃ x y u v,xs[j]?=some x/\ys[j]?=some y/\RelV x u/\RelV y v/\h2.get? T=some { cls:=.type "tuple",data:=.seq #[u,v] }) :
 ∃ H',Inv X pins σ H' { s with heap:=h2,toks:=tk }/\H S=none/\Same H H'/\H' S=some (.lst (D.map V.ref))/\∀ (j:Nat) (T:Addr),D[j]?=some T->∃ x y,xs[j]?=some x/\ys[j]?=some y/\H' T=some (.tup [x,y]):=by
 have nS:∀ c o,H c=some o->c≠S:=λc o e z=>by
  have lc:=(I.hok c o e).lt;rw[z]at lc;exact Nat.lt_irrefl _ (aDX lc L)
 have U:∀ c o,H c=some o->c∉D:=λc o e z=>Nat.lt_irrefl _ (Nat.lt_trans (aDX (I.hok c o e).lt L) (nT c z));have ext:∀ c o,H c=some o->qE H S D xs ys c=some o:=λc o e=>by
  unfold qE;rw[if_neg (nS c o e)];cases hz:iT D xs ys c with
  | none=>exact e
  | some p=>exact absurd (lP hz).1 (U c o e)
 have atT:∀ (j:Nat) T,D[j]?=some T->∃ x y,xs[j]?=some x/\ys[j]?=some y/\qE H S D xs ys T=some (.tup [x,y]):=λj T e=>by
  obtain⟨x,y,u,v,h1,h2,_⟩:=at_ j T e;refine⟨x,y,h1,h2,?_⟩;unfold qE;rw[if_neg (aD6 (nT T (aDR e))),zW nd e h1 h2]
 refine⟨qE H S D xs ys,I.many (h':=h2) (t':=tk) J ext (λc o e Y=>?_) (λc o e Y=>?_) (λc o e=>?_),I.hok.fresh L,ext,by unfold qE;rw[if_pos rfl],atT⟩
 .unfold qE at e;split at e
  .rename_i z;rw[z];exact L
  .cases hz:iT D xs ys c with
   | none=>rw[hz]at e;rw[Y]at e;cases e
   | some p=>exact Nat.le_trans L (Nat.le_of_lt (nT c (lP hz).1))
 .unfold qE at e;split at e
  .rename_i z
   cases e;rw[z];exact⟨by rw[aDG,hl];exact hz,D.map Value.ref,_,vS D,N⟩
  .cases hz:iT D xs ys c with
   | none=>rw[hz]at e;rw[Y]at e;cases e
   | some p =>
    rw[hz]at e;cases e;obtain⟨_,j,h1,M,h3⟩:=lP hz;obtain⟨x,y,u,v,e1,e2,ru,rv,hp⟩:=at_ j c h1;rw[e1]at M;rw[e2]at h3;cases M;cases h3;exact⟨by show 2<=sizeLine;decide,[u,v],.cons ru (.cons rv .nil),_,hp,rfl,_,rfl⟩
 .exact(I.hok c o e).stay (λc' u _ e=>J c' u e) (λc' e=>ext _ _ e) (λc' xs e=>ext _ _ e)
section
variable {X:Cx}
def J4 (td:TE):TE:=fun σ H Q=>td σ H λx H1=>∃ d kvs,x=.ref d/\H1 d=some (.dK kvs) /\
 ∀ (S:Addr) (z:List Addr) (H':Hp),H1 S=none->Same H1 H'->H' S=some (.lst (z.map V.ref))->z.length=kvs.length->(∀ (j:Nat) (T:Addr),z[j]?=some T->∃ k y,kvs[j]?=some (k,y)/\H' T=some (.tup [kV k,y]))->Q (.ref S) H'
def xG {o:Expr} {td:TE} {p apos D pos:Pos} (hc:X.calm=true) (hg:Gl X "list") (hm:X.mg "list"=none) (ho:PE X o td)
 (J:attributeBase o "items" X.env (eval o X.env)=eval o X.env:=by rfl) (L:(apos.endLine == D.line)=true:=by rfl) :
 PE X (.Call (.Name "list" p) [.Call (.Attribute o "items" apos) [] [] D] [] pos) (J4 td):=by
 intro pins s σ H Q I h;refine wpAny_Call_Name_kw (kB I hg hm gE ?_ (by decide) (by decide));refine PyProof.Rows.callWith_type1 ?_ rfl rfl;show wpAny _ _ (spliced ((false,eval (.Call (.Attribute o "items" apos) [] [] D) X.env) :: backTo pos (starEach [] X.env))) _ _ s;refine Calls.spliced_cons ?_;refine wpAny_Call_method0_late J L (thn (ho pins s σ H _ I h) λu M ⟨x,H1,I1,rx,d,kvs,ex,hd,q⟩=>?_);subst ex;obtain rfl:u=Value.ref d:=rx;obtain⟨z,N,vs,U,dd⟩:=nQ I1.hok hd;obtain⟨ep,al⟩:=id dd.dictAt;obtain⟨t1,t2,_⟩:=sM I1 (.inl ⟨kvs,.inl hd⟩);have rl:=U.length;refine⟨"dict","dict.items",PySem.F.plainAttrs_dict,PySem.F.slot_dict_items,PySem.F.type_dict_items,t1,t2,Calls.callWith_builtin rfl (PySem.evalArgs_none ?_)⟩;refine call_meetsIn PySem.F.slot_dict_items dd.typeIs PySem.F.entry_dict_items (PySem.F.args_dict_items_1 _) (meets_dict_items (bB X.prog X.w) d N) ⟨⟨vs,dd⟩,?_⟩;have hv:(M.heap.push { cls:=.type "dict_items",data:=.fields #[.ref d] }).IsItemsView M.heap.objs.size d:=⟨_,aDN _ rfl,rfl,rfl⟩;refine Calls.spliced_nil ?_;refine kdx_call (knd:=bB X.prog X.w) (kvs:=vs) (ep:=ep) (I1.ok.hd hc) hv (al.push _) (by omega) λh' tk am c as hk hS hl hG Y=>?_;have hsz:(M.heap.push { cls:=.type "dict_items",data:=.fields #[.ref d] }).objs.size=M.heap.objs.size+1:=Heap.size_push ..;have ea:am=(as.map Value.ref).toArray:=by rw[<- Y,Array.toArray_toList]
 rw[ea]at hS;obtain⟨H',I',hN,sm,eS,eT⟩:=U2 (tk:=tk) (xs:=kvs.map λp=>kV p.1) (ys:=kvs.map (·.2)) I1 (λb o e=>hk b o (aDH _ e)) (Nat.le_of_lt (by show M.heap.objs.size<(M.heap.push _).objs.size;rw[hsz];exact Nat.lt_succ_self _)) hS hG.above (hG.rise.imp λh=>aD3 h) (by rw[hl,aDG];omega) (by rw[aDG,aDG]) (by rw[aDG];exact z) λj T e=>by
  obtain⟨key,k,x,e1,e2,e3⟩:=hG.pairs j T e;have hj:j<kvs.length:=by have:=(aDh.mp e1).1;omega
  obtain⟨u,hu,ru⟩:=O2 U (aDQ hj);rw[e1]at hu;cases hu;exact⟨_,_,_,_,by rw[aD4,aDQ hj];rfl,by rw[aD4,aDQ hj];rfl,Z9 e2,ru,e3⟩
 refine⟨.ref _,H',I',rfl,q _ as H' hN sm eS (by omega) λj T e=>?_⟩;obtain⟨x,y,e1,e2,e3⟩:=eT j T e;rw[aD4,aDg]at e1 e2;obtain⟨p1,h1,rfl⟩:=e1;obtain⟨p2,h2,rfl⟩:=e2;rw[h1]at h2;cases h2;exact⟨p1.1,p1.2,h1,e3⟩
end
end L2
namespace L2
open PySem PySem.Spec PyProof.Rows
def aCQ (H:Hp) (Q:VK) (xs:List V):Prop:=∀ (p:Addr) (H':Hp),Same H H'->H' p=some (.tup xs)->Q (.ref p) H'
section
variable {prog:Program} {w:World} {A:Around} {E:Value->Shared->Prop} {s:Shared}
def c6 {t b:Addr} {vs ws:List Value} {Q:Value->Shared->Prop} (ht:IsTup s.heap t vs.toArray) (Y:IsTup s.heap b ws.toArray) (hv:vs=[])
 (h1:Q (.ref b) s):wpAny (model prog w) A (binaryOp .Add (.ref t) (.ref b)) Q E s:=by
 obtain⟨⟨cls,dd,data,sl⟩,M,N,n,hd⟩:=id ht;obtain⟨⟨U,J,data2,L⟩,z,D,n2,I⟩:=id Y;simp only at N hd D I;subst N hd D I;exact concat_meets ⟨_,M,rfl⟩ ⟨_,z,rfl⟩ noFill_tuple_add seq_tuple_add PySem.F.slot_tuple_add PySem.F.entry_tuple_add (PySem.F.args_tuple_add_2 _ _)
  (tuple_addW0 t b vs.toArray ws.toArray n n2 dd J sl L (by simp[hv])) ⟨M,z,h1⟩
def lY {t D:Addr} {items:Array Value} {M N:Value} {lo hi:Option Int} {Q:Value->Shared->Prop} (ht:IsTup s.heap t items) (hs:s.heap.IsSliceOf D M N .none) (pl:IsPart M lo) (U:IsPart N hi)
 (hw:HT.sIx items.size 0 lo=0/\HT.sIx items.size items.size hi=items.size) (h:Q (.ref t) s):wpAny (model prog w) A (getItem (.ref t) (.ref D)) Q E s:=by
 obtain⟨os,I,J,Y⟩:=id hs;have L:s.TypeIs (.ref D) "slice":=⟨os,I,J⟩;unfold getItem
 try with_reducible refine wpAny_holding ?_
 first | refine aDE (aDF ?_) | skip
 refine aDE (wpAny_sequenceKey ht.typeIs (by decide) ?_);refine aDE (wpAny_callSpecial?_slot (name:=Str.ofString "__getitem__") ht.typeIs PyProof.Rows.slot_tuple_getitem
  (wpAny_call_entry PyProof.Rows.slot_tuple_getitem ht.typeIs entry_tuple_getitem ?_ (args_tuple_getitem _ _)))
 show wpAny _ _ (Builtin.Tuple.tupleItemsOf (.ref t) >>= _) _ _ s;refine aDE (tupleItemsOf_ ht ?_);refine aDE (wpAny_typeOf L ?_);rw[if_pos (by decide)];refine aDE (HT.sliceApplied_gen hs pl U ?_);have z:(((HT.sIx items.size 0 lo:Nat):Int) == 0 && (1:Int) == 1 && (HT.sIx items.size items.size hi - HT.sIx items.size 0 lo) == items.size)=true:=by
  rw[hw.1,hw.2];simp
 show wpAny _ _ (if (((HT.sIx items.size 0 lo:Nat):Int) == 0 && (1:Int) == 1 && (HT.sIx items.size items.size hi - HT.sIx items.size 0 lo) == items.size)=true then _ else _) _ _ s;rw[if_pos z];unfold Builtin.Tuple.tupleIsExact;refine aDE (aDE (wpAny_typeOf ht.typeIs (aDF ?_)));rw[if_pos (by decide)];exact aDE (wpAny_rule (aDF ⟨_,rfl,aDF h⟩))
end
section
variable {X:Cx}
def aCR:R2:=λx y H Q=>∃ a b xs ys,x=.ref a/\y=.ref b/\H a=some (.tup xs)/\H b=some (.tup ys)/\xs.length+ys.length<=sizeLine/\aCQ H Q (xs++ys)
def lQ:OpR X (binaryOp .Add) aCR:=by
 intro pins s σ H x y v u Q I J L h;obtain⟨a,b,xs,ys,rfl,rfl,z,D,hz,q⟩:=h
 by_cases M:xs=[]
 .subst M;cases J;cases L;obtain⟨its,r1,p1,_⟩:=I.tuple (SqT.of z);obtain⟨N,r2,p2,_⟩:=I.tuple (SqT.of D);exact c6 p1 p2 (r1.nil_iff.mpr rfl) ⟨.ref b,H,I,rfl,q b H (Same.refl _) (by rw[List.nil_append];exact D)⟩
 .refine z9 pins s σ H _ _ v u Q I J L ⟨a,b,xs,ys,rfl,rfl,SqT.of z,SqT.of D,M,hz,λe=>?_,λ_ p U=>q p _ (Same.upd U) aB⟩;subst e;exact q a H (Same.refl _) (by rw[List.append_nil];exact z)
def aDA:V->Option Int->Option Int->Hp->VK->Prop:=λx lo hi H Q=>∃ a xs,x=.ref a/\H a=some (.tup xs)/\aCQ H Q (fS xs lo hi)
def qZ:SlR X aDA:=by
 intro pins s σ H x v L M lo hi N Q I D hs pl J h;obtain⟨a,xs,rfl,z,q⟩:=h
 by_cases hw:HT.sIx xs.length 0 lo=0/\HT.sIx xs.length xs.length hi=xs.length
 .cases D;obtain⟨its,r,ht,hz⟩:=I.tuple (SqT.of z);have hlen:its.toArray.size=xs.length:=by rw[aDO];exact r.length.symm
  refine⟨"tuple",_,PyProof.Rows.slot_tuple_getitem.lookup,ht.typeIs,?_⟩;refine lY ht hs pl J (by rw[hlen];exact hw) ⟨.ref a,H,I,rfl,q a H (Same.refl _) ?_⟩;unfold fS;rw[hw.1,hw.2,List.drop_zero,Nat.sub_zero,aDU];exact z
 .exact aAx pins s σ H _ v L M lo hi N Q I D hs pl J ⟨a,xs,rfl,SqT.of z,hw,λp U=>q p _ (Same.upd U) aB⟩
end
section
variable {prog:Program} {w:World} {A:Around} {E:Value->Shared->Prop} {s:Shared}
def c7 {l:Addr} {items:Array Value} {n i:Nat} {Q:List Value->Shared->Prop} (hl:IsTup s.heap l items) (hh:A.handled=none) (hi:i<n) (hn:n<=items.size+1) (hz:items.size<=16384)
 (h:∀ (h':Heap) (tk:Nat),(∀ b o,s.heap.get? b=some o->h'.get? b=some o)->Q (items.toList.take i++[.ref h'.objs.size]++(items.toList.drop i).drop (items.size+1 - n)) { s with heap:=h'.push (seqObj "list" ((items.toList.drop i).take (items.size+1 - n)).toArray 0),toks:=tk }):wpAny (model prog w) A (unpackItems (.ref l) n (some i)) Q E s:=by
 have U:l≠s.heap.objs.size:=by obtain⟨o,ho,_⟩:=hl;exact aD3 (aDM ho)
 unfold unpackItems;refine aDE ?_;unfold notIterableAtAll;refine aDE (wpAny_specialOf hl.typeIs slot_tuple_iter.lookup ?_);refine aDF ?_;simp only[Bool.false_eq_true,if_false];refine aDE (wpAny_holding (iter_tuple hl ?_));refine aDE (wpAny_holding (draw_tuple U i 0 _ _ ⟨_,aDN _ rfl,rfl,rfl⟩ (hl.push _) (by omega) λM z D=>?_));have I:IsTup M l items:=(hl.push _).extBut D.extBut U;rw[Nat.zero_add]at z;have J:=z;obtain⟨oi,am,_⟩:=J;have L:=I;obtain⟨ol,ao,_⟩:=L;rw[List.drop_zero];have ap:(items.toList.take i).length=i:=by rw[aDW,Array.length_toList];omega
 rw[if_neg (show ¬ ((items.toList.take i).length<i)by rw[ap];omega)];refine aDE (wpAny_holding (PySem.W.kun_collect (s:={ s with heap:=M }) (T:="tuple_iterator") (.inr (.inr (.inr rfl))) (Walks.tuple (A:=A.in1) hh s.heap.objs.size l U items) (λj u st=>st.1.typeIs) (k:=i) (by omega) ⟨z,I⟩ (aDM am) (aDM ao) (λN tk hk=>?_) (by rw[sizeLine_eq];omega)));have Y:(items.toList.drop i).length=items.size - i:=by rw[List.length_drop,Array.length_toList]
 have al:(items.toList.drop i).length - (n - 1 - i)=items.size+1 - n:=by rw[Y];omega
 show wpAny _ _ (if (items.toList.drop i).length<n - 1 - i then _ else _) _ _ _;rw[if_neg (by rw[Y];omega)];show wpAny _ _ (newList ((items.toList.drop i).take ((items.toList.drop i).length - (n - 1 - i))) >>= λd=>pure (items.toList.take i++[d]++(items.toList.drop i).drop ((items.toList.drop i).length - (n - 1 - i)))) _ _ _;rw[al];have he:∀ b o,s.heap.get? b=some o->N.get? b=some o:=λb o e=>hk b o (aD3 (aDM e)) (D.extBut b o (aD3 (aDM e)) (aDH _ e));exact aDE (wpAny_newList (aDF (h N tk he)) (by rw[aDW,Y,sizeLine_eq];omega))
end
section
variable {X:Cx} {pos:Pos}
def aBV (K:PySem.W.Frag) (n i:Nat) (t:TGs):TG:=λv σ H Q=>∃ a xs,v=.ref a/\SqT K H a xs/\i<n/\n<=xs.length+1/\xs.length<=16384/\∀ D,H D=none->t (xs.take i++[.ref D]++(xs.drop i).drop (xs.length+1 - n)) σ (upd H D (.lst ((xs.drop i).take (xs.length+1 - n)))) Q
def c8 {es:List Expr} {k:Nat} {t:TGs} {n i:Nat} (J:X.calm=true) (h:PGs X es t) (L:(assignEach es X.env).length=n:=by rfl) (hst:(assignEach es X.env).findIdx? (·.1)=some i:=by rfl):PG X (.Tuple es k pos) (aBV X.K n i t):=by
 intro pins s σ H v u Q I r hw;obtain⟨a,xs,e1,M,hi,hl,hz,hw⟩:=hw;subst e1;cases r;obtain⟨its,z,ht,N⟩:=I.tuple M;have U:=z.length;rw[assign_Tuple];refine aDE (wpAny_standAt ?_);unfold unpack;rw[L,hst];refine aDE (wpAny_holding (c7 ht (I.ok.hd J) hi (by rw[aDO];omega) (by rw[aDO];omega) λh' tk kp=>?_));have D:Inv X pins σ H { s with heap:=h',toks:=tk }:=I.kept kp;simp only[aDO,<- U];have Y:Inv X pins σ (upd H h'.objs.size (.lst ((xs.drop i).take (xs.length+1 - n)))) { s with heap:=h'.push (seqObj "list" ((its.drop i).take (xs.length+1 - n)).toArray 0),toks:=tk } :=
  D.laid (λb o e=>aDH _ e) (Nat.le_refl _) ⟨by rw[aDW,List.length_drop];omega,_,0,pC _ (lO _ z),aDN _ rfl⟩
 exact h pins _ σ _ _ _ Q Y (sN (sN (pC _ z) (.cons (show RelV (.ref h'.objs.size) (.ref h'.objs.size) from rfl) .nil)) (lO _ (lO _ z))) (hw _ (D.hok.fresh (Nat.le_refl _)))
end
def cK (P:Program) (w:World) (K:PySem.W.Frag) (mg:Str->Option Value) (base:Heap) (C:Addr) (m:Str) (k:Nat) (ps:List Str) (sp:Sp):Prop :=
 ∃ f fd,FnOk P w K mg base CX0 k f fd ps sp/\x6 K C m f/\Binds K fd ps []
def iU (P:Program) (w:World) (K:PySem.W.Frag) (mg:Str->Option Value) (base:Heap) (x:Str) (C:Addr) (k:Nat) (ps:List Str) (sp:Sp):Prop :=
 ∃ f fd,FnOk P w K mg base CX0 k f fd ps sp/\Mk K C f/\mg x=some (.ref C)/\Binds K fd ps []
def qF (P:Program) (w:World) (K:PySem.W.Frag) (mg:Str->Option Value) (base:Heap) (f:Addr) (k:Nat) (ps:List Str) (sp:Sp):Prop :=
 ∃ fd,FnOk P w K mg base CX0 k f fd ps sp/\PySem.W.keepIn K (.ref f)=true/\Binds K fd ps []
section
variable {X:Cx} {C:Addr} {x m:Str} {j k:Nat} {ps:List Str} {sp:Sp} {ta:TE} {t:TA} {o e:Expr} {es:List Expr} {p pos apos:Pos}
def cP {pl:Sem Bool} (M:cK X.prog X.w X.K X.mg X.base C m j ps sp) (c:Cls X.K C) (D:Room k X.A) (he:PE X o ta) (I:PA X (e :: es) t) (J:j<=k:=by decide)
 (hst:starEach (e :: es) X.env=(false,eval e X.env) :: starEach es X.env:=by rfl) (hpl:(backTo pos (starEach es X.env)).any (·.1)=false:=by rfl)
 (ht:eval (.Call (.Attribute o m apos) (e :: es) [] pos) X.env=(do
  let z <- eval o X.env
  standAt apos.atName
  let (f,first) <- holding [z] (getMethod z m pl)
  callWith pos f first (backTo pos (starEach (e :: es) X.env)) (backToKw pos (keywordEach [] X.env))):=by rfl) :
 PE X (.Call (.Attribute o m apos) (e :: es) [] pos) (aAc C m sp [] E0 ta t):=by
 obtain⟨f,fd,G,L,N⟩:=M;exact y8 (pl:=pl) (hst:=hst) (hpl:=hpl) (ht:=ht) he c L G (D.mono J) N .nil zB I
def mP (N:iU X.prog X.w X.K X.mg X.base x C j ps sp) (z:Room k X.A) (D:Gl X x) (I:PA X (e :: es) t) (J:j+1<=k:=by decide) (hdb:(x == ("__debug__":Str))=false:=by decide)
 (he:starEach (e :: es) X.env=(false,eval e X.env) :: starEach es X.env:=by rfl) (hpl:(backTo pos (starEach es X.env)).any (·.1)=false:=by rfl) :
 PE X (.Call (.Name x p) (e :: es) [] pos) (M8 C sp [] E0 t):=by
 obtain⟨f,fd,G,M,L,U⟩:=N;exact y9 (hdb:=hdb) (he:=he) (hpl:=hpl) M G (z.mono J) D L U .nil zB I
def aAP (N:iU X.prog X.w X.K X.mg X.base x C j ps sp) (z:Room k X.A) (D:Gl X x) (I:j+1<=k:=by decide) (hdb:(x == ("__debug__":Str))=false:=by decide) :
 PE X (.Call (.Name x p) [] [] pos) (M8 C sp [] E0 x9):=by
 obtain⟨f,fd,G,M,J,L⟩:=N;exact W9 (hdb:=hdb) M G (z.mono I) D J L .nil zB
def aBW (X:Cx) (j i:Nat) (t:TA):TE:=fun σ H Q=>∃ f ps sp,σ[i]?=some (some (.ref f))/\qF X.prog X.w X.K X.mg X.base f j ps sp/\t σ H λvs H1=>sp vs H1 Q E0
def c9 (i:Nat) (J:Room k X.A) (L:PA X (e :: es) t) (M:X.N[i]?=some x:=by rfl) (U:Vis X.env.scope x:=by first | exact Or.inl rfl | exact Or.inr (Or.inl rfl) | exact Or.inr (Or.inr rfl)) (hd:(x == ("__debug__":Str))=false:=by decide)
 (z:(x == ("__classdict__":Str))=false:=by decide) (he:starEach (e :: es) X.env=(false,eval e X.env) :: starEach es X.env:=by rfl) (hpl:(backTo pos (starEach es X.env)).any (·.1)=false:=by rfl) :
 PE X (.Call (.Name x p) (e :: es) [] pos) (aBW X k i t):=by
 intro pins s σ H Q I h;obtain⟨f,ps,sp,e1,⟨fd,G,Y,hb⟩,h⟩:=h;refine wpAny_Call_Name_kw (aBU I M U e1 (λu ru=>?_) hd z);obtain rfl:u=Value.ref f:=ru;refine PySem.W.callWith_K (h₀:=X.base) I.ok.mod.kin Y (thn (L pos pins s σ H _ I h) λus s1 ⟨vs,H1,D,r,q⟩=>⟨D.kIn,?_⟩) he hpl;exact F0 G J hb .nil zB D r (by rw[List.append_nil];exact q)
def aAQ {te:TE} {hd:ExceptHandler} {hs:List ExceptHandler} {ag:Pos} (L:∀ v s,¬ X.xe v s) (he:PE X e te) (J:swapsWith e none pos.line X.env=pure false:=by rfl):PS X (.Try [.Expr e pos] (hd :: hs) [] [] ag) (aA9 te):=by
 intro pins s σ H D I h;refine wpAny_Try_except (wpAny_execs_cons ?_);refine wpAny_Expr_any (wpAny_mono (he pins s σ H _ I h) (λu M z=>?_) λY M z=>(L _ _ z).elim) I.quiet J;obtain⟨v,H',N,rv,U⟩:=z;exact wpAny_execs_nil (wpAny_execs_nil ⟨σ,H',N,U⟩)
def sR:fJ X (.type "dict") (λxs H Q=>∃ a kvs,xs=[.ref a]/\H a=some (.dK kvs)/\∀ d,H d=none->Q (.ref d) (upd H d (.dK kvs))):=by
 intro pins s σ H xs us Q I r h;obtain⟨a,kvs,rfl,L,q⟩:=h;obtain⟨u,rfl,M⟩:=gK r;cases M;obtain⟨z,D,vs,J,N⟩:=nQ I.hok L;have hz:vs.length<=sizeLine:=by have:=J.length;omega
 refine kt_call_dict (knd:=bB X.prog X.w) D N hz λh' hd hs=>?_;have U:=I.hok.fresh (Nat.le_refl s.heap.objs.size);refine⟨.ref s.heap.objs.size,_,I.laid (h':=h') (t':=s.toks) (λb o e=>?_) (Nat.le_refl _) (xD z (beq_eq_false_iff_ne.mpr (Ne.symm (aD3 I.big))) J hd),rfl,q _ U⟩;exact hs.extBut b o (aD3 (aDM e)) (aDH _ e)
end
end L2
namespace CW
open PySem L2
def cD {D M:Type} {f:D->M}:∀ {l:List D},(l.map f).Nodup->∀ {x y:D},x∈l->y∈l->f x=f y->x=y
 | [],_,_,_,I,_,_=>by cases I
 | z :: r,h,x,y,I,L,e=>by
  rw[aD5,List.nodup_cons]at h;rcases aDi.mp I with ex | hx'
  .rcases aDi.mp L with J | hy'
   .rw[ex,J]
   .exact absurd (aDk.mpr ⟨y,hy',by rw[<- e,ex]⟩) h.1
  .rcases aDi.mp L with J | hy'
   .exact absurd (aDk.mpr ⟨x,hx',by rw[e,J]⟩) h.1
   .exact cD h.2 hx' hy' e
abbrev Grp:=Int×Addr×List Int
def kvG (gs:List Grp):List (Key×V):=gs.map λg=>((Sum.inl g.1:Key),V.ref g.2.1)
structure DG (H:Hp) (d:Addr) (gs:List Grp):Prop where
 at_:H d=some (.dK (kvG gs))
 lst:∀ g∈gs,H g.2.1=some (.lst (g.2.2.map V.int))
 adr:(gs.map (·.2.1)).Nodup
 key:(gs.map (·.1)).Nodup
def SameD (d:Addr) (H H':Hp):Prop:=∀ b o,b≠d->H b=some o->H' b=some o
def SameD.trans {d:Addr} {H H1 H2:Hp} (a:SameD d H H1) (b:SameD d H1 H2):SameD d H H2:=λc o n h=>b c o n (a c o n h)
def wgt (f:Int->Int) (gs:List Grp):Int:=(gs.map λg=>f g.1 * (g.2.2.length:Int)).sum
def tot (f:Int->Int) (ps:List (Int×Int)):Int:=(ps.map λp=>f p.1).sum
def eM (k:Int):∀ gs:List Grp,cW (kvG gs) (Sum.inl k:Key)=(gs.find? λg=>decide (g.1=k)).map λg=>V.ref g.2.1
 | []=>rfl
 | g :: r=>by
  by_cases h:g.1=k
  .have:cW (kvG (g :: r)) (Sum.inl k:Key)=some (V.ref g.2.1):=cO (p:=((Sum.inl g.1:Key),V.ref g.2.1)) (by rw[h]);rw[this,List.find?_cons,aD2 h];rfl
  .have:cW (kvG (g :: r)) (Sum.inl k:Key)=cW (kvG r) (Sum.inl k:Key):=cH (p:=((Sum.inl g.1:Key),V.ref g.2.1)) (λz=>h (Sum.inl.inj z));rw[this,List.find?_cons,aD1 h];exact eM k r
def eF (k o:Int) (gs:List Grp):List Grp:=gs.map λg=>if g.1=k then (g.1,g.2.1,g.2.2++[o])else g
def zX (k o:Int) (gs:List Grp):kvG (eF k o gs)=kvG gs:=by
 unfold kvG eF;rw[aDa];refine List.map_congr_left λg _=>?_;simp only[Function.comp];split <;> rfl
def zY (k o:Int) (gs:List Grp):(eF k o gs).map (·.2.1)=gs.map (·.2.1):=by
 unfold eF;rw[aDa];refine List.map_congr_left λg _=>?_;simp only[Function.comp];split <;> rfl
def zZ (k o:Int) (gs:List Grp):(eF k o gs).map (·.1)=gs.map (·.1):=by
 unfold eF;rw[aDa];refine List.map_congr_left λg _=>?_;simp only[Function.comp];split <;> rfl
def e8 (k o:Int) (gs:List Grp):(eF k o gs).length=gs.length:=by simp[eF]
def pE {k o:Int}:∀ {gs:List Grp},(∀ g∈gs,g.1≠k)->eF k o gs=gs
 | [],_=>rfl
 | g :: r,h=>by
  have h1:=h g aDI;unfold eF;rw[aD5,if_neg h1]
  congr 1
  exact pE λx z=>h x (aDJ _ z)
def A0 (f:Int->Int) {k o:Int}:∀ {gs:List Grp},(gs.map (·.1)).Nodup->(∃ g∈gs,g.1=k)->wgt f (eF k o gs)=wgt f gs+f k
 | [],_,⟨g,h,_⟩=>by cases h
 | g :: r,I,hex=>by
  have z:=List.nodup_cons.mp I
  by_cases h:g.1=k
  .have J:eF k o r=r:=pE λx hx e=>z.1 (aDk.mpr ⟨x,hx,e.trans h.symm⟩);have:eF k o (g :: r)=(g.1,g.2.1,g.2.2++[o]) :: r:=by
    show (if g.1=k then (g.1,g.2.1,g.2.2++[o])else g) :: eF k o r=_;rw[if_pos h,J]
   rw[this];simp only[wgt,aD5,aD8,aDP,List.length_singleton];rw[<- h];have:f g.1 * ((g.2.2.length+1:Nat):Int)=f g.1 * (g.2.2.length:Int)+f g.1:=by
    rw[show ((g.2.2.length+1:Nat):Int)=(g.2.2.length:Int)+1 by omega,Int.mul_add,Int.mul_one]
   rw[this];omega
  .have D:∃ g∈r,g.1=k:=by
    obtain⟨x,hx,e⟩:=hex;rcases aDi.mp hx with rfl | hx
    .exact absurd e h
    .exact⟨x,hx,e⟩
   have L:=A0 f (o:=o) z.2 D;have:eF k o (g :: r)=g :: eF k o r:=by
    show (if g.1=k then (g.1,g.2.1,g.2.2++[o])else g) :: eF k o r=_;rw[if_neg h]
   rw[this];simp only[wgt,aD5,aD8]at L ⊢;omega
def fX (j k:Int):Int:=if k<j then k else j
def StayG (d:Addr) (gs:List Grp) (H H':Hp):Prop:=∀ b o,b≠d->(∀ g∈gs,b≠g.2.1)->H b=some o->H' b=some o
def pops (k:Int) (gs:List Grp):List Grp:=gs.map λg=>if g.1=k then (g.1,g.2.1,g.2.2.dropLast)else g
def outs (k:Int) (gs:List Grp):List Grp:=gs.filter λg=>decide (g.1≠k)
def e9 (k:Int) (gs:List Grp):kvG (pops k gs)=kvG gs:=by
 unfold kvG pops;rw[aDa];refine List.map_congr_left λg _=>?_;simp only[Function.comp];split <;> rfl
def i0 (k:Int) (gs:List Grp):(pops k gs).map (·.2.1)=gs.map (·.2.1):=by
 unfold pops;rw[aDa];refine List.map_congr_left λg _=>?_;simp only[Function.comp];split <;> rfl
def kO (k:Int) (gs:List Grp):(pops k gs).map (·.1)=gs.map (·.1):=by
 unfold pops;rw[aDa];refine List.map_congr_left λg _=>?_;simp only[Function.comp];split <;> rfl
def nV {k:Int} {gs:List Grp} {g':Grp} (h:g'∈pops k gs):∃ g∈gs,g'.2.1=g.2.1/\g'.1=g.1/\g'.2.2=if g.1=k then g.2.2.dropLast else g.2.2:=by
 obtain⟨g,D,rfl⟩:=aDk.mp h;refine⟨g,D,?_⟩
 by_cases z:g.1=k
 .rw[if_pos z,if_pos z];exact⟨rfl,rfl,rfl⟩
 .rw[if_neg z,if_neg z];exact⟨rfl,rfl,rfl⟩
def DG.pops {H:Hp} {d:Addr} {gs:List Grp} (dg:DG H d gs) {g:Grp} (I:g∈gs):DG (upd H g.2.1 (.lst (g.2.2.dropLast.map V.int))) d (pops g.1 gs):=by
 have J:d≠g.2.1:=bJ dg.at_ (dg.lst g I) (by intro z;cases z);refine⟨by rw[e9,aG J];exact dg.at_,λg' L=>?_,by rw[i0];exact dg.adr,by rw[kO];exact dg.key⟩;obtain⟨D,h0,e1,Y,N⟩:=nV L;rw[e1,N]
 by_cases M:D.2.1=g.2.1
 .have:D=g:=cD (f:=λg:Grp=>g.2.1) dg.adr h0 I M;subst this;rw[aB,if_pos rfl]
 .have U:D.1≠g.1:=λe=>M (by rw[cD (f:=λg:Grp=>g.1) dg.key h0 I e]);rw[aG M,if_neg U];exact dg.lst D h0
def i3 (k:Int):∀ gs:List Grp,qC (kvG gs) (Sum.inl k:Key)=kvG (outs k gs):=by
 intro gs;unfold qC kvG outs;rw[List.filter_map]
 congr 1
 refine List.filter_congr λg _=>?_;simp only[Function.comp,ne_eq,Sum.inl.injEq]
def DG.outs {H:Hp} {d:Addr} {gs:List Grp} (dg:DG H d gs) (k:Int):DG (upd H d (.dK (qC (kvG gs) (Sum.inl k:Key)))) d (outs k gs):=by
 refine⟨by rw[aB,i3],λg I=>?_,?_,?_⟩
 .have D:=(aDl.mp I).1;rw[aG (bJ (dg.lst g D) dg.at_ (by intro z;cases z))];exact dg.lst g D
 .exact dg.adr.sublist (List.filter_sublist.map _)
 .exact dg.key.sublist (List.filter_sublist.map _)
def nW {gs:List Grp} {g:Grp} (D:(gs.map (·.1)).Nodup) (z:g∈gs):gs.find? (λx=>decide (x.1=g.1))=some g:=by
 cases h:gs.find? (λx=>decide (x.1=g.1))with
 | none=>exact absurd (List.find?_eq_none.mp h g z) (by simp)
 | some x =>
  have h1:=List.mem_of_find?_eq_some h;have h2:x.1=g.1:=by simpa using List.find?_some h
  rw[cD (f:=λg:Grp=>g.1) D h1 z h2]
def DG.get {H:Hp} {d:Addr} {gs:List Grp} (dg:DG H d gs) {g:Grp} (z:g∈gs):DGet H d (.int g.1) (some (.ref g.2.1)):=by
 have h:=DGet.k (k:=(Sum.inl g.1:Key)) dg.at_;rw[eM,nW dg.key z]at h;exact h
def shr (k:Int) (gs:List Grp):List Grp:=if (pops k gs).any (λg=>decide (g.1=k) && g.2.2.isEmpty)then outs k (pops k gs)else pops k gs
section
variable {P:Program} {w:World} {K:PySem.W.Frag} {mg:Str->Option Value} {base:Heap}
inductive nX (vs:List V) (H:Hp) (Q:VK) (E_:XK):Prop
 | mk (d:Addr) (gs:List Grp) (j:Int) (h0_:vs=[.ref d,.int j]) (h1_:DG H d gs) (h2_:gs.length<=60) (h3_:(∀ g∈gs,g.2.2.length<=60)) (h4_:∀ H',Same H H'->Q (.int (2 * wgt (fX j) gs)) H'):nX vs H Q E_
inductive gT (vs:List V) (H:Hp) (Q:VK) (E_:XK):Prop
 | mk (d:Addr) (gs:List Grp) (g:Grp) (h0_:vs=[.ref d,.int g.1]) (h1_:DG H d gs) (h2_:g∈gs) (h3_:g.2.2≠[]) (h4_:∀ H',StayG d gs H H'->DG H' d (shr g.1 gs)->Q .non H'):gT vs H Q E_
end
def GoodG (gs:List Grp):Prop:=∀ g∈gs,1<=g.1/\g.2.2≠[]
def sto (gs:List Grp):Int:=wgt (λk=>k) gs
def bX (f:Int->Int) (g:Grp) (r:List Grp):wgt f (g :: r)=f g.1 * (g.2.2.length:Int)+wgt f r:=by simp[wgt]
def GoodG.tail {g:Grp} {r:List Grp} (h:GoodG (g :: r)):GoodG r:=λx z=>h x (aDJ _ z)
def GoodG.one {g:Grp} {r:List Grp} (h:GoodG (g :: r)):(g.2.2.length:Int)<=g.1 * (g.2.2.length:Int)/\1<=(g.2.2.length:Int):=by
 obtain⟨h1,h2⟩:=h g aDI;have h3:0<g.2.2.length:=List.length_pos_iff.mpr h2;refine⟨?_,by omega⟩;have:=Int.mul_le_mul_of_nonneg_right h1 (show (0:Int)<=(g.2.2.length:Int)by omega);omega
def GoodG.bound:∀ {gs:List Grp},GoodG gs->(gs.length:Int)<=sto gs/\∀ g∈gs,(g.2.2.length:Int)<=sto gs
 | [],_=>⟨Int.le_refl _,λg z=>(nomatch z)⟩
 | g :: r,h=>by
  obtain⟨a,b⟩:=GoodG.bound h.tail;obtain⟨c,d⟩:=h.one;unfold sto at a b ⊢;rw[bX];refine⟨by simp only[aD9];omega,λx hx=>?_⟩;rcases aDi.mp hx with e | hx
  .rw[e];omega
  .have:=b x hx;omega
def pF {k:Int}:∀ {gs:List Grp},(∀ g∈gs,g.1≠k)->pops k gs=gs
 | [],_=>rfl
 | g :: r,h=>by
  have h1:=h g aDI;show (if g.1=k then (g.1,g.2.1,g.2.2.dropLast)else g) :: pops k r=g :: r;rw[if_neg h1,pF λx z=>h x (aDJ _ z)]
def sS (f:Int->Int):∀ {gs:List Grp},(gs.map (·.1)).Nodup->∀ {g:Grp},g∈gs->g.2.2≠[]->wgt f (pops g.1 gs)=wgt f gs - f g.1
 | [],_,g,I,_=>by cases I
 | x :: r,L,g,I,z=>by
  have D:=List.nodup_cons.mp L;have M:pops g.1 (x :: r)=(if x.1=g.1 then (x.1,x.2.1,x.2.2.dropLast)else x) :: pops g.1 r:=rfl;rw[M]
  by_cases h:x.1=g.1
  .have N:x=g:=cD (f:=λg:Grp=>g.1) L aDI I h;subst N;rw[if_pos rfl,pF λy U e=>D.1 (aDk.mpr ⟨y,U,e⟩),bX,bX];have h3:0<x.2.2.length:=List.length_pos_iff.mpr z;have h4:((x.2.2.dropLast.length:Nat):Int)=(x.2.2.length:Int) - 1:=by rw[List.length_dropLast];omega
   simp only[h4,Int.mul_sub,Int.mul_one];omega
  .have J:g∈r:=by
    rcases aDi.mp I with e | e
    .exact absurd (by rw[e]) h
    .exact e
   rw[if_neg h,bX,bX,sS f D.2 J z];omega
def A1 (f:Int->Int) {k:Int}:∀ {gs:List Grp},(∀ g∈gs,g.1=k->g.2.2=[])->wgt f (outs k gs)=wgt f gs
 | [],_=>rfl
 | g :: r,h=>by
  have z:=A1 f (k:=k) (gs:=r) λx D=>h x (aDJ _ D);unfold outs at z ⊢;rw[List.filter_cons,bX]
  by_cases e:g.1=k
  .have:=h g aDI e;rw[if_neg (by simp[e]),z,this];simp
  .rw[if_pos (by simp[e]),bX,z]
def O4 (f:Int->Int) {gs:List Grp} (D:(gs.map (·.1)).Nodup) {g:Grp} (J:g∈gs) (z:g.2.2≠[]):wgt f (shr g.1 gs)=wgt f gs - f g.1:=by
 unfold shr;split
 .next h =>
  obtain⟨x,L,I⟩:=List.any_eq_true.mp h;simp only[Bool.and_eq_true,decide_eq_true_eq,List.isEmpty_iff]at I;rw[A1 f λy M e=>?_,sS f D J z];have:y=x:=cD (f:=λg:Grp=>g.1) (by rw[kO];exact D) M L (e.trans I.1.symm);rw[this];exact I.2
 .exact sS f D J z
def GoodG.shr {gs:List Grp} (h:GoodG gs) (k:Int):GoodG (shr k gs):=by
 have D:∀ x∈pops k gs,1<=x.1/\(x.1≠k->x.2.2≠[]):=λx z=>by
  obtain⟨g,L,e1,I,M⟩:=nV z;obtain⟨h1,h2⟩:=h g L;refine⟨by rw[I];exact h1,λn=>?_⟩;rw[M,if_neg (by rw[<- I];exact n)];exact h2
 intro x z;unfold CW.shr at z;split at z
 .obtain⟨h1,h2⟩:=aDl.mp z;exact⟨(D x h1).1,(D x h1).2 (by simpa using h2)⟩
 .next N =>
  refine⟨(D x z).1,λe=>?_⟩
  by_cases J:x.1=k
  .exact N (List.any_eq_true.mpr ⟨x,z,by simp[J,e]⟩)
  .exact(D x z).2 J e
def O5 {gs:List Grp} {k:Int} {x:Grp} (z:x∈shr k gs):∃ g∈gs,x.2.1=g.2.1:=by
 unfold shr at z;have D:x∈pops k gs:=by
  split at z
  .exact(aDl.mp z).1
  .exact z
 obtain⟨g,I,e1,_⟩:=nV D;exact⟨g,I,e1⟩
def sT (H:Hp) (k o:Int) (gs D:List Grp):Prop:=(∃ g∈gs,g.1=k)/\D=eF k o gs\/(∀ g∈gs,g.1≠k)/\∃ z,H z=none/\D=gs++[(k,z,[o])]
def i4 (f:Int->Int) {H:Hp} {k o:Int} {gs D:List Grp} (I:(gs.map (·.1)).Nodup) (h:sT H k o gs D):wgt f D=wgt f gs+f k:=by
 rcases h with ⟨J,rfl⟩ | ⟨_,z,_,rfl⟩
 .exact A0 f I J
 .simp[wgt]
def GoodG.puts {H:Hp} {k o:Int} {gs D:List Grp} (g:GoodG gs) (J:1<=k) (h:sT H k o gs D):GoodG D:=by
 rcases h with ⟨L,rfl⟩ | ⟨_,z,_,rfl⟩
 .intro x hx;obtain⟨I,h0,rfl⟩:=aDk.mp hx;obtain⟨h1,h2⟩:=g I h0
  by_cases e:I.1=k
  .rw[if_pos e];exact⟨h1,by simp⟩
  .rw[if_neg e];exact⟨h1,h2⟩
 .intro x hx;rcases aDj.mp hx with hx | hx
  .exact g x hx
  .rw[aDc.mp hx];exact⟨J,by simp⟩
def A3 {H:Hp} {k o:Int} {gs D:List Grp} (h:sT H k o gs D) {x:Grp} (hx:x∈D):(∃ g∈gs,x.2.1=g.2.1)\/H x.2.1=none:=by
 rcases h with ⟨J,rfl⟩ | ⟨_,z,hz,rfl⟩
 .obtain⟨I,h0,rfl⟩:=aDk.mp hx;refine .inl ⟨I,h0,?_⟩;split <;> rfl
 .rcases aDj.mp hx with hx | hx
  .exact .inl ⟨x,hx,rfl⟩
  .rw[aDc.mp hx];exact .inr hz
def StayG.same {H H1 H2:Hp} {d r:Addr} {gs:List Grp} (st:StayG d gs H1 H2) (sm:Same H H1) (hd:H d=none) (D:∀ g∈gs,H g.2.1=none/\g.2.1≠r):Same H H2:=λb o e =>
 st b o (λz=>by rw[z,hd]at e;cases e) (λg I z=>by rw[z,(D g I).1]at e;cases e) (sm b o e)
end CW
namespace CW
abbrev Trs:=List (Int×Int)
def les (ps:Trs) (j:Int):Int:=(ps.map λq=>min j q.1).sum
def bL (q:Int×Int) (ps:Trs) (j:Int):les (q :: ps) j=min j q.1+les ps j:=by simp[les]
def aX {ps z:Trs} (h:ps.Perm z) (j:Int):les ps j=les z j:=by
 unfold les
 induction h with
 | nil=>rfl
 | cons x _ D=>simp only[aD5,aD8];omega
 | swap x y l=>simp only[aD5,aD8];omega
 | trans _ _ h1 h2=>exact h1.trans h2
def Bd (ps:Trs) (n:Int):Prop:=∀ q∈ps,1<=q.1/\q.2+2 * les ps q.1<=n
def Bd.mono {ps:Trs} {n m:Int} (h:Bd ps n) (e:n<=m):Bd ps m:=λq z=>⟨(h q z).1,Int.le_trans (h q z).2 e⟩
def Add (ps:Trs) (p:Int) (z:Trs):Prop:=∃ (s:Int) (rest:Trs),0<=s/\(s=0/\ps.Perm rest\/1<=s/\ps.Perm ((s,p - 1 - 2 * les ps s) :: rest))/\(∀ q∈ps,s<q.1->q.2+2 * les ps q.1≠p - 1)/\z.Perm ((s+1,p - 2 * les rest (s+1) - 2 * (s+1)) :: rest)
def Add.perm {ps z I D:Trs} {p:Int} (h:Add ps p I) (e:ps.Perm z) (f:I.Perm D):Add z p D:=by
 obtain⟨s,rest,h0,h1,h2,h3⟩:=h;refine⟨s,rest,h0,?_,λq J hs=>?_,f.symm.trans h3⟩
 .rcases h1 with ⟨a,b⟩ | ⟨a,b⟩
  .exact .inl ⟨a,e.symm.trans b⟩
  .refine .inr ⟨a,?_⟩;rw[<- aX e];exact e.symm.trans b
 .rw[<- aX e];exact h2 q (e.mem_iff.mpr J) hs
def Add.uniq {ps U I:Trs} {p:Int} (h:Add ps p U) (h':Add ps p I):U.Perm I:=by
 obtain⟨s,rest,h0,h1,h2,h3⟩:=h;obtain⟨s',z,al,J,L,M⟩:=h';have hs:s=s':=by
  rcases h1 with ⟨a,b⟩ | ⟨a,b⟩ <;> rcases J with ⟨N,D⟩ | ⟨N,D⟩
  .omega
  .exact absurd (show (p - 1 - 2 * les ps s')+2 * les ps s'=p - 1 by omega) (h2 _ (D.mem_iff.mpr aDI) (show s<s' by omega))
  .exact absurd (show (p - 1 - 2 * les ps s)+2 * les ps s=p - 1 by omega) (L _ (b.mem_iff.mpr aDI) (show s'<s by omega))
  .rcases Int.lt_trichotomy s s' with l | l | l
   .exact absurd (show (p - 1 - 2 * les ps s')+2 * les ps s'=p - 1 by omega) (h2 _ (D.mem_iff.mpr aDI) l)
   .exact l
   .exact absurd (show (p - 1 - 2 * les ps s)+2 * les ps s=p - 1 by omega) (L _ (b.mem_iff.mpr aDI) l)
 subst hs;have Y:rest.Perm z:=by
  rcases h1 with ⟨a,b⟩ | ⟨a,b⟩ <;> rcases J with ⟨N,D⟩ | ⟨N,D⟩
  .exact b.symm.trans D
  .omega
  .omega
  .exact List.Perm.cons_inv (b.symm.trans D)
 refine h3.trans (List.Perm.trans ?_ M.symm);rw[aX Y];exact Y.cons _
def Add.bd {ps z:Trs} {p:Int} (h:Add ps p z) (b:Bd ps (p - 1)):Bd z p:=by
 obtain⟨s,rest,h0,h1,h2,h3⟩:=h;have J:∀ j,1<=j->les z j=les ps j+if s<j then 1 else 0:=λj L=>by
  rw[aX h3,bL];rcases h1 with ⟨a,b⟩ | ⟨a,b⟩
  .rw[aX b];simp only;split <;> omega
  .rw[aX b,bL];simp only;split <;> omega
 intro q hq;rcases aDi.mp (h3.mem_iff.mp hq)with rfl | hq
 .refine⟨show 1<=s+1 by omega,?_⟩;have:les z (s+1)=s+1+les rest (s+1):=by
   rw[aX h3,bL];simp only;omega
  show (p - 2 * les rest (s+1) - 2 * (s+1))+2 * les z (s+1)<=p;omega
 .have D:q∈ps:=by
   rcases h1 with ⟨_,e⟩ | ⟨_,e⟩
   .exact e.mem_iff.mpr hq
   .exact e.mem_iff.mpr (aDJ _ hq)
  obtain⟨I,M⟩:=b q D;refine⟨I,?_⟩;have:=h2 q D;rw[J q.1 I];split <;> omega
def Tak (ps:Trs) (p:Int) (z:Trs):Prop:=∃ (s:Int) (rest:Trs),1<=s/\ps.Perm ((s,p - 2 * les ps s) :: rest)/\(∀ q∈ps,q.2+2 * les ps q.1<=p)/\(∀ q∈ps,q.1<s->q.2+2 * les ps q.1<p) /\
 (s=1/\z.Perm rest\/2<=s/\z.Perm ((s - 1,p - 1 - 2 * les rest (s - 1) - 2 * (s - 1)) :: rest))
def Tak.add {ps z:Trs} {p:Int} (h:Tak ps p z) (M:∀ q∈ps,1<=q.1):Bd z (p - 1)/\Add z p ps:=by
 obtain⟨s,rest,h0,h1,h2,h3,h4⟩:=h;have N:∀ j,0<=j->les ps j=les z j+if s<=j then 1 else 0:=λj hj=>by
  rw[aX h1,bL];rcases h4 with ⟨a,b⟩ | ⟨a,b⟩
  .rw[aX b];simp only;split <;> omega
  .rw[aX b,bL];simp only;split <;> omega
 have hold:∀ q∈rest,1<=q.1/\q.2+2 * les z q.1<=p - 1/\(s<=q.1->q.2+2 * les z q.1<=p - 2):=λq hq=>by
  have I:q∈ps:=h1.mem_iff.mpr (aDJ _ hq);have U:=M q I;have a2:=h2 q I;have Y:=h3 q I;have J:=N q.1 (by omega);refine⟨U,?_,λhs=>?_⟩
  .by_cases hs:s<=q.1
   .rw[if_pos hs]at J;omega
   .rw[if_neg hs]at J;have:=Y (by omega);omega
  .rw[if_pos hs]at J;omega
 have D:2<=s->les z (s - 1)=(s - 1)+les rest (s - 1):=λh=>by
  rcases h4 with ⟨a,b⟩ | ⟨a,b⟩
  .omega
  .rw[aX b,bL];simp only;omega
 refine⟨λq hq=>?_,s - 1,rest,by omega,?_,λq hq hs=>?_,?_⟩
 .rcases h4 with ⟨a,b⟩ | ⟨a,b⟩
  .have:=hold q (b.mem_iff.mp hq);exact⟨this.1,this.2.1⟩
  .rcases aDi.mp (b.mem_iff.mp hq)with rfl | hq
   .refine⟨show 1<=s - 1 by omega,?_⟩;have:=D a;show (p - 1 - 2 * les rest (s - 1) - 2 * (s - 1))+2 * les z (s - 1)<=p - 1;omega
   .have:=hold q hq;exact⟨this.1,this.2.1⟩
 .rcases h4 with ⟨a,b⟩ | ⟨a,b⟩
  .exact .inl ⟨by omega,b⟩
  .refine .inr ⟨by omega,?_⟩;have e:p - 1 - 2 * les z (s - 1)=p - 1 - 2 * les rest (s - 1) - 2 * (s - 1):=by have:=D a;omega
   rw[e];exact b
 .have L:q∈rest:=by
   rcases h4 with ⟨a,b⟩ | ⟨a,b⟩
   .exact b.mem_iff.mp hq
   .rcases aDi.mp (b.mem_iff.mp hq)with rfl | hq
    .exact absurd hs (by show ¬ (s - 1<s - 1);omega)
    .exact hq
  have:=(hold q L).2.2 (by omega);omega
 .have e:s - 1+1=s:=by omega
  rw[e];have e2:p - 2 * les rest s - 2 * s=p - 2 * les ps s:=by rw[aX h1,bL];simp only;omega
  rw[e2];exact h1
def Add.tak {ps z:Trs} {p:Int} (h:Add ps p z) (b:Bd ps (p - 1)):Tak z p ps:=by
 have D:=h.bd b;obtain⟨s,rest,h0,h1,h2,h3⟩:=h;have I:∀ j,0<=j->les z j=les ps j+if s<j then 1 else 0:=λj N=>by
  rw[aX h3,bL];rcases h1 with ⟨a,b⟩ | ⟨a,b⟩
  .rw[aX b];simp only;split <;> omega
  .rw[aX b,bL];simp only;split <;> omega
 have J:p - 2 * les z (s+1)=p - 2 * les rest (s+1) - 2 * (s+1):=by rw[aX h3,bL];simp only;omega
 refine⟨s+1,rest,by omega,by rw[J];exact h3,λq hq=>(D q hq).2,λq hq hs=>?_,?_⟩
 .rcases aDi.mp (h3.mem_iff.mp hq)with rfl | hq
  .exact absurd hs (by show ¬ (s+1<s+1);omega)
  .have L:q∈ps:=by
    rcases h1 with ⟨_,e⟩ | ⟨_,e⟩
    .exact e.mem_iff.mpr hq
    .exact e.mem_iff.mpr (aDJ _ hq)
   obtain⟨U,Y⟩:=b q L;have:=I q.1 (by omega);rw[if_neg (by omega)]at this;omega
 .rcases h1 with ⟨a,e⟩ | ⟨a,e⟩
  .exact .inl ⟨by omega,e⟩
  .refine .inr ⟨by omega,?_⟩;have M:s+1 - 1=s:=by omega
   rw[M];have e4:p - 1 - 2 * les rest s - 2 * s=p - 1 - 2 * les ps s:=by rw[aX e,bL];simp only;omega
   rw[e4];exact e
def Tak.uniq {ps z qs J:Trs} {p L:Int} (h:Tak ps p qs) (h':Tak z L J) (e:ps.Perm z):p=L/\qs.Perm J:=by
 obtain⟨s,rest,h0,h1,h2,h3,h4⟩:=h;obtain⟨s',D,al,I,M,N,U⟩:=h';have m1:(s,p - 2 * les ps s)∈ps:=h1.mem_iff.mpr aDI;have m2:(s',L - 2 * les z s')∈z:=I.mem_iff.mpr aDI;have a1:=M _ (e.mem_iff.mp m1);have a2:=h2 _ (e.mem_iff.mpr m2);have l1:=aX e s;have l2:=aX e s';simp only at a1 a2;have hp:p=L:=by omega
 subst hp;have b1:=N _ (e.mem_iff.mp m1);have b2:=h3 _ (e.mem_iff.mpr m2);simp only at b1 b2;have hs:s=s':=by
  rcases Int.lt_trichotomy s s' with l | l | l
  .have:=b1 l;omega
  .exact l
  .have:=b2 l;omega
 subst hs;rw[<- l1]at I;have Y:rest.Perm D:=List.Perm.cons_inv ((h1.symm.trans e).trans I);refine⟨rfl,?_⟩;rcases h4 with ⟨a,b⟩ | ⟨a,b⟩ <;> rcases U with ⟨a',b'⟩ | ⟨a',b'⟩
 .exact b.trans (Y.trans b'.symm)
 .omega
 .omega
 .refine b.trans (List.Perm.trans ?_ b'.symm);rw[aX Y];exact Y.cons _
inductive Lst:List Int->Trs->Prop
 | nil:Lst [] []
 | snoc {r:List Int} {ps:Trs} {p:Int} {qs:Trs}:Lst r ps->(∀ x∈r,x<p)->Add ps p qs->Lst (r++[p]) qs
def Add.ne {ps z:Trs} {p:Int} (h:Add ps p z):z≠[]:=by
 obtain⟨s,rest,_,_,_,h3⟩:=h;intro e;rw[e]at h3;exact absurd h3.symm.eq_nil (by simp)
def Lst.perm {r:List Int} {ps z:Trs} (h:Lst r ps) (e:ps.Perm z):Lst r z:=by
 cases h with
 | nil=>rw[e.symm.eq_nil];exact .nil
 | snoc a b c=>exact .snoc a b (c.perm (.refl _) e)
def Lst.inv {r:List Int} {p:Int} {z:Trs} (h:Lst (r++[p]) z):∃ ps,Lst r ps/\(∀ x∈r,x<p)/\Add ps p z:=by
 generalize e:r++[p]=t at h;cases h with
 | nil=>simp at e
 | snoc a b c =>
  obtain⟨rfl,D⟩:=List.append_inj' e rfl;obtain rfl:p=_:=by simpa using D
  exact⟨_,a,b,c⟩
def Lst.nilr {z:Trs} (h:Lst [] z):z=[]:=by
 generalize e:([]:List Int)=t at h;cases h with
 | nil=>rfl
 | snoc a b c=>simp at e
def Lst.bd {r:List Int} {ps:Trs} (h:Lst r ps) {n:Int}:(∀ x∈r,x<=n)->Bd ps n:=by
 induction h generalizing n with
 | nil=>intro _ q z;cases z
 | snoc a b c D =>
  intro I
  rename_i r ps p M
  have J:p<=n:=I p (by simp);have:=D (n:=p - 1) λx L=>by have:=b x L;omega
  exact(c.bd this).mono J
def Lst.uniq {r:List Int} {ps z:Trs} (h:Lst r ps) (h':Lst r z):ps.Perm z:=by
 induction h generalizing z with
 | nil=>rw[h'.nilr]
 | snoc a b c D =>
  obtain⟨I,J,M,L⟩:=h'.inv;exact(c.perm (D J) (.refl _)).uniq L
def Lst.row {r:List Int} {ps:Trs} (h:Lst r ps) {z:List Int} {D:Trs} (h':Lst z D) (e:ps.Perm D):r=z:=by
 induction h generalizing z D with
 | nil =>
  cases h' with
  | nil=>rfl
  | snoc a b c=>exact absurd e.symm.eq_nil c.ne
 | snoc a b c M =>
  cases h' with
  | nil=>exact absurd e.eq_nil c.ne
  | snoc L N U =>
   rename_i r ps p D z Y p'
   have bd:=a.bd (n:=p - 1) λx I=>by have:=b x I;omega
   have J:=L.bd (n:=p' - 1) λx I=>by have:=N x I;omega
   obtain⟨rfl,e2⟩:=(c.tak bd).uniq (U.tak J) e;rw[M L e2]
def siz (ps:Trs):Int:=(ps.map (·.1)).sum
def kP {ps z:Trs} (h:ps.Perm z):siz ps=siz z:=by
 unfold siz
 induction h with
 | nil=>rfl
 | cons x _ D=>simp only[aD5,aD8];omega
 | swap x y l=>simp only[aD5,aD8];omega
 | trans _ _ h1 h2=>exact h1.trans h2
def A4 (q:Int×Int) (ps:Trs):siz (q :: ps)=q.1+siz ps:=by simp[siz]
def Add.sizx {ps z:Trs} {p:Int} (h:Add ps p z):siz z=siz ps+1:=by
 obtain⟨s,rest,h0,h1,h2,h3⟩:=h;rw[kP h3,A4];rcases h1 with ⟨a,b⟩ | ⟨a,b⟩
 .rw[kP b];simp only;omega
 .rw[kP b,A4];simp only;omega
def Lst.sizx {r:List Int} {ps:Trs} (h:Lst r ps):siz ps=(r.length:Int):=by
 induction h with
 | nil=>rfl
 | snoc a b c z=>rw[c.sizx,z];simp
def Lst.pos {r:List Int} {ps:Trs} (h:Lst r ps):∀ q∈ps,1<=q.1:=by
 obtain⟨n,z⟩:∃ n:Int,∀ x∈r,x<=n:=by
  clear h
  induction r with
  | nil=>exact⟨0,λx hx=>(nomatch hx)⟩
  | cons a r D =>
   obtain⟨n,z⟩:=D;refine⟨max a n,λx hx=>?_⟩;rcases aDi.mp hx with rfl | hx
   .omega
   .have:=z x hx;omega
 exact λq I=>(h.bd z q I).1
end CW
namespace CW
open PySem L2
def bI (gs:List Grp):Trs:=gs.flatMap λg=>g.2.2.map λo=>(g.1,o)
def cM (g:Grp) (r:List Grp):bI (g :: r)=g.2.2.map (λo=>(g.1,o))++bI r:=rfl
def A5 (a b:List Grp):bI (a++b)=bI a++bI b:=by simp[bI]
def fN {gs:List Grp} {q:Int×Int}:q∈bI gs↔∃ g∈gs,g.1=q.1/\q.2∈g.2.2:=by
 unfold bI;rw[List.mem_flatMap]
 constructor
 .rintro ⟨g,z,h⟩;obtain⟨o,D,rfl⟩:=aDk.mp h;exact⟨g,z,rfl,D⟩
 .rintro ⟨g,z,h1,h2⟩;exact⟨g,z,aDk.mpr ⟨q.2,h2,by rw[h1]⟩⟩
def J5 (f:Int->Int) (a b:Trs):tot f (a++b)=tot f a+tot f b:=by simp[tot]
def sU (f:Int->Int):∀ gs:List Grp,wgt f gs=tot f (bI gs)
 | []=>rfl
 | g :: r=>by
  rw[bX,cM,J5,sU f r]
  congr 1
  generalize g.2.2=l
  induction l with
  | nil=>simp[tot]
  | cons x l z =>
   have:tot f ((x :: l).map λo=>(g.1,o))=f g.1+tot f (l.map λo=>(g.1,o)):=by simp[tot]
   rw[this,<- z,aD9,show ((l.length+1:Nat):Int)=(l.length:Int)+1 by omega,Int.mul_add,Int.mul_one];omega
def nY (j k:Int):fX j k=min j k:=by unfold fX;split <;> omega
def i5 (ps:Trs) (j:Int):tot (fX j) ps=les ps j:=by
 unfold tot les
 congr 1
 exact List.map_congr_left λq _=>nY j q.1
def xH (gs:List Grp) (j:Int):wgt (fX j) gs=les (bI gs) j:=by rw[sU,i5]
def rA (gs:List Grp):sto gs=siz (bI gs):=sU _ gs
def vT {k o:Int}:∀ {gs:List Grp},(gs.map (·.1)).Nodup->(∃ g∈gs,g.1=k)->(bI (eF k o gs)).Perm ((k,o) :: bI gs)
 | [],_,⟨g,h,_⟩=>by cases h
 | g :: r,I,hex=>by
  have z:=List.nodup_cons.mp I
  by_cases h:g.1=k
  .have J:eF k o r=r:=pE λx hx e=>z.1 (aDk.mpr ⟨x,hx,e.trans h.symm⟩);have:eF k o (g :: r)=(g.1,g.2.1,g.2.2++[o]) :: r:=by
    show (if g.1=k then (g.1,g.2.1,g.2.2++[o])else g) :: eF k o r=_;rw[if_pos h,J]
   rw[this,cM,cM];simp only[aDV,aD5,List.map_nil,List.append_assoc,h];exact List.perm_middle
  .have D:∃ g∈r,g.1=k:=by
    obtain⟨x,hx,e⟩:=hex;rcases aDi.mp hx with rfl | hx
    .exact absurd e h
    .exact⟨x,hx,e⟩
   have L:=vT (o:=o) z.2 D;have:eF k o (g :: r)=g :: eF k o r:=by
    show (if g.1=k then (g.1,g.2.1,g.2.2++[o])else g) :: eF k o r=_;rw[if_neg h]
   rw[this,cM,cM];exact(L.append_left _).trans List.perm_middle
def gF {H:Hp} {k o:Int} {gs D:List Grp} (I:(gs.map (·.1)).Nodup) (h:sT H k o gs D):(bI D).Perm ((k,o) :: bI gs):=by
 rcases h with ⟨J,rfl⟩ | ⟨_,z,_,rfl⟩
 .exact vT I J
 .rw[A5];exact List.perm_append_comm
def pG:∀ {gs:List Grp},(gs.map (·.1)).Nodup->∀ {g:Grp} (_:g∈gs) (z:g.2.2≠[]),(bI gs).Perm ((g.1,g.2.2.getLast z) :: bI (pops g.1 gs))
 | [],_,g,I,_=>by cases I
 | x :: r,L,g,I,z=>by
  have D:=List.nodup_cons.mp L;have M:pops g.1 (x :: r)=(if x.1=g.1 then (x.1,x.2.1,x.2.2.dropLast)else x) :: pops g.1 r:=rfl;rw[M]
  by_cases h:x.1=g.1
  .have N:x=g:=cD (f:=λg:Grp=>g.1) L aDI I h;subst N;rw[if_pos rfl,pF λy U e=>D.1 (aDk.mpr ⟨y,U,e⟩),cM,cM];have e1:x.2.2.map (λo=>(x.1,o))=x.2.2.dropLast.map (λo=>(x.1,o))++[(x.1,x.2.2.getLast z)]:=by
    conv=>lhs;rw[<- List.dropLast_concat_getLast z]
    rw[aDV];rfl
   rw[e1,List.append_assoc];exact List.perm_middle
  .have J:g∈r:=by
    rcases aDi.mp I with e | e
    .exact absurd (by rw[e]) h
    .exact e
   rw[if_neg h,cM,cM];exact((pG D.2 J z).append_left _).trans List.perm_middle
def vU {k:Int}:∀ {gs:List Grp},(∀ g∈gs,g.1=k->g.2.2=[])->bI (outs k gs)=bI gs
 | [],_=>rfl
 | g :: r,h=>by
  have z:=vU (k:=k) (gs:=r) λx D=>h x (aDJ _ D);unfold outs at z ⊢;rw[List.filter_cons,cM]
  by_cases e:g.1=k
  .have:=h g aDI e;rw[if_neg (by simp[e]),z,this];rfl
  .rw[if_pos (by simp[e]),cM,z]
def A6 {gs:List Grp} (D:(gs.map (·.1)).Nodup) {g:Grp} (J:g∈gs) (z:g.2.2≠[]):(bI gs).Perm ((g.1,g.2.2.getLast z) :: bI (shr g.1 gs)):=by
 unfold shr;split
 .next h =>
  obtain⟨x,L,I⟩:=List.any_eq_true.mp h;simp only[Bool.and_eq_true,decide_eq_true_eq,List.isEmpty_iff]at I;rw[vU λy M e=>?_]
  .exact pG D J z
  have:y=x:=cD (f:=λg:Grp=>g.1) (by rw[kO];exact D) M L (e.trans I.1.symm);rw[this];exact I.2
 .exact pG D J z
def Asc (gs:List Grp):Prop:=∀ g∈gs,g.2.2.Pairwise (·<=·)
def Asc.last {gs:List Grp} (h:Asc gs) {g:Grp} (J:g∈gs) (z:g.2.2≠[]) {o:Int} (D:o∈g.2.2):o<=g.2.2.getLast z:=by
 have I:=h g J;rw[<- List.dropLast_concat_getLast z]at D I;rcases aDj.mp D with h1 | h1
 .exact(List.pairwise_append.mp I).2.2 o h1 _ (by simp)
 .rw[aDc.mp h1];exact Int.le_refl _
def Asc.shr {gs:List Grp} (h:Asc gs) (k:Int):Asc (shr k gs):=by
 have D:Asc (pops k gs):=λx z=>by
  obtain⟨g,I,e1,L,J⟩:=nV z;rw[J];split
  .exact(h g I).sublist (List.dropLast_sublist _)
  .exact h g I
 intro x z;unfold CW.shr at z;split at z
 .exact D x (aDl.mp z).1
 .exact D x z
def Asc.puts {H:Hp} {k o:Int} {gs D:List Grp} (h:Asc gs) (L:sT H k o gs D) (J:∀ q∈bI gs,q.1=k->q.2<=o):Asc D:=by
 rcases L with ⟨U,rfl⟩ | ⟨_,z,_,rfl⟩
 .intro x hx;obtain⟨I,h0,rfl⟩:=aDk.mp hx
  by_cases e:I.1=k
  .rw[if_pos e];refine List.pairwise_append.mpr ⟨h I h0,by simp,λa M b N=>?_⟩;rw[aDc.mp N];exact J (I.1,a) (fN.mpr ⟨I,h0,rfl,M⟩) e
  .rw[if_neg e];exact h I h0
 .intro x hx;rcases aDj.mp hx with hx | hx
  .exact h x hx
  .rw[aDc.mp hx];simp
def xI {gs:List Grp} (k:Int) (h:(gs.map (·.1)).Nodup):((shr k gs).map (·.1)).Nodup:=by
 unfold shr;split
 .exact(show ((pops k gs).map (·.1)).Nodup by rw[kO];exact h).sublist (List.filter_sublist.map _)
 .rw[kO];exact h
def J6 {H:Hp} {gs I:List Grp} {p s:Int} (M:(gs.map (·.1)).Nodup) (gd:GoodG gs) (ac:Asc gs) (bd:Bd (bI gs) (p - 1)) {D:List Grp}
 (hs:s=0/\D=gs\/1<=s/\∃ g∈gs,∃ z:g.2.2≠[],g.1=s/\g.2.2.getLast z=p - 1 - 2 * les (bI gs) s/\D=shr s gs)
 (N:∀ g∈gs,∀ z:g.2.2≠[],s<g.1->g.2.2.getLast z≠p - 1 - 2 * les (bI gs) g.1)
 (hp:sT H (s+1) (p - 2 * les (bI D) (s+1) - 2 * (s+1)) D I):Add (bI gs) p (bI I)/\Asc I/\GoodG I:=by
 have ha:Add (bI gs) p (bI I):=by
  refine⟨s,bI D,?_,?_,λq hq U e=>?_,?_⟩
  .rcases hs with h | h <;> omega
  .rcases hs with ⟨h,rfl⟩ | ⟨h,g,L,z,e1,Y,rfl⟩
   .exact .inl ⟨h,.refl _⟩
   .refine .inr ⟨h,?_⟩;have:=A6 M L z;rw[e1,Y]at this;exact this
  .obtain⟨g,L,e1,Y⟩:=fN.mp hq;have z:=(gd g L).2;have h1:=ac.last L z Y;have h2:=(bd (g.1,g.2.2.getLast z) (fN.mpr ⟨g,L,rfl,List.getLast_mem z⟩)).2;simp only at h2;rw[<- e1]at e U;exact N g L z U (by omega)
  .have J:(D.map (·.1)).Nodup:=by
    rcases hs with ⟨h,rfl⟩ | ⟨h,g,L,z,e1,Y,rfl⟩
    .exact M
    .exact xI s M
   exact gF J hp
 have hb:=ha.bd bd;have J:(D.map (·.1)).Nodup/\Asc D/\GoodG D:=by
  rcases hs with ⟨h,rfl⟩ | ⟨h,g,L,z,e1,Y,rfl⟩
  .exact⟨M,ac,gd⟩
  .exact⟨xI s M,ac.shr s,gd.shr s⟩
 have al:=gF J.1 hp;refine⟨ha,J.2.1.puts hp λq hq e=>?_,J.2.2.puts (by rcases hs with h | h <;> omega) hp⟩;have h1:=(hb q (al.mem_iff.mpr (aDJ _ hq))).2;rw[aX al,bL,e]at h1;simp only at h1;omega
def sV {H:Hp} {gs D:List Grp} {p:Int} (hn:(gs.map (·.1)).Nodup) (J:GoodG gs) (ac:Asc gs) {g:Grp} (hg:g∈gs) (M:g.2.2≠[]) (hp:g.2.2.getLast M+2 * les (bI gs) g.1=p)
 (L:∀ x∈gs,∀ z:x.2.2≠[],x.2.2.getLast z+2 * les (bI gs) x.1<=p/\(x.1<g.1->x.2.2.getLast z+2 * les (bI gs) x.1<p))
 (I:g.1=1/\D=shr g.1 gs\/2<=g.1/\sT H (g.1 - 1) (p - 1 - 2 * les (bI (shr g.1 gs)) (g.1 - 1) - 2 * (g.1 - 1)) (shr g.1 gs) D):Tak (bI gs) p (bI D)/\Asc D/\GoodG D:=by
 have U:=xI g.1 hn;have am:=A6 hn hg M;have Y:∀ q∈bI gs,1<=q.1:=λq I=>by
  obtain⟨x,z,e1,_⟩:=fN.mp I;rw[<- e1];exact(J x z).1
 have N:g.2.2.getLast M=p - 2 * les (bI gs) g.1:=by omega
 have ht:Tak (bI gs) p (bI D):=by
  refine⟨g.1,bI (shr g.1 gs),(J g hg).1,by rw[<- N];exact am,λq I=>?_,λq I hl=>?_,?_⟩
  .obtain⟨x,z,e1,e2⟩:=fN.mp I;have h1:=ac.last z (J x z).2 e2;have h2:=(L x z (J x z).2).1;rw[<- e1];omega
  .obtain⟨x,z,e1,e2⟩:=fN.mp I;have h1:=ac.last z (J x z).2 e2;have h2:=(L x z (J x z).2).2 (by rw[e1];exact hl);rw[<- e1];omega
  .rcases I with ⟨h,rfl⟩ | ⟨h,h2⟩
   .exact .inl ⟨h,.refl _⟩
   .exact .inr ⟨h,gF U h2⟩
 refine⟨ht,?_⟩;obtain⟨hb,_⟩:=ht.add Y;rcases I with ⟨h,rfl⟩ | ⟨h,h2⟩
 .exact⟨ac.shr _,J.shr _⟩
 .have al:=gF U h2;refine⟨(ac.shr _).puts h2 λq I e=>?_,(J.shr _).puts (by omega) h2⟩;have h1:=(hb q (al.mem_iff.mpr (aDJ _ I))).2;rw[aX al,bL,e]at h1;simp only at h1;omega
def lng (b:Int) (gs:List Grp):Int:=wgt (λk=>if b<k then 1 else 0) gs
def xJ (f h:Int->Int):∀ gs:List Grp,wgt (λk=>f k+h k) gs=wgt f gs+wgt h gs
 | []=>rfl
 | g :: r=>by
  rw[bX,bX,bX,xJ f h r];have:(f g.1+h g.1) * (g.2.2.length:Int)=f g.1 * (g.2.2.length:Int)+h g.1 * (g.2.2.length:Int):=Int.add_mul ..;omega
def O6 (c:Int) (f:Int->Int):∀ gs:List Grp,wgt (λk=>c * f k) gs=c * wgt f gs
 | []=>by simp[wgt]
 | g :: r=>by rw[bX,bX,O6 c f r,Int.mul_add,Int.mul_assoc]
def lR {f h:Int->Int} {gs:List Grp} (e:∀ g∈gs,f g.1=h g.1):wgt f gs=wgt h gs:=by
 unfold wgt
 congr 1
 exact List.map_congr_left λg z=>by rw[e g z]
def sW:∀ gs:List Grp,wgt (λ_=>0) gs=0
 | []=>rfl
 | g :: r=>by rw[bX,sW r];simp
def J7 {gs:List Grp} {b m:Int} (z:b<=m) (h:∀ g∈gs,b<g.1->m<=g.1):wgt (fX m) gs=wgt (fX b) gs+(m - b) * lng b gs:=by
 unfold lng;rw[<- O6,<- xJ];refine lR λg D=>?_;rw[nY,nY];have:=h g D;split
 .have:=this (by assumption);omega
 .omega
def i6 {gs:List Grp} {b m:Int} (L:b<m) (h:∀ g∈gs,b<g.1->m<=g.1) (M:(gs.map (·.1)).Nodup) {g:Grp} (J:g∈gs) (N:g.1=m):lng m gs=lng b gs - (g.2.2.length:Int):=by
 have h1:lng b gs=lng m gs+wgt (λk=>if k=m then 1 else 0) gs:=by
  unfold lng;rw[<- xJ];refine lR λx I=>?_;have:=h x I
  by_cases c:b<x.1
  .have:=this c;rw[if_pos c]
   by_cases d:x.1=m
   .rw[if_neg (by omega),if_pos d];omega
   .rw[if_pos (by omega),if_neg d];omega
  .rw[if_neg c,if_neg (by omega),if_neg (by omega)];omega
 have h2:wgt (λk=>if k=m then 1 else 0) gs=(g.2.2.length:Int):=by
  clear h1 h
  induction gs with
  | nil=>cases J
  | cons x r U =>
   have D:=List.nodup_cons.mp M;rw[bX];rcases aDi.mp J with e | e
   .subst e;have:wgt (λk=>if k=m then 1 else 0) r=0:=by
     have:wgt (λk=>if k=m then 1 else 0) r=wgt (λ_=>0) r:=lR λy Y=>if_neg λz=>D.1 (aDk.mpr ⟨y,Y,by show y.1=g.1;omega⟩);rw[this];exact sW r
    rw[this,if_pos N];omega
   .have I:x.1≠m:=λz=>D.1 (aDk.mpr ⟨g,e,by show g.1=x.1;omega⟩);rw[if_neg I,U D.2 e];omega
 omega
def i7 {gs:List Grp} (z:GoodG gs):lng 0 gs=(gs.map (λg:Grp=>(g.2.2.length:Int))).sum:=by
 unfold lng wgt
 congr 1
 exact List.map_congr_left λg D=>by show (if 0<g.1 then (1:Int)else 0) * _=_;rw[if_pos (by have:=(z g D).1;omega)];omega
def i8 {gs:List Grp} (z:GoodG gs):wgt (fX 0) gs=0:=by
 have:wgt (fX 0) gs=wgt (λ_=>0) gs:=lR λg D=>by rw[nY];have:=(z g D).1;omega
 rw[this];exact sW gs
end CW
namespace L2
open PySem PySem.Spec PyProof.Rows
def O7 (J:It) (I:St) (g:TG) (tt:TT) (te:TE) (L:List V) (N:List V->Hp->Prop) (H1:Hp):Prop:=∃ W:Nat->Nat->List V->Hp->Prop,(∃ m,W 0 m L H1)/\∀ i m ys H,W i m ys H ->
 ys.length<sizeLine/\((J.stop i H/\N ys H) \/
  (J.go i H/\∃ M:List V->Hp->Prop,(∀ z H',M z H'->∃ U,U<m/\W (i+1) U z H')/\∀ x H',J.yld i H x H'->g x I H' λD H2=>tt D H2 λb Y =>
   if b=true then te D Y λy H4=>M (ys++[y]) H4 else M ys Y))
def J8 (J:It) (L:St) (g:TG) (tt:TT) (wi:TI) (g2:TG) (af:TT) (te:TE) (Q:VK) (H1:Hp):Prop:=∃ W:Nat->Nat->List V->Hp->Prop,(∃ m,W 0 m [] H1)/\∀ i m ys H,W i m ys H ->
 ys.length<sizeLine/\((J.stop i H/\∀ D,H D=none->Q (.ref D) (upd H D (.lst ys))) \/
  (J.go i H/\∃ N:List V->Hp->Prop,(∀ I H',N I H'->∃ M,M<m/\W (i+1) M I H')/\∀ x H',J.yld i H x H'->g x L H' λz H2=>tt z H2 λb U =>
   if b=true then wi z U λY H4=>O7 Y z g2 af te ys N H4 else N ys U))
def aBX (wi:TI) (nt:Nat) (js:List Nat) (g:TG) (tt:TT) (ah:TI) (g2:TG) (af:TT) (te:TE):TE:=fun σ H Q=>wi σ H λJ H1=>J8 J (sIn nt js σ) g tt ah g2 af te Q H1
def GR (lo hi:Nat) (g:TG):Prop:=∀ v σ H Q,g v σ H Q->g v σ H λz H'=>((∀ i,(i<lo\/hi<=i)->z[i]?=σ[i]?)/\z.length=σ.length)/\Q z H'
def aAR {lo hi i:Nat} (h:lo<=i) (h2:i<hi):GR lo hi (uX i):=λv σ H Q q=>⟨⟨λj z=>by rw[List.getElem?_set_ne (by omega)],by simp⟩,q⟩
def qP (elt t1 i1 t2 i2:Expr) (f1 f2:List Expr) (scope:Scope) (pos:Pos) (it z:Value) (env:Env) :
 compTurn (.ListComp elt [⟨t1,i1,f1,0⟩,⟨t2,i2,f2,0⟩] scope pos) 0 it z env=(do
  standAt i1.pos
  match <- pyNext it with
  | none=>pure (.done .next)
  | some v =>
   letOwnedTupleGo t1 it v
   assign t1 env v
   let mut ok:=true
   for c in f1 do
    if ok then ok <- isTrue c env (eval c env)
   if ok then
    let x <- eval i2 env
    standAt i2.pos
    let x <- foldedSetIterable i2 env x
    let _ <- runOwn (.compStart (.ListComp elt [⟨t1,i1,f1,0⟩,⟨t2,i2,f2,0⟩] scope pos) 1 (<- holding [x] (pyIter x)) z env) env
   again (.compLoop (.ListComp elt [⟨t1,i1,f1,0⟩,⟨t2,i2,f2,0⟩] scope pos) 0 it z env)):=by rfl
def qQ (elt t1 i1 t2 i2:Expr) (f1 f2:List Expr) (scope:Scope) (pos:Pos) (it z:Value) (env:Env) :
 compTurn (.ListComp elt [⟨t1,i1,f1,0⟩,⟨t2,i2,f2,0⟩] scope pos) 1 it z env=(do
  standAt i2.pos
  match <- pyNext it with
  | none=>pure (.done .next)
  | some v =>
   letOwnedTupleGo t2 it v
   assign t2 env v
   let mut ok:=true
   for c in f2 do
    if ok then ok <- isTrue c env (eval c env)
   if ok then
    (do let _ <- call (.builtin "list.append") [z,<- eval elt env])
   again (.compLoop (.ListComp elt [⟨t1,i1,f1,0⟩,⟨t2,i2,f2,0⟩] scope pos) 1 it z env)):=by rfl
def iV {prog:Program} {w:World} {A:Around} {R:Result->Shared->Prop} {s:Shared} {elt g1 target iter ifs rest scope pos it z env}
 (h0:codeAny (model prog w) A (.compLoop (.ListComp elt (g1 :: ⟨target,iter,ifs,0⟩ :: rest) scope pos) 1 it z env) R s)
 (h:wpAny (model prog w) A (pyIter it) (λD s'=>codeAny (model prog w) A (.compLoop (.ListComp elt (g1 :: ⟨target,iter,ifs,0⟩ :: rest) scope pos) 1 D z env) R s')
  (notedBy (model prog w) A env λx s'=>R (.error x) s') s) :
 codeAny (model prog w) A (.compStart (.ListComp elt (g1 :: ⟨target,iter,ifs,0⟩ :: rest) scope pos) 1 it z env) R s:=by
 refine codeAny_of_tree ?_;show wpAny _ _ ((compStart (.ListComp elt (g1 :: ⟨target,iter,ifs,0⟩ :: rest) scope pos) 1 it z env).onRaise (λx=>do noteFrame x env;standAt theWindowsPlace)) _ _ s;refine wpAny_notedAt ?_;unfold compStart;show wpAny _ _ (ask >>= _) _ _ s;refine aDE (wpAny_askSetting (wpAny_ite ?_));split
 .first
   | exact aDE (aDF (aDF (And.intro rfl h0)))
   | exact aDF (And.intro rfl h0)
 .first
   | exact aDE (wpAny_rule (aDE (wpAny_standAt (aDE (wpAny_mono h (λD s' h'=>aDF (And.intro rfl h')) λ_ _ x=>x)))))
   | (refine aDE (wpAny_rule ?_);show wpAny _ _ (standAt iter.pos >>= _) _ _ s;exact aDE (wpAny_standAt (aDE (wpAny_mono h (λD s' h'=>aDF (And.intro rfl h')) λ_ _ x=>x))))
def J9 {X:Cx} {pl:List (Addr×Obj)} {σ:St} {elt t1 i1 tg iter:Expr} {f1 ifs:List Expr} {inn:Scope} {pos:Pos} {g:TG} {tt:TT} {te:TE} {lo hi:Nat} {J:It} {fp:List Addr} {it:Addr} {tn:Nat->Heap->Prop} {H2:Hp} {s2:Shared} {ar:List V} {N:List V->Hp->Prop} {RR:Result->Shared->Prop} {D:Addr}
 (M:X.calm=true) (au:X.xe=λ_ _=>False) (DX:D∈X.ex) (Dl:D≠X.env.locals) (hpl:∀ p∈X.pn++pl,p.1≠D) (ay:D∉fp)
 (bg:PG X tg g) (hk:GR lo hi g) (bh:PIf X ifs tt) (bi:PE X elt te) (bj:∀ i v,lo<=i->i<hi->σ[i]?≠some (some v))
 (I2:Inv X pl σ H2 s2) (T:qM X.prog X.w X.K tg J fp it tn) (az:tn 0 s2.heap) (f2:∀ b∈fp,kA X pl H2 b) (bm:H2 D=none) {U:List Value} {c0:Nat} (bn:Vals ar U) (bo:s2.heap.get? D=some { cls:=.type "list",data:=.seq U.toArray c0 })
 (R:O7 J σ g tt te ar N H2)
 (bq:∀ s' H' ys its c,Inv X pl σ H' s'->Vals ys its->s'.heap.get? D=some { cls:=.type "list",data:=.seq its.toArray c }->H' D=none->N ys H'->RR (.ok .next) s') :
 codeAny (model X.prog X.w) X.A (.compStart (.ListComp elt [⟨t1,i1,f1,0⟩,⟨tg,iter,ifs,0⟩] inn pos) 1 (.ref it) (.ref D) X.env) RR s2:=by
 have av:=I2.ok;obtain⟨W,⟨m0,w0⟩,turn⟩:=R;have Y:∀ {H':Hp} {ql:List (Addr×Obj)},(∀ b∈fp,H' b=none)->(∀ p∈ql,p.1=D)->∀ b∈fp,kA X (pl++ql) H' b:=λ{H' ql} hn br b I=>by
  obtain⟨_,a1,a2,a3,a4,a5⟩:=f2 b I;refine⟨hn b I,a1,a2,a3,a4,λp hp=>?_⟩;rw[<- List.append_assoc]at hp;rcases aDj.mp hp with hp | hp
  .exact a5 p hp
  .rw[br p hp];intro e;exact ay (e ▸ I)
 have loop:codeAny (model X.prog X.w) X.A (.compLoop (.ListComp elt [⟨t1,i1,f1,0⟩,⟨tg,iter,ifs,0⟩] inn pos) 1 (.ref it) (.ref D) X.env) RR s2:=by
  refine codeAny_loop rfl (λn s'=>∃ i ys H',Inv X pl σ H' s'/\tn i s'.heap/\(∀ b∈fp,H' b=none)/\H' D=none/\(∃ (its:List Value) (c:Nat),Vals ys its/\s'.heap.get? D=some { cls:=.type "list",data:=.seq its.toArray c })/\W i n ys H') ?_ m0
   ⟨0,ar,H2,I2,az,λb I=>(f2 b I).1,bm,⟨U,c0,bn,bo⟩,w0⟩
  rintro n s5 ⟨i,ys,H5,I5,a_,ba,bb,⟨its,c,rv,eD⟩,w5⟩;show wpAny _ X.A ((compTurn (.ListComp elt [⟨t1,i1,f1,0⟩,⟨tg,iter,ifs,0⟩] inn pos) 1 (.ref it) (.ref D) X.env).onRaise (λx=>do noteFrame x X.env;theTreesLotGoes x)) _ _ s5;refine wpAny_noted ?_;rw[qQ];refine aDE (wpAny_standAt (aDE ?_));have aq:Inv X (pl++cE [D] s5.heap) σ H5 s5:=by
   refine I5.pinned (fp:=[D]) (λb I=>?_) (λb I=>?_)
   .have e:b=D:=by simpa using I
    subst e;exact⟨bb,Dl,λz=>av.exfs b DX z,.inl DX,(av.exf b DX).2,hpl⟩
   .have e:b=D:=by simpa using I
    subst e;exact⟨_,eD,λv z=>by cases z⟩
  have aw:∀ p∈cE [D] s5.heap,p.1=D:=λp hp=>by simpa using (iO hp).1
  have memD:(D,({ cls:=.type "list",data:=.seq its.toArray c }:Obj))∈cE [D] s5.heap:=bT (by simp) eD;obtain⟨hz,bt⟩:=turn i n ys H5 w5;rcases bt with ⟨stop,fin⟩ | ⟨go,N',hN,step⟩
  .have q:=T.done X rfl rfl rfl M i _ s5 _ H5 (notedBy (model X.prog X.w) X.A X.env λe s'=>RR (.error e) s') aq (Y ba aw) a_ stop;refine wpAny_mono q (λr s6 ⟨hr,I6⟩=>?_) λ_ _ z=>z;subst hr;refine aDF ?_;have bu:=(I6.pin (D,_) (aDK _ (aDK _ memD))).1;exact bq s6 H5 ys its c (I6.pins_of λp hp=>I6.pin p (aDK _ (aDZ _ hp))) rv bu bb fin
  .have q:=T.item X rfl rfl rfl M i _ s5 _ H5 (notedBy (model X.prog X.w) X.A X.env λe s'=>RR (.error e) s') aq (Y ba aw) a_ go;refine wpAny_mono q (λr s6 ⟨u,hr,h6⟩=>?_) λ_ _ z=>z;subst hr;refine aDE (wpAny_mono h6 (λ_ s7 ⟨x,H7,I7,r7,y7,ax,bv⟩=>?_) λ_ _ z=>z);have bw:=I7.pinned (fp:=fp) (λb I=>Y bv aw b I) (T.obj _ _ ax);have q8:=bg _ s7 _ H7 x u _ bw r7 (hk x _ H7 _ (step x H7 y7));rw[au]at q8;refine aDE (wpAny_mono q8 (λ_ s8 ⟨L,H8,I8,⟨k8,l8⟩,q8⟩=>?_) λ_ _ z=>z.elim);have q9:=bh _ s8 L H8 _ I8 q8;rw[au]at q9;refine aDE (wpAny_mono q9 (λok s9 ⟨H9,I9,q9⟩=>?_) λ_ _ z=>z.elim);have am:∀ (j:Nat) v,σ[j]?=some (some v)->L[j]?=some (some v):=λj v e=>by
    by_cases hj:j<lo\/hi<=j
    .rw[k8 j hj];exact e
    .exact absurd e (bj j v (by omega) (by omega))
   have ends:∀ {H9:Hp} {s9:Shared} {al:List V},Inv X ((pl++cE [D] s5.heap)++cE fp s7.heap) L H9 s9->∀ {h':Heap} {its':List Value} {c':Nat},(∀ b o,b≠D->s9.heap.get? b=some o->h'.get? b=some o)->Vals al its'->h'.get? D=some { cls:=.type "list",data:=.seq its'.toArray c' }->N' al H9 ->
    ∀ tk,∃ m,m<n/\∃ i ys H',Inv X pl σ H' { s9 with heap:=h',toks:=tk }/\tn i h'/\(∀ b∈fp,H' b=none)/\H' D=none/\(∃ (its:List Value) (c:Nat),Vals ys its/\h'.get? D=some { cls:=.type "list",data:=.seq its.toArray c })/\W i m ys H':=λ{H9 s9 al} I9 {h' its' c'} kp bx bz n9 tk=>by
    obtain⟨m',hm,w9⟩:=hN al H9 n9;have bc:H9 D=none:=(I9.pin (D,_) (aDK _ (aDZ _ (aDK _ memD)))).2.1;have b_:∀ b∈fp,H9 b=none:=λb I=>by
     obtain⟨o,e,d⟩:=T.obj _ _ ax b I;exact(I9.pin (b,o) (aDK _ (aDK _ (bT I e)))).2.1
    have ao:Inv X pl L H9 s9:=I9.pins_of λp hp=>I9.pin p (aDK _ (aDZ _ (aDZ _ hp)));have ca:Inv X pl L H9 { s9 with heap:=h',toks:=tk }:=ao.turned (it:=D) kp bc Dl (.inl DX) (av.exf D DX).2 hpl;refine⟨m',hm,i+1,al,H9,ca.weak l8.symm am,T.keep _ _ _ ax λb I o e=>kp b o (λz=>ay (z ▸ I)) (I9.pin (b,o) (aDK _ (aDK _ (bT I e)))).1,b_,bc,⟨its',c',bx,bz⟩,w9⟩
   cases ok with
   | false =>
    rw[if_neg aDT]at q9;have cb:=(I9.pin (D,_) (aDK _ (aDZ _ (aDK _ memD)))).1;exact aDF ⟨rfl,ends I9 (h':=s9.heap) (λ_ _ _ e=>e) rv cb q9 s9.toks⟩
   | true =>
    rw[if_pos rfl]at q9;have ap:=bi _ s9 L H9 _ I9 q9;rw[au]at ap;refine aDE (aDE (wpAny_mono ap (λv ce ⟨y,ci,ao,cf,ap⟩=>?_) λ_ _ z=>z.elim));have bf:=(ao.pin (D,_) (aDK _ (aDZ _ (aDK _ memD)))).1;have hlen:=rv.length;refine aDE (wpAny_list_append_plain (items:=its.toArray) ⟨c,bf⟩ (λh' hl hs=>aDF (aDF ⟨rfl,?_⟩)) (by rw[aDO];omega));obtain⟨c',e'⟩:=hl;have cg:h'.get? D=some { cls:=.type "list",data:=.seq (its++[v]).toArray c' }:=by rw[e'];simp
    exact ends ao (h':=h') (λb o I e=>hs.extBut b o I e) (rv.append (.cons cf .nil)) cg ap ce.toks
 refine iV loop ?_;exact T.self X.A 0 _ _ _ az loop
section
variable {X:Cx} {pins:List (Addr×Obj)} {σ:St} {inn:Scope} {js:List Nat} {cs ts:List Str} {nt lo:Nat} {elt tg iter t2 i2:Expr} {ifs f2:List Expr} {pos:Pos} {g g2:TG} {tt af:TT} {te:TE} {wi ah:TI}
def K0 {J:It} {fp:List Addr} {it:Addr} {tn:Nat->Heap->Prop} {H2:Hp} {s2:Shared} {E:Value->Shared->Prop} {Q:VK} {RR:Value->Addr->Result->Shared->Prop}
 (bh:X.calm=true) (O:CompOk X.env.scope inn X.N js cs) (cr:ts.length=nt)
 (cu:lo<=nt) (hg:∀ M U ex,PG (fL X inn (ts++cs) M U ex) tg g) (hk:GK lo g) (cv:∀ M U ex,PI (fL X inn (ts++cs) M U ex) t2 i2 ah) (cw:∀ M U ex,PG (fL X inn (ts++cs) M U ex) t2 g2) (cx:GR lo nt g2) (cy:∀ M U ex,PIf (fL X inn (ts++cs) M U ex) f2 af) (cz:∀ env x,foldedSetIterable i2 env x=pure x) (ht:∀ M U ex,PIf (fL X inn (ts++cs) M U ex) ifs tt) (he:∀ M U ex,PE (fL X inn (ts++cs) M U ex) elt te)
 (I2:Inv X pins σ H2 s2) (T:qM X.prog X.w X.K tg J fp it tn) (bi:tn 0 s2.heap) (fo:∀ b∈fp,kA X pins H2 b)
 (R:J8 J (sIn nt js σ) g tt ah g2 af te Q H2)
 (c_:∀ D C s' H',Inv X pins σ H' s'->(∃ m,s'.heap.Ns C m)->H' C=none->C≠X.env.locals->X.s₀.heap.objs.size<=C->(∀ x c,X.env.cells.lookup x=some c->c≠C)->(∀ p∈X.pn++pins,p.1≠C)->Q (.ref D) H'->RR (.ref D) C (.ok .next) s') :
 wpAny (model X.prog X.w) X.A (newList []) (λbr bt=>wpAny (model X.prog X.w) X.A (newFunctionEnv inn X.env.globals (kD inn X.env) [] X.env.qual none .none (some X.env)) (λbc bu =>
  codeAny (model X.prog X.w) X.A (.compStart (.ListComp elt [⟨tg,iter,ifs,0⟩,⟨t2,i2,f2,0⟩] inn pos) 0 (.ref it) br { bc with scope:=relabel inn X.env }) (RR br bc.locals) bu) E bt) E s2:=by
 refine wpAny_newObj_type (wpAny_newFunctionEnv O.nocell (by intro y hy;simp at hy) (λao al am=>?_) O.kind);dsimp only at al am ⊢;generalize hD:s2.heap.objs.size=D;have I3:Inv X pins σ H2 { s2 with heap:=s2.heap.push { cls:=.type "list",dict:=none,data:=.seq ([]:List Value).toArray } }:=I2.kept (t':=s2.toks) λb o e=>aDH _ e;generalize bv:({ s2 with heap:=s2.heap.push { cls:=.type "list",dict:=none,data:=.seq ([]:List Value).toArray } }:Shared)=Y at I3;have e3:Y.heap=s2.heap.push { cls:=.type "list",dict:=none,data:=.seq ([]:List Value).toArray }:=by rw[<- bv]
 have da:Y.heap.get? D=some { cls:=.type "list",dict:=none,data:=.seq ([]:List Value).toArray }:=by rw[e3,<- hD];exact aDN _ rfl
 have aw:Y.heap.objs.size=D+1:=by rw[e3,Heap.size_push,hD]
 have db:(s2.heap.push { cls:=.type "list",dict:=none,data:=.seq ([]:List Value).toArray })=Y.heap:=e3.symm;rw[db]at al am ⊢;have bf:H2 D=none:=I2.hok.fresh (by rw[hD];exact Nat.le_refl _);have up:∀ b o,Y.heap.get? b=some o->ao.get? b=some o:=λb o e=>am.extBut b o (aD3 (aDM e)) (aDH _ e);have az:∀ b∈fp,b<Y.heap.objs.size/\b≠D:=λb hb=>by
  obtain⟨o,eo,_⟩:=T.obj 0 _ bi b hb;have h1:=aDM eo;rw[hD]at h1;exact⟨by rw[aw];exact Nat.lt_succ_of_lt h1,aD3 h1⟩
 have nb:∀ b,X.s₀.heap.objs.size<=b->∀ o,X.base.get? b≠some o:=λb hb o e=>absurd (aDX (aDM e) (Nat.le_trans I2.ok.bsz hb)) (Nat.lt_irrefl _);have a_:s2.heap.objs.size<=D:=by rw[hD];exact Nat.le_refl _
 have fD:kA X pins H2 D:=I2.fpOk a_ bf;have hex:∀ b∈D :: fp,b<Y.heap.objs.size/\b≠X.env.locals/\b∉X.fs/\(∀ x c,X.env.cells.lookup x=some c->c≠b)/\∀ o,X.base.get? b≠some o:=λb hb=>by
  rcases aDi.mp hb with rfl | hb
  .exact⟨by rw[aw];exact Nat.lt_succ_self _,fD.2.1,fD.2.2.1,fD.2.2.2.2.1,nb _ (Nat.le_trans I2.sz a_)⟩
  .obtain⟨f0,f1,bw,f3,f4,f5⟩:=fo b hb;refine⟨(az b hb).1,f1,bw,f4,λo e=>?_⟩;rcases f3 with z | z
   .exact I2.ok.noex b o e z
   .exact nb b z o e
 have hC:Y.heap.objs.size=Y.heap.objs.size:=rfl;generalize L:fL X inn (ts++cs) Y H2 (D :: fp)=I;have I4:Inv I [] (sIn nt js σ) H2 { Y with heap:=ao,toks:=Y.toks }:=by
  rw[<- L];exact X8 cr I3 O hex ⟨_,al⟩ up
 have xp:I.prog=X.prog:=by rw[<- L];rfl
 have xw:I.w=X.w:=by rw[<- L];rfl
 have xK:I.K=X.K:=by rw[<- L];rfl
 have xA:I.A=X.A:=by rw[<- L];rfl
 have xc:I.calm=true:=by rw[<- L];exact bh
 have xe:I.env=compEnvC inn (kD inn X.env) Y.heap.objs.size X.env:=by rw[<- L];rfl
 have xx:I.xe=λ_ _=>False:=by rw[<- L];rfl
 have bj:I.ex=D :: fp:=by rw[<- L];rfl
 have ba:I.pn=[]:=by rw[<- L];rfl
 have bx:I.s₀=Y:=by rw[<- L];rfl
 have de:I.H₀=H2:=by rw[<- L];rfl
 have df:I.fs=frs X.stack:=by rw[<- L];rfl
 have dh:PG I tg g:=by rw[<- L];exact hg _ _ _
 have di:PIf I ifs tt:=by rw[<- L];exact ht _ _ _
 have dj:PE I elt te:=by rw[<- L];exact he _ _ _
 have bz:PI I t2 i2 ah:=by rw[<- L];exact cv _ _ _
 have b_:PG I t2 g2:=by rw[<- L];exact cw _ _ _
 have ca:PIf I f2 af:=by rw[<- L];exact cy _ _ _
 have au:=I4.ok;have xl:I.env.locals=Y.heap.objs.size:=by rw[xe];rfl
 have Dl:D≠I.env.locals:=by rw[xl,aw];exact aD3 (Nat.lt_succ_self _)
 have ax:∀ {H':Hp} {pl:List (Addr×Obj)},(∀ b∈fp,H' b=none)->(∀ p∈pl,p.1=D)->∀ b∈fp,kA I pl H' b:=λ{H' pl} hn hpl b hb=>by
  have bb:b∈I.ex:=by rw[bj];exact aDJ _ hb
  refine⟨hn b hb,(au.exf b bb).1,λz=>au.exfs b bb z,.inl bb,(au.exf b bb).2,λp hp=>?_⟩;rw[ba,List.nil_append]at hp;rw[hpl p hp];exact Ne.symm (az b hb).2
 have DX:D∈I.ex:=by rw[bj];exact aDI
 obtain⟨W,⟨m0,w0⟩,turn⟩:=R;have loop:codeAny (model X.prog X.w) X.A (.compLoop (.ListComp elt [⟨tg,iter,ifs,0⟩,⟨t2,i2,f2,0⟩] inn pos) 0 (.ref it) (.ref D) I.env) (RR (.ref D) Y.heap.objs.size) { Y with heap:=ao,toks:=Y.toks }:=by
  refine codeAny_loop rfl (λn s'=>∃ i ys H',Inv I [] (sIn nt js σ) H' s'/\tn i s'.heap/\(∀ b∈fp,H' b=none)/\H' D=none/\(∃ (its:List Value) (c:Nat),Vals ys its/\s'.heap.get? D=some { cls:=.type "list",data:=.seq its.toArray c })/\W i n ys H') ?_ m0
   ⟨0,[],H2,I4,?_,λb hb=>(fo b hb).1,bf,⟨[],0,.nil,up D _ da⟩,w0⟩
  .rintro n s5 ⟨i,ys,H5,I5,cb,ce,bm,⟨its,c,rv,eD⟩,w5⟩;show wpAny _ X.A ((compTurn (.ListComp elt [⟨tg,iter,ifs,0⟩,⟨t2,i2,f2,0⟩] inn pos) 0 (.ref it) (.ref D) I.env).onRaise (λx=>do noteFrame x I.env;theTreesLotGoes x)) _ _ s5;refine wpAny_noted ?_;rw[qP];refine aDE (wpAny_standAt (aDE ?_));have bg:Inv I (cE [D] s5.heap) (sIn nt js σ) H5 s5:=by
    have q:=I5.pinned (fp:=[D]) (λb hb=>?_) (λb hb=>?_)
    .simpa using q
    .have e:b=D:=by simpa using hb
     subst e;refine⟨bm,Dl,λz=>au.exfs b DX z,.inl DX,(au.exf b DX).2,λp hp=>?_⟩;rw[ba,List.nil_append]at hp;cases hp
    .have e:b=D:=by simpa using hb
     subst e;exact⟨_,eD,λv z=>by cases z⟩
   have bn:∀ p∈cE [D] s5.heap,p.1=D:=λp hp=>by simpa using (iO hp).1
   have memD:(D,({ cls:=.type "list",data:=.seq its.toArray c }:Obj))∈cE [D] s5.heap:=bT (by simp) eD;obtain⟨hz,dm⟩:=turn i n ys H5 w5;rcases dm with ⟨stop,fin⟩ | ⟨go,N,hN,step⟩
   .have q:=T.done I xp xw xK xc i _ s5 _ H5 (notedBy (model X.prog X.w) X.A I.env λe s'=>RR (.ref D) Y.heap.objs.size (.error e) s') bg (ax ce bn) cb stop;rw[xA]at q;refine wpAny_mono q (λr s6 ⟨hr,I6⟩=>?_) λ_ _ z=>z;subst hr;refine aDF ?_;have dn:=(I6.pin (D,_) (aDK _ memD)).1;have un:Un (frs X.stack) (D :: fp) H2 H5 Y.heap s6.heap:=by
     have z:=I6.base;rw[df,bj,de,bx]at z;exact z
    have dq:s6.os=Y.os:=by have z:=I6.os;rw[bx]at z;exact z
    have cf:HOk X.prog X.w H5 s6.heap:=by have z:=I6.hok;rw[xp,xw]at z;exact z
    have I7:Inv X pins σ H5 s6:=I3.call' dq un cf I6.bare λb hb=>by
     rcases aDi.mp hb with e | hb
     .rw[e];exact⟨.inr (Nat.le_trans I2.sz a_),fD.2.1,fD.2.2.2.2.1,fD.2.2.2.2.2⟩
     .obtain⟨f0,f1,bw,f3,f4,f5⟩:=fo b hb;exact⟨f3,f1,f4,f5⟩
    have I8:Inv X pins σ (upd H5 D (.lst ys)) s6:=I7.track bm (Nat.le_trans I2.sz a_) fD.2.1 fD.2.2.2.2.1 fD.2.2.2.2.2 ⟨Nat.le_of_lt hz,its,c,rv,dn⟩;have cg:Y.heap.objs.size<=Y.heap.objs.size:=Nat.le_refl _;have fC:kA X pins (upd H5 D (.lst ys)) Y.heap.objs.size:=I3.fpOk cg (by
     rw[aG (by rw[<- xl];exact Ne.symm Dl)];have z:=I6.free;rw[xl]at z;exact z)
    obtain⟨mm,ci,_⟩:=I6.loc;rw[xl]at ci;exact c_ D _ s6 _ I8 ⟨mm,ci⟩ fC.1 fC.2.1 (Nat.le_trans I3.sz cg) fC.2.2.2.2.1 fC.2.2.2.2.2 (fin D bm)
   .have q:=T.item I xp xw xK xc i _ s5 _ H5 (notedBy (model X.prog X.w) X.A I.env λe s'=>RR (.ref D) Y.heap.objs.size (.error e) s') bg (ax ce bn) cb go;rw[xA]at q;refine wpAny_mono q (λr s6 ⟨u,hr,h6⟩=>?_) λ_ _ z=>z;subst hr;refine aDE (wpAny_mono h6 (λ_ s7 ⟨x,H7,I7,r7,y7,ay,dr⟩=>?_) λ_ _ z=>z);have dt:=I7.pinned (fp:=fp) (λb hb=>ax dr bn b hb) (T.obj _ _ ay);have q8:=dh _ s7 _ H7 x u _ dt r7 (hk x _ H7 _ (step x H7 y7));rw[xp,xw,xA,xx]at q8;refine aDE (wpAny_mono q8 (λ_ s8 ⟨aq,H8,I8,⟨k8,l8⟩,q8⟩=>?_) λ_ _ z=>z.elim);have q9:=di _ s8 aq H8 _ I8 q8;rw[xp,xw,xA,xx]at q9;refine aDE (wpAny_mono q9 (λok s9 ⟨H9,I9,q9⟩=>?_) λ_ _ z=>z.elim);have ar:∀ (j:Nat) v,(sIn nt js σ)[j]?=some (some v)->aq[j]?=some (some v):=λj v e=>by
     have hj:=(qU e).1;rw[k8 j (Nat.le_trans cu hj)];exact e
    have ends:∀ {H9:Hp} {s9:Shared} {ap:List V},Inv I (cE [D] s5.heap++cE fp s7.heap) aq H9 s9->∀ {h':Heap} {its':List Value} {c':Nat},(∀ b o,b≠D->s9.heap.get? b=some o->h'.get? b=some o)->Vals ap its'->h'.get? D=some { cls:=.type "list",data:=.seq its'.toArray c' }->N ap H9 ->
     ∀ tk,∃ m,m<n/\∃ i ys H',Inv I [] (sIn nt js σ) H' { s9 with heap:=h',toks:=tk }/\tn i h'/\(∀ b∈fp,H' b=none)/\H' D=none/\(∃ (its:List Value) (c:Nat),Vals ys its/\h'.get? D=some { cls:=.type "list",data:=.seq its.toArray c })/\W i m ys H':=λ{H9 s9 ap} I9 {h' its' c'} kp bo bq n9 tk=>by
     obtain⟨m',hm,w9⟩:=hN ap H9 n9;have cj:H9 D=none:=(I9.pin (D,_) (aDK _ (aDZ _ memD))).2.1;have du:∀ b∈fp,H9 b=none:=λb hb=>by
      obtain⟨o,e,d⟩:=T.obj _ _ ay b hb;exact(I9.pin (b,o) (aDK _ (aDK _ (bT hb e)))).2.1
     have dv:Inv I [] aq H9 s9:=I9.pins_of λp hp=>by cases hp
     have av:Inv I [] aq H9 { s9 with heap:=h',toks:=tk }:=dv.turned (it:=D) kp cj Dl (.inl DX) (au.exf D DX).2 (λp hp=>by rw[ba]at hp;cases hp);refine⟨m',hm,i+1,ap,H9,av.weak l8.symm ar,T.keep _ _ _ ay λb hb o e=>kp b o (az b hb).2 (I9.pin (b,o) (aDK _ (aDK _ (bT hb e)))).1,du,cj,⟨its',c',bo,bq⟩,w9⟩
    cases ok with
    | false =>
     rw[if_neg aDT]at q9;have dw:=(I9.pin (D,_) (aDK _ (aDZ _ memD))).1;exact aDF ⟨rfl,ends I9 (h':=s9.heap) (λ_ _ _ e=>e) rv dw q9 s9.toks⟩
    | true =>
     rw[if_pos rfl]at q9;have ck:=bz _ s9 aq H9 _ I9 q9;rw[xp,xw,xA,xx]at ck;refine aDE (wpAny_mono ck (λv e_ dz=>?_) λ_ _ z=>z.elim);refine aDE (wpAny_standAt (aDE (wpAny_of_eq (cz _ v) (aDE (wpAny_holding (wpAny_mono dz (λfb fc d_=>?_) λ_ _ z=>z.elim))))));obtain⟨fe,ff,fg,J2,ef,ei,av,T2,cm,cn,eh⟩:=d_;subst ei;have pm:(D,({ cls:=.type "list",data:=.seq its.toArray c }:Obj))∈I.pn++(cE [D] s5.heap++cE fp s7.heap):=aDK _ (aDZ _ memD);have cp:=(av.pin (D,_) pm).1;have cq:ef D=none:=(av.pin (D,_) pm).2.1;have hpl:∀ p∈I.pn++cE fp s7.heap,p.1≠D:=λp hp=>by
      rw[ba,List.nil_append]at hp;exact(az p.1 (iO hp).1).2
     have fh:I.calm=true:=xc;refine aDE (wpAny_runOwn ?_);have core:=J9 (X:=I) (pl:=cE fp s7.heap) (σ:=aq) (elt:=elt) (t1:=tg) (i1:=iter) (tg:=t2) (iter:=i2) (f1:=ifs) (ifs:=f2) (inn:=inn) (pos:=pos) (lo:=lo) (hi:=nt) (D:=D) (N:=N)
      (RR:=λr s'=>match r with | .ok f=>wpAny (model I.prog I.w) I.A (again (.compLoop (.ListComp elt [⟨tg,iter,ifs,0⟩,⟨t2,i2,f2,0⟩] inn pos) 0 (.ref it) (.ref D) I.env)) (λf s'=>f=Fin.again (.compLoop (.ListComp elt [⟨tg,iter,ifs,0⟩,⟨t2,i2,f2,0⟩] inn pos) 0 (.ref it) (.ref D) I.env)/\∃ m,m<n/\∃ i ys H',Inv I [] (sIn nt js σ) H' s'/\tn i s'.heap/\(∀ b∈fp,H' b=none)/\H' D=none/\(∃ (its:List Value) (c:Nat),Vals ys its/\s'.heap.get? D=some { cls:=.type "list",data:=.seq its.toArray c })/\W i m ys H') (λ_ _=>False) s' | .error e=>False)
      xc xx DX Dl hpl (λhb=>(cn D hb).2.2.2.2.2 _ pm rfl) b_ cx ca dj (λj v h1 h2 e=>?_) (av.pins_of λp hp=>av.pin p (aDK _ (aDK _ hp))) T2 cm
      (λb hb=>let ⟨a0,a1,a2,a3,a4,a5⟩:=cn b hb;⟨a0,a1,a2,a3,a4,λp hp=>a5 p ((aDj.mp hp).elim (aDZ _) λz=>aDK _ (aDK _ z))⟩) cq rv cp eh ?_
     .rw[xp,xw,xA]at core;refine codeAny_mono core λr s' hr=>?_;cases r with
      | ok f=>exact wpAny_mono hr (λ_ _ z=>by obtain⟨rfl,z⟩:=z;exact⟨rfl,z⟩) λ_ _ z=>z.elim
      | error e=>exact hr.elim
     .have e':=(k8 j h1).symm.trans e;exact absurd (qU e').1 (by omega)
     .intro s' H' ap its' c' I' bo bq ej n';obtain⟨m',hm,w9⟩:=hN ap H' n';have ek:∀ b∈fp,H' b=none:=λb hb=>by
       obtain⟨o,e,d⟩:=T.obj _ _ ay b hb;exact(I'.pin (b,o) (aDK _ (bT hb e))).2.1
      refine aDF ⟨rfl,m',hm,i+1,ap,H',(I'.pins_of λp hp=>by cases hp).weak l8.symm ar,T.keep _ _ _ ay λb hb o e=>(I'.pin (b,o) (aDK _ (bT hb e))).1,ek,ej,⟨its',c',bo,bq⟩,w9⟩
  .exact T.keep 0 _ _ bi λb hb o e=>up b o (by rw[e3];exact aDH _ e)
 have e4:({ s2 with heap:=ao,toks:=s2.toks+([]:List (Str×Value)).length }:Shared)={ Y with heap:=ao,toks:=Y.toks }:=by rw[<- bv];rfl
 rw[e4];show codeAny _ _ (.compStart (.ListComp elt [⟨tg,iter,ifs,0⟩,⟨t2,i2,f2,0⟩] inn pos) 0 (.ref it) (.ref D) (compEnvC inn (kD inn X.env) Y.heap.objs.size X.env)) (RR (.ref D) Y.heap.objs.size) _;rw[<- xe];refine codeAny_compStart_list loop ?_;refine T.self X.A 0 _ _ _ ?_ loop;exact T.keep 0 _ _ bi λb hb o e=>up b o (by rw[e3];exact aDH _ e)
def i9 (M U cs:List Str) (js:List Nat) (Y:X.calm=true) (O:CompOk X.env.scope inn X.N js cs) (hi:PI X tg iter wi)
 (hg:∀ z L ex,PG (fL X inn ((M++U)++cs) z L ex) tg g) (hk:GK M.length g) (ht:∀ z L ex,PIf (fL X inn ((M++U)++cs) z L ex) ifs tt)
 (al:∀ z L ex,PI (fL X inn ((M++U)++cs) z L ex) t2 i2 ah) (am:∀ z L ex,PG (fL X inn ((M++U)++cs) z L ex) t2 g2) (ao:GR M.length (M++U).length g2) (ap:∀ z L ex,PIf (fL X inn ((M++U)++cs) z L ex) f2 af) (he:∀ z L ex,PE (fL X inn ((M++U)++cs) z L ex) elt te)
 (hs:∀ x,foldedSetIterable iter X.env x=pure x:=by intro _;rfl) (aq:∀ env x,foldedSetIterable i2 env x=pure x:=by intro _ _;rfl):PE X (.ListComp elt [⟨tg,iter,ifs,0⟩,⟨t2,i2,f2,0⟩] inn pos) (aBX wi (M++U).length js g tt ah g2 af te):=by
 intro pins s σ H Q I h;rw[eval_ListComp];refine wpAny_comprehension_free (use:=none) rfl hs (wS λy hy e=>I.ok.has y.1 (O.frees y hy e)) O.kind O.names (thn (hi pins s σ H _ I h) λxv s1 h1=>thn h1 λaw s2 h2=>?_);obtain⟨it,fp,tn,J,H2,e,I2,T,ar,f2,R⟩:=h2;subst e;refine K0 (Q:=Q) (RR:=λau C=>compPost (model X.prog X.w) X.A X.xe none (EP X pins σ Q) au C) Y O rfl (lo:=M.length) (by simp) hg hk al am ao ap aq ht he I2 T ar f2 R ?_;intro D C s' H' I' ⟨m,hm⟩ c1 c2 c3 c4 c5 q;refine⟨m,hm,λh' av=>?_⟩;exact⟨.ref D,H',I'.turned (it:=C) (t':=s'.toks) (λb o hb e=>av.extBut b o hb e) c1 c2 (.inr c3) c4 c5,rfl,q⟩
end
def j0 {X:Cx} {tg:Expr} (K:PySem.W.Frag) (h:X.K=K) {l:Expr} {tl:TE} (z:PE X l tl):PI X tg l (W4 K tl):=h ▸ dC z
def K1 {K:PySem.W.Frag} {a:Addr} {xs:List V} {I:St} {g g2:TG} {tt af:TT} {wi:TI} {te:TE} {H:Hp} {Q:VK} (Pv:Nat->List V->Hp->Prop) (h0:Pv 0 [] H) (M:∀ i ys H,i<=xs.length->Pv i ys H->SqL K H a xs/\ys.length<sizeLine)
 (hs:∀ i x ys H,xs[i]?=some x->Pv i ys H->g x I H λz H2=>tt z H2 λb L=>if b=true then wi z L λN U=>O7 N z g2 af te ys (Pv (i+1)) U else Pv (i+1) ys L) (hd:∀ ys H,Pv xs.length ys H->∀ D,H D=none->Q (.ref D) (upd H D (.lst ys))) :
 J8 (Itl K a) I g tt wi g2 af te Q H:=by
 refine⟨λi m ys H=>m=xs.length - i/\i<=xs.length/\Pv i ys H,⟨xs.length,by simp,Nat.zero_le _,h0⟩,?_⟩;rintro i m ys H ⟨rfl,hi,p⟩;obtain⟨q,hz⟩:=M i ys H hi p;refine⟨hz,?_⟩
 by_cases J:i<xs.length
 .refine .inr ⟨⟨xs,xs[i],q,by simp[J]⟩,Pv (i+1),λY H' p'=>⟨xs.length - (i+1),by omega,rfl,J,p'⟩,λx H' y=>?_⟩;obtain⟨e,y⟩:=y;subst e;exact hs i x ys _ (y xs q) p
 .have e:i=xs.length:=by omega
  subst e;exact .inl ⟨⟨xs,q,Nat.le_refl _⟩,hd ys H p⟩
def K2 {K:PySem.W.Frag} {a:Addr} {xs:List V} {z:St} {g:TG} {tt:TT} {te:TE} {H:Hp} {N:List V->Hp->Prop} {D:List V} (Pv:Nat->List V->Hp->Prop) (h0:Pv 0 D H) (M:∀ i ys H,i<=xs.length->Pv i ys H->SqL K H a xs/\ys.length<sizeLine)
 (hs:∀ i x ys H,xs[i]?=some x->Pv i ys H->g x z H λI H2=>tt I H2 λb L=>if b=true then te I L λy U=>Pv (i+1) (ys++[y]) U else Pv (i+1) ys L) (hd:∀ ys H,Pv xs.length ys H->N ys H) :
 O7 (Itl K a) z g tt te D N H:=by
 refine⟨λi m ys H=>m=xs.length - i/\i<=xs.length/\Pv i ys H,⟨xs.length,by simp,Nat.zero_le _,h0⟩,?_⟩;rintro i m ys H ⟨rfl,hi,p⟩;obtain⟨q,hz⟩:=M i ys H hi p;refine⟨hz,?_⟩
 by_cases J:i<xs.length
 .refine .inr ⟨⟨xs,xs[i],q,by simp[J]⟩,Pv (i+1),λY H' p'=>⟨xs.length - (i+1),by omega,rfl,J,p'⟩,λx H' y=>?_⟩;obtain⟨e,y⟩:=y;subst e;exact hs i x ys _ (y xs q) p
 .have e:i=xs.length:=by omega
  subst e;exact .inl ⟨⟨xs,q,Nat.le_refl _⟩,hd ys H p⟩
def aCS (t u:TS):TS:=λD σ H=>∀ M:St->Hp->Prop,(∀ z H',u D z H'->M z H')->t { D with nx:=M } σ H
def bA {X:Cx} {st:Stmt} {rest:List Stmt} {t u:TS} (h1:PS X st t) (h2:PSs X rest u):PSs X (st :: rest) (aCS t u):=λpins s σ H D I h=>aF h1 h2 pins s σ H D I (h (u D) λ_ _ z=>z)
end L2
namespace L2
open PySem
open PyProof.Rows PySem.MeetsSeq PySem.SeqAt PySem.Spec
open PySem.AutoSeq1 (wpAny_loadPart')
def PairV.inj {h:Heap} {v:Value} {p q:Int×Int} (a:PairV h v p) (b:PairV h v q):p=q:=by
 obtain⟨t,o,n,M,N,rfl,I,_,hd⟩:=a;obtain⟨t',o',U,J,L,e,D,_,z⟩:=b;cases e;rw[I]at D;cases D;rw[hd]at z;obtain⟨p1,p2⟩:=p;obtain⟨Y,q2⟩:=q;simp only[Data.seq.injEq,Array.mk.injEq,List.cons.injEq,Value.int.injEq,and_true]at z;obtain⟨⟨⟨rfl,_⟩,rfl,_⟩,_⟩:=z;rfl
def EqAt.pairs {A:Around} {s:Shared} {x y:Value} {p q:Int×Int} (U:PairV s.heap x p) (Y:PairV s.heap y q) (hu:A.units+1<cLine):EqAt A s x y (decide (p=q)):=by
 obtain⟨t,o,n,I,J,rfl,ho,hc,hd⟩:=id U;obtain⟨t',o',n',z,D,rfl,L,M,N⟩:=id Y
 by_cases ht:t=t'
 .subst ht;have:p=q:=U.inj Y;rw[aD2 this];exact EqAt.same _
 .refine EqAt.of_refs ht ?_;have h:=RcAt.tuples (A:=A) (s:=s) (l:=t) (b:=t') (e:=λj=>if j=0 then p.1 == q.1 else p.2 == q.2) ⟨o,ho,hc,n,hd⟩ ⟨o',L,M,n',N⟩ (by omega) λj h1 h2=>?_
  .have e:((List.range (min (#[Value.int p.1 I,Value.int p.2 J]:Array Value).size (#[Value.int q.1 z,Value.int q.2 D]:Array Value).size)).all (λj=>if j=0 then p.1 == q.1 else p.2 == q.2) && (#[Value.int p.1 I,Value.int p.2 J]:Array Value).size == (#[Value.int q.1 z,Value.int q.2 D]:Array Value).size)=decide (p=q):=by
    show ((p.1 == q.1) && ((p.2 == q.2) && true) && true)=decide (p=q);obtain⟨p1,p2⟩:=p;obtain⟨q1,q2⟩:=q;rw[Bool.eq_iff_iff];simp
   rw[e]at h;exact h
  .match j,h1,h2 with
   | 0,_,_=>exact EqAt.int_int p.1 I q.1 z
   | 1,_,_=>exact EqAt.int_int p.2 J q.2 D
section
variable {X:Cx}
def aBY (t:TS):TS:=λD σ H=>∃ d kvs,H d=some (.dK kvs)/\t { D with nx:=λz H'=>∃ od,H' d=some (.frz od (.dK kvs))/\D.nx z (upd H' d (.dK kvs)) } σ H
def O8 {st:Stmt} {t:TS} (h:PS X st t):PS X st (aBY t):=by
 intro pins s σ H D I q;obtain⟨d,kvs,hd,q⟩:=q;have h0:∀ o u,X.H₀ d≠some (.frz o u):=λo u z=>by
  have:=I.base.frzs d o u z;rw[hd]at this;cases this
 refine thn (h pins s σ H _ I q) λf U J=>?_;cases f with
 | next =>
  obtain⟨L,H',M,od,N,J⟩:=J;exact⟨L,_,M.thaw N h0,J⟩
 | ret v=>exact J
 | brk=>exact J
 | cont=>exact J
end
end L2
namespace CW
open PySem L2
def j3 {b:Int}:∀ {gs:List Grp},(∀ g∈gs,g.2.2.length<=60)->0<=lng b gs/\lng b gs<=60 * (gs.length:Int)
 | [],_=>⟨Int.le_refl _,Int.le_refl _⟩
 | g :: r,h=>by
  obtain⟨h1,h2⟩:=j3 (b:=b) (gs:=r) λx z=>h x (aDJ _ z);have h3:=h g aDI;unfold lng at h1 h2 ⊢;rw[bX,aD9]
  by_cases c:b<g.1
  .rw[if_pos c];omega
  .rw[if_neg c];omega
def laid (z:List Int) (gs:List Grp):Trs:=z.flatMap λm=>match gs.find? (λg=>decide (g.1=m))with | some g=>g.2.2.map λo=>(m,o) | none=>[]
def pH (m:Int) (z:List Int) (gs:List Grp):laid (m :: z) gs=(match gs.find? (λg=>decide (g.1=m))with | some g=>g.2.2.map (λo=>(m,o)) | none=>[])++laid z gs:=rfl
def qG (a b:List Int) (gs:List Grp):laid (a++b) gs=laid a gs++laid b gs:=by simp[laid]
def j4 {gs:List Grp} (z:(gs.map (·.1)).Nodup) {g:Grp} (D:g∈gs):laid [g.1] gs=g.2.2.map λo=>(g.1,o):=by
 rw[pH,nW z D];exact List.append_nil _
def vV {z ks:List Int} (gs:List Grp) (h:z.Perm ks):(laid z gs).Perm (laid ks gs):=h.flatMap_right _
def vW:∀ {gs:List Grp},(gs.map (·.1)).Nodup->laid (gs.map (·.1)) gs=bI gs:=by
 intro gs z;have go:∀ us:List Grp,(∀ g∈us,g∈gs)->laid (us.map (·.1)) gs=bI us:=by
  intro us
  induction us with
  | nil=>intro _;rfl
  | cons g r D =>
   intro h;rw[aD5,pH,nW z (h g aDI),cM,D λx I=>h x (aDJ _ I)]
 exact go gs λ_ h=>h
def j5 {D:List Int} {gs:List Grp} {q:Int×Int} (h:q∈laid D gs):q.1∈D:=by
 unfold laid at h;obtain⟨m,I,z⟩:=List.mem_flatMap.mp h;split at z
 .obtain⟨o,_,rfl⟩:=aDk.mp z;exact I
 .cases z
def qH {gs:List Grp} (ac:Asc gs):∀ {z:List Int},z.Pairwise (·<·)->(laid z gs).Pairwise ple
 | [],_=>List.Pairwise.nil
 | m :: z,h=>by
  obtain⟨h1,h2⟩:=List.pairwise_cons.mp h;rw[pH];refine List.pairwise_append.mpr ⟨?_,qH ac h2,λa D b L=>?_⟩
  .split
   .next g M =>
    rw[List.pairwise_map];exact(ac g (List.mem_of_find?_eq_some M)).imp λ{x y} I=>.inr ⟨rfl,I⟩
   .exact List.Pairwise.nil
  .have J:=h1 _ (j5 L);split at D
   .obtain⟨o,_,rfl⟩:=aDk.mp D;exact .inl J
   .cases D
def vX {z ks:List Int} (D:z.Perm ks) (hs:z.Pairwise (·<=·)) (I:ks.Nodup):z.Pairwise (·<·):=by
 have h:=D.nodup_iff.mpr I;exact(List.pairwise_and_iff.mpr ⟨hs,h⟩).imp λ{x y} ⟨a,b⟩=>by omega
section
variable {P:Program} {w:World} {K:PySem.W.Frag} {mg:Str->Option Value} {base:Heap}
inductive iW (vs:List V) (H:Hp) (Q:VK) (E_:XK):Prop
 | mk (d:Addr) (gs:List Grp) (h0_:vs=[.ref d]) (h1_:DG H d gs) (h2_:GoodG gs) (h3_:gs.length<=60) (h4_:(∀ g∈gs,g.2.2.length<=60)) (h5_:∀ (e:Addr) (kvs:List (Key×V)) (H':Hp),H e=none->Same H H'->H' e=some (.dK kvs)->(∀ g∈gs,cW kvs (Sum.inl g.1:Key)=some (.int (2 * les (bI gs) g.1)))->Q (.ref e) H'):iW vs H Q E_
inductive fO (vs:List V) (H:Hp) (Q:VK) (E_:XK):Prop
 | mk (d:Addr) (gs:List Grp) (k p:Int) (h0_:vs=[.ref d,.int k,.int p]) (h1_:DG H d gs) (h2_:gs.length<=60) (h3_:(∀ g∈gs,g.2.2.length<=60)) (h4_:∀ (gs':List Grp) (H':Hp),StayG d gs H H'->DG H' d gs'->sT H k (p - 2 * wgt (fX k) gs - 2 * k) gs gs'->Q .non H'):fO vs H Q E_
inductive jG (vs:List V) (H:Hp) (Q:VK) (E_:XK):Prop
 | mk (d:Addr) (gs:List Grp) (p:Int) (H0:Hp) (h0_:vs=[.ref d,.int p]) (h1_:DG H d gs) (h2_:GoodG gs) (h3_:Asc gs) (h4_:sto gs<=59) (h5_:Bd (bI gs) (p - 1)) (h6_:Same H0 H) (h7_:H0 d=none) (h8_:(∀ g∈gs,H0 g.2.1=none)) (h9_:∀ (gs':List Grp) (H':Hp),Same H0 H'->DG H' d gs'->GoodG gs'->Asc gs'->Add (bI gs) p (bI gs')->(∀ g∈gs',H0 g.2.1=none)->Q .non H'):jG vs H Q E_
end
def O9 {l:List Int} (h:l≠[]):atI (l.map V.int) (-1)=some (V.int (l.getLast h)):=by
 have e:l.map V.int=l.dropLast.map V.int++[V.int (l.getLast h)]:=by
  rw[<- List.map_singleton (f:=V.int),<- aDV,List.dropLast_concat_getLast h]
 rw[e];exact zA _ _
def gU:∀ (r:List Int) (n:Int),(r.foldl max n=n\/r.foldl max n∈r)/\n<=r.foldl max n/\∀ x∈r,x<=r.foldl max n
 | [],n=>⟨.inl rfl,Int.le_refl _,λx hx=>(nomatch hx)⟩
 | a :: r,n=>by
  obtain⟨h1,h2,h3⟩:=gU r (max n a);rw[aD7];refine⟨?_,by omega,λx hx=>?_⟩
  .rcases h1 with h1 | h1
   .rcases Int.le_total n a with c | c
    .right;rw[h1];rw[show max n a=a by omega];exact aDI
    .left;rw[h1];omega
   .exact .inr (aDJ _ h1)
  .rcases aDi.mp hx with rfl | hx
   .omega
   .exact h3 x hx
def U3 {gs:List Grp} {p:Int} (L:GoodG gs) {ns:List Int} (h1:∀ n∈ns,∃ g∈gs,∃ D:g.2.2≠[],n=g.1/\g.2.2.getLast D=p - 1 - 2 * les (bI gs) g.1)
 (h2:∀ g∈gs,∀ D:g.2.2≠[],g.2.2.getLast D=p - 1 - 2 * les (bI gs) g.1->g.1∈ns) :
 ∃ s:Int,mxD ns (.int 0)=.int s/\0<=s/\(s=0\/1<=s/\∃ g∈gs,∃ D:g.2.2≠[],g.1=s/\g.2.2.getLast D=p - 1 - 2 * les (bI gs) s)/\(∀ g∈gs,∀ D:g.2.2≠[],s<g.1->g.2.2.getLast D≠p - 1 - 2 * les (bI gs) g.1):=by
 cases ns with
 | nil=>exact⟨0,rfl,Int.le_refl _,.inl rfl,λg I D _ e=>(nomatch (h2 g I D e))⟩
 | cons n r =>
  obtain⟨M,a2,N⟩:=gU r n;have U:r.foldl max n∈n :: r:=by
   rcases M with h | h
   .rw[h];exact aDI
   .exact aDJ _ h
  obtain⟨g,I,D,e1,Y⟩:=h1 _ U;have al:=(L g I).1;refine⟨r.foldl max n,rfl,by omega,.inr ⟨by omega,g,I,D,e1.symm,by rw[e1];exact Y⟩,λx hx J am e=>?_⟩;have:=h2 x hx J e;rcases aDi.mp this with z | z
  .omega
  .have:=N _ z;omega
def Lst.le {r:List Int} {ps:Trs} (h:Lst r ps) {n:Int} (b:Bd ps n):∀ x∈r,x<=n:=by
 cases h with
 | nil=>intro x hx;cases hx
 | snoc a z c =>
  rename_i r D p
  have bd:=a.bd (n:=p - 1) λx hx=>by have:=z x hx;omega
  obtain⟨s,rest,h0,h1,_⟩:=c.tak bd;have:=(b _ (h1.mem_iff.mpr aDI)).2;simp only at this;intro x hx;rcases aDj.mp hx with hx | hx
  .have:=z x hx;omega
  .have:x=p:=by simpa using hx
   omega
def Lst.rowp {r:List Int} {ps:Trs} (h:Lst r ps):Row r:=by
 induction h with
 | nil=>exact List.Pairwise.nil
 | snoc a b c z=>exact zL z b
def A7 {ps D z:Trs} {p:Int} {done:List Int} (t:Tak ps p D) (J:∀ q∈ps,1<=q.1) (fin:∀ r,Lst r ps->Lst (r++done) z):∀ r,Lst r D->Lst (r++p :: done) z:=λr I=>by
 obtain⟨b,a⟩:=t.add J;have:=fin (r++[p]) (.snoc I (λx L=>by have:=I.le b x L;omega) a);rw[List.append_assoc]at this;exact this
def K3 {z row:List Int} (D:z.Perm row) (hs:z.Pairwise (·<=·)) (I:Row row.reverse):z=row.reverse :=
 List.Perm.eq_of_pairwise (le:=λa b:Int=>a<=b) (λx y _ _ h1 h2=>by omega) hs (I.imp λ{x y} q=>by omega) (D.trans (List.reverse_perm _).symm)
def K4 {gs:List Grp} (gd:GoodG gs) {D:List (Int×Int)} {j:Nat} {p:Int×Int} (ht:Top D D.length j) (M:D[j]?=some p) (h1:∀ q∈D,∃ g∈gs,∃ z:g.2.2≠[],q=(g.2.2.getLast z+2 * les (bI gs) g.1,-g.1))
 (h2:∀ g∈gs,∀ z:g.2.2≠[],(g.2.2.getLast z+2 * les (bI gs) g.1,-g.1)∈D) :
 ∃ g∈gs,∃ z:g.2.2≠[],p.2=-g.1/\g.2.2.getLast z+2 * les (bI gs) g.1=p.1/\∀ x∈gs,∀ J:x.2.2≠[],x.2.2.getLast J+2 * les (bI gs) x.1<=p.1/\(x.1<g.1->x.2.2.getLast J+2 * les (bI gs) x.1<p.1):=by
 obtain⟨g,U,z,e⟩:=h1 p (aDR M);refine⟨g,U,z,by rw[e],by rw[e],λx J I=>?_⟩;obtain⟨k,N,L⟩:=List.mem_iff_getElem.mp (h2 x J I);have h3:=ht.2 k N;have e1:D.getD j (0,0)=p:=by rw[List.getD_eq_getElem?_getD,M];rfl
 have Y:D.getD k (0,0)=(x.2.2.getLast I+2 * les (bI gs) x.1,-x.1):=by rw[List.getD_eq_getElem?_getD,aDQ N,L];rfl
 rw[e1,Y,fV]at h3;simp only at h3;rw[e]at h3 ⊢;simp only at h3 ⊢;omega
section
variable {P:Program} {w:World} {K:PySem.W.Frag} {mg:Str->Option Value} {base:Heap}
inductive lS (vs:List V) (H:Hp) (Q:VK) (E_:XK):Prop
 | mk (a:Addr) (ps:List (Int×Int)) (h0_:vs=[.ref a]) (h1_:LP H a ps) (h2_:ps.length<=60) (h3_:∀ (d:Addr) (gs:List Grp) (H':Hp),H d=none->Same H H'->DG H' d gs->(bI gs).Perm ps->Asc gs->(∀ g∈gs,g.2.2≠[]/\H g.2.1=none)->Q (.ref d) H'):lS vs H Q E_
inductive aBZ (H0:Hp) (ps:Trs) (a d r:Addr) (m:Nat) (σ:St) (Hx:Hp):Prop
 | mk (gs:List Grp) (row:List Int) (v3 v4 v5 v6:Option V) (h0_:σ=[some (.ref a),some (.ref d),some (.ref r),v3,v4,v5,v6]) (h1_:Same H0 Hx) (h2_:DG Hx d gs) (h3_:GoodG gs) (h4_:Asc gs) (h5_:Hx r=some (.lst (row.map V.int))) (h6_:(∀ g∈gs,H0 g.2.1=none/\g.2.1≠r)) (h7_:sto gs=(m:Int)) (h8_:m+row.length<=60) (h9_:∀ r',Lst r' (bI gs)->Lst (r'++row.reverse) ps):aBZ H0 ps a d r m σ Hx
inductive nZ (vs:List V) (H:Hp) (Q:VK) (E_:XK):Prop
 | mk (a:Addr) (ps:List (Int×Int)) (h0_:vs=[.ref a]) (h1_:LP H a ps) (h2_:Trn ps) (h3_:∀ r:List Int,Lst r ps->kI H Q r):nZ vs H Q E_
end
def j6 {ps z:Trs} (h:Trn ps) (e:z.Perm ps):Trn z:=⟨λp D=>h.pos p (e.mem_iff.mp D),by have:=kP e;have:=h.few;unfold siz szs at *;omega⟩
def sX (s:Int) (q:Int×Int):Int:=q.2 * (if s<q.1 then s else q.1)
def cI (ws:List (Int×Int)) (s:Int):Int:=(ws.map (sX s)).sum
def eN (ps ws:List (Int×Int)):List (Int×Int):=ps.map λp=>(p.1,p.2+cI ws p.1)
def Crl (ws:List (Int×Int)):Prop:=∀ q∈ws,1<=q.1
inductive rB (vs:List V) (H:Hp) (Q:VK) (E_:XK):Prop
 | mk (a:Addr) (ws:List (Int×Int)) (h0_:vs=[.ref a]) (h1_:LP H a ws) (h2_:Crl ws) (h3_:Q .non H):rB vs H Q E_
inductive xL (vs:List V) (H:Hp) (Q:VK) (E_:XK):Prop
 | mk (a:Addr) (ws:List (Int×Int)) (s:Int) (h0_:vs=[.ref a,.int s]) (h1_:LP H a ws) (h2_:ws.length<=200) (h3_:Crl ws) (h4_:0<=s) (h5_:s<=1000) (h6_:∀ H',Same H H'->Q (.int (cI ws s)) H'):xL vs H Q E_
inductive rC (vs:List V) (H:Hp) (Q:VK) (E_:XK):Prop
 | mk (a b:Addr) (ps ws:List (Int×Int)) (h0_:vs=[.ref a,.ref b]) (h1_:LP H a ps) (h2_:Trn ps) (h3_:LP H b ws) (h4_:ws.length<=200) (h5_:Crl ws) (h6_:∀ qs:List (Int×Int),qs.Perm (eN ps ws)->qs.Pairwise ple->aBK H Q qs):rC vs H Q E_
inductive rD (vs:List V) (H:Hp) (Q:VK) (E_:XK):Prop
 | mk (a:Addr) (ns:List Int) (m:Nat) (h0_:vs=[.ref a,.int m]) (h1_:H a=some (.lst (ns.map V.int))) (h2_:2 * m+1<=ns.length) (h3_:m<=60) (h4_:∀ ws:List (Int×Int),ws.length<=m->Crl ws->(∀ q∈ws,-4<=q.2/\q.2<=4)->aBK H Q ws):rD vs H Q E_
def aB0 {ps:List (Int×Int)} (h:Trn ps) {p:Int×Int} (J:p∈ps):p.1<=60:=by
 have:=h.few;have:∀ {l:List (Int×Int)},(∀ q∈l,1<=q.1)->p∈l->p.1<=(szs l).sum:=by
  intro l
  induction l with
  | nil=>intro _ z;cases z
  | cons x r L =>
   intro D hm;simp only[szs,aD5,aD8];have N:=D x aDI;have M:=gR (ps:=r) λq I=>D q (aDJ _ I);rcases aDi.mp hm with rfl | hm
   .simp only[szs]at M;omega
   .have:=L (λq I=>D q (aDJ _ I)) hm;simp only[szs]at this;omega
 have:=this h.pos J;omega
end CW
namespace CW
def tr (s o:Int) (rest:Trs):Trs:=if s=0 then rest else (s,o) :: rest
def jH {s o:Int} {rest:Trs} {j:Int} (hs:0<=s) (z:0<=j):les (tr s o rest) j=min j s+les rest j:=by
 unfold tr;split
 .omega
 .rw[bL]
def sY {s o:Int} {rest:Trs} {q:Int×Int} (h:q∈tr s o rest):q=(s,o)/\s≠0\/q∈rest:=by
 unfold tr at h;split at h
 .exact .inr h
 .rcases aDi.mp h with h | h
  .exact .inl ⟨h,by assumption⟩
  .exact .inr h
def xM {s o:Int} {rest:Trs} {q:Int×Int} (h:q∈rest):q∈tr s o rest:=by
 unfold tr;split
 .exact h
 .exact aDJ _ h
def aAS {s o:Int} {a b:Trs} (h:a.Perm b):(tr s o a).Perm (tr s o b):=by
 unfold tr;split
 .exact h
 .exact h.cons _
def xN {ps z:Trs} {p s:Int} {rest:Trs} (h0:0<=s) (h1:ps.Perm (tr s (p - 1 - 2 * les ps s) rest)) (h2:∀ q∈ps,s<q.1->q.2+2 * les ps q.1≠p - 1) (h3:z.Perm ((s+1,p - 2 * les rest (s+1) - 2 * (s+1)) :: rest)):Add ps p z:=by
 refine⟨s,rest,h0,?_,h2,h3⟩;unfold tr at h1;split at h1
 .exact .inl ⟨by assumption,h1⟩
 .exact .inr ⟨by omega,h1⟩
def Add.tr' {ps z:Trs} {p:Int} (h:Add ps p z):∃ (s:Int) (rest:Trs),0<=s/\ps.Perm (tr s (p - 1 - 2 * les ps s) rest)/\(∀ q∈ps,s<q.1->q.2+2 * les ps q.1≠p - 1)/\z.Perm ((s+1,p - 2 * les rest (s+1) - 2 * (s+1)) :: rest):=by
 obtain⟨s,rest,h0,h1,h2,h3⟩:=h;refine⟨s,rest,h0,?_,h2,h3⟩;unfold tr;rcases h1 with ⟨a,b⟩ | ⟨a,b⟩
 .rw[if_pos a];exact b
 .rw[if_neg (by omega)];exact b
def Tak.tr' {ps z:Trs} {p:Int} (h:Tak ps p z):∃ (s:Int) (rest:Trs),1<=s/\ps.Perm ((s,p - 2 * les ps s) :: rest)/\(∀ q∈ps,q.2+2 * les ps q.1<=p)/\(∀ q∈ps,q.1<s->q.2+2 * les ps q.1<p)/\z.Perm (tr (s - 1) (p - 1 - 2 * les rest (s - 1) - 2 * (s - 1)) rest):=by
 obtain⟨s,rest,h0,h1,h2,h3,h4⟩:=h;refine⟨s,rest,h0,h1,h2,h3,?_⟩;unfold tr;rcases h4 with ⟨a,b⟩ | ⟨a,b⟩
 .rw[if_pos (by omega)];exact b
 .rw[if_neg (by omega)];exact b
def rnn (p:Int) (k:Nat):List Int:=(List.range k).map λ(j:Nat)=>p+(j:Int)
def A8 (p:Int) (k:Nat):rnn p (k+1)=rnn p k++[p+(k:Int)]:=by unfold rnn;rw[List.range_succ,aDV];rfl
def j7 (p:Int):rnn p 0=[]:=rfl
def xO {p:Int} {k:Nat} {x:Int} (h:x∈rnn p k):p<=x/\x<=p+(k:Int) - 1:=by
 unfold rnn at h;obtain⟨j,z,rfl⟩:=aDk.mp h;have:=List.mem_range.mp z;omega
def xP {fs:List Int} {p:Int} {k:Nat} (z:∀ x∈fs,x<p):∀ x∈fs++rnn p k,x<=p+(k:Int) - 1:=λx D=>by
 rcases aDj.mp D with h | h
 .have:=z x h;omega
 .have:=xO h;omega
def xQ {fs:List Int} {p:Int} {k:Nat} {Y:Trs} (h:Lst (fs++rnn p (k+1)) Y):∃ z,Lst (fs++rnn p k) z/\Tak Y (p+(k:Int)) z:=by
 rw[A8,<- List.append_assoc]at h;obtain⟨z,h1,h2,h3⟩:=h.inv;exact⟨z,h1,h3.tak (h1.bd λx D=>by have:=h2 x D;omega)⟩
def xR {fs:List Int} {p:Int} {k:Nat} {X z:Trs} (D:∀ x∈fs,x<p) (h:Lst (fs++rnn p k) z) (a:Add z (p+(k:Int)) X):Lst (fs++rnn p (k+1)) X:=by
 rw[A8,<- List.append_assoc];exact .snoc h (λx I=>by have:=xP D x I;omega) a
def aB1 {fs:List Int} {p:Int} (hf:∀ x∈fs,x<p):∀ (k:Nat) (Y rest X:Trs),Lst (fs++rnn p k) Y->(∀ q∈Y,q.1<=(k:Int)->q.2+2 * les Y q.1<=p - 1+q.1) ->
 Y.Perm (tr (k:Int) (p - 1+(k:Int) - 2 * les Y (k:Int)) rest)->X.Perm (tr (k:Int) (p+(k:Int) - 2 * les Y (k:Int)) rest)->Lst (fs++rnn (p+1) k) X:=by
 intro k
 induction k with
 | zero =>
  intro Y rest X hY hC hp hx;have e:∀ o,tr ((0:Nat):Int) o rest=rest:=λo=>rfl;rw[e]at hp hx;exact hY.perm (hp.trans hx.symm)
 | succ k ih =>
  intro Y rest X hY hC hp hx;obtain⟨L,aq,hT⟩:=xQ hY;obtain⟨t,rT,a_,N,ba,ar,J⟩:=hT.tr';have U:((k+1:Nat):Int)≠0:=by omega
  have am:(((k+1:Nat):Int),p - 1+((k+1:Nat):Int) - 2 * les Y ((k+1:Nat):Int))∈Y:=hp.mem_iff.mpr (by unfold tr;rw[if_neg U];exact aDI);have au:(t,p+(k:Int) - 2 * les Y t)∈Y:=N.mem_iff.mpr aDI;have a1:=ar _ am;have a2:=hC _ au;simp only at a1 a2;have av:t=((k+1:Nat):Int):=by
   rcases Int.lt_trichotomy t ((k+1:Nat):Int)with c | c | c
   .have:=a2 (by omega);omega
   .exact c
   .have:=a1 c;omega
  subst av;have D:rT.Perm rest:=by
   have h5:=N.symm.trans hp;unfold tr at h5;rw[if_neg U,show p - 1+((k+1:Nat):Int) - 2 * les Y ((k+1:Nat):Int)=p+(k:Int) - 2 * les Y ((k+1:Nat):Int)by omega]at h5;exact List.Perm.cons_inv h5
  have e1:((k+1:Nat):Int) - 1=(k:Int):=by omega
  rw[e1]at J;have al:∀ j,0<=j->les Y j=min j ((k+1:Nat):Int)+les rest j:=λj hj=>by
   rw[aX N,bL,aX D]
  have z:∀ j,0<=j->les L j=min j (k:Int)+les rest j:=λj hj=>by
   rw[aX J,jH (by omega) hj,aX D]
  have aw:=hY.bd (xP hf);have M:=hY.pos;have ao:∀ q∈rest,q∈Y:=λq hq=>hp.mem_iff.mpr (xM hq);have ax:=ih L rest (tr (k:Int) (p+(k:Int) - 2 * les L (k:Int)) rest) aq (λq hq bb=>by
   rcases sY (J.mem_iff.mp hq)with ⟨e,ay⟩ | h
   .rw[e];simp only;have h6:=z (k:Int) (by omega);have h7:=aX D (k:Int);omega
   .have I:=ao q (D.mem_iff.mp h);have h5:=hC q I (by omega);have h6:=M q I;have h7:=al q.1 (by omega);have h8:=z q.1 (by omega);omega) (J.trans (by
     have h6:=z (k:Int) (by omega);have h7:=aX D (k:Int);rw[show p+(k:Int) - 1 - 2 * les rT (k:Int) - 2 * (k:Int)=p - 1+(k:Int) - 2 * les L (k:Int)by omega];exact aAS D)) (.refl _)
  refine xR (λx hx=>by have:=hf x hx;omega) ax (xN (s:=(k:Int)) (rest:=rest) (by omega) ?_ ?_ ?_)
  .have az:les (tr (k:Int) (p+(k:Int) - 2 * les L (k:Int)) rest) (k:Int)=les L (k:Int):=by rw[jH (by omega) (by omega),z _ (by omega)]
   rw[az,show p+1+(k:Int) - 1 - 2 * les L (k:Int)=p+(k:Int) - 2 * les L (k:Int)by omega]
  .intro q hq ap;rcases sY hq with ⟨e,ay⟩ | h
   .rw[e]at ap;exact absurd ap (by simp)
   .have I:=ao q h;have h5:=(aw q I).2;have h6:=M q I;have h7:=al q.1 (by omega);rw[jH (by omega) (by omega)];omega
  .have h8:=al ((k+1:Nat):Int) (by omega);have e3:(k:Int)+1=((k+1:Nat):Int):=by omega
   refine hx.trans ?_;unfold tr;rw[if_neg U,e3];rw[show p+((k+1:Nat):Int) - 2 * les Y ((k+1:Nat):Int)=p+1+(k:Int) - 2 * les rest ((k+1:Nat):Int) - 2 * ((k+1:Nat):Int)by omega]
def aB2 {fs:List Int} {p:Int} (hf:∀ x∈fs,x<p) (s:Nat):∀ (d:Nat) (Y rest X:Trs),Lst (fs++rnn p (s+d)) Y->(∀ q∈Y,(q.1<=(s:Int)->q.2+2 * les Y q.1<=p - 1+q.1)/\((s:Int)<q.1->q.2+2 * les Y q.1<=p - 1+q.1 - 1)) ->
 Y.Perm (tr (s:Int) (p - 1+(s:Int) - 2 * les Y (s:Int)) rest)->X.Perm (((s:Int)+1,p+1+(s:Int) - 2 * les rest ((s:Int)+1) - 2 * ((s:Int)+1)) :: rest)->Lst (fs++rnn (p+1) (s+d+1)) X:=by
 intro d
 induction d with
 | zero =>
  intro Y rest X hY hC hp hx;rw[Nat.add_zero]at hY ⊢;have I:∀ j,0<=j->les Y j=min j (s:Int)+les rest j:=λj hj=>by rw[aX hp,jH (by omega) hj]
  have au:=aB1 hf s Y rest (tr (s:Int) (p+(s:Int) - 2 * les Y (s:Int)) rest) hY (λq hq a_=>(hC q hq).1 a_) hp (.refl _);have ba:=hY.bd (xP hf);refine xR (λx hx=>by have:=hf x hx;omega) au (xN (s:=(s:Int)) (rest:=rest) (by omega) ?_ ?_ ?_)
  .have bb:les (tr (s:Int) (p+(s:Int) - 2 * les Y (s:Int)) rest) (s:Int)=les Y (s:Int):=by rw[jH (by omega) (by omega),I _ (by omega)]
   rw[bb,show p+1+(s:Int) - 1 - 2 * les Y (s:Int)=p+(s:Int) - 2 * les Y (s:Int)by omega]
  .intro q hq J;rcases sY hq with ⟨e,bc⟩ | h
   .rw[e]at J;exact absurd J (by simp)
   .have M:=hp.mem_iff.mpr (xM h);have h5:=(ba q M).2;have h7:=I q.1 (by omega);rw[jH (by omega) (by omega)];omega
  .exact hx
 | succ d ih =>
  intro Y rest X hY hC hp hx;have e0:s+(d+1)=(s+d)+1:=by omega
  rw[e0]at hY ⊢;obtain⟨Y',bf,hT⟩:=xQ hY;obtain⟨t,rT,bm,av,bg,bn,bh⟩:=hT.tr';have aw:(t,p+((s+d:Nat):Int) - 2 * les Y t)∈Y:=av.mem_iff.mpr aDI;have hc:=hC _ aw;simp only at hc;have bo:(s:Int)+2<=t:=by
   rcases Int.lt_or_le (s:Int) t with c | c
   .have:=hc.2 c;omega
   .have:=hc.1 c;omega
  have ap:=hY.pos;have bi:(t,p+((s+d:Nat):Int) - 2 * les Y t)∈rest:=by
   rcases sY (hp.mem_iff.mp aw)with ⟨e,_⟩ | h
   .have:=congrArg Prod.fst e;simp only at this;omega
   .exact h
  obtain⟨r2,N⟩:∃ r2:Trs,rest.Perm ((t,p+((s+d:Nat):Int) - 2 * les Y t) :: r2):=⟨rest.erase _,List.perm_cons_erase bi⟩;have I:∀ j,0<=j->les Y j=min j (s:Int)+(min j t+les r2 j):=λj hj=>by rw[aX hp,jH (by omega) hj,aX N,bL]
  have al:rT.Perm (tr (s:Int) (p - 1+(s:Int) - 2 * les Y (s:Int)) r2):=by
   refine List.Perm.cons_inv (a:=(t,p+((s+d:Nat):Int) - 2 * les Y t)) (av.symm.trans (hp.trans ?_));unfold tr;split
   .exact N
   .exact(N.cons _).trans (List.Perm.swap _ _ _)
  have aq:∀ j,0<=j->les rT j=min j (s:Int)+les r2 j:=λj hj=>by rw[aX al,jH (by omega) hj]
  have ax:t - 1≠0:=by omega
  obtain⟨z,D⟩:∃ z:Trs,z=(t - 1,p+((s+d:Nat):Int) - 1 - 2 * les rT (t - 1) - 2 * (t - 1)) :: r2:=⟨_,rfl⟩;have U:Y'.Perm (tr (s:Int) (p - 1+(s:Int) - 2 * les Y (s:Int)) z):=by
   refine bh.trans ?_;rw[D];unfold tr at al ⊢;rw[if_neg ax];split at al
   .rw[if_pos (by assumption)];exact al.cons _
   .rw[if_neg (by assumption)];exact(al.cons _).trans (List.Perm.swap _ _ _)
  have am:∀ j,0<=j->les Y' j=min j (s:Int)+(min j (t - 1)+les r2 j):=λj hj=>by rw[aX U,jH (by omega) hj,D,bL]
  have ay:les Y' (s:Int)=les Y (s:Int):=by rw[am _ (by omega),I _ (by omega)];omega
  rw[<- ay]at U;have au:=ih Y' z (((s:Int)+1,p+1+(s:Int) - 2 * les z ((s:Int)+1) - 2 * ((s:Int)+1)) :: z) bf (λq hq=>by
   have ao:=U.mem_iff.mp hq;rw[D]at ao;rcases sY ao with ⟨e,bc⟩ | h
   .rw[e];simp only;omega
   .rcases aDi.mp h with e | h
    .rw[e];simp only;have h6:=am (t - 1) (by omega);have h7:=aq (t - 1) (by omega);omega
    .have M:q∈Y:=hp.mem_iff.mpr (xM (N.mem_iff.mpr (aDJ _ h)));have h5:=hC q M;have h6:=ap q M;have h7:=I q.1 (by omega);have h8:=am q.1 (by omega);omega) U (.refl _)
  have ar:∀ j,0<=j->les (((s:Int)+1,p+1+(s:Int) - 2 * les z ((s:Int)+1) - 2 * ((s:Int)+1)) :: z) j=min j ((s:Int)+1)+(min j (t - 1)+les r2 j):=λj hj=>by
   have h1:les z j=min j (t - 1)+les r2 j:=by rw[D,bL]
   rw[bL,h1]
  have bj:les z ((s:Int)+1)=((s:Int)+1)+les r2 ((s:Int)+1):=by rw[D,bL];simp only;omega
  have az:les rest ((s:Int)+1)=((s:Int)+1)+les r2 ((s:Int)+1):=by rw[aX N,bL];simp only;omega
  refine xR (λx hx=>by have:=hf x hx;omega) au (xN (s:=t - 1) (rest:=((s:Int)+1,p+1+(s:Int) - 2 * les z ((s:Int)+1) - 2 * ((s:Int)+1)) :: r2) (by omega) ?_ ?_ ?_)
  .unfold tr;rw[if_neg ax];have h9:=ar (t - 1) (by omega);have h7:=aq (t - 1) (by omega);generalize les (((s:Int)+1,p+1+(s:Int) - 2 * les z ((s:Int)+1) - 2 * ((s:Int)+1)) :: z) (t - 1)=L at h9 ⊢;refine(List.Perm.cons _ ?_).trans (List.Perm.swap _ _ _);rw[D,show p+((s+d:Nat):Int) - 1 - 2 * les rT (t - 1) - 2 * (t - 1)=p+1+((s+d+1:Nat):Int) - 1 - 2 * L by omega]
  .intro q hq J;have ao:q∈r2:=by
    rcases aDi.mp hq with e | h
    .rw[e]at J;simp only at J;omega
    .rw[D]at h;rcases aDi.mp h with e | h
     .rw[e]at J;exact absurd J (by simp)
     .exact h
   have M:q∈Y:=hp.mem_iff.mpr (xM (N.mem_iff.mpr (aDJ _ ao)));have h5:=bg q M;have h6:=ap q M;have h7:=I q.1 (by omega);rw[ar q.1 (by omega)];omega
  .have e4:t - 1+1=t:=by omega
   rw[e4];have h9:les (((s:Int)+1,p+1+(s:Int) - 2 * les z ((s:Int)+1) - 2 * ((s:Int)+1)) :: r2) t=((s:Int)+1)+les r2 t:=by rw[bL];simp only;omega
   have h10:=I t (by omega);rw[h9,bj];refine hx.trans ?_;rw[az];refine(N.cons _).trans ?_;rw[show p+((s+d:Nat):Int) - 2 * les Y t=p+1+((s+d+1:Nat):Int) - 2 * ((s:Int)+1+les r2 t) - 2 * t by omega];exact List.Perm.swap _ _ _
def A9 (n:Int) (k:Nat):rnn n (k+1)=n :: rnn (n+1) k:=gN k n
def B0 {c:Int} {r:List Int}:∀ (k h:Nat) (m:Int),(∀ x∈r,m+(k:Int)<=x)->goM c r h m=rnn m (min h k)++goM c r (h - min h k) (m+(k:Int))
 | 0,h,m,_=>by simp[rnn]
 | k+1,0,m,z=>by
  simp only[Nat.zero_min,Nat.zero_sub,j7,List.nil_append];exact nJ
 | k+1,h+1,m,z=>by
  have e1:min (h+1) (k+1)=min h k+1:=by omega
  have D:h+1 - (min h k+1)=h - min h k:=by omega
  have I:=B0 (c:=c) (r:=r) k h (m+1) λx J=>by have:=z x J;omega
  have L:goM c r (h+1) m=m :: goM c r h (m+1):=by
   cases r with
   | nil=>exact nI c h m
   | cons p M=>exact wW (by have:=z p aDI;omega)
  rw[L,I,e1,D,A9,show m+((k+1:Nat):Int)=m+1+(k:Int)by omega];rfl
def j8 {c:Int} (hc:1<=c):∀ (D:List Int) (h:Nat) (m n:Int),gY D->(∀ x∈D,x<n/\(m<=x\/h=0))->(m<=n\/h=0)->(h:Int)<=c ->
 ∃ (fs:List Int) (ld:Nat),(∀ x∈fs,x<n)/\(ld:Int)<=c/\∀ r,(∀ x∈r,n<=x)->goM c (D++r) h m=fs++goM c r ld n
 | [],h,m,n,_,_,Y,hh=>by
  rcases Nat.eq_zero_or_pos h with e | e
  .subst e;exact⟨[],0,λx z=>(nomatch z),by omega,λr _=>by rw[List.nil_append,List.nil_append];exact nJ⟩
  .have al:m<=n:=by omega
   refine⟨rnn m (min h (n - m).toNat),h - min h (n - m).toNat,λx z=>by have:=xO z;omega,by omega,λr L=>?_⟩;have:=B0 (c:=c) (r:=r) (n - m).toNat h m λx z=>by have:=L x z;omega
   rw[List.nil_append,this,show m+((n - m).toNat:Int)=n by omega]
 | p :: D,h,m,n,M,z,Y,hh=>by
  obtain⟨h1,h2⟩:=List.pairwise_cons.mp M;have hp:=z p aDI;have hm:min h (p - m).toNat<=h:=Nat.min_le_left _ _;have key:∀ r,goM c ((p :: D)++r) h m=rnn m (min h (p - m).toNat)++(if ((h - min h (p - m).toNat:Nat):Int)<c then goM c (D++r) (h - min h (p - m).toNat+1) (p+1)else p :: goM c (D++r) (h - min h (p - m).toNat) (p+1)):=λr=>rfl;have J:∀ x∈rnn m (min h (p - m).toNat),x<n:=λx z=>by
   have:=xO z;rcases hp.2 with q | q
   .omega
   .rw[q]at z;simp[rnn]at z
  have I:∀ x∈D,x<n/\p+1<=x:=λx N=>⟨(z x (aDJ _ N)).1,by have:=h1 x N;omega⟩
  by_cases U:((h - min h (p - m).toNat:Nat):Int)<c
  .obtain⟨fs,ld,a1,a2,a3⟩:=j8 hc D (h - min h (p - m).toNat+1) (p+1) n h2 (λx z=>⟨(I x z).1,.inl (I x z).2⟩) (.inl (by omega)) (by omega);refine⟨rnn m (min h (p - m).toNat)++fs,ld,λx z=>?_,a2,λr L=>by rw[key,if_pos U,a3 r L,List.append_assoc]⟩;rcases aDj.mp z with q | q
   .exact J x q
   .exact a1 x q
  .obtain⟨fs,ld,a1,a2,a3⟩:=j8 hc D (h - min h (p - m).toNat) (p+1) n h2 (λx z=>⟨(I x z).1,.inl (I x z).2⟩) (.inl (by omega)) (by omega);refine⟨rnn m (min h (p - m).toNat)++p :: fs,ld,λx z=>?_,a2,λr L=>by rw[key,if_neg U,a3 r L,List.append_assoc];rfl⟩;rcases aDj.mp z with q | q
   .exact J x q
   .rcases aDi.mp q with e | q
    .rw[e];exact hp.1
    .exact a1 x q
def shf (l:Int) (ps:Trs):Trs:=ps.map λq=>(q.1,q.2+min l q.1)
def hW (l:Int) (ps:Trs) (j:Int):les (shf l ps) j=les ps j:=by
 unfold les shf;rw[aDa];rfl
def oA {l:Int} {a b:Trs} (h:a.Perm b):(shf l a).Perm (shf l b):=h.map _
def j9 {l s o:Int} {rest:Trs}:shf l (tr s o rest)=tr s (o+min l s) (shf l rest):=by
 unfold tr;split <;> rfl
def xS {l:Int} {ps:Trs} {q:Int×Int} (h:q∈shf l ps):∃ z∈ps,q=(z.1,z.2+min l z.1):=by
 obtain⟨z,h1,h2⟩:=aDk.mp h;exact⟨z,h1,h2.symm⟩
def K5 {l p:Int} (hl:1<=l) {z ps:Trs} (hb:Bd z (p - 1)) (ha:Add z p ps) {fs:List Int} {ld:Nat} (U:∀ x∈fs,x<p) (aq:(ld:Int)<=l) (N:Lst (fs++rnn p ld) (shf l z)) :
 Lst (if (ld:Int)<l then fs++rnn (p+1) (ld+1)else fs++rnn p (ld+1)) (shf l ps)/\∃ s rest,0<=s/\z.Perm (tr s (p - 1 - 2 * les z s) rest)/\ps.Perm ((s+1,p - 2 * les rest (s+1) - 2 * (s+1)) :: rest)/\((ld:Int)<l↔s<l):=by
 obtain⟨s,rest,h0,h1,h2,h3⟩:=ha.tr';have Y:s≠0->(s,p - 1 - 2 * les z s)∈z:=λh=>h1.mem_iff.mpr (by unfold tr;rw[if_neg h];exact aDI)
 by_cases hc:(ld:Int)<l
 .rw[if_pos hc];have al:=N.bd (xP U);have hs:s<=(ld:Int):=by
   by_cases am:s=0
   .omega
   .have:=(al (s,p - 1 - 2 * les z s+min l s) (aDk.mpr ⟨_,Y am,rfl⟩)).2;simp only[hW]at this;omega
  obtain⟨D,rfl⟩:∃ D:Nat,s=(D:Int):=⟨s.toNat,by omega⟩;obtain⟨d,hd⟩:∃ d:Nat,ld=D+d:=⟨ld - D,by omega⟩;subst hd;refine⟨aB2 U D d (shf l z) (shf l rest) (shf l ps) N (λq hq=>?_) ?_ ?_,(D:Int),rest,h0,h1,h3,by constructor <;> intro _ <;> omega⟩
  .obtain⟨J,I,rfl⟩:=xS hq;have h5:=hb J I;have h6:=h2 J I;simp only[hW];refine⟨λ_=>by omega,λh=>?_⟩;have:=h6 h;omega
  .rw[hW];refine(oA h1).trans ?_;rw[j9,show p - 1 - 2 * les z (D:Int)+min l (D:Int)=p - 1+(D:Int) - 2 * les z (D:Int)by omega]
  .rw[hW];refine(oA h3).trans ?_;unfold shf;rw[aD5];simp only;rw[show p - 2 * les rest ((D:Int)+1) - 2 * ((D:Int)+1)+min l ((D:Int)+1)=p+1+(D:Int) - 2 * les rest ((D:Int)+1) - 2 * ((D:Int)+1)by omega]
 .rw[if_neg hc];have ar:(ld:Int)=l:=by omega
  obtain⟨k,hk⟩:∃ k,ld=k+1:=⟨ld - 1,by omega⟩;have L:=N;rw[hk]at L;obtain⟨Y',_,hT⟩:=xQ L;obtain⟨t,rT,au,ao,_⟩:=hT;obtain⟨J,I,e⟩:=xS (ao.mem_iff.mpr aDI);have e1:=congrArg Prod.fst e;have e2:=congrArg Prod.snd e;simp only[hW]at e1 e2;have h5:=(hb J I).2;have h6:=h2 J I;rw[e1]at e2;have hs:l<=s:=by
   rcases Int.lt_or_le s J.1 with c | c
   .have:=h6 c;omega
   .omega
  refine⟨xR U N (xN (s:=s) (rest:=shf l rest) h0 ?_ ?_ ?_),s,rest,h0,h1,h3,by constructor <;> intro _ <;> omega⟩
  .rw[hW];refine(oA h1).trans ?_;rw[j9,show p - 1 - 2 * les z s+min l s=p+(ld:Int) - 1 - 2 * les z s by omega]
  .intro q hq M;obtain⟨q2,ap,rfl⟩:=xS hq;have:=h2 q2 ap;simp only[hW]at M ⊢;have:=this M;omega
  .rw[hW];refine(oA h3).trans ?_;unfold shf;rw[aD5];simp only;rw[show p - 2 * les rest (s+1) - 2 * (s+1)+min l (s+1)=p+(ld:Int) - 2 * les rest (s+1) - 2 * (s+1)by omega]
def Lst.rowP {r:List Int} {ps:Trs} (h:Lst r ps):gY r:=by
 induction h with
 | nil=>exact List.Pairwise.nil
 | snoc a b c z=>exact List.pairwise_append.mpr ⟨z,by simp,λx D y I=>by rw[aDc.mp I];exact b x D⟩
def U4 {l:Int} (I:1<=l) {r:List Int} {p:Int} (J:gY r) (L:∀ x∈r,x<p):∃ (fs:List Int) (ld:Nat),(∀ x∈fs,x<p)/\(ld:Int)<=l/\cU r l=fs++rnn p ld/\cU (r++[p]) l=if (ld:Int)<l then fs++rnn (p+1) (ld+1)else fs++rnn p (ld+1):=by
 obtain⟨fs,ld,M,N,D⟩:=j8 I r 0 0 p J (λx z=>⟨L x z,.inr rfl⟩) (.inr rfl) (by omega);refine⟨fs,ld,M,N,?_,?_⟩
 .have:=D [] λx z=>(nomatch z);rw[List.append_nil]at this;exact this
 .have:=D [p] λx z=>by rw[aDc.mp z];exact Int.le_refl _
  unfold cU;rw[this,lM (.inr (Int.le_refl _))];split
  .rfl
  .rw[A9];rfl
def Lst.walk {l:Int} (z:1<=l) {r:List Int} {ps:Trs} (h:Lst r ps):Lst (cU r l) (shf l ps):=by
 induction h with
 | nil=>exact .nil
 | snoc a b c D =>
  rename_i r I p ps
  obtain⟨fs,ld,J,L,M,N⟩:=U4 z a.rowP b;rw[M]at D;rw[N];exact(K5 z (a.bd λx U=>by have:=b x U;omega) c J L D).1
end CW
namespace CW
open PySem L2
def aB3:∀ {l:List Int},l≠[]->∃ m∈l,∀ x∈l,x<=m:=λ{l} h=>by
 cases l with
 | nil=>exact absurd rfl h
 | cons n r =>
  obtain⟨z,D,I⟩:=gU r n;refine⟨r.foldl max n,?_,λx hx=>?_⟩
  .rcases z with h | h
   .rw[h];exact aDI
   .exact aDJ _ h
  .rcases aDi.mp hx with rfl | hx
   .exact D
   .exact I x hx
def Add.ex (ps:Trs) (M:∀ q∈ps,1<=q.1) (p:Int):∃ N,Add ps p N:=by
 by_cases h:(ps.filter λq=>decide (q.2+2 * les ps q.1=p - 1))=[]
 .refine⟨_,0,ps,Int.le_refl _,.inl ⟨rfl,.refl _⟩,λq I _ e=>?_,.refl _⟩;have:q∈ps.filter λq=>decide (q.2+2 * les ps q.1=p - 1):=aDl.mpr ⟨I,by simpa using e⟩;rw[h]at this;cases this
 .obtain⟨s,hs,z⟩:=aB3 (l:=(ps.filter λq=>decide (q.2+2 * les ps q.1=p - 1)).map (·.1)) (by simpa using h);obtain⟨q,I,e⟩:=aDk.mp hs;obtain⟨h1,h2⟩:=aDl.mp I;have h3:q.2+2 * les ps q.1=p - 1:=by simpa using h2
  have U:q.1=s:=e;have L:(s,p - 1 - 2 * les ps s)∈ps:=by
   have:(s,p - 1 - 2 * les ps s)=q:=by rw[<- U,<- h3];exact Prod.ext rfl (by show _=q.2;omega)
   rw[this];exact h1
  have J:=M _ L;have D:1<=s:=J;refine⟨_,s,ps.erase (s,p - 1 - 2 * les ps s),by omega,.inr ⟨D,List.perm_cons_erase L⟩,λx Y al e2=>?_,.refl _⟩;have:=z x.1 (aDk.mpr ⟨x,aDl.mpr ⟨Y,by simpa using e2⟩,rfl⟩);omega
def Lst.ex:∀ (r:List Int),Row r->∃ ps,Lst r ps:=by
 have go:∀ (n:Nat) (r:List Int),r.length=n->Row r->∃ ps,Lst r ps:=by
  intro n
  induction n with
  | zero=>intro r h _;exact⟨[],by rw[List.length_eq_zero_iff.mp h];exact .nil⟩
  | succ n L =>
   intro r h I;have z:r≠[]:=λe=>by rw[e]at h;cases h
   have e:=List.dropLast_concat_getLast z;rw[<- e]at I;obtain⟨h1,_,h2⟩:=List.pairwise_append.mp I;obtain⟨ps,D⟩:=L r.dropLast (by rw[List.length_dropLast];omega) h1;obtain⟨M,J⟩:=Add.ex ps D.pos (r.getLast z);refine⟨M,?_⟩;rw[<- e];exact .snoc D (λx N=>h2 x N _ (by simp)) J
 exact λr I=>go r.length r rfl I
def shn (f:Int->Int) (ps:Trs):Trs:=ps.map λq=>(q.1,q.2+f q.1)
def xT (f g:Int->Int) (ps:Trs):shn f (shn g ps)=shn (λs=>g s+f s) ps:=by
 unfold shn;rw[aDa];refine List.map_congr_left λq _=>?_;simp only[Function.comp];exact Prod.ext rfl (by simp only;omega)
def gG {f g:Int->Int} {ps:Trs} (h:∀ q∈ps,f q.1=g q.1):shn f ps=shn g ps:=List.map_congr_left λq z=>by rw[h q z]
def sZ (ps:Trs):shn (λ_=>0) ps=ps:=by
 unfold shn
 conv=>rhs;rw[<- List.map_id ps]
 exact List.map_congr_left λq _=>Prod.ext rfl (by simp)
def k7 {f:Int->Int} {a b:Trs} (h:a.Perm b):(shn f a).Perm (shn f b):=h.map _
def Lst.walks {l:Int} (z:1<=l) {r:List Int} {ps:Trs} (h:Lst r ps):Lst (cU r l) (shn (λs=>min l s) ps):=h.walk z
def Lst.back {l:Int} (D:1<=l) {r:List Int} {ps:Trs} (h:Lst r ps):Lst (hU r l) (shn (λs=>-min l s) ps):=by
 obtain⟨z,h'⟩:=Lst.ex (hU r l) (vK h.rowp D);have h2:=h'.walks D;rw[G8 h.rowp D]at h2;have h3:=k7 (f:=λs=>-min l s) (h2.uniq h);rw[xT]at h3;have e:shn (λs=>min l s+-min l s) z=z:=by
  rw[gG (g:=λ_=>0) λq _=>by omega];exact sZ z
 rw[e]at h3;exact h'.perm h3
def wk1 (q:Int×Int) (r:List Int):List Int:=if 0<q.2 then cU r q.1 else hU r q.1
def wkn (q:Int×Int):Nat->List Int->List Int
 | 0,r=>r
 | n+1,r=>wk1 q (wkn q n r)
def wso (ws:Trs) (r:List Int):List Int:=ws.foldl (λr q=>wkn q q.2.natAbs r) r
def aAT {q:Int×Int} (z:1<=q.1) {r:List Int} (h:Row r):Row (wk1 q r):=by
 unfold wk1;split
 .exact pA h z
 .exact vK h z
def aAU (q:Int×Int) (r:List Int):(wk1 q r).length=r.length:=by
 unfold wk1;split
 .exact oZ _ _
 .exact S0 _ _
def xU {q:Int×Int} (z:1<=q.1) {r:List Int} (h:Row r):∀ n,Row (wkn q n r)
 | 0=>h
 | n+1=>aAT z (xU z h n)
def xV (q:Int×Int) (r:List Int):∀ n,(wkn q n r).length=r.length
 | 0=>rfl
 | n+1=>(aAU q _).trans (xV q r n)
def Lst.wkn {q:Int×Int} (D:1<=q.1) {r:List Int} {ps:Trs} (h:Lst r ps):∀ n:Nat,Lst (wkn q n r) (shn (λs=>(n:Int) * if 0<q.2 then min q.1 s else -min q.1 s) ps)
 | 0=>by
  rw[gG (g:=λ_=>0) λq _=>by simp,sZ];exact h
 | n+1=>by
  have I:=Lst.wkn D h n;have e:∀ f:Int->Int,shn f (shn (λs=>(n:Int) * if 0<q.2 then min q.1 s else -min q.1 s) ps)=shn (λs=>(n:Int) * (if 0<q.2 then min q.1 s else -min q.1 s)+f s) ps:=λf=>xT f _ ps;show Lst (wk1 q (CW.wkn q n r)) _;have J:∀ x:Int,((n+1:Nat):Int) * x=(n:Int) * x+x:=λx=>by rw[show ((n+1:Nat):Int)=(n:Int)+1 by omega,Int.add_mul,Int.one_mul]
  unfold wk1
  by_cases z:0<q.2
  .rw[if_pos z];have:=I.walks D;rw[e]at this;rw[gG (g:=λs=>(n:Int) * (if 0<q.2 then min q.1 s else -min q.1 s)+min q.1 s) λx _=>by rw[J,if_pos z]];exact this
  .rw[if_neg z];have:=I.back D;rw[e]at this;rw[gG (g:=λs=>(n:Int) * (if 0<q.2 then min q.1 s else -min q.1 s)+-min q.1 s) λx _=>by rw[J,if_neg z]];exact this
def Lst.wk {q:Int×Int} (D:1<=q.1) {r:List Int} {ps:Trs} (h:Lst r ps):Lst (CW.wkn q q.2.natAbs r) (shn (λs=>q.2 * min q.1 s) ps):=by
 have:=h.wkn D q.2.natAbs;rw[gG (g:=λs=>q.2 * min q.1 s) λx _=>?_]at this
 .exact this
 .by_cases z:0<q.2
  .rw[if_pos z,show (q.2.natAbs:Int)=q.2 by omega]
  .rw[if_neg z,show (q.2.natAbs:Int)=-q.2 by omega,Int.neg_mul_neg]
def pI (s:Int) (q:Int×Int):sX s q=q.2 * min q.1 s:=by
 unfold sX
 congr 1
 split <;> omega
def Lst.wso:∀ {ws:Trs},Crl ws->∀ {r:List Int} {ps:Trs},Lst r ps->Lst (CW.wso ws r) (eN ps ws)
 | [],_,r,ps,h=>by
  have:eN ps []=ps:=sZ ps;rw[this];exact h
 | q :: ws,z,r,ps,h=>by
  have h1:=h.wk (z q aDI);have h2:=Lst.wso (ws:=ws) (λx D=>z x (aDJ _ D)) h1;have e:eN (shn (λs=>q.2 * min q.1 s) ps) ws=eN ps (q :: ws):=by
   show shn (cI ws) (shn _ ps)=shn (cI (q :: ws)) ps;rw[xT];refine gG λx _=>?_;unfold cI;rw[aD5,aD8,pI]
  rw[<- e];exact h2
def vY {a b:Trs} (h:a.Perm b) (s:Int):cI a s=cI b s:=by
 unfold cI
 induction h with
 | nil=>rfl
 | cons x _ z=>simp only[aD5,aD8];omega
 | swap x y l=>simp only[aD5,aD8];omega
 | trans _ _ h1 h2=>exact h1.trans h2
def k9 {ps ws:Trs} (h:Trn ps):Trn (eN ps ws):=by
 refine⟨λq z=>?_,?_⟩
 .obtain⟨p,D,rfl⟩:=aDk.mp z;exact h.pos p D
 .have:szs (eN ps ws)=szs ps:=by
   unfold szs eN;rw[aDa];rfl
  rw[this];exact h.few
def Lst.trn {r:List Int} {ps:Trs} (h:Lst r ps) (z:r.length<=60):Trn ps:=⟨h.pos,by have:=h.sizx;unfold siz at this;unfold szs;omega⟩
def l6 {ws:Trs} {i:Nat} {q:Int×Int} (h:ws[i]?=some q) (r:List Int):wso (ws.take (i+1)) r=wkn q q.2.natAbs (wso (ws.take i) r):=by
 unfold wso;rw[aDb,h,List.foldl_append];rfl
def xW {r:List Int} (h:Row r):∀ {ws:Trs},Crl ws->Row (wso ws r):=by
 intro ws
 induction ws generalizing r with
 | nil=>intro _;exact h
 | cons q ws D=>intro z;exact D (xU (z q aDI) h _) λx I=>z x (aDJ _ I)
def rE:∀ (ws:Trs) (r:List Int),(wso ws r).length=r.length
 | [],r=>rfl
 | q :: ws,r=>(rE ws _).trans (xV q r _)
inductive rF (vs:List V) (H:Hp) (Q:VK) (E_:XK):Prop
 | mk (a:Addr) (ns:List Int) (m:Nat) (h0_:vs=[.ref a,.int m]) (h1_:H a=some (.lst (ns.map V.int))) (h2_:G4 ns) (h3_:m+3<=ns.length) (h4_:m<=60) (h5_:∀ row,Row row->row.length<=m->(∀ x∈row,-15<=x)->kI H Q row):rF vs H Q E_
def aCT {row:List Int}:∀ x∈row,x<=hiM row:=by
 cases row with
 | nil=>intro x hx;cases hx
 | cons n r =>
  obtain⟨I,z,D⟩:=zP r n;intro x hx;rcases aDi.mp hx with rfl | hx
  .exact z
  .exact D x hx
def iX (q:Int×Int) (ws:Trs) (s:Int):cI (q :: ws) s=q.2 * min q.1 s+cI ws s:=by
 unfold cI;rw[aD5,aD8,pI]
end CW
namespace CW
end CW
namespace CW
open PySem L2
def rr (S:Int):Trs->List Int
 | []=>[]
 | q :: B=>rnn (q.2+2 * S+q.1+1) q.1.toNat++rr (S+q.1) B
def aB4 {ns:List Int} (h:ns≠[]):atI (ns.map V.int) (-1)=some (.int (ns.getLastD 0)):=by
 obtain⟨r,x,rfl⟩:∃ r x,ns=r++[x]:=⟨ns.dropLast,ns.getLast h,(List.dropLast_concat_getLast h).symm⟩;rw[aDV,List.map_singleton,zA];simp
def aB5 {ns:List Int} (h:ns≠[]):atI (ns.map V.int) 0=some (.int (ns.headD 0)):=by
 cases ns with
 | nil=>exact absurd rfl h
 | cons x r=>simp[atI,ixN]
inductive Ent
 | walk (c n:Int) | put (p:Int) | take (p:Int) | mir | lay (o:List Int) (g:Int)
def xX (row:List Int) (p:Int):List Int:=row.filter (λx=>decide (x<p))++p :: row.filter (λx=>decide (p<x))
def aCU (row:List Int) (p:Int):List Int:=row.filter (λx=>decide (x≠p))
def U5 (row o:List Int) (g:Int):List Int:=row++R9 o (row.getLastD 0+g+1 - o.headD 0)
def Ent.ok (row:List Int):Ent->Prop
 | .walk c _=>1<=c
 | .put p=>p∉row/\row.length<60
 | .take p=>p∈row
 | .mir=>True
 | .lay o g=>row≠[]/\o≠[]/\Row o/\row.length+o.length<=60/\(o.length:Int)<=g
def Ent.app (row:List Int):Ent->List Int
 | .walk c n=>wso [(c,n)] row
 | .put p=>xX row p
 | .take p=>aCU row p
 | .mir=>eV row
 | .lay o g=>U5 row o g
structure Rw (r:List Int):Prop where
 row:Row r
 len:r.length<=60
def pJ {row:List Int} {p:Int} (h:p∉row):(xX row p).Perm (row++[p]):=by
 unfold xX;refine(List.perm_middle).trans ?_;refine List.Perm.trans ?_ (List.perm_append_comm (l₁:=[p]) (l₂:=row));refine List.Perm.cons p ?_
 induction row with
 | nil=>exact .nil
 | cons x r D =>
  have I:x≠p:=λe=>h (by rw[e];exact aDI);have D:=D λz=>h (aDJ _ z)
  by_cases c:x<p
  .rw[List.filter_cons_of_pos (by simpa using c),List.filter_cons_of_neg (by simp;omega)];exact D.cons x
  .rw[List.filter_cons_of_neg (by simpa using c),List.filter_cons_of_pos (by simp;omega)];exact List.perm_middle.trans (D.cons x)
def B1 {row:List Int} {p:Int} (h:Row row):Row (xX row p):=by
 unfold xX;refine List.pairwise_append.mpr ⟨h.filter _,List.pairwise_cons.mpr ⟨λx z=>?_,h.filter _⟩,λx z y hy=>?_⟩
 .simpa using (aDl.mp z).2
 .have h1:x<p:=by simpa using (aDl.mp z).2
  rcases aDi.mp hy with e | hy
  .omega
  .have h2:p<y:=by simpa using (aDl.mp hy).2
   omega
def aAV {row o:List Int} {g:Int} (h:Row row) (D:Row o) (e1:row≠[]) (I:o≠[]) (N:0<=g):Row (U5 row o g):=by
 unfold U5;refine List.pairwise_append.mpr ⟨h,Z2 D,λx hx y J=>?_⟩;have h1:x<=row.getLastD 0:=by
  obtain⟨r,z,rfl⟩:∃ r z,row=r++[z]:=⟨row.dropLast,row.getLast e1,(List.dropLast_concat_getLast e1).symm⟩;have L:(r++[z]).getLastD 0=z:=by simp
  rw[L];rcases aDj.mp hx with hx | hx
  .exact Int.le_of_lt ((List.pairwise_append.mp h).2.2 x hx z (by simp))
  .rw[aDc.mp hx];exact Int.le_refl _
 have h2:row.getLastD 0<y:=by
  obtain⟨z,hz,rfl⟩:=aDk.mp J;obtain⟨a,r,rfl⟩:∃ a r,o=a :: r:=by cases o with | nil=>exact absurd rfl I | cons a r=>exact⟨a,r,rfl⟩
  have M:(a :: r).headD 0=a:=rfl;rw[M];have:a<=z:=by
   rcases aDi.mp hz with e | hz
   .omega
   .exact Int.le_of_lt ((List.pairwise_cons.mp D).1 z hz)
  omega
 exact Int.lt_of_le_of_lt h1 h2
def Ent.app_row {row:List Int} {e:Ent} (h:Rw row) (z:e.ok row):Rw (e.app row):=by
 cases e with
 | walk c n =>
  refine⟨xW h.row λq D=>?_,by show (wso [(c,n)] row).length<=60;rw[rE];exact h.len⟩;rw[aDc.mp D];exact z
 | put p =>
  refine⟨B1 h.row,?_⟩;have:=(pJ z.1).length_eq;rw[aDP,List.length_singleton]at this;have h2:=z.2;show (xX row p).length<=60;omega
 | take p=>exact⟨h.row.filter _,Nat.le_trans (List.length_filter_le _ _) h.len⟩
 | mir=>exact⟨gQ h.row,by show (eV row).length<=60;rw[kK];exact h.len⟩
 | lay o g =>
  obtain⟨h1,h2,h3,h4,h5⟩:=z;refine⟨aAV h.row h3 h1 h2 (by omega),?_⟩;show (U5 row o g).length<=60;unfold U5;rw[aDP,zM];exact h4
inductive Go:List Int->List Ent->List Int->Prop
 | nil {r:List Int}:Go r [] r
 | cons {r r':List Int} {e:Ent} {es:List Ent} (ok:e.ok r) (go:Go (e.app r) es r'):Go r (e :: es) r'
def Go.rw {r z:List Int} {es:List Ent} (h:Go r es z) (D:Rw r):Rw z:=by
 induction h with
 | nil=>exact D
 | cons ok _ I=>exact I (Ent.app_row D ok)
def Go.append {r D z:List Int} {es fs:List Ent} (h:Go r es D) (g:Go D fs z):Go r (es++fs) z:=by
 induction h with
 | nil=>exact g
 | cons ok _ I=>exact .cons ok (I g)
def Go.one {r:List Int} {e:Ent} (h:e.ok r):Go r [e] (e.app r):=.cons h .nil
def Go.snoc {r z:List Int} {es:List Ent} {e:Ent} (h:Go r es z) (D:e.ok z):Go r (es++[e]) (e.app z):=h.append (.one D)
def Go.det {r D z:List Int} {es:List Ent} (h:Go r es D) (g:Go r es z):D=z:=by
 induction h with
 | nil=>cases g;rfl
 | cons _ _ I=>cases g with | cons _ g=>exact I g
def Go.split {r z:List Int}:∀ {es fs:List Ent},Go r (es++fs) z->∃ D,Go r es D/\Go D fs z:=by
 intro es
 induction es generalizing r with
 | nil=>intro fs h;exact⟨r,.nil,h⟩
 | cons e es I =>
  intro fs h;cases h with
  | cons ok g =>
   obtain⟨D,h1,h2⟩:=I g;exact⟨D,.cons ok h1,h2⟩
def Go.at {r D:List Int} {es:List Ent} {i:Nat} {e:Ent} (h:Go r es D) (hi:es[i]?=some e):∃ z,Go r (es.take i) z/\e.ok z/\Go r (es.take (i+1)) (e.app z):=by
 have hs:es.take i++es.drop i=es:=List.take_append_drop i es;rw[<- hs]at h;obtain⟨z,h1,h2⟩:=h.split;have hd:es.drop i=e :: es.drop (i+1):=by
  obtain⟨I,he⟩:=aDh.mp hi;rw[<- he];exact List.drop_eq_getElem_cons I
 rw[hd]at h2;cases h2 with
 | cons ok g =>
  refine⟨z,h1,ok,?_⟩;rw[aDb,hi];exact h1.snoc ok
def wE (ws:Trs):List Ent:=ws.map λq=>.walk q.1 q.2
def P0 (c n:Int) (r:List Int):wso [(c,n)] r=wkn (c,n) n.natAbs r:=rfl
def K6 (a b:Trs) (r:List Int):wso (a++b) r=wso b (wso a r):=by unfold wso;rw[List.foldl_append]
def B2:∀ {ws:Trs} {r:List Int},Crl ws->Go r (wE ws) (wso ws r)
 | [],_,_=>.nil
 | q :: ws,r,z=>.cons (z q aDI) (B2 λx D=>z x (aDJ _ D))
def oB (a b:Trs) (s:Int):cI (a++b) s=cI a s+cI b s:=by unfold cI;rw[aDV,List.sum_append]
def tD (c n s:Int):cI [(c,n)] s=n * min c s:=by
 show [sX s (c,n)].sum=_;rw[aD8,List.sum_nil,Int.add_zero,pI]
def aB6 {ps:Trs}:(∀ q∈ps,1<=q.1)->∀ q∈ps,q.1<=siz ps:=by
 induction ps with
 | nil=>intro _ q hq;cases hq
 | cons p r z =>
  intro h q hq;have h2:∀ x∈r,1<=x.1:=λx D=>h x (aDJ _ D);have h3:=gR h2;have h4:(szs r).sum=siz r:=rfl;have h5:siz (p :: r)=p.1+siz r:=by unfold siz;rw[aD5,aD8]
  have h6:=h p aDI;rcases aDi.mp hq with e | hq
  .rw[e];omega
  .have:=z h2 q hq;omega
def B3 {a b:Trs} {r:List Int} (D:Rw r) (J:Crl a) (L:Crl b) (h:∀ s:Int,1<=s->s<=60->cI a s=cI b s):wso a r=wso b r:=by
 obtain⟨ps,z⟩:=Lst.ex r D.row;refine(z.wso J).row (z.wso L) ?_;have:eN ps a=eN ps b:=List.map_congr_left λq I=>by
  have h1:=z.pos q I;have h2:=aB6 z.pos q I;have h3:=z.sizx;have h4:=D.len;rw[h q.1 h1 (by omega)]
 rw[this]
def mQ (k n:Int):Trs->Trs
 | []=>[(k,n)]
 | p :: r=>if p.1=k then (p.1,p.2+n) :: r else p :: mQ k n r
abbrev kvW (ws:Trs):List (Key×V):=ws.map λq=>((Sum.inl q.1:Key),V.int q.2)
def vZ (k n s:Int):∀ ws:Trs,cI (mQ k n ws) s=cI ws s+n * min k s
 | []=>by rw[mQ,tD];unfold cI;simp
 | p :: r=>by
  unfold mQ
  by_cases h:p.1=k
  .rw[if_pos h,iX,iX,<- h];show (p.2+n) * min p.1 s+cI r s=_;rw[Int.add_mul];omega
  .rw[if_neg h,iX,iX,vZ k n s r];omega
def pK (k n:Int):∀ ws:Trs,∀ q∈mQ k n ws,q.1=k\/q.1∈ws.map (·.1)
 | [],q,hq=>by rw[mQ]at hq;rw[aDc.mp hq];exact .inl rfl
 | p :: r,q,hq=>by
  unfold mQ at hq
  by_cases h:p.1=k
  .rw[if_pos h]at hq;rcases aDi.mp hq with e | hq
   .rw[e];exact .inl h
   .exact .inr (aDJ _ (aDk.mpr ⟨q,hq,rfl⟩))
  .rw[if_neg h]at hq;rcases aDi.mp hq with e | hq
   .rw[e];exact .inr aDI
   .rcases pK k n r q hq with h | h
    .exact .inl h
    .exact .inr (aDJ _ h)
def tE (k n:Int):∀ {ws:Trs},(ws.map (·.1)).Nodup->((mQ k n ws).map (·.1)).Nodup
 | [],_=>by simp[mQ]
 | p :: r,h=>by
  rw[aD5,List.nodup_cons]at h;unfold mQ
  by_cases e:p.1=k
  .rw[if_pos e,aD5,List.nodup_cons];exact h
  .rw[if_neg e,aD5,List.nodup_cons];refine⟨λz=>?_,tE k n h.2⟩;obtain⟨q,I,D⟩:=aDk.mp z;rcases pK k n r q I with h1 | h1
   .exact e (by rw[<- D];exact h1)
   .rw[D]at h1;exact h.1 h1
def U6 {κ:Type} [DecidableEq κ] {p:κ×V} {r:List (κ×V)} {k:κ} {v:V} (e:p.1=k) (h:k∉r.map (·.1)):eK (p :: r) k v=(p.1,v) :: r:=by
 unfold eK;rw[if_pos (by rw[List.any_cons,aD2 e,Bool.true_or]),aD5,if_pos e]
 congr 1
 conv=>rhs;rw[<- List.map_id r]
 refine List.map_congr_left λx D=>?_;rw[if_neg (λz=>h (aDk.mpr ⟨x,D,z⟩))];rfl
def wA {κ:Type} [DecidableEq κ] {p:κ×V} {r:List (κ×V)} {k:κ} {v:V} (e:¬ p.1=k):eK (p :: r) k v=p :: eK r k v:=by
 unfold eK;rw[List.any_cons,aD1 e,Bool.false_or]
 by_cases c:(r.any λz=>decide (z.1=k))=true
 .rw[if_pos c,if_pos c,aD5,if_neg e]
 .rw[if_neg c,if_neg c];rfl
def P1 (k n:Int):∀ {ws:Trs},(ws.map (·.1)).Nodup->∃ z:Int,(cW (kvW ws) (Sum.inl k)).getD (.int 0)=.int z/\eK (kvW ws) (Sum.inl k) (.int (z+n))=kvW (mQ k n ws)
 | [],_=>⟨0,rfl,by rw[Int.zero_add];rfl⟩
 | p :: r,h=>by
  rw[aD5,List.nodup_cons]at h;unfold mQ
  by_cases e:p.1=k
  .refine⟨p.2,?_,?_⟩
   .show (cW (((Sum.inl p.1:Key),V.int p.2) :: kvW r) (Sum.inl k)).getD (.int 0)=_;rw[cO (by rw[e])];rfl
   .rw[if_pos e];show eK (((Sum.inl p.1:Key),V.int p.2) :: kvW r) (Sum.inl k) _=_;rw[U6 (by rw[e]) (λz=>?_)]
    .rfl
    .obtain⟨x,J,D⟩:=aDk.mp z;obtain⟨q,L,rfl⟩:=aDk.mp J;have:q.1=k:=Sum.inl.inj D;exact h.1 (aDk.mpr ⟨q,L,this.trans e.symm⟩)
  .obtain⟨z,h1,h2⟩:=P1 k n h.2;have I:¬ (Sum.inl p.1:Key)=Sum.inl k:=λq=>e (Sum.inl.inj q);refine⟨z,?_,?_⟩
   .show (cW (((Sum.inl p.1:Key),V.int p.2) :: kvW r) (Sum.inl k)).getD (.int 0)=_;rw[cH I];exact h1
   .rw[if_neg e];show eK (((Sum.inl p.1:Key),V.int p.2) :: kvW r) (Sum.inl k) _=_;rw[wA I,h2];rfl
structure WsOk (ws:Trs):Prop where
 key:∀ q∈ws,1<=q.1/\q.1<=60
 nd:(ws.map (·.1)).Nodup
def WsOk.crl {ws:Trs} (h:WsOk ws):Crl ws:=λq z=>(h.key q z).1
def WsOk.nil:WsOk []:=⟨λq z=>(nomatch z),List.nodup_nil⟩
def WsOk.add {ws:Trs} (h:WsOk ws) {k:Int} (n:Int) (h1:1<=k) (h2:k<=60):WsOk (mQ k n ws):=by
 refine⟨λq z=>?_,tE k n h.nd⟩;rcases pK k n ws q z with e | e
 .omega
 .obtain⟨p,D,e⟩:=aDk.mp e;have:=h.key p D;have e:p.1=q.1:=e;omega
def wB:∀ {l s:List Nat},l.Nodup->(∀ x∈l,x∈s)->l.length<=s.length
 | [],_,_,_=>Nat.zero_le _
 | x :: l,s,h,hs=>by
  obtain⟨h1,h2⟩:=List.nodup_cons.mp h;have z:=hs x aDI;have:=wB (l:=l) (s:=s.erase x) h2 λy D=>(List.mem_erase_of_ne (λe=>h1 (by rw[<- e];exact D))).mpr (hs y (aDJ _ D));rw[List.length_erase_of_mem z]at this;have:=List.length_pos_of_mem z;rw[aD9];omega
def qI {l:List Nat} {m:Nat} (h1:l.Nodup) (h2:∀ x∈l,x<m):l.length<=m:=by
 have:=wB h1 (λx z=>List.mem_range.mpr (h2 x z));rw[List.length_range]at this;exact this
def WsOk.few {ws:Trs} (h:WsOk ws):ws.length<=61:=by
 have h1:((ws.map (·.1)).map Int.toNat).Nodup:=by
  rw[List.Nodup,List.pairwise_map];refine List.Pairwise.imp_of_mem (R:=λa b=>a≠b) (λ{a b} D I J e=>J ?_) h.nd;obtain⟨p,z,rfl⟩:=aDk.mp D;obtain⟨q,L,rfl⟩:=aDk.mp I;have:=h.key p z;have:=h.key q L;omega
 have:=qI (m:=61) h1 λx M=>by
  obtain⟨y,N,rfl⟩:=aDk.mp M;obtain⟨p,z,rfl⟩:=aDk.mp N;have:=h.key p z;omega
 simpa using this
structure Crs where
 rested:List Int
 walks:Trs
 turned:Bool
def Crs.row (C:Crs):List Int:=if C.turned=true then eV (wso C.walks C.rested)else wso C.walks C.rested
structure Crs.Ok (C:Crs):Prop where
 rw:Rw C.rested
 ws:WsOk C.walks
def Crs.Ok.wrw {C:Crs} (h:C.Ok):Rw (wso C.walks C.rested):=⟨xW h.rw.row h.ws.crl,by rw[rE];exact h.rw.len⟩
def Crs.Ok.row {C:Crs} (h:C.Ok):Rw C.row:=by
 unfold Crs.row;split
 .exact⟨gQ h.wrw.row,by rw[kK];exact h.wrw.len⟩
 .exact h.wrw
def aAW {c n:Int} (z:n≠0) (r:List Int):wk1 (c,n) (eV r)=eV (wk1 (c,-n) r):=by
 unfold wk1;show (if 0<n then cU (eV r) c else hU (eV r) c)=eV (if 0 < -n then cU r c else hU r c)
 by_cases h:0<n
 .rw[if_pos h,if_neg (by omega)];unfold hU;rw[iR]
 .rw[if_neg h,if_pos (by omega)];unfold hU;rw[iR]
def P2 {c n:Int} (z:n≠0) (r:List Int):∀ k,wkn (c,n) k (eV r)=eV (wkn (c,-n) k r)
 | 0=>rfl
 | k+1=>by
  show wk1 (c,n) (wkn (c,n) k (eV r))=eV (wk1 (c,-n) (wkn (c,-n) k r));rw[P2 z r k,aAW z]
def aAX (c n:Int) (r:List Int):wso [(c,n)] (eV r)=eV (wso [(c,-n)] r):=by
 rw[P0,P0,Int.natAbs_neg]
 by_cases h:n=0
 .subst h;rfl
 .exact P2 h r _
def Crs.walk (C:Crs) (c n:Int):Crs:={ C with walks:=mQ (min c 60) (if C.turned=true then -n else n) C.walks }
def B4 {C:Crs} (h:C.Ok) {c:Int} (z:1<=c) (n:Int):wso (mQ (min c 60) n C.walks) C.rested=wso [(c,n)] (wso C.walks C.rested):=by
 rw[<- K6];refine B3 h.rw (h.ws.add n (by omega) (by omega)).crl (λq hq=>?_) λs h1 h2=>?_
 .rcases aDj.mp hq with hq | hq
  .exact h.ws.crl q hq
  .rw[aDc.mp hq];exact z
 .rw[vZ,oB,tD]
  congr 2
  omega
def Crs.walk_row {C:Crs} (h:C.Ok) {c:Int} (hc:1<=c) (n:Int):(C.walk c n).row=wso [(c,n)] C.row:=by
 unfold Crs.row Crs.walk;cases hT:C.turned with
 | false =>
  simp only[Bool.false_eq_true,if_false];exact B4 h hc n
 | true =>
  simp only[if_true];rw[B4 h hc,aAX]
def Crs.walk_ok {C:Crs} (h:C.Ok) {c:Int} (hc:1<=c) (n:Int):(C.walk c n).Ok:=⟨h.rw,h.ws.add _ (by omega) (by omega)⟩
def Crs.turn_row (C:Crs):({ C with turned:=!C.turned }:Crs).row=eV C.row:=by
 unfold Crs.row;cases z:C.turned with
 | false=>simp
 | true=>simp[iR]
def Crs.new_ok {r:List Int} (h:Rw r):(⟨r,[],false⟩:Crs).Ok:=⟨h,.nil⟩
def U7 {x:Str} (h:U1 x):PyData.strOk x=true:=by
 unfold U1 at h;unfold PyData.strOk;rw[<- Array.all_toList,List.all_eq_true]at *;intro c z;have:=of_decide_eq_true (h c z);exact aD2 (by omega)
def l7 {x:Str} (h:U1 x):SeqAt.shaped (.str x)=true:=by
 simp[SeqAt.shaped,PyData.canLay0,PyData.depth,U7 h]
def aCV (x y:Str):PyData.eqv (.str x) (.str y)=decide (x=y):=by
 simp only[PyData.eqv]
 by_cases h:x=y
 .rw[aD2 h,h];exact beq_self_eq_true y
 .rw[aD1 h];exact beq_eq_false_iff_ne.mpr h
structure Txs (x:Str):Prop where
 asc:U1 x
 len:x.length<=5000
inductive xY (vs:List V) (H:Hp) (Q:VK) (E_:XK):Prop
 | mk (t sg:Str) (most:Int) (h0_:vs=[.str t,.str sg,.int most]) (h1_:Txs t) (h2_:∀ H',Same H H'->Q (.bl (sQ t sg most)) H'):xY vs H Q E_
inductive rG (vs:List V) (H:Hp) (Q:VK) (E_:XK):Prop
 | mk (t:Str) (h0_:vs=[.str t]) (h1_:Txs t) (h2_:∀ H',Same H H'->Q (.bl (sQ t J3 8)) H'):rG vs H Q E_
structure Dd where
 word:Str
 names:List Str
 nums:List Int
 b:Bool
inductive DeedAt (H:Hp):V->Dd->Prop
 | plain {a:Addr} {w:Str} {ns:List Str} {xs:List Int}:H a=some (.tup (.str w :: (ns.map V.str++xs.map V.int)))->DeedAt H (.ref a) ⟨w,ns,xs,false⟩
 | build {a t:Addr} {w n:Str} {xs:List Int}:H a=some (.tup [.str w,.str n,.ref t])->H t=some (.tup (xs.map V.int))->DeedAt H (.ref a) ⟨w,[n],xs,true⟩
def DeedAt.same {H H':Hp} {v:V} {d:Dd} (g:Same H H') (h:DeedAt H v d):DeedAt H' v d:=by
 cases h with
 | plain e=>exact .plain (g _ _ e)
 | build e1 z=>exact .build (g _ _ e1) (g _ _ z)
structure OkD (d:Dd):Prop where
 bld:d.b=true->d.word="build"/\d.names.length=1
 frm:d.b=false->b9 d.word=some ((d.names.length:Int),(d.nums.length:Int))
 nms:∀ n∈d.names,Txs n/\sQ n J3 8=true
 nmb:∀ x∈d.nums,x.natAbs<10 ^ 60
 few:d.nums.length<=10
 two:d.names.length<=2
def xZ:List Str:=["build","shut","walk","put","take","mirror","lay","late","strike"]
def U8 {w:Str} {p:Int×Int} (h:b9 w=some p):w∈xZ/\w≠"build"/\(1:Int)<=p.1:=by
 unfold b9 at h
 repeat' split at h
 all_goals first
  | (rename_i e;subst e;cases h;exact⟨by simp[xZ],by decide +kernel,by decide⟩)
  | cases h
def OkD.word {d:Dd} (h:OkD d):d.word∈xZ:=by
 cases z:d.b with
 | true=>rw[(h.bld z).1];simp[xZ]
 | false=>exact(U8 (h.frm z)).1
def DeedsAt (H:Hp):List V->List Dd->Prop:=Paired λv d=>DeedAt H v d/\OkD d
def DeedsAt.same {H H':Hp} {vs:List V} {ds:List Dd} (g:Same H H') (h:DeedsAt H vs ds):DeedsAt H' vs ds:=Paired.mapP h λv d x=>⟨x.1.same g,x.2⟩
def DeedsAt.at {H:Hp} {vs:List V} {ds:List Dd} (h:DeedsAt H vs ds) {i:Nat} {v:V} (e:vs[i]?=some v):∃ d,DeedAt H v d/\OkD d:=by
 unfold DeedsAt at h
 induction h generalizing i with
 | nil=>cases e
 | cons r t z =>
  cases i with
  | zero=>cases e;exact⟨_,r⟩
  | succ i=>exact z e
def DeedsAt.take {H:Hp}:∀ {vs:List V} {ds:List Dd} (n:Nat),DeedsAt H vs ds->DeedsAt H (vs.take n) (ds.take n)
 | _,_,0,_=>by simp;exact .nil
 | _,_,_+1,.nil=>.nil
 | _,_,n+1,.cons r t=>.cons r (DeedsAt.take n t)
mutual
inductive DT (H:Hp):V->PyData->Prop
 | int (i:Int):DT H (.int i) (.int i)
 | str (x:Str):DT H (.str x) (.str x)
 | tup {a:Addr} {vs:List V} {ds:List PyData}:H a=some (.tup vs)->DTs H vs ds->DT H (.ref a) (.tuple ds)
inductive DTs (H:Hp):List V->List PyData->Prop
 | nil:DTs H [] []
 | cons {v:V} {d:PyData} {vs:List V} {ds:List PyData}:DT H v d->DTs H vs ds->DTs H (v :: vs) (d :: ds)
end
mutual
def DT.mono {H H':Hp} (e:TupS H H'):∀ {v:V} {d:PyData},DT H v d->DT H' v d
 | _,_,.int i=>.int i
 | _,_,.str x=>.str x
 | _,_,.tup h t=>.tup (e _ _ h) (DTs.mono e t)
def DTs.mono {H H':Hp} (e:TupS H H'):∀ {vs:List V} {ds:List PyData},DTs H vs ds->DTs H' vs ds
 | _,_,.nil=>.nil
 | _,_,.cons r t=>.cons (DT.mono e r) (DTs.mono e t)
end
mutual
def DT.den {H:Hp}:∀ {v:V} {d:PyData},DT H v d->Den H v d
 | _,_,.int i=>.int i
 | _,_,.str x=>.str x
 | _,_,.tup h t=>.tup h (DTs.dens t)
def DTs.dens {H:Hp}:∀ {vs:List V} {ds:List PyData},DTs H vs ds->Dens H vs ds
 | _,_,.nil=>.nil
 | _,_,.cons r t=>.cons (DT.den r) (DTs.dens t)
end
def DTs.length:∀ {H:Hp} {vs:List V} {ds:List PyData},DTs H vs ds->vs.length=ds.length
 | _,_,_,.nil=>rfl
 | _,_,_,.cons _ t=>congrArg Nat.succ (DTs.length t)
def DTs.append:∀ {H:Hp} {vs us:List V} {ds es:List PyData},DTs H vs ds->DTs H us es->DTs H (vs++us) (ds++es)
 | _,_,_,_,_,.nil,s=>s
 | _,_,_,_,_,.cons r t,s=>.cons r (DTs.append t s)
def DTs.take:∀ {H:Hp} {vs:List V} {ds:List PyData} (n:Nat),DTs H vs ds->DTs H (vs.take n) (ds.take n)
 | _,_,_,0,_=>.nil
 | _,_,_,_+1,.nil=>.nil
 | _,_,_,n+1,.cons r t=>.cons r (DTs.take n t)
def DTs.drop:∀ {H:Hp} {vs:List V} {ds:List PyData} (n:Nat),DTs H vs ds->DTs H (vs.drop n) (ds.drop n)
 | _,_,_,0,r=>r
 | _,_,_,_+1,.nil=>.nil
 | _,_,_,n+1,.cons r t=>DTs.drop n t
def DTs.get:∀ {H:Hp} {vs:List V} {ds:List PyData} {i:Nat} {d:PyData},DTs H vs ds->ds[i]?=some d->∃ v,vs[i]?=some v/\DT H v d
 | _,_,_,_,_,.nil,e=>by simp at e
 | _,_,_,0,_,.cons r _,e=>by simp at e;subst e;exact⟨_,rfl,r⟩
 | _,_,_,i+1,d,.cons _ t,e=>by
  obtain⟨v,h1,h2⟩:=DTs.get (i:=i) (d:=d) t (by simpa using e);exact⟨v,by simpa using h1,h2⟩
def DTs.ints {H:Hp}:∀ ns:List Int,DTs H (ns.map V.int) (ns.map PyData.int)
 | []=>.nil
 | n :: r=>.cons (.int n) (DTs.ints r)
def DTs.ints_inv {H:Hp}:∀ {ns:List Int} {vs:List V},DTs H vs (ns.map PyData.int)->vs=ns.map V.int
 | [],_,.nil=>rfl
 | n :: r,_,.cons (.int _) t=>by rw[DTs.ints_inv t];rfl
def Ent.data:Ent->PyData
 | .walk c n=>.tuple [.str "walk",.int c,.int n]
 | .put p=>.tuple [.str "put",.int p]
 | .take p=>.tuple [.str "take",.int p]
 | .mir=>.tuple [.str "mirror"]
 | .lay o g=>.tuple [.str "lay",.tuple (o.map PyData.int),.int g]
def rH {H:Hp} {v:V} {c n:Int} (h:DT H v (Ent.walk c n).data):∃ t,v=.ref t/\H t=some (.tup [.str "walk",.int c,.int n]):=by
 cases h with
 | tup h t=>cases t with | cons a t=>cases t with | cons b t=>cases t with | cons c t=>cases t;cases a;cases b;cases c;exact⟨_,rfl,h⟩
def l9 {H:Hp} {v:V} {p:Int} (h:DT H v (Ent.put p).data):∃ t,v=.ref t/\H t=some (.tup [.str "put",.int p]):=by
 cases h with
 | tup h t=>cases t with | cons a t=>cases t with | cons b t=>cases t;cases a;cases b;exact⟨_,rfl,h⟩
def P3 {H:Hp} {v:V} {p:Int} (h:DT H v (Ent.take p).data):∃ t,v=.ref t/\H t=some (.tup [.str "take",.int p]):=by
 cases h with
 | tup h t=>cases t with | cons a t=>cases t with | cons b t=>cases t;cases a;cases b;exact⟨_,rfl,h⟩
def m3 {H:Hp} {v:V} (h:DT H v Ent.mir.data):∃ t,v=.ref t/\H t=some (.tup [.str "mirror"]):=by
 cases h with
 | tup h t=>cases t with | cons a t=>cases t;cases a;exact⟨_,rfl,h⟩
def m4 {H:Hp} {v:V} {o:List Int} {g:Int} (h:DT H v (Ent.lay o g).data):∃ t u,v=.ref t/\H t=some (.tup [.str "lay",.ref u,.int g])/\H u=some (.tup (o.map V.int)):=by
 cases h with
 | tup h t=>cases t with | cons a t=>cases t with | cons b t=>cases t with | cons c t =>
  cases t;cases a;cases c;cases b with | tup z tb=>rw[DTs.ints_inv tb]at z;exact⟨_,_,rfl,h,z⟩
def Ent.word:Ent->Str
 | .walk _ _=>"walk" | .put _=>"put" | .take _=>"take" | .mir=>"mirror" | .lay _ _=>"lay"
def P4 {H:Hp} {v:V} {e:Ent} (h:DT H v e.data):∃ t xs,v=.ref t/\H t=some (.tup (.str e.word :: xs)):=by
 cases e with
 | walk c n=>obtain⟨t,rfl,h'⟩:=rH h;exact⟨t,_,rfl,h'⟩
 | put p=>obtain⟨t,rfl,h'⟩:=l9 h;exact⟨t,_,rfl,h'⟩
 | take p=>obtain⟨t,rfl,h'⟩:=P3 h;exact⟨t,_,rfl,h'⟩
 | mir=>obtain⟨t,rfl,h'⟩:=m3 h;exact⟨t,_,rfl,h'⟩
 | lay o g=>obtain⟨t,u,rfl,h',_⟩:=m4 h;exact⟨t,_,rfl,h'⟩
structure Hc (K:PySem.W.Frag) where
 Rd:Addr
 Cs:Addr
 Hs:Addr
 rd:Cls K Rd
 cs:Cls K Cs
 hs:Cls K Hs
 ne1:Rd≠Hs
 ne2:Cs≠Hs
 rEn:NoAttr K Rd "entries"
 rRe:NoAttr K Rd "rests"
 rCo:NoAttr K Rd "course"
 cRe:NoAttr K Cs "rested"
 cWa:NoAttr K Cs "walks"
 cTu:NoAttr K Cs "turned"
 hSt:NoAttr K Hs "standing"
 hPa:NoAttr K Hs "past"
 hAh:NoAttr K Hs "ahead"
def RowA (N:Addr->Prop) (H:Hp) (t:Addr) (r:List Int):Prop:=N t/\H t=some (.lst (r.map V.int))\/H t=some (.tup (r.map V.int))
abbrev aCW (t d:Addr) (b:Bool):List (Str×V):=[("rested",.ref t),("walks",.ref d),("turned",.bl b)]
abbrev aCX (e r c:Addr):List (Str×V):=[("entries",.ref e),("rests",.ref r),("course",.ref c)]
abbrev iG (d p q:Addr):List (Str×V):=[("standing",.ref d),("past",.ref p),("ahead",.ref q)]
section
variable {K:PySem.W.Frag} (G:Hc K)
structure Kp (N:Addr->Prop) (H H':Hp):Prop where
 tup:TupS H H'
 dk:∀ d kvs,H d=some (.dK kvs)->H' d=some (.dK kvs)
 ins:∀ a C dx fs,C≠G.Hs->H a=some (.ins C dx fs)->H' a=some (.ins C dx fs)
 lst:∀ t xs,N t->H t=some (.lst xs)->H' t=some (.lst xs)
def CrsAt (N:Addr->Prop) (H:Hp) (a:Addr) (C:Crs):Prop:=∃ dx t d,H a=some (.ins G.Cs dx (aCW t d C.turned))/\RowA N H t C.rested/\H d=some (.dK (kvW C.walks))
def RestAt (N:Addr->Prop) (H:Hp) (v:V) (q:Nat×List Int):Prop:=∃ t u,v=.ref t/\H t=some (.tup [.int q.1,.ref u])/\RowA N H u q.2
structure RoadOk (first:List Int) (ents:List Ent) (rests:List (Nat×List Int)) (C:Crs):Prop where
 rw:Rw first
 hd:rests[0]?=some (0,first)
 all:∀ q∈rests,q.1<=ents.length/\Go first (ents.take q.1) q.2
 asc:rests.Pairwise λa b=>a.1<b.1
 cok:C.Ok
 go:Go first ents C.row
 lim:ents.length<=9000
def RoadAt (N:Addr->Prop) (H:Hp) (v:V) (first:List Int) (ents:List Ent):Prop:=∃ a dx e r c us z rests C,v=.ref a/\H a=some (.ins G.Rd dx (aCX e r c))/\H e=some (.tup us)/\DTs H us (ents.map Ent.data) /\
 H r=some (.tup z)/\Paired (RestAt N H) z rests/\CrsAt G N H c C/\RoadOk first ents rests C
abbrev Std:=List (Str×List Int×List Ent)
def DictAt (N:Addr->Prop) (H:Hp) (d:Addr) (std:Std):Prop:=std.length<=8/\∃ kvs,H d=some (.dK kvs)/\Paired (λ(z:Key×V) (s:Str×List Int×List Ent)=>z.1=.inr s.1/\RoadAt G N H z.2 s.2.1 s.2.2) kvs std
def PastAt (N:Addr->Prop) (H:Hp) (v:V) (q:PyData×Std):Prop:=∃ t u d,v=.ref t/\H t=some (.tup [u,.ref d])/\DT H u q.1/\DictAt G N H d q.2
structure HM where
 std:Std
 past:List (PyData×Std)
 ahead:List (PyData×Std)
def HouseAt (N:Addr->Prop) (H:Hp) (a p q:Addr) (m:HM):Prop:=∃ dx d us ws,p≠q/\H a=some (.ins G.Hs dx (iG d p q))/\DictAt G (λt=>N t/\t≠p/\t≠q) H d m.std /\
 H p=some (.lst us)/\Paired (PastAt G (λt=>N t/\t≠p/\t≠q) H) us m.past/\H q=some (.lst ws)/\Paired (PastAt G (λt=>N t/\t≠p/\t≠q) H) ws m.ahead
variable {G}
def Kp.same {N:Addr->Prop} {H H':Hp} (g:Same H H'):Kp G N H H':=⟨λ_ _ e=>g _ _ e,λ_ _ e=>g _ _ e,λ_ _ _ _ _ e=>g _ _ e,λ_ _ _ e=>g _ _ e⟩
def RowA.kp {N:Addr->Prop} {H H':Hp} (k:Kp G N H H') {t:Addr} {r:List Int} (h:RowA N H t r):RowA N H' t r:=by
 rcases h with ⟨h1,h2⟩ | h
 .exact .inl ⟨h1,k.lst _ _ h1 h2⟩
 .exact .inr (k.tup _ _ h)
def RowA.same {N:Addr->Prop} {H H':Hp} (g:Same H H') {t:Addr} {r:List Int} (h:RowA N H t r):RowA N H' t r:=by
 rcases h with ⟨h1,h2⟩ | h
 .exact .inl ⟨h1,g _ _ h2⟩
 .exact .inr (g _ _ h)
def CrsAt.kp {N:Addr->Prop} {H H':Hp} (k:Kp G N H H') {a:Addr} {C:Crs} (h:CrsAt G N H a C):CrsAt G N H' a C:=by
 obtain⟨dx,t,d,h1,h2,h3⟩:=h;exact⟨dx,t,d,k.ins _ _ _ _ G.ne2 h1,h2.kp k,k.dk _ _ h3⟩
def RestAt.kp {N:Addr->Prop} {H H':Hp} (k:Kp G N H H') {v:V} {q:Nat×List Int} (h:RestAt N H v q):RestAt N H' v q:=by
 obtain⟨t,u,h1,h2,h3⟩:=h;exact⟨t,u,h1,k.tup _ _ h2,h3.kp k⟩
def RoadAt.kp {N:Addr->Prop} {H H':Hp} (k:Kp G N H H') {v:V} {first:List Int} {ents:List Ent} (h:RoadAt G N H v first ents):RoadAt G N H' v first ents:=by
 obtain⟨a,dx,e,r,c,us,z,rests,C,h1,h2,h3,h4,h5,h6,h7,h8⟩:=h;exact⟨a,dx,e,r,c,us,z,rests,C,h1,k.ins _ _ _ _ G.ne1 h2,k.tup _ _ h3,h4.mono k.tup,k.tup _ _ h5,Paired.mapP h6 λ_ _ x=>x.kp k,h7.kp k,h8⟩
def DictAt.kp {N:Addr->Prop} {H H':Hp} (k:Kp G N H H') {d:Addr} {std:Std} (h:DictAt G N H d std):DictAt G N H' d std:=by
 obtain⟨h0,kvs,h1,h2⟩:=h;exact⟨h0,kvs,k.dk _ _ h1,Paired.mapP h2 λ_ _ x=>⟨x.1,x.2.kp k⟩⟩
def PastAt.kp {N:Addr->Prop} {H H':Hp} (k:Kp G N H H') {v:V} {q:PyData×Std} (h:PastAt G N H v q):PastAt G N H' v q:=by
 obtain⟨t,u,d,h1,h2,h3,h4⟩:=h;exact⟨t,u,d,h1,k.tup _ _ h2,h3.mono k.tup,h4.kp k⟩
def RowA.imp {N z:Addr->Prop} {H:Hp} {t:Addr} {r:List Int} (k:∀ t xs,N t->H t=some (.lst xs)->z t) (h:RowA N H t r):RowA z H t r:=by
 rcases h with ⟨h1,h2⟩ | h
 .exact .inl ⟨k _ _ h1 h2,h2⟩
 .exact .inr h
def RoadAt.imp {N z:Addr->Prop} {H:Hp} (k:∀ t xs,N t->H t=some (.lst xs)->z t) {v:V} {first:List Int} {ents:List Ent} (h:RoadAt G N H v first ents):RoadAt G z H v first ents:=by
 obtain⟨a,dx,e,r,c,us,D,rests,C,h1,h2,h3,h4,h5,h6,⟨I,t,d,J,L,M⟩,h8⟩:=h;exact⟨a,dx,e,r,c,us,D,rests,C,h1,h2,h3,h4,h5,Paired.mapP h6 λ_ _ ⟨t,u,U,Y,z3⟩=>⟨t,u,U,Y,z3.imp k⟩,⟨I,t,d,J,L.imp k,M⟩,h8⟩
def DictAt.imp {N z:Addr->Prop} {H:Hp} (k:∀ t xs,N t->H t=some (.lst xs)->z t) {d:Addr} {std:Std} (h:DictAt G N H d std):DictAt G z H d std:=by
 obtain⟨h0,kvs,h1,h2⟩:=h;exact⟨h0,kvs,h1,Paired.mapP h2 λ_ _ x=>⟨x.1,x.2.imp k⟩⟩
def PastAt.imp {N z:Addr->Prop} {H:Hp} (k:∀ t xs,N t->H t=some (.lst xs)->z t) {v:V} {q:PyData×Std} (h:PastAt G N H v q):PastAt G z H v q:=by
 obtain⟨t,u,d,h1,h2,h3,h4⟩:=h;exact⟨t,u,d,h1,h2,h3,h4.imp k⟩
def HouseAt.same {N:Addr->Prop} {H H':Hp} (g:Same H H') {a p q:Addr} {m:HM} (h:HouseAt G N H a p q m):HouseAt G N H' a p q m:=by
 obtain⟨dx,d,us,ws,h0,h1,h2,h3,h4,h5,h6⟩:=h;have k:Kp G (λt=>N t/\t≠p/\t≠q) H H':=.same g;exact⟨dx,d,us,ws,h0,g _ _ h1,h2.kp k,g _ _ h3,Paired.mapP h4 λ_ _ x=>x.kp k,g _ _ h5,Paired.mapP h6 λ_ _ x=>x.kp k⟩
end
end CW
namespace L2
open PySem PySem.Spec PyProof.Rows
open Sem (wp)
open Sem (wp)
open Builtin Builtin.ObjectAttr
end L2
namespace L2
open PySem PySem.Spec PyProof.Rows
def XO (C e:Addr) (od:Option Addr):HO:=.ext λh=>∃ t,h.get? e=some { cls:=.ref C,dict:=od,data:=.fields #[.ref t,.none,.none,.none,.bool false,.none] }
def XO.mk {P:Program} {w:World} {H:Hp} {h:Heap} {C e t:Addr} {od:Option Addr} (x:h.get? e=some { cls:=.ref C,dict:=od,data:=.fields #[.ref t,.none,.none,.none,.bool false,.none] }):ObjOk P w H h e (XO C e od) :=
 ⟨⟨t,x⟩,⟨_,x⟩,λh1 h2 ⟨t,z⟩ k=>⟨t,k _ z⟩⟩
section
variable {P:Program} {w:World} {l:List Env} {H:Hp} {s s':Shared} {E:XK} {e:Addr}
structure Fly (P:Program) (w:World) (l:List Env) (H:Hp) (s:Shared) (e:Addr) (cls a0:Value) (od:Option Addr) (H':Hp) (B:Heap) (s':Shared):Prop where
 os:s'.os=s.os
 bare:AllBare s'.gens
 un:Un (frs l) [] H H' s.heap s'.heap
 hok:HOk P w H' s'.heap
 no:H' e=none
 at_:∃ oe,s'.heap.get? e=some oe/\oe.dict=od
 fl:Heap.FlyingW B l e cls a0 s'.heap
 cov:∀ b u,H' b=some u->∃ o,B.get? b=some o
 olds:∀ b o,s.heap.get? b=some o->b∉frs l->∃ o',B.get? b=some o'
variable {cls a0:Value} {od:Option Addr} {H':Hp} {B:Heap}
def Fly.frame (f:Fly P w l H s e cls a0 od H' B s') {b:Addr} (I:b∈frs l) {o:Obj} (J:s'.heap.get? b=some o):∀ vs,o.data≠.fields vs:=by
 obtain⟨_,o',z,D⟩:=f.fl.2.2.1.mem I;rw[J]at z;cases z;exact D
def Fly.fresh (f:Fly P w l H s e cls a0 od H' B s') {b:Addr} {o:Obj} (e1:s.heap.get? b=some o):b≠e:=λz=>by
 subst z
 by_cases D:b∈frs l
 .obtain⟨o',J⟩:=f.un.there b o e1 (by simp);obtain⟨L,vs,he,_,hd,_⟩:=f.fl.first
  exact f.frame D he vs hd
 .obtain⟨o',I⟩:=f.olds b o e1 D;rw[f.fl.2.1]at I;cases I
end
abbrev HR:=Value->Option Addr->Addr->oT->St->Hp->Prop
open Sem (wp)
open Builtin Builtin.ObjectAttr
structure FunD (K:PySem.W.Frag) (x qual:Str) (st:Stmt) (f:Addr) (fd:FuncData):Prop where
 ex:∃ (oc:Value) (od:Option Addr) (dV kV doc pm:Value) (an:Option Addr) (cdv ct:Value) (osl:Array (Option Value)),
  fd=PySem.W.fnOf x qual (cQ st) (cA st) (aJ st) dV kV doc pm an cdv ct/\K.lookup f=some ⟨oc,od,.func fd,osl⟩/\PySem.W.codeIn K cdv qual=true
 kp:PySem.W.keepIn K (.ref f)=true
section
variable {P:Program} {w:World} {K:PySem.W.Frag} {mg:Str->Option Value} {base:Heap}
def FunD.ok {x qual:Str} {st:Stmt} {f:Addr} {fd:FuncData} {N ps:List Str} {k:Nat} {sp:Sp} (F:FunD K x qual st f fd) (S:FnScope N ps (aJ st)) (len:∀ vs H Q E,sp vs H Q E->vs.length=ps.length)
 (D:∀ (z:Value) (A:Around) (outer:List Env) (s:Shared) (H:Hp) (vs:List V) (Q:VK) (E:XK),Room k (A.deeper (envOfC qual (aJ st) s.heap.objs.size f z))->sp vs H Q E ->
  ∃ t,PSs (yY CX0 P w K mg base N qual (aJ st) f z A outer s H E).nox (cA st) t/\t { nx:=λ_ H'=>Q .non H',rt:=Q } (mC N vs) H):FnOk P w K mg base CX0 (k+1) f fd ps sp:=by
 obtain⟨Y,od,dV,kV,L,pm,an,z,ct,M,rfl,lk,I⟩:=F.ex;refine X0 lk I S len λA outer s H vs Q E U J=>?_;obtain⟨t,h,q⟩:=D z A outer s H vs Q E U J;exact⟨t,h.nox,q⟩
end
end L2
namespace L2
open PySem PySem.Spec PyProof.Rows
open PySem.W PySem.Calls
end L2
namespace CW
open PySem L2
section
variable {P:Program} {w:World} {K:PySem.W.Frag} {mg:Str->Option Value} {base:Heap}
def aB7 (K:PySem.W.Frag) (C:Addr) (f:Str):Bool:=PySem.W.findIn K (.ref C) "__getattribute__" == some (some (.builtin "BaseException.__getattribute__")) && PySem.W.findIn K (.ref C) "__getattr__" == some none &&
 PySem.W.subIn K (.ref C) (.type "BaseException") == some true && PySem.W.hasDictIn K C && PySem.W.findIn K (.ref C) f == some none
structure aCY (K:PySem.W.Frag) (mg:Str->Option Value) where
 row:Addr
 trains:Addr
 sizes:Addr
 many:Addr
 creel:Addr
 number:Addr
 near:Addr
 bare:Addr
 err:Addr
 m_row:mg "BadRow"=some (.ref row)
 m_trains:mg "BadTrains"=some (.ref trains)
 m_sizes:mg "BadSizes"=some (.ref sizes)
 m_many:mg "TooMany"=some (.ref many)
 m_creel:mg "BadCreel"=some (.ref creel)
 m_number:mg "BadNumber"=some (.ref number)
 m_near:mg "TooNear"=some (.ref near)
 m_bare:mg "Bare"=some (.ref bare)
 m_err:mg "CreelError"=some (.ref err)
def m5 (K:PySem.W.Frag):List Addr->Bool
 | []=>true
 | a :: l=>PySem.W.exmOne K (.ref a) (.ref a) == some true && l.all (λb=>PySem.W.exmOne K (.ref b) (.ref a) == some false) && m5 K l
structure Sees (X:aCY K mg):Prop where
 met:m5 K [X.row,X.trains,X.sizes,X.many,X.creel,X.number,X.near,X.bare]=true
 g1:aB7 K X.row "at"=true
 g2:aB7 K X.trains "at"=true
 g3:aB7 K X.sizes "at"=true
 e1:PySem.W.exmOne K (.ref X.row) (.ref X.err)=some true
 e4:PySem.W.exmOne K (.ref X.many) (.ref X.err)=some true
def Sees.all {X:aCY K mg} (Z:Sees X):PySem.W.exmOne K (.ref X.row) (.ref X.row)=some true/\PySem.W.exmOne K (.ref X.trains) (.ref X.trains)=some true/\PySem.W.exmOne K (.ref X.sizes) (.ref X.sizes)=some true/\PySem.W.exmOne K (.ref X.many) (.ref X.many)=some true/\PySem.W.exmOne K (.ref X.creel) (.ref X.creel)=some true/\PySem.W.exmOne K (.ref X.number) (.ref X.number)=some true/\PySem.W.exmOne K (.ref X.near) (.ref X.near)=some true/\PySem.W.exmOne K (.ref X.bare) (.ref X.bare)=some true/\PySem.W.exmOne K (.ref X.trains) (.ref X.row)=some false/\PySem.W.exmOne K (.ref X.sizes) (.ref X.row)=some false/\PySem.W.exmOne K (.ref X.sizes) (.ref X.trains)=some false/\PySem.W.exmOne K (.ref X.many) (.ref X.row)=some false/\PySem.W.exmOne K (.ref X.many) (.ref X.trains)=some false/\PySem.W.exmOne K (.ref X.many) (.ref X.sizes)=some false/\PySem.W.exmOne K (.ref X.creel) (.ref X.row)=some false/\PySem.W.exmOne K (.ref X.creel) (.ref X.trains)=some false/\PySem.W.exmOne K (.ref X.creel) (.ref X.sizes)=some false/\PySem.W.exmOne K (.ref X.creel) (.ref X.many)=some false/\PySem.W.exmOne K (.ref X.number) (.ref X.row)=some false/\PySem.W.exmOne K (.ref X.number) (.ref X.trains)=some false/\PySem.W.exmOne K (.ref X.number) (.ref X.sizes)=some false/\PySem.W.exmOne K (.ref X.number) (.ref X.many)=some false/\PySem.W.exmOne K (.ref X.number) (.ref X.creel)=some false/\PySem.W.exmOne K (.ref X.near) (.ref X.row)=some false/\PySem.W.exmOne K (.ref X.near) (.ref X.trains)=some false/\PySem.W.exmOne K (.ref X.near) (.ref X.sizes)=some false/\PySem.W.exmOne K (.ref X.near) (.ref X.many)=some false/\PySem.W.exmOne K (.ref X.near) (.ref X.creel)=some false/\PySem.W.exmOne K (.ref X.near) (.ref X.number)=some false/\PySem.W.exmOne K (.ref X.bare) (.ref X.row)=some false/\PySem.W.exmOne K (.ref X.bare) (.ref X.trains)=some false/\PySem.W.exmOne K (.ref X.bare) (.ref X.sizes)=some false/\PySem.W.exmOne K (.ref X.bare) (.ref X.many)=some false/\PySem.W.exmOne K (.ref X.bare) (.ref X.creel)=some false/\PySem.W.exmOne K (.ref X.bare) (.ref X.number)=some false/\PySem.W.exmOne K (.ref X.bare) (.ref X.near)=some false:=by
 have h:=Z.met;simp only[m5,List.all_cons,List.all_nil,Bool.and_eq_true,Bool.and_true,beq_iff_eq]at h;simp only[h,and_self]
def aDB (row:List Int):Prop:=∀ j,1<=j->j<row.length->row.getD (j - 1) 0<row.getD j 0
def aCZ (row:List Int) (i:Nat):Prop:=1<=i/\i<row.length/\row.getD i 0<=row.getD (i - 1) 0/\∀ j,1<=j->j<i->row.getD (j - 1) 0<row.getD j 0
inductive WhyRow (row:List Int):Str->Int->Prop where
 | many:60<row.length->WhyRow row "TooMany" 0
 | good:row.length<=60->aDB row->WhyRow row "" 0
 | bad {i:Nat}:row.length<=60->aCZ row i->WhyRow row "BadRow" i
structure FunC (K:PySem.W.Frag) (x qual:Str) (st:Stmt) (f:Addr) (fd:FuncData) (c:Addr):Prop where
 ex:∃ (oc:Value) (od:Option Addr) (kV doc pm:Value) (an:Option Addr) (ct:Value) (osl:Array (Option Value)),
  fd=PySem.W.fnOf x qual (cQ st) (cA st) (aJ st) .none kV doc pm an (.ref c) ct/\K.lookup f=some ⟨oc,od,.func fd,osl⟩/\PySem.W.codeIn K (.ref c) qual=true
def FunC.ok {x qual:Str} {st:Stmt} {f c:Addr} {fd:FuncData} {N ps:List Str} {k:Nat} {sp:Sp} (F:FunC K x qual st f fd c) (S:FnScope N ps (aJ st)) (len:∀ vs H Q E,sp vs H Q E->vs.length=ps.length)
 (z:∀ (A:Around) (outer:List Env) (s:Shared) (H:Hp) (vs:List V) (Q:VK) (E:XK),Room k (A.deeper (PyProof.Rows.envOfC qual (aJ st) s.heap.objs.size f (.ref c)))->sp vs H Q E ->
  ∃ t,PSs (yY CX0 P w K mg base N qual (aJ st) f (.ref c) A outer s H E).nox (cA st) t/\t { nx:=λ_ H'=>Q .non H',rt:=Q } (mC N vs) H):FnOk P w K mg base CX0 (k+1) f fd ps sp:=by
 obtain⟨U,od,kV,J,Y,an,ct,L,rfl,lk,D⟩:=F.ex;refine X0 lk D S len λA outer s H vs Q E M I=>?_;obtain⟨t,h,q⟩:=z A outer s H vs Q E M I;exact⟨t,h.nox,q⟩
def SameP (P:Addr) (H H':Hp):Prop:=∀ b o,b≠P->H b=some o->H' b=some o
def SameP.trans {P:Addr} {H H1 H2:Hp} (a:SameP P H H1) (b:SameP P H1 H2):SameP P H H2:=λc o n h=>b c o n (a c o n h)
def SameP.tbl {P:Addr} {H:Hp} {o:HO}:SameP P H (upd H P o):=λb o n h=>by rw[aG n];exact h
def WhyRow.ok {row:List Int} {nm:Str} {i:Int} (W:WhyRow row nm i):PyData.strOk nm=true:=by
 cases W <;> decide +kernel
def WhyRow.eqv {row:List Int} {nm:Str} {i:Int} (W:WhyRow row nm i):PyData.eqv (.str nm) (.str "")=decide (nm=""):=by
 cases W <;> decide +kernel
end
end CW
namespace L2
open PySem PySem.Spec PyProof.Rows
end L2
namespace CW
open PySem L2
structure Bt6 (mg:Str->Option Value):Prop where
 dict:mg "dict"=none
end CW
namespace L2
open PySem PySem.Spec PyProof.Rows
def aC0 (K:PySem.W.Frag) (tl:TE):TI:=fun σ H R=>W4 K tl σ H R\/aBq K tl σ H R
def aB8 {X:Cx} {tg l:Expr} {tl:TE} (z:PE X l tl):PI X tg l (aC0 X.K tl):=by
 intro pins s σ H R I h;rcases h with h | h
 .exact dC z pins s σ H R I h
 .exact E3 z pins s σ H R I h
def B5 {K:PySem.W.Frag} {a:Addr} {xs:List V} {z:St} {g:TG} {tt:TT} {te:TE} {H:Hp} {Q:VK} (Pv:Nat->List V->Hp->Prop) (h0:Pv 0 [] H) (M:∀ i ys H,i<=xs.length->Pv i ys H->SqT K H a xs/\ys.length<sizeLine)
 (hs:∀ i x ys H,xs[i]?=some x->Pv i ys H->g x z H λI H2=>tt I H2 λb L=>if b=true then te I L λy N=>Pv (i+1) (ys++[y]) N else Pv (i+1) ys L) (hd:∀ ys H,Pv xs.length ys H->∀ D,H D=none->Q (.ref D) (upd H D (.lst ys))) :
 nG (Itt K a) z g tt te Q H:=by
 refine⟨λi m ys H=>m=xs.length - i/\i<=xs.length/\Pv i ys H,⟨xs.length,by simp,Nat.zero_le _,h0⟩,?_⟩;rintro i m ys H ⟨rfl,hi,p⟩;obtain⟨q,hz⟩:=M i ys H hi p;refine⟨hz,?_⟩
 by_cases J:i<xs.length
 .refine .inr ⟨⟨xs,xs[i],q,by simp[J]⟩,Pv (i+1),λU H' Y=>⟨xs.length - (i+1),by omega,rfl,J,Y⟩,λx H' y=>?_⟩;obtain⟨e,y⟩:=y;subst e;exact hs i x ys _ (y xs q) p
 .have e:i=xs.length:=by omega
  subst e;exact .inl ⟨⟨xs,q,Nat.le_refl _⟩,hd ys H p⟩
end L2
namespace CW
open PySem L2
def SameD.thaw {d:Addr} {H H':Hp} {kvs:List (Key×V)} (hd:H d=some (.dK kvs)) (g:SameD d H H'):Same H (upd H' d (.dK kvs)):=λb o e=>by
 by_cases z:b=d
 .subst z;rw[hd]at e;cases e;exact aB
 .rw[aG z];exact g b o z e
def SameD.frz {d:Addr} {H:Hp} {o:HO}:SameD d H (upd H d o):=λb u n e=>by rw[aG n];exact e
def SameD.then {d:Addr} {H H1 H2:Hp} (a:SameD d H H1) (b:Same H1 H2):SameD d H H2:=λc o n h=>b c o (a c o n h)
def SameD.free {d:Addr} {H H':Hp} {o:HO} (g:SameD d H H') (hd:H' d=some o) {l:Addr} (h:H' l=none):H l=none:=by
 cases q:H l with
 | none=>rfl
 | some u =>
  have n:l≠d:=λe=>by rw[e,hd]at h;cases h
  rw[g l u n q]at h;cases h
def aB9 {ws:Trs}:∀ q∈ws,(q.2.natAbs:Int)<=(ws.map λq=>if q.2<0 then -q.2 else q.2).sum/\0<=(ws.map λq=>if q.2<0 then -q.2 else q.2).sum:=by
 induction ws with
 | nil=>intro q hq;cases hq
 | cons p r z =>
  have h0:0<=(r.map λq:Int×Int=>if q.2<0 then -q.2 else q.2).sum:=by
   cases r with
   | nil=>exact Int.le_refl _
   | cons x r=>exact(z x aDI).2
  have h1:0<=(if p.2<0 then -p.2 else p.2):=by split <;> omega
  intro q hq;rw[aD5,aD8];rcases aDi.mp hq with e | hq
  .subst e;refine⟨?_,by omega⟩;have:(q.2.natAbs:Int)=(if q.2<0 then -q.2 else q.2):=by split <;> omega
   omega
  .have:=z q hq;omega
def wC {z D:Type} {R:z->D->Prop}:∀ {xs:List z} {ys:List D},xs.length=ys.length->(∀ (j:Nat) x y,xs[j]?=some x->ys[j]?=some y->R x y)->Paired R xs ys
 | [],[],_,_=>.nil
 | [],_ :: _,h,_=>by cases h
 | _ :: _,[],h,_=>by cases h
 | x :: xs,y :: ys,h,k=>.cons (k 0 x y rfl rfl) (wC (by simpa using h) λj a b I J=>k (j+1) a b I J)
def at0 {v:V} {xs:List V}:atI (v :: xs) 0=some v:=nC (xs:=v :: xs) (j:=0) rfl
abbrev NT:Addr->Prop:=λ_=>True
def RowA.nt {N:Addr->Prop} {H:Hp} {t:Addr} {r:List Int} (h:RowA N H t r):RowA NT H t r:=h.imp λ_ _ _ _=>trivial
def RowA.sq {K:PySem.W.Frag} {N:Addr->Prop} {H:Hp} {t:Addr} {r:List Int} (h:RowA N H t r):SqL K H t (r.map V.int)\/SqT K H t (r.map V.int):=by
 rcases h with ⟨_,h⟩ | h
 .exact .inl (SqL.of h)
 .exact .inr (SqT.of h)
def RowA.ix {K:PySem.W.Frag} {N:Addr->Prop} {H:Hp} {t:Addr} {r:List Int} {i:Int} {v:V} {Q:VK} (h:RowA N H t r) (e:atI (r.map V.int) i=some v) (q:Q v H):rIx K (.ref t) (.int i) H Q:=by
 rcases h with ⟨_,h⟩ | h
 .exact .inl ⟨t,_,i,v,rfl,rfl,SqL.of h,e,q⟩
 .exact .inr (.inl ⟨t,_,i,v,rfl,rfl,SqT.of h,e,q⟩)
def aAY {K:PySem.W.Frag} {N:Addr->Prop} {Hb H:Hp} {a:Addr} {r:List Int} {j:Nat} {g:TG} {tb:TS} {D:oT} {σ:St} (Pv:Nat->St->Hp->Prop) (ha:RowA N Hb a r) (J:σ[j]?=some (some (.ref a))) (h0:Pv 0 σ H) (U:∀ i σ H',Pv i σ H'->Same Hb H')
 (hs:∀ i z σ H,r[i]?=some z->Pv i σ H->g (.int z) σ H λI H2=>tb { D with nx:=Pv (i+1),ct:=Pv (i+1),bk:=D.nx } I H2) (hd:∀ σ H,Pv r.length σ H->D.nx σ H):aBt (aC0 K (aAn j)) g tb D σ H:=by
 have L:∀ i x σ H,(r.map V.int)[i]?=some x->Pv i σ H->g x σ H λI H2=>tb { D with nx:=Pv (i+1),ct:=Pv (i+1),bk:=D.nx } I H2:=λi x σ H e p=>by
  obtain⟨z,rfl,hz⟩:=kJ e;exact hs i z σ H hz p
 have M:∀ σ H,Pv (r.map V.int).length σ H->D.nx σ H:=fun σ H p=>by rw[aDG]at p;exact hd σ H p
 rcases ha with ⟨_,ha⟩ | ha
 .exact .inl ⟨_,J,a,rfl,⟨_,SqL.of (U _ _ _ h0 _ _ ha)⟩,gJ (K:=K) (a:=a) (xs:=r.map V.int) Pv h0 (λi σ H' _ p=>SqL.of (U i σ H' p _ _ ha)) L M⟩
 .exact .inr ⟨_,J,a,rfl,⟨_,SqT.of (U _ _ _ h0 _ _ ha)⟩,w4 (K:=K) (a:=a) (xs:=r.map V.int) Pv h0 (λi σ H' _ p=>SqT.of (U i σ H' p _ _ ha)) L M⟩
structure Cn3 (mg:Str->Option Value) (t1 t2 t3:Tok):Prop where
 FEW_WALKS:mg "FEW_WALKS"=some (.int 10 t1)
 REST_APART:mg "REST_APART"=some (.int 16 t2)
 MOST_ROADS:mg "MOST_ROADS"=some (.int 8 t3)
structure Wl (mg:Str->Option Value):Prop where
 LETTERS:∃ t,mg "LETTERS"=some (.str J3 t)
 MOST_LETTERS:∃ t,mg "MOST_LETTERS"=some (.int 8 t)
inductive hX (vs:List V) (H:Hp) (Q:VK) (E_:XK):Prop
 | mk (a:Addr) (row:List Int) (h0_:vs=[.ref a]) (h1_:RowA NT H a row) (h2_:Rw row) (h3_:Q .non H):hX vs H Q E_
def aBa {vs:List V} {H:Hp} {Q:VK} {E:XK} (h:sG vs H Q E):hX vs H Q E:=by
 obtain⟨a,row,e,h1,h2,h3,k⟩:=h;exact⟨a,row,e,.inl ⟨trivial,h1⟩,⟨h2,h3⟩,k⟩
inductive lT (vs:List V) (H:Hp) (Q:VK) (E_:XK):Prop
 | mk (a:Addr) (row:List Int) (h0_:vs=[.ref a]) (h1_:RowA NT H a row) (h2_:Rw row) (h4_:∀ qs:Trs,Lst row qs->qs.Pairwise ple->aBK H Q qs):lT vs H Q E_
inductive tF (vs:List V) (H:Hp) (Q:VK) (E_:XK):Prop
 | mk (a b:Addr) (row:List Int) (ws:Trs) (h0_:vs=[.ref a,.ref b]) (h1_:RowA NT H a row) (h2_:Rw row) (h4_:LP H b ws) (h5_:ws.length<=200) (h6_:Crl ws) (h7_:kI H Q (wso ws row)):tF vs H Q E_
inductive oC (vs:List V) (H:Hp) (Q:VK) (E_:XK):Prop
 | mk (a:Addr) (row:List Int) (b:Int) (h0_:vs=[.ref a,.int b]) (h1_:H a=some (.tup (row.map V.int))) (h2_:Rw row) (h4_:kI H Q (R9 row b)):oC vs H Q E_
inductive yA (vs:List V) (H:Hp) (Q:VK) (E_:XK):Prop
 | mk (a b:Addr) (one other:List Int) (gap:Int) (h0_:vs=[.ref a,.ref b,.int gap]) (h1_:H a=some (.lst (one.map V.int))) (h2_:H b=some (.tup (other.map V.int))) (h3_:Rw one) (h4_:(Ent.lay other gap).ok one) (h9_:kI H Q (U5 one other gap)):yA vs H Q E_
section
variable {K:PySem.W.Frag} (G:Hc K)
inductive jI (vs:List V) (H:Hp) (Q:VK) (E_:XK):Prop
 | mk (x dx:Addr) (u1 u2 u3:V) (h0_:vs=[.ref x,u1,u2,u3]) (h1_:H x=some (.ins G.Rd dx [])) (h2_:Q .non (upd H x (.ins G.Rd dx [("entries",u1),("rests",u2),("course",u3)]))):jI vs H Q E_
inductive mR (vs:List V) (H:Hp) (Q:VK) (E_:XK):Prop
 | mk (x dx:Addr) (u1 u2 u3:V) (h0_:vs=[.ref x,u1,u2,u3]) (h1_:H x=some (.ins G.Cs dx [])) (h2_:Q .non (upd H x (.ins G.Cs dx [("rested",u1),("walks",u2),("turned",u3)]))):mR vs H Q E_
def P5 {H:Hp} {x dx:Addr} {z D I:V} {R:Hp->Prop} {E:XK} (J:H x=none) (hd:H dx=none) (L:dx≠x) (k:∀ H',Same H H'->H' x=some (.ins G.Rd dx [("entries",z),("rests",D),("course",I)])->R H') :
 jI G [.ref x,z,D,I] (upd (upd H dx (.own x)) x (.ins G.Rd dx [])) (λv H2=>v=.non/\R H2) E:=by
 refine⟨x,dx,z,D,I,rfl,aB,rfl,k _ (λb o e=>?_) aB⟩;rw[aG (aN e J),aG (aN e J),aG (aN e hd)];exact e
def m6 {H:Hp} {x dx:Addr} {z D I:V} {R:Hp->Prop} {E:XK} (J:H x=none) (hd:H dx=none) (L:dx≠x) (k:∀ H',Same H H'->H' x=some (.ins G.Cs dx [("rested",z),("walks",D),("turned",I)])->R H') :
 mR G [.ref x,z,D,I] (upd (upd H dx (.own x)) x (.ins G.Cs dx [])) (λv H2=>v=.non/\R H2) E:=by
 refine⟨x,dx,z,D,I,rfl,aB,rfl,k _ (λb o e=>?_) aB⟩;rw[aG (aN e J),aG (aN e J),aG (aN e hd)];exact e
inductive P6 (vs:List V) (H:Hp) (Q:VK) (E_:XK):Prop
 | mk (t d:Addr) (r:List Int) (ws:Trs) (h0_:vs=[.ref t,.ref d]) (h1_:RowA NT H t r) (h2_:Rw r) (h3_:H d=some (.dK (kvW ws))) (h4_:WsOk ws) (h5_:kI H Q (wso ws r)):P6 vs H Q E_
inductive kQ (vs:List V) (H:Hp) (Q:VK) (E_:XK):Prop
 | mk (a:Addr) (C:Crs) (h0_:vs=[.ref a]) (h1_:CrsAt G NT H a C) (h2_:C.Ok) (h3_:kI H Q C.row):kQ vs H Q E_
inductive hZ (vs:List V) (H:Hp) (Q:VK) (E_:XK):Prop
 | mk (a:Addr) (row:List Int) (p:Int) (h0_:vs=[.ref a,.int p]) (h1_:H a=some (.lst (row.map V.int))) (h2_:Rw row) (h3_:(Ent.put p).ok row) (h4_:kI H Q (xX row p)):hZ vs H Q E_
inductive eO (vs:List V) (H:Hp) (Q:VK) (E_:XK):Prop
 | mk (a:Addr) (row:List Int) (p:Int) (h0_:vs=[.ref a,.int p]) (h1_:H a=some (.lst (row.map V.int))) (h2_:Rw row) (h3_:p∈row) (h4_:kI H Q (aCU row p)):eO vs H Q E_
def Ent.still:Ent->Prop
 | .walk _ _=>False | .mir=>False | _=>True
inductive iA (vs:List V) (H:Hp) (Q:VK) (E_:XK):Prop
 | mk (a:Addr) (v:V) (row:List Int) (e:Ent) (h0_:vs=[.ref a,v]) (h1_:H a=some (.lst (row.map V.int))) (h2_:Rw row) (h3_:DT H v e.data) (h4_:e.still) (h5_:e.ok row) (h6_:kI H Q (e.app row)):iA vs H Q E_
def COwn (N:Addr->Prop) (Hb H:Hp) (a:Addr) (C:Crs):Prop:=Same Hb H/\Hb a=none/\∃ dx t d,Hb d=none/\H a=some (.ins G.Cs dx (aCW t d C.turned))/\RowA N H t C.rested/\H d=some (.dK (kvW C.walks))
def COwn.at {G:Hc K} {N:Addr->Prop} {Hb H:Hp} {a:Addr} {C:Crs} (h:COwn G N Hb H a C):CrsAt G N H a C:=by
 obtain⟨_,_,dx,t,d,_,h1,h2,h3⟩:=h;exact⟨dx,t,d,h1,h2,h3⟩
inductive lU (vs:List V) (H:Hp) (Q:VK) (E_:XK):Prop
 | mk (N:Addr->Prop) (Hb:Hp) (a:Addr) (c n:Int) (C:Crs) (h0_:vs=[.ref a,.int c,.int n]) (h1_:COwn G N Hb H a C) (h2_:1<=c) (h3_:C.Ok) (h4_:∀ H',COwn G N Hb H' a (C.walk c n)->(∀ t,H' t=none->H t=none)->Q .non H'):lU vs H Q E_
inductive tG (vs:List V) (H:Hp) (Q:VK) (E_:XK):Prop
 | mk (N:Addr->Prop) (Hb:Hp) (a:Addr) (v:V) (e:Ent) (C:Crs) (h0_:vs=[.ref a,v]) (hn_:∀ t,H t=none->N t) (h1_:COwn G N Hb H a C) (h2_:DT Hb v e.data) (h3_:C.Ok) (h4_:e.ok C.row) (h5_:∀ C' H',COwn G N Hb H' a C'->C'.Ok->C'.row=e.app C.row->(e.still->C'.rested=C'.row)->(∀ t,H' t=none->N t)->Q .non H'):tG vs H Q E_
inductive kR (vs:List V) (H:Hp) (Q:VK) (E_:XK):Prop
 | mk (r t:Addr) (n:Nat) (v u:V) (qs:List V) (m:Nat) (e:Ent) (h0_:vs=[.ref r,.int n,v]) (h1_:SqL K H r qs\/SqT K H r qs) (h2_:atI qs (-1)=some (.ref t)) (h3_:H t=some (.tup [.int m,u])) (h4_:DT H v e.data) (h5_:∀ (b:Bool) H',(b=true->m+16<=n/\e.still)->Same H H'->Q (.bl b) H'):kR vs H Q E_
def aBb (N:Addr->Prop) (H:Hp) (Q:VK) (first:List Int) (ents:List Ent):Prop:=∀ z H',Same H H'->RoadAt G N H' z first ents->Q z H'
inductive lV (vs:List V) (H:Hp) (Q:VK) (E_:XK):Prop
 | mk (N:Addr->Prop) (t:Addr) (row:List Int) (h0_:vs=[.ref t]) (h1_:H t=some (.tup (row.map V.int))) (h2_:Rw row) (h3_:aBb G N H Q row []):lV vs H Q E_
inductive iB (vs:List V) (H:Hp) (Q:VK) (E_:XK):Prop
 | mk (N:Addr->Prop) (v w:V) (first:List Int) (ents:List Ent) (r:List Int) (e:Ent) (h0_:vs=[v,w]) (hn_:∀ t,H t=none->N t) (h1_:RoadAt G N H v first ents) (h2_:DT H w e.data) (h3_:Go first ents r) (h4_:e.ok r) (h5_:ents.length<9000) (h6_:aBb G N H Q first (ents++[e])):iB vs H Q E_
inductive iY (vs:List V) (H:Hp) (Q:VK) (E_:XK):Prop
 | mk (N:Addr->Prop) (v:V) (k:Nat) (w:Addr) (us:List V) (first:List Int) (ents es:List Ent) (r:List Int) (h0_:vs=[v,.int k,.ref w]) (hn_:∀ t,H t=none->N t) (h1_:RoadAt G N H v first ents) (h2_:H w=some (.tup us)) (h2b_:DTs H us (es.map Ent.data)) (h3_:k<=ents.length) (h3b_:es.take k=ents.take k) (h3c_:k<=es.length) (h4_:Go first es r) (h5_:es.length<=9000) (h6_:aBb G N H Q first es):iY vs H Q E_
end
def K7 {e:Ent} (h:e.still):¬ (V.str e.word=V.str "walk")/\¬ (V.str e.word=V.str "mirror"):=by
 cases e with
 | walk c n=>exact h.elim
 | mir=>exact h.elim
 | put p=>exact(show ¬ (V.str "put"=V.str "walk")/\¬ (V.str "put"=V.str "mirror")by decide +kernel)
 | take p=>exact(show ¬ (V.str "take"=V.str "walk")/\¬ (V.str "take"=V.str "mirror")by decide +kernel)
 | lay o g=>exact(show ¬ (V.str "lay"=V.str "walk")/\¬ (V.str "lay"=V.str "mirror")by decide +kernel)
def B7 {e:Ent} (h:(!inV (.str e.word) [.str "walk",.str "mirror"])=true):e.still:=by
 cases e with
 | walk c n=>exact absurd (show (!inV (.str "walk") [.str "walk",.str "mirror"])=true from h) (by decide +kernel)
 | mir=>exact absurd (show (!inV (.str "mirror") [.str "walk",.str "mirror"])=true from h) (by decide +kernel)
 | put p=>trivial
 | take p=>trivial
 | lay o g=>trivial
def RoadOk.few {first:List Int} {ents:List Ent} {rests:List (Nat×List Int)} {C:Crs} (h:RoadOk first ents rests C):rests.length<=ents.length+1:=by
 have h1:(rests.map (·.1)).Nodup:=by
  rw[List.Nodup,List.pairwise_map];exact h.asc.imp λ{a b} z=>aD3 z
 have:=qI (m:=ents.length+1) h1 λx D=>by
  obtain⟨q,I,rfl⟩:=aDk.mp D;have:=(h.all q I).1;omega
 rw[aDG]at this;exact this
def RoadOk.more {first:List Int} {ents fs:List Ent} {rests:List (Nat×List Int)} {C z:Crs} (h:RoadOk first ents rests C) (I:z.Ok) (D:Go first (ents++fs) z.row) (J:(ents++fs).length<=9000):RoadOk first (ents++fs) rests z :=
 ⟨h.rw,h.hd,λq L=>by
  obtain⟨h1,h2⟩:=h.all q L;refine⟨by rw[aDP];omega,?_⟩;rw[List.take_append_of_le_length h1];exact h2,h.asc,I,D,J⟩
def RoadOk.rest {first:List Int} {ents:List Ent} {rests:List (Nat×List Int)} {C:Crs} {n:Nat} (h:RoadOk first ents rests C) (I:n=ents.length) (J:C.rested=C.row) {m:Nat×List Int} (L:rests[rests.length - 1]?=some m) (z:m.1<n):RoadOk first ents (rests++[(n,C.rested)]) C:=by
 refine⟨h.rw,?_,λq hq=>?_,?_,h.cok,h.go,h.lim⟩
 .rw[List.getElem?_append_left (aDh.mp h.hd).1];exact h.hd
 .rcases aDj.mp hq with hq | hq
  .exact h.all q hq
  .rw[aDc.mp hq,I];refine⟨Nat.le_refl _,?_⟩;rw[aDU,J];exact h.go
 .refine List.pairwise_append.mpr ⟨h.asc,List.pairwise_singleton _ _,λa M b N=>?_⟩;rw[aDc.mp N];show a.1<n;obtain⟨i,hi⟩:=List.getElem?_of_mem M;obtain⟨U,e⟩:=aDh.mp L;obtain⟨hl2,D⟩:=aDh.mp hi
  by_cases Y:i<rests.length - 1
  .have:=List.pairwise_iff_getElem.mp h.asc i (rests.length - 1) hl2 U Y;rw[e,D]at this;omega
  .have:i=rests.length - 1:=by omega
   subst this;rw[e]at D;rw[<- D];exact z
def fP {D z:Type} {R:D->z->Prop}:∀ {xs:List D} {ys:List z} {j:Nat} {y:z},Paired R xs ys->ys[j]?=some y->∃ x,xs[j]?=some x/\R x y
 | _,_,_,_,.nil,e=>by simp at e
 | _,_,0,_,.cons r _,e=>by simp at e;subst e;exact⟨_,rfl,r⟩
 | _,_,j+1,y,.cons _ t,e=>by
  obtain⟨x,h1,h2⟩:=fP (j:=j) (y:=y) t (by simpa using e);exact⟨x,by simpa using h1,h2⟩
def yB {xs:List V} {v:V} (h:xs[xs.length - 1]?=some v):atI xs (-1)=some v:=by
 have z:=(aDh.mp h).1;unfold atI ixN;rw[if_neg (by decide),if_pos (by omega)];show xs[(-1+(xs.length:Int)).toNat]?=some v;rw[show (-1+(xs.length:Int)).toNat=xs.length - 1 by omega];exact h
def wo (S:List Addr) (H:Hp):Hp:=λb=>if b∈S then none else H b
def kS {S:List Addr} {H:Hp} {x:Addr} (h:x∈S):wo S H x=none:=by unfold wo;rw[if_pos h]
def tI {S:List Addr} {H:Hp} {x:Addr} (h:x∉S):wo S H x=H x:=by unfold wo;rw[if_neg h]
def yC {S:List Addr} {H:Hp}:Same (wo S H) H:=λb o e=>by
 by_cases h:b∈S
 .rw[kS h]at e;cases e
 .rw[tI h]at e;exact e
def m7 {S:List Addr} {Hb H:Hp} (g:Same Hb H) (h:∀ x∈S,Hb x=none):Same Hb (wo S H):=λb o e=>by
 rw[tI (λz=>by rw[h b z]at e;cases e)];exact g b o e
def COwn.weak {K:PySem.W.Frag} {G:Hc K} {N:Addr->Prop} {z Hb H:Hp} {a:Addr} {C:Crs} (g:Same z Hb) (h:COwn G N Hb H a C):COwn G N z H a C:=by
 obtain⟨h1,h2,dx,t,d,h3,h4,h5,h6⟩:=h;exact⟨g.trans h1,g.free h2,dx,t,d,g.free h3,h4,h5,h6⟩
def COwn.same {K:PySem.W.Frag} {G:Hc K} {N:Addr->Prop} {Hb H H':Hp} {a:Addr} {C:Crs} (g:Same H H') (h:COwn G N Hb H a C):COwn G N Hb H' a C:=by
 obtain⟨h1,h2,dx,t,d,h3,h4,h5,h6⟩:=h;exact⟨h1.trans g,h2,dx,t,d,h3,g _ _ h4,h5.same g,g _ _ h6⟩
def CrsAt.imp {K:PySem.W.Frag} {G:Hc K} {N z:Addr->Prop} {H:Hp} {a:Addr} {C:Crs} (k:∀ t xs,N t->H t=some (.lst xs)->z t) (h:CrsAt G N H a C):CrsAt G z H a C:=by
 obtain⟨dx,t,d,h1,h2,h3⟩:=h;exact⟨dx,t,d,h1,h2.imp k,h3⟩
def RestAt.imp {N z:Addr->Prop} {H:Hp} (k:∀ t xs,N t->H t=some (.lst xs)->z t) {v:V} {q:Nat×List Int} (h:RestAt N H v q):RestAt z H v q:=by
 obtain⟨t,u,D,I,J⟩:=h;exact⟨t,u,D,I,J.imp k⟩
def RestAt.same {N:Addr->Prop} {H H':Hp} (g:Same H H') {v:V} {q:Nat×List Int} (h:RestAt N H v q):RestAt N H' v q:=by
 obtain⟨t,u,z,D,I⟩:=h;exact⟨t,u,z,g _ _ D,I.same g⟩
def RoadOk.step {first:List Int} {es:List Ent} {rests:List (Nat×List Int)} {C D:Crs} {n:Nat} {e:Ent} (h:RoadOk first (es.take n) rests C) (I:es[n]?=some e) (J:D.Ok) (z:Go first (es.take (n+1)) D.row) (L:es.length<=9000):RoadOk first (es.take (n+1)) rests D:=by
 rw[aDb,I]at z ⊢;exact h.more (fs:=[e]) J z (by
  have:n<es.length:=(aDh.mp I).1;show (es.take n++[e]).length<=9000;rw[aDP,aDW,List.length_singleton];omega)
def RoadOk.cut {first:List Int} {ents es:List Ent} {rests:List (Nat×List Int)} {C:Crs} {k:Nat} (h:RoadOk first ents rests C) (h1:k<=ents.length) (h2:es.take k=ents.take k) (h3:k<=es.length) (h4:es.length<=9000) :
 ∃ z,(rests.filter λq=>decide (q.1<=k))[(rests.filter λq=>decide (q.1<=k)).length - 1]?=some z/\z.1<=k/\RoadOk first (es.take z.1) (rests.filter λq=>decide (q.1<=k)) ⟨z.2,[],false⟩:=by
 have al:0<(rests.filter λq=>decide (q.1<=k)).length:=by
  refine List.length_pos_of_mem (a:=(0,first)) (aDl.mpr ⟨aDR h.hd,by simp⟩)
 have hl:(rests.filter λq=>decide (q.1<=k)).length - 1<(rests.filter λq=>decide (q.1<=k)).length:=by omega
 obtain⟨z,D⟩:∃ z,z=(rests.filter λq=>decide (q.1<=k))[(rests.filter λq=>decide (q.1<=k)).length - 1]:=⟨_,rfl⟩;have hm:z∈rests.filter λq=>decide (q.1<=k):=by rw[D];exact List.getElem_mem _
 obtain⟨L,M⟩:=aDl.mp hm;have hk:z.1<=k:=by simpa using M
 obtain⟨a1,a2⟩:=h.all z L;have tk:∀ j,j<=k->es.take j=ents.take j:=λj hj=>by
  have:=congrArg (List.take j) h2;rw[List.take_take,List.take_take,Nat.min_eq_left hj]at this;exact this
 have asc:=h.asc.filter (λq=>decide (q.1<=k));have N:∀ q∈rests.filter (λq=>decide (q.1<=k)),q.1<=z.1:=λq J=>by
  obtain⟨i,hi⟩:=List.getElem?_of_mem J;obtain⟨hl2,e2⟩:=aDh.mp hi
  by_cases hc:i<(rests.filter λq=>decide (q.1<=k)).length - 1
  .have:=List.pairwise_iff_getElem.mp asc i _ hl2 hl hc;rw[e2,<- D]at this;omega
  .have:i=(rests.filter λq=>decide (q.1<=k)).length - 1:=by omega
   subst this;rw[<- e2,<- D];exact Nat.le_refl _
 have I:Go first (es.take z.1) z.2:=by rw[tk _ hk];exact a2
 refine⟨z,by rw[D];exact aDQ hl,hk,h.rw,?_,λq J=>?_,asc,Crs.new_ok (I.rw h.rw),I,by rw[aDW];omega⟩
 .have h0:=h.hd;cases hr:rests with
  | nil=>rw[hr]at h0;cases h0
  | cons x r =>
   rw[hr]at h0;cases h0;rw[List.filter_cons_of_pos (by simp)];rfl
 .obtain⟨m1,m2⟩:=aDl.mp J;have U:q.1<=k:=by simpa using m2
  have Y:=N q J;refine⟨by rw[aDW];omega,?_⟩;rw[List.take_take,Nat.min_eq_left Y,tk _ U];exact(h.all q m1).2
def RowA.out {N:Addr->Prop} {H:Hp} {t a:Addr} {r:List Int} {C dx:Addr} {fs:List (Str×V)} {o:HO} (h:RowA N H t r) (D:H a=some (.ins C dx fs)):RowA N (upd H a o) t r:=by
 rcases h with ⟨h1,h2⟩ | h
 .exact .inl ⟨h1,by rw[aG (bJ h2 D (by intro z;cases z))];exact h2⟩
 .exact .inr (by rw[aG (bJ h D (by intro z;cases z))];exact h)
def cJ (std:Std) (n:Str):Option (List Int×List Ent):=(std.find? λs=>decide (s.1=n)).map (·.2)
def eG (n:Str) (r:List Int×List Ent):Std->Std
 | []=>[(n,r)]
 | s :: t=>if s.1=n then (n,r) :: t.map (λs=>if s.1=n then (n,r)else s)else s :: eG n r t
def aC1 (std:Std) (n:Str):Std:=std.filter λs=>decide (s.1≠n)
def iZ {s:Str×List Int×List Ent} {t:Std} {n:Str} (e:s.1=n):cJ (s :: t) n=some s.2:=by simp[cJ,List.find?_cons,e]
def gH {s:Str×List Int×List Ent} {t:Std} {n:Str} (e:¬ s.1=n):cJ (s :: t) n=cJ t n:=by simp[cJ,List.find?_cons,e]
def m8 {std:Std} {n:Str} {r:List Int×List Ent} (h:cJ std n=none):eG n r std=std++[(n,r)]:=by
 induction std with
 | nil=>rfl
 | cons s t z =>
  have c:¬ s.1=n:=λe=>by rw[iZ e]at h;cases h
  rw[gH c]at h;unfold eG;rw[if_neg c,z h];rfl
def tJ {std:Std} {n:Str} {r z:List Int×List Ent} (h:cJ std n=some z):(eG n r std).length=std.length:=by
 induction std with
 | nil=>cases h
 | cons s t D =>
  unfold eG
  by_cases c:s.1=n
  .rw[if_pos c];simp
  .rw[gH c]at h;rw[if_neg c,aD9,aD9,D h]
section
variable {K:PySem.W.Frag} {G:Hc K}
abbrev SAt (G:Hc K) (N:Addr->Prop) (H:Hp):Key×V->Str×List Int×List Ent->Prop:=λz s=>z.1=.inr s.1/\RoadAt G N H z.2 s.2.1 s.2.2
def P7 {N:Addr->Prop} {H:Hp} {n:Str} {first:List Int} {ents:List Ent}:∀ {kvs:List (Key×V)} {std:Std},Paired (SAt G N H) kvs std->cJ std n=some (first,ents)->∃ v,cW kvs (Sum.inr n)=some v/\RoadAt G N H v first ents
 | _,_,.nil,h=>by cases h
 | kv :: kvs,s :: std,.cons r t,h=>by
  by_cases c:s.1=n
  .rw[iZ c]at h
   injection h with h
   refine⟨kv.2,cO (by rw[r.1,c]),?_⟩;have:=r.2;rw[h]at this;exact this
  .rw[gH c]at h;obtain⟨v,h1,h2⟩:=P7 t h;exact⟨v,by rw[cH (λz=>c (Sum.inr.inj (r.1.symm.trans z)))];exact h1,h2⟩
def wD {N:Addr->Prop} {H:Hp} {n:Str}:∀ {kvs:List (Key×V)} {std:Std},Paired (SAt G N H) kvs std->cJ std n=none->cW kvs (Sum.inr n)=none
 | _,_,.nil,h=>rfl
 | kv :: kvs,s :: std,.cons r t,h=>by
  by_cases c:s.1=n
  .rw[iZ c]at h;cases h
  .rw[gH c]at h;rw[cH (λz=>c (Sum.inr.inj (r.1.symm.trans z)))];exact wD t h
def m9 {N:Addr->Prop} {H:Hp} {n:Str} {v:V} {r:List Int×List Ent} (D:RoadAt G N H v r.1 r.2):∀ {kvs:List (Key×V)} {std:Std},Paired (SAt G N H) kvs std->Paired (SAt G N H) (kvs.map λkv=>if kv.1=Sum.inr n then (kv.1,v)else kv) (std.map λs=>if s.1=n then (n,r)else s)
 | _,_,.nil=>.nil
 | kv :: kvs,s :: std,.cons q t=>by
  rw[aD5,aD5];refine .cons ?_ (m9 D t)
  by_cases c:s.1=n
  .rw[if_pos (by rw[q.1,c]),if_pos c];exact⟨by rw[q.1,c],D⟩
  .rw[if_neg (λz=>c (Sum.inr.inj (q.1.symm.trans z))),if_neg c];exact q
def n4 {N:Addr->Prop} {H:Hp} {n:Str} {v:V} {r:List Int×List Ent} (D:RoadAt G N H v r.1 r.2):∀ {kvs:List (Key×V)} {std:Std},Paired (SAt G N H) kvs std->Paired (SAt G N H) (eK kvs (Sum.inr n) v) (eG n r std)
 | _,_,.nil=>.cons ⟨rfl,D⟩ .nil
 | kv :: kvs,s :: std,.cons q t=>by
  unfold eG
  by_cases c:s.1=n
  .rw[if_pos c];have e:kv.1=Sum.inr n:=by rw[q.1,c]
   unfold eK;rw[if_pos (by rw[List.any_cons,aD2 e,Bool.true_or]),aD5,if_pos e];exact .cons ⟨e,D⟩ (m9 D t)
  .rw[if_neg c,wA (λz=>c (Sum.inr.inj (q.1.symm.trans z)))];exact .cons q (n4 D t)
def rJ (n:Str):Ent->PyData
 | .walk c k=>.tuple [.str "walk",.str n,.int c,.int k]
 | .put p=>.tuple [.str "put",.str n,.int p]
 | .take p=>.tuple [.str "take",.str n,.int p]
 | .mir=>.tuple [.str "mirror",.str n]
 | .lay _ _=>.none
def Ent.plain:Ent->Prop
 | .lay _ _=>False | _=>True
inductive DoD:Str->Std->PyData->Std->Prop
 | build {std:Std} {n:Str} {row:List Int} (hn:sQ n J3 8=true) (ht:Txs n) (h0:cJ std n=none) (hr:Rw row) (h8:std.length<8):DoD "build" std (.tuple [.str "build",.str n,.tuple (row.map PyData.int)]) (std++[(n,row,[])])
 | shut {std:Std} {n:Str} {r:List Int×List Ent} (h0:cJ std n=some r):DoD "shut" std (.tuple [.str "shut",.str n]) (aC1 std n)
 | ent {std:Std} {n:Str} {first r:List Int} {ents:List Ent} {e:Ent} (h0:cJ std n=some (first,ents)) (hg:Go first ents r) (hp:e.plain) (ho:e.ok r) (hl:ents.length<9000):DoD e.word std (rJ n e) (eG n (first,ents++[e]) std)
 | lay {std:Std} {n m:Str} {g:Int} {first r first2 r2:List Int} {ents ents2:List Ent} (h0:cJ std n=some (first,ents)) (hg:Go first ents r) (h1:cJ std m=some (first2,ents2)) (hg1:Go first2 ents2 r2) (ho:(Ent.lay r2 g).ok r) (hl:ents.length<9000) :
  DoD "lay" std (.tuple [.str "lay",.str n,.str m,.int g]) (eG n (first,ents++[.lay r2 g]) std)
 | late {std:Std} {n:Str} {k:Nat} {c m:Int} {first r:List Int} {ents es:List Ent} (h0:cJ std n=some (first,ents)) (hk:k<=ents.length) (hc:1<=c) (he:es=ents.take k++.walk c m :: ents.drop k) (hg:Go first es r) (hl:es.length<=9000) :
  DoD "late" std (.tuple [.str "late",.str n,.int k,.int c,.int m]) (eG n (first,es) std)
 | strike {std:Std} {n:Str} {k:Nat} {c m:Int} {first r:List Int} {ents es:List Ent} (h0:cJ std n=some (first,ents)) (hk:ents[k]?=some (.walk c m)) (he:es=ents.take k++ents.drop (k+1)) (hg:Go first es r) (hl:ents.length<=9000) :
  DoD "strike" std (.tuple [.str "strike",.str n,.int k]) (eG n (first,es) std)
def jJ {x y:Str} (h:x=y) (d:decide (x=y)=false):False:=by rw[aD2 h]at d;cases d
def tK {e:Ent} {x:Str} (h:e.word=x) (h1:decide (x="walk")=false) (h2:decide (x="put")=false) (h3:decide (x="take")=false) (h4:decide (x="mirror")=false) (z:e.plain):False:=by
 subst h;cases e with
 | walk c n=>exact jJ rfl h1
 | put p=>exact jJ rfl h2
 | take p=>exact jJ rfl h3
 | mir=>exact jJ rfl h4
 | lay o g=>exact z
def n5 {w:Str} {std z:Std} {D:PyData} (hw:w∈(["build"]:List Str)) (h:DoD w std D z):∃ n row,sQ n J3 8=true/\Txs n/\cJ std n=none/\Rw row/\std.length<8/\D=.tuple [.str "build",.str n,.tuple (row.map PyData.int)]/\z=std++[(n,row,[])]:=by
 have hw:=aDc.mp hw;generalize I:w=x at h;cases h with
 | build J ht h0 L h8=>exact⟨_,_,J,ht,h0,L,h8,rfl,rfl⟩
 | ent h0 N M U Y=>exact(tK (I.symm.trans hw) (by decide +kernel) (by decide +kernel) (by decide +kernel) (by decide +kernel) M).elim
 | _=>exact(jJ (I.symm.trans hw) (by decide +kernel)).elim
def aAZ {w:Str} {std z:Std} {D:PyData} (hw:w∈(["late"]:List Str)) (h:DoD w std D z):∃ n k c m first r ents es,cJ std n=some (first,ents)/\k<=ents.length/\1<=c/\es=ents.take k++.walk c m :: ents.drop k/\Go first es r/\es.length<=9000 /\
 D=.tuple [.str "late",.str n,.int (k:Nat),.int c,.int m]/\z=eG n (first,es) std:=by
 have hw:=aDc.mp hw;generalize I:w=x at h;cases h with
 | late h0 M N he J L=>exact⟨_,_,_,_,_,_,_,_,h0,M,N,he,J,L,rfl,rfl⟩
 | ent h0 J U Y L=>exact(tK (I.symm.trans hw) (by decide +kernel) (by decide +kernel) (by decide +kernel) (by decide +kernel) U).elim
 | _=>exact(jJ (I.symm.trans hw) (by decide +kernel)).elim
def U9 {w:Str} {std z:Std} {D:PyData} (hw:w∈(["strike"]:List Str)) (h:DoD w std D z):∃ n k c m first r ents es,cJ std n=some (first,ents)/\ents[k]?=some (.walk c m)/\es=ents.take k++ents.drop (k+1)/\Go first es r/\ents.length<=9000 /\
 D=.tuple [.str "strike",.str n,.int (k:Nat)]/\z=eG n (first,es) std:=by
 have hw:=aDc.mp hw;generalize I:w=x at h;cases h with
 | strike h0 M he J L=>exact⟨_,_,_,_,_,_,_,_,h0,M,he,J,L,rfl,rfl⟩
 | ent h0 J N U L=>exact(tK (I.symm.trans hw) (by decide +kernel) (by decide +kernel) (by decide +kernel) (by decide +kernel) N).elim
 | _=>exact(jJ (I.symm.trans hw) (by decide +kernel)).elim
def aBc {w:Str} {std z:Std} {D:PyData} (hw:w∈(["walk","put","take","mirror"]:List Str)) (h:DoD w std D z):∃ n first r ents e,cJ std n=some (first,ents)/\Go first ents r/\e.plain/\e.ok r/\ents.length<9000 /\
 D=rJ n e/\z=eG n (first,ents++[e]) std:=by
 have I:(decide (w="walk") || decide (w="put") || decide (w="take") || decide (w="mirror"))=true:=by
  simpa[or_assoc]using hw
 cases h with
 | ent h0 J L M N=>exact⟨_,_,_,_,_,h0,J,L,M,N,rfl,rfl⟩
 | _=>exact absurd I (by decide +kernel)
def n6 {H:Hp} {v:V} {n:Str} {row:List Int} (h:DT H v (.tuple [.str "build",.str n,.tuple (row.map PyData.int)])):∃ a t,v=.ref a/\H a=some (.tup [.str "build",.str n,.ref t])/\H t=some (.tup (row.map V.int)):=by
 cases h with
 | tup h t=>cases t with | cons a t=>cases t with | cons b t=>cases t with | cons c t =>
  cases t;cases a;cases b;cases c with | tup z tb=>rw[DTs.ints_inv tb]at z;exact⟨_,_,rfl,h,z⟩
def aA0 {H:Hp} {v:V} {n:Str} {i j k:Int} (h:DT H v (.tuple [.str "late",.str n,.int i,.int j,.int k])):∃ a,v=.ref a/\H a=some (.tup [.str "late",.str n,.int i,.int j,.int k]):=by
 cases h with
 | tup h t=>cases t with | cons a t=>cases t with | cons b t=>cases t with | cons c t=>cases t with | cons d t=>cases t with | cons e t =>
  cases t;cases a;cases b;cases c;cases d;cases e;exact⟨_,rfl,h⟩
def V0 {H:Hp} {v:V} {n:Str} {i:Int} (h:DT H v (.tuple [.str "strike",.str n,.int i])):∃ a,v=.ref a/\H a=some (.tup [.str "strike",.str n,.int i]):=by
 cases h with
 | tup h t=>cases t with | cons a t=>cases t with | cons b t=>cases t with | cons c t =>
  cases t;cases a;cases b;cases c;exact⟨_,rfl,h⟩
def tL {H:Hp} {v:V} {n:Str} {e:Ent} (z:e.plain) (h:DT H v (rJ n e)):∃ a xs ds,v=.ref a/\H a=some (.tup (.str e.word :: .str n :: xs))/\DTs H xs ds/\e.data=.tuple (.str e.word :: ds)/\xs.length<=2:=by
 cases e with
 | lay o g=>exact z.elim
 | walk c k=>cases h with
  | tup h t=>cases t with | cons a t=>cases t with | cons b t=>have l:=t.length;cases a;cases b;exact⟨_,_,_,rfl,h,t,rfl,Nat.le_of_eq l⟩
 | put p=>cases h with
  | tup h t=>cases t with | cons a t=>cases t with | cons b t=>have l:=t.length;cases a;cases b;exact⟨_,_,_,rfl,h,t,rfl,Nat.le_succ_of_le (Nat.le_of_eq l)⟩
 | take p=>cases h with
  | tup h t=>cases t with | cons a t=>cases t with | cons b t=>have l:=t.length;cases a;cases b;exact⟨_,_,_,rfl,h,t,rfl,Nat.le_succ_of_le (Nat.le_of_eq l)⟩
 | mir=>cases h with
  | tup h t=>cases t with | cons a t=>cases t with | cons b t=>have l:=t.length;cases a;cases b;exact⟨_,_,_,rfl,h,t,rfl,by rw[l];exact Nat.zero_le _⟩
def aA1 {H:Hp} {v:V} {w:Str} {std z:Std} {D:PyData} (I:DoD w std D z) (h:DT H v D):∃ a xs,v=.ref a/\H a=some (.tup (.str w :: xs)):=by
 have go:∀ ds,D=.tuple (.str w :: ds)->∃ a xs,v=.ref a/\H a=some (.tup (.str w :: xs)):=λds e=>by
  subst e;cases h with
  | tup h t=>cases t with | cons a t=>cases a;exact⟨_,_,rfl,h⟩
 cases I with
 | ent h0 M J N U =>
  rename_i e
  obtain⟨a,xs,ds,e1,L,_⟩:=tL J h;exact⟨a,_,e1,L⟩
 | _=>exact go _ rfl
variable (G)
inductive iC (vs:List V) (H:Hp) (Q:VK) (E_:XK):Prop
 | mk (N:Addr->Prop) (d:Addr) (n:Str) (std:Std) (first:List Int) (ents:List Ent) (h0_:vs=[.ref d,.str n]) (h1_:DictAt G N H d std) (h2_:cJ std n=some (first,ents)) (h3_:∀ v,RoadAt G N H v first ents->Q v H):iC vs H Q E_
inductive dX (vs:List V) (H:Hp) (Q:VK) (E_:XK):Prop
 | mk (N:Addr->Prop) (d:Addr) (n:Str) (v:V) (std:Std) (first:List Int) (ents:List Ent) (h0_:vs=[.ref d,.str n,v]) (h1_:DictAt G N H d std) (h2_:RoadAt G N H v first ents) (h3_:(eG n (first,ents) std).length<=8) (h4_:∀ d' H',Same H H'->DictAt G N H' d' (eG n (first,ents) std)->Q (.ref d') H'):dX vs H Q E_
inductive cS (ks:List Str) (vs:List V) (H:Hp) (Q:VK) (E_:XK):Prop
 | mk (N:Addr->Prop) (d:Addr) (v:V) (w:Str) (std std':Std) (D:PyData) (h0_:vs=[.ref d,v]) (hw_:w∈ks) (hn_:∀ t,H t=none->N t) (h1_:DictAt G N H d std) (h2_:DT H v D) (h3_:DoD w std D std') (h4_:∀ d' H',Same H H'->DictAt G N H' d' std'->Q (.ref d') H'):cS ks vs H Q E_
def HOwn (N:Addr->Prop) (Hb H:Hp) (a:Addr) (m:HM):Prop:=Same Hb H/\Hb a=none/\(∃ p q,Hb p=none/\Hb q=none/\HouseAt G N H a p q m)/\∀ t,H t=none->N t
inductive kT (vs:List V) (H:Hp) (Q:VK) (E_:XK):Prop
 | mk (x dx:Addr) (h0_:vs=[.ref x]) (h1_:H x=some (.ins G.Hs dx [])) (h2_:∀ d p q,H d=none->H p=none->H q=none->d≠p->d≠q->p≠q->Q .non (upd (upd (upd (upd H d (.dK [])) p (.lst [])) q (.lst [])) x (.ins G.Hs dx (iG d p q)))):kT vs H Q E_
inductive B8 (ks:List Str) (vs:List V) (H:Hp) (Q:VK) (E_:XK):Prop
 | mk (N:Addr->Prop) (Hb:Hp) (a:Addr) (v:V) (w:Str) (m:HM) (std':Std) (D:PyData) (h0_:vs=[.ref a,v]) (hw_:w∈ks) (h1_:HOwn G N Hb H a m) (h2_:DT H v D) (h3_:DoD w m.std D std') (hp_:m.past.length<9000) (h4_:∀ H',HOwn G N Hb H' a ⟨std',m.past++[(D,m.std)],[]⟩->Q .non H'):B8 ks vs H Q E_
inductive cX (w:Str) (n:Nat) (vs:List V) (H:Hp) (Q:VK) (E_:XK):Prop
 | mk (N:Addr->Prop) (Hb:Hp) (a:Addr) (xs:List V) (ds:List PyData) (m:HM) (std':Std) (h0_:vs=.ref a :: xs) (hx_:xs.length=n) (h1_:HOwn G N Hb H a m) (h2_:DTs H xs ds) (h3_:DoD w m.std (.tuple (.str w :: ds)) std') (hp_:m.past.length<9000) (h4_:∀ H',HOwn G N Hb H' a ⟨std',m.past++[(.tuple (.str w :: ds),m.std)],[]⟩->Q .non H'):cX w n vs H Q E_
inductive rK (vs:List V) (H:Hp) (Q:VK) (E_:XK):Prop
 | mk (N:Addr->Prop) (Hb:Hp) (a l:Addr) (n:Str) (row:List Int) (m:HM) (h0_:vs=[.ref a,.str n,.ref l]) (h1_:HOwn G N Hb H a m) (h2_:H l=some (.lst (row.map V.int))) (hn_:sQ n J3 8=true) (ht_:Txs n) (h5_:cJ m.std n=none) (hr_:Rw row) (h8_:m.std.length<8) (hp_:m.past.length<9000)
  (h4_:∀ H',HOwn G N Hb H' a ⟨m.std++[(n,row,[])],m.past++[(.tuple [.str "build",.str n,.tuple (row.map PyData.int)],m.std)],[]⟩->Q .non H'):rK vs H Q E_
inductive pL (vs:List V) (H:Hp) (Q:VK) (E_:XK):Prop
 | mk (N:Addr->Prop) (Hb:Hp) (a:Addr) (n:Str) (m:HM) (first r:List Int) (ents:List Ent) (h0_:vs=[.ref a,.str n]) (h1_:HOwn G N Hb H a m) (h2_:cJ m.std n=some (first,ents)) (h3_:Go first ents r) (h4_:kI H Q r):pL vs H Q E_
inductive pM (vs:List V) (H:Hp) (Q:VK) (E_:XK):Prop
 | mk (N:Addr->Prop) (Hb:Hp) (a:Addr) (n:Str) (m:HM) (first:List Int) (ents:List Ent) (h0_:vs=[.ref a,.str n]) (h1_:HOwn G N Hb H a m) (h2_:cJ m.std n=some (first,ents)) (h4_:∀ l us H',H l=none->Same H H'->H' l=some (.lst us)->DTs H' us (ents.map Ent.data)->Q (.ref l) H'):pM vs H Q E_
variable {G}
def bS {H:Hp} {a t:Addr} {o:HO} (h:upd H a o t=none):H t=none:=by
 by_cases z:t=a
 .rw[z,aB]at h;cases h
 .rw[aG z]at h;exact h
def oE {H:Hp} {x y:Addr} {o u:HO} (h:x≠y):upd (upd H x o) y u=upd (upd H y u) x o:=by
 funext b
 unfold upd
 by_cases e1:b=y
 .rw[if_pos e1]
  by_cases z:b=x
  .exact absurd (z.symm.trans e1) h
  .rw[if_neg z,if_pos e1]
 .rw[if_neg e1]
  by_cases z:b=x
  .rw[if_pos z,if_pos z]
  .rw[if_neg z,if_neg z,if_neg e1]
def V1 {H:Hp} {x d p q:Addr} {z D I L M J:HO} (h1:x≠d) (h2:x≠p) (h3:x≠q):upd (upd (upd (upd (upd (upd H d z) x L) p D) x M) q I) x J=upd (upd (upd (upd H d z) p D) q I) x J:=by
 rw[oE h3,gZ,<- oE h3,oE h2,gZ,oE h3]
def aC2 {xs:List V} (h:xs.length=2):∃ a b,xs=[a,b]:=by
 match xs,h with
 | [a,b],_=>exact⟨a,b,rfl⟩
def aDC {xs:List V} (h:xs.length=3):∃ a b c,xs=[a,b,c]:=by
 match xs,h with
 | [a,b,c],_=>exact⟨a,b,c,rfl⟩
def aDD {xs:List V} (h:xs.length=4):∃ a b c d,xs=[a,b,c,d]:=by
 match xs,h with
 | [a,b,c,d],_=>exact⟨a,b,c,d,rfl⟩
def Kp.refl {N:Addr->Prop} {H:Hp}:Kp G N H H:=.same (Same.refl _)
def Kp.updI {N:Addr->Prop} {H H':Hp} {a dx:Addr} {fs:List (Str×V)} {o:HO} (k:Kp G N H H') (D:H a=some (.ins G.Hs dx fs)):Kp G N H (upd H' a o) :=
 ⟨λt xs e=>by rw[aG (bJ e D (by intro z;cases z))];exact k.tup _ _ e,λt xs e=>by rw[aG (bJ e D (by intro z;cases z))];exact k.dk _ _ e,
  λt C dx fs I e=>by rw[aG (bJ e D (by intro z;injection z with z;exact I z))];exact k.ins _ _ _ _ I e,λt xs n e=>by rw[aG (bJ e D (by intro z;cases z))];exact k.lst _ _ n e⟩
def Kp.updL {N:Addr->Prop} {H H':Hp} {a:Addr} {xs:List V} {o:HO} (k:Kp G N H H') (D:H a=some (.lst xs)) (I:¬ N a):Kp G N H (upd H' a o) :=
 ⟨λt xs e=>by rw[aG (bJ e D (by intro z;cases z))];exact k.tup _ _ e,λt xs e=>by rw[aG (bJ e D (by intro z;cases z))];exact k.dk _ _ e,
  λt C dx fs J e=>by rw[aG (bJ e D (by intro z;cases z))];exact k.ins _ _ _ _ J e,λt xs n e=>by rw[aG (show t≠a from λz=>I (by rw[<- z];exact n))];exact k.lst _ _ n e⟩
def Kp.updN {N:Addr->Prop} {H H':Hp} {a:Addr} {o:HO} (k:Kp G N H H') (z:H a=none):Kp G N H (upd H' a o) :=
 ⟨λt xs e=>by rw[aG (aN e z)];exact k.tup _ _ e,λt xs e=>by rw[aG (aN e z)];exact k.dk _ _ e,
  λt C dx fs D e=>by rw[aG (aN e z)];exact k.ins _ _ _ _ D e,λt xs n e=>by rw[aG (aN e z)];exact k.lst _ _ n e⟩
def HOwn.same {N:Addr->Prop} {Hb H H':Hp} {a:Addr} {m:HM} (g:Same H H') (h:HOwn G N Hb H a m):HOwn G N Hb H' a m:=by
 obtain⟨h1,h2,⟨p,q,h3,h4,h5⟩,h6⟩:=h;exact⟨h1.trans g,h2,⟨p,q,h3,h4,h5.same g⟩,λt ht=>h6 t (g.free ht)⟩
def HOwn.sm {N:Addr->Prop} {Hb H:Hp} {a:Addr} {m:HM} (h:HOwn G N Hb H a m):Same Hb H:=h.1
def HOwn.ins {N:Addr->Prop} {Hb H:Hp} {a:Addr} {m:HM} (h:HOwn G N Hb H a m):∃ dx d p q,H a=some (.ins G.Hs dx (iG d p q)):=by
 obtain⟨h1,h2,⟨p,q,h3,h4,⟨dx,d,us,ws,_,z,_⟩⟩,h6⟩:=h;exact⟨dx,d,p,q,z⟩
def HOwn.rebase {N:Addr->Prop} {Hb H H':Hp} {a:Addr} {m:HM} (h:HOwn G N Hb H a m) (g:Same H H'):∃ z,HOwn G N z H' a m/\Same Hb z/\(∀ b o,H b=none->H' b=some o->z b=some o)/\TupS H' z:=by
 obtain⟨h1,h2,⟨p,q,h3,h4,h5⟩,h6⟩:=h;obtain⟨dx,d,us,ws,M,D,U,I,Y,J,z6⟩:=id h5;refine⟨wo [a,p,q] H',⟨yC,kS (by simp),⟨p,q,kS (by simp),kS (by simp),h5.same g⟩,λt ht=>h6 t (g.free ht)⟩,m7 (h1.trans g) λx hx=>?_,λb o e1 L=>?_,λt xs e=>?_⟩
 .rcases aDi.mp hx with e | hx
  .rw[e];exact h2
  .rcases aDi.mp hx with e | hx
   .rw[e];exact h3
   .rw[aDc.mp hx];exact h4
 .rw[tI]
  .exact L
  .intro hx;rcases aDi.mp hx with e | hx
   .rw[e,D]at e1;cases e1
   .rcases aDi.mp hx with e | hx
    .rw[e,I]at e1;cases e1
    .rw[aDc.mp hx,J]at e1;cases e1
 .rw[tI]
  .exact e
  .intro hx;rcases aDi.mp hx with h | hx
   .rw[h,g _ _ D]at e;cases e
   .rcases aDi.mp hx with h | hx
    .rw[h,g _ _ I]at e;cases e
    .rw[aDc.mp hx,g _ _ J]at e;cases e
def HOwn.weak {N:Addr->Prop} {z Hb H:Hp} {a:Addr} {m:HM} (g:Same z Hb) (h:HOwn G N Hb H a m):HOwn G N z H a m:=by
 obtain⟨h1,h2,⟨p,q,h3,h4,h5⟩,h6⟩:=h;exact⟨g.trans h1,g.free h2,⟨p,q,g.free h3,g.free h4,h5⟩,h6⟩
def aC3 {H:Hp} {x dx:Addr} {R:Hp->Prop} {E:XK} (z:H x=none) (hd:H dx=none) (L:dx≠x) (k:∀ H',HOwn G NT H H' x ⟨[],[],[]⟩->R H') :
 kT G [.ref x] (upd (upd H dx (.own x)) x (.ins G.Hs dx [])) (λv H2=>v=.non/\R H2) E:=by
 refine⟨x,dx,rfl,aB,λd p q h1 h2 h3 M N D=>⟨rfl,k _ ?_⟩⟩;have nx:∀ {y:Addr},(upd (upd H dx (.own x)) x (.ins G.Hs dx [])) y=none->y≠x:=λ{y} h e=>by rw[e,aB]at h;cases h
 have e1:=nx h1;have U:=nx h2;have Y:=nx h3;have f2:=bS (bS h2);have I:=bS (bS h3);have f1:=bS (bS h1);refine⟨?_,z,⟨p,q,f2,I,⟨dx,d,[],[],D,aB,⟨Nat.zero_le _,[],?_,.nil⟩,?_,.nil,?_,.nil⟩⟩,λ_ _=>trivial⟩
 .intro b o e;have J:b≠x:=aN e z;rw[aG J,aG (aN e I),aG (aN e f2),aG (aN e f1),aG J,aG (aN e hd)];exact e
 .rw[aG e1,aG N,aG M,aB]
 .rw[aG U,aG D,aB]
 .rw[aG Y,aB]
def n8 {N:Addr->Prop} {Hb H:Hp} {x:Addr} {m:HM} {n:Str} {first r:List Int} {ents:List Ent} {e:Ent} {w:Str} {k:Nat} {xs:List V} {ds:List PyData} {Q:VK} {E:XK} (h:HOwn G N Hb H x m) (D:xs.length=k) (z:DTs H xs ds) (hw:e.word=w) (hd:rJ n e=.tuple (.str w :: ds)) (h0:cJ m.std n=some (first,ents)) (I:Go first ents r) (hpl:e.plain) (J:e.ok r) (L:ents.length<9000) (M:m.past.length<9000)
 (U:∀ H',HOwn G N Hb H' x ⟨eG n (first,ents++[e]) m.std,m.past++[(.tuple (.str w :: ds),m.std)],[]⟩->Q .non H'):cX G w k (.ref x :: xs) H Q E:=by
 subst hw;refine⟨N,Hb,x,xs,ds,m,_,rfl,D,h,z,?_,M,U⟩;rw[<- hd];exact .ent h0 I hpl J L
def K8 {N:Addr->Prop} {Hb H:Hp} {x:Addr} {m:HM} {n:Str} {first r:List Int} {ents es:List Ent} {k:Nat} {c z:Int} {Q:VK} {E:XK} (h:HOwn G N Hb H x m) (h0:cJ m.std n=some (first,ents)) (D:k<=ents.length) (I:1<=c) (he:es=ents.take k++.walk c z :: ents.drop k) (J:Go first es r) (L:es.length<=9000) (M:m.past.length<9000)
 (U:∀ H',HOwn G N Hb H' x ⟨eG n (first,es) m.std,m.past++[(.tuple [.str "late",.str n,.int k,.int c,.int z],m.std)],[]⟩->Q .non H'):cX G "late" 4 [.ref x,.str n,.int k,.int c,.int z] H Q E :=
 ⟨N,Hb,x,_,_,m,_,rfl,rfl,h,.cons (.str _) (.cons (.int _) (.cons (.int _) (.cons (.int _) .nil))),.late h0 D I he J L,M,U⟩
def tM {N:Addr->Prop} {Hb H:Hp} {x:Addr} {m:HM} {n:Str} {first r:List Int} {ents es:List Ent} {k:Nat} {c z:Int} {Q:VK} {E:XK} (h:HOwn G N Hb H x m) (h0:cJ m.std n=some (first,ents)) (D:ents[k]?=some (.walk c z)) (he:es=ents.take k++ents.drop (k+1)) (I:Go first es r) (J:ents.length<=9000) (L:m.past.length<9000)
 (M:∀ H',HOwn G N Hb H' x ⟨eG n (first,es) m.std,m.past++[(.tuple [.str "strike",.str n,.int k],m.std)],[]⟩->Q .non H'):cX G "strike" 2 [.ref x,.str n,.int k] H Q E :=
 ⟨N,Hb,x,_,_,m,_,rfl,rfl,h,.cons (.str _) (.cons (.int _) .nil),.strike h0 D he I J,L,M⟩
variable (G)
structure S43 (Hb H:Hp) (x:Addr) (row:List Int) (pre:List Ent) (a b:Trs) (n:Nat):Prop where
 ex:∃ m,HOwn G NT Hb H x m/\m.std=[(("late":Str),row,pre++wE a),(("now":Str),row,pre++wE b)]/\m.past.length<=n
variable {G}
def o0:¬ (("late":Str)="now"):=by decide +kernel
def aC4:¬ (("now":Str)="late"):=by decide +kernel
def jA {r1 r2:List Int×List Ent}:cJ [(("late":Str),r1),(("now":Str),r2)] "late"=some r1:=iZ (s:=("late",r1)) rfl
def oF {r1 r2:List Int×List Ent}:cJ [(("late":Str),r1),(("now":Str),r2)] "now"=some r2:=(gH (s:=("late",r1)) o0).trans (iZ (s:=("now",r2)) rfl)
def oG {r1 r2 r:List Int×List Ent}:eG "late" r [(("late":Str),r1),(("now":Str),r2)]=[(("late":Str),r),(("now":Str),r2)]:=by
 unfold eG;rw[if_pos rfl,aD5,if_neg aC4];rfl
def P8 {r1 r2 r:List Int×List Ent}:eG "now" r [(("late":Str),r1),(("now":Str),r2)]=[(("late":Str),r1),(("now":Str),r)]:=by
 unfold eG;rw[if_neg o0];unfold eG;rw[if_pos rfl];rfl
def S43.same {Hb H H':Hp} {x:Addr} {row:List Int} {pre:List Ent} {a b:Trs} {n:Nat} (g:Same H H') (h:S43 G Hb H x row pre a b n):S43 G Hb H' x row pre a b n:=by
 obtain⟨m,h1,h2,h3⟩:=h.ex;exact⟨m,h1.same g,h2,h3⟩
def S43.sm {Hb H:Hp} {x:Addr} {row:List Int} {pre:List Ent} {a b:Trs} {n:Nat} (h:S43 G Hb H x row pre a b n):Same Hb H:=by
 obtain⟨m,h1,_⟩:=h.ex;exact h1.1
def S43.ins {Hb H:Hp} {x:Addr} {row:List Int} {pre:List Ent} {a b:Trs} {n:Nat} (h:S43 G Hb H x row pre a b n):∃ dx d p q,H x=some (.ins G.Hs dx (iG d p q)):=by
 obtain⟨m,h1,_⟩:=h.ex;exact h1.ins
def S43.rebase {Hb H H':Hp} {x:Addr} {row:List Int} {pre:List Ent} {a b:Trs} {n:Nat} (h:S43 G Hb H x row pre a b n) (g:Same H H'):∃ z,S43 G z H' x row pre a b n/\Same Hb z/\(∀ y o,H y=none->H' y=some o->z y=some o)/\TupS H' z:=by
 obtain⟨m,h1,h2,h3⟩:=h.ex;obtain⟨z,D,I,J,L⟩:=h1.rebase g;exact⟨z,⟨m,D,h2,h3⟩,I,J,L⟩
def S43.weak {z Hb H:Hp} {x:Addr} {row:List Int} {pre:List Ent} {a b:Trs} {n:Nat} (g:Same z Hb) (h:S43 G Hb H x row pre a b n):S43 G z H x row pre a b n:=by
 obtain⟨m,h1,h2,h3⟩:=h.ex;exact⟨m,h1.weak g,h2,h3⟩
def o4:Txs "late":=⟨by unfold U1;decide +kernel,by decide +kernel⟩
def aA2:Txs "now":=⟨by unfold U1;decide +kernel,by decide +kernel⟩
def tN (ws:Trs):(wE ws).length=ws.length:=by simp[wE]
def K9 (a b:Trs):wE (a++b)=wE a++wE b:=by simp[wE]
def o5 {row z:List Int} {pre:List Ent} {a:Trs} (D:Go row pre z) (I:Crl a):Go row (pre++wE a) (wso a z):=D.append (B2 I)
def B9 (pre:List Ent) (a:Trs) (k:Nat):(pre++wE a).take (pre.length+k)=pre++wE (a.take k):=by
 rw[List.take_append,List.take_of_length_le (by omega),Nat.add_sub_cancel_left];simp[wE,List.map_take]
def C0 (pre:List Ent) (a:Trs) (k:Nat):(pre++wE a).drop (pre.length+k)=wE (a.drop k):=by
 rw[List.drop_append,List.drop_of_length_le (by omega),Nat.add_sub_cancel_left];simp[wE,List.map_drop]
def aBd {Hb H:Hp} {x:Addr} {row L:List Int} {pre:List Ent} {a b:Trs} {n k:Nat} {c z y:Int} {Q:VK} {E:XK} (h:S43 G Hb H x row pre a b n) (M:Go row pre L) (N:y=((pre.length+k:Nat):Int)) (I:Crl a) (Y:k<=a.length) (J:1<=c) (hl:a.length<=100) (hpl:pre.length<=1) (hn:n<=1000)
 (U:∀ H',S43 G Hb H' x row pre (a.take k++(c,z) :: a.drop k) b (n+1)->Q .non H'):cX G "late" 4 [.ref x,.str "late",.int y,.int c,.int z] H Q E:=by
 subst N;obtain⟨m,h1,h2,h3⟩:=h.ex;have he:pre++wE (a.take k++(c,z) :: a.drop k)=(pre++wE a).take (pre.length+k)++.walk c z :: (pre++wE a).drop (pre.length+k):=by
  rw[B9,C0,K9,List.append_assoc];rfl
 have D:Crl (a.take k++(c,z) :: a.drop k):=λq hq=>by
  rcases aDj.mp hq with hq | hq
  .exact I q (List.mem_of_mem_take hq)
  .rcases aDi.mp hq with e | hq
   .rw[e];exact J
   .exact I q (List.mem_of_mem_drop hq)
 refine K8 h1 (by rw[h2];exact jA) (by rw[aDP,tN];omega) J he (o5 M D) (by rw[aDP,tN,aDP,aD9,aDW,List.length_drop];omega) (by omega) λH' h'=>U H' ⟨_,h',?_,?_⟩
 .show eG _ _ m.std=_;rw[h2,oG]
 .show (m.past++_).length<=_;rw[aDP,List.length_singleton];omega
def o6 {Hb H:Hp} {x:Addr} {row L:List Int} {pre:List Ent} {a b:Trs} {n k:Nat} {c z y:Int} {Q:VK} {E:XK} (h:S43 G Hb H x row pre a b n) (M:Go row pre L) (N:y=((pre.length+k:Nat):Int)) (J:Crl a) (U:a[k]?=some (c,z)) (hl:a.length<=100) (hpl:pre.length<=1) (hn:n<=1000)
 (Y:∀ H',S43 G Hb H' x row pre (a.take k++a.drop (k+1)) b (n+1)->Q .non H'):cX G "strike" 2 [.ref x,.str "late",.int y] H Q E:=by
 subst N;obtain⟨m,h1,h2,h3⟩:=h.ex;have he:pre++wE (a.take k++a.drop (k+1))=(pre++wE a).take (pre.length+k)++(pre++wE a).drop (pre.length+k+1):=by
  rw[B9,Nat.add_assoc,C0,K9,List.append_assoc]
 have D:Crl (a.take k++a.drop (k+1)):=λq hq=>by
  rcases aDj.mp hq with hq | hq
  .exact J q (List.mem_of_mem_take hq)
  .exact J q (List.mem_of_mem_drop hq)
 have I:(pre++wE a)[pre.length+k]?=some (.walk c z):=by
  rw[List.getElem?_append_right (by omega),Nat.add_sub_cancel_left];simp[wE,U]
 refine tM h1 (by rw[h2];exact jA) I he (o5 M D) (by rw[aDP,tN];omega) (by omega) λH' h'=>Y H' ⟨_,h',?_,?_⟩
 .show eG _ _ m.std=_;rw[h2,oG]
 .show (m.past++_).length<=_;rw[aDP,List.length_singleton];omega
def o7 {Hb H:Hp} {x:Addr} {row D:List Int} {pre:List Ent} {a b:Trs} {n:Nat} {c z:Int} {Q:VK} {E:XK} (h:S43 G Hb H x row pre a b n) (I:Go row pre D) (J:Crl b) (L:1<=c) (N:b.length<=100) (hpl:pre.length<=1) (U:n<=1000)
 (M:∀ H',S43 G Hb H' x row pre a (b++[(c,z)]) (n+1)->Q .non H'):cX G "walk" 3 [.ref x,.str "now",.int c,.int z] H Q E:=by
 obtain⟨m,h1,h2,h3⟩:=h.ex;refine n8 (e:=.walk c z) (n:="now") h1 rfl (.cons (.str _) (.cons (.int _) (.cons (.int _) .nil))) rfl rfl (by rw[h2];exact oF) (o5 I J) trivial L (by rw[aDP,tN];omega) (by omega) λH' h'=>M H' ⟨_,h',?_,?_⟩
 .show eG _ _ m.std=_;rw[h2,P8,K9,List.append_assoc];rfl
 .show (m.past++_).length<=_;rw[aDP,List.length_singleton];omega
def L0 {Hb H:Hp} {x:Addr} {row z:List Int} {pre:List Ent} {a b:Trs} {n:Nat} {Q:VK} {E:XK} (h:S43 G Hb H x row pre a b n) (D:Go row pre z) (I:Crl a) (J:kI H Q (wso a z)):pL G [.ref x,.str "late"] H Q E:=by
 obtain⟨m,h1,h2,h3⟩:=h.ex;exact⟨NT,Hb,x,"late",m,row,_,_,rfl,h1,by rw[h2];exact jA,o5 D I,J⟩
def L1 {Hb H:Hp} {x:Addr} {row z:List Int} {pre:List Ent} {a b:Trs} {n:Nat} {Q:VK} {E:XK} (h:S43 G Hb H x row pre a b n) (D:Go row pre z) (I:Crl b) (J:kI H Q (wso b z)):pL G [.ref x,.str "now"] H Q E:=by
 obtain⟨m,h1,h2,h3⟩:=h.ex;exact⟨NT,Hb,x,"now",m,row,_,_,rfl,h1,by rw[h2];exact oF,o5 D I,J⟩
def aBe {Hb H:Hp} {x:Addr} {row:List Int} {pre:List Ent} {a b:Trs} {n:Nat} {Q:VK} {E:XK} (h:S43 G Hb H x row pre a b n) (z:∀ l us H',H l=none->Same H H'->H' l=some (.lst us)->DTs H' us ((pre++wE a).map Ent.data)->Q (.ref l) H'):pM G [.ref x,.str "late"] H Q E:=by
 obtain⟨m,h1,h2,h3⟩:=h.ex;exact⟨NT,Hb,x,"late",m,row,_,rfl,h1,by rw[h2];exact jA,z⟩
def aBf {Hb H:Hp} {x:Addr} {row:List Int} {pre:List Ent} {a b:Trs} {n:Nat} {Q:VK} {E:XK} (h:S43 G Hb H x row pre a b n) (z:∀ l us H',H l=none->Same H H'->H' l=some (.lst us)->DTs H' us ((pre++wE b).map Ent.data)->Q (.ref l) H'):pM G [.ref x,.str "now"] H Q E:=by
 obtain⟨m,h1,h2,h3⟩:=h.ex;exact⟨NT,Hb,x,"now",m,row,_,rfl,h1,by rw[h2];exact oF,z⟩
def o8 {a:Trs} {k:Nat} {q:Int×Int} (h:a[k]?=some q) (s:Int):cI (a.take k++a.drop (k+1)) s+q.2 * min q.1 s=cI a s:=by
 have hd:a.drop k=q :: a.drop (k+1):=by
  obtain⟨z,e⟩:=aDh.mp h;rw[<- e];exact List.drop_eq_getElem_cons z
 conv=>rhs;rw[<- List.take_append_drop k a,hd]
 rw[oB,oB,iX];omega
end
end CW
namespace L2
open PySem PySem.W PySem.Spec PyProof.Rows
section
variable {P:Program} {w:World} {K:PySem.W.Frag} {mg:Str->Option Value} {base h:Heap} {x:Str} {st:Stmt} {f c:Addr} {fd:FuncData}
def FnScope.m {N Q:List Str} {z:Scope} (a:z.kind=.function:=by rfl) (b:z.isCoroutine=false:=by rfl) (c:z.isGenerator=false:=by rfl) (d:N.Nodup:=by decide +kernel) (e:N.take Q.length=Q:=by rfl) (f:∀ x∈Q,z.names.lookup x=some .local\/z.names.lookup x=some .cell:=by decide +kernel) (g:∀ y∈z.names,y.2≠.free:=by decide +kernel):FnScope N Q z:=⟨a,b,c,d,e,f,g⟩
structure DefIn (K:PySem.W.Frag) (x:Str) (st:Stmt) (f:Addr) (fd:FuncData):Prop where
 a:PySem.W.nsIn K mainGlobals x=some (some (.ref f))
 F:Fun K x x st f fd
def defIn {M:Value} {od J:Option Addr} {I:Array (Option Value)} {kV D L z ct:Value} (a:PySem.W.nsIn K mainGlobals x=some (some (.ref f))) (l:K.lookup f=some ⟨M,od,.func (PySem.W.fnOf x x (cQ st) (cA st) (aJ st) .none kV D L J z ct),I⟩)
 (c:PySem.W.codeIn K z x=true) (k:PySem.W.keepIn K (.ref f)=true):DefIn K x st f (PySem.W.fnOf x x (cQ st) (cA st) (aJ st) .none kV D L J z ct):=⟨a,G0 l c k⟩
structure DefC (K:PySem.W.Frag) (x:Str) (st:Stmt) (f:Addr) (fd:FuncData) (c:Addr):Prop where
 a:PySem.W.nsIn K mainGlobals x=some (some (.ref f))
 G:CW.FunC K x x st f fd c
 k:PySem.W.keepIn K (.ref f)=true
def DefC.F (D:DefC K x st f fd c):Fun K x x st f fd:=by
 obtain⟨L,od,kV,z,M,N,ct,I,e,lk,J⟩:=D.G.ex;exact⟨⟨L,od,kV,z,M,N,.ref c,ct,I,e,lk,J⟩,D.k⟩
structure DAt (P:Program) (w:World) (base:Heap) (K:PySem.W.Frag) (mg:Str->Option Value) (x:Str) (ps:List Str) (f:Addr) (fd:FuncData):Prop where
 m:mg x=some (.ref f)
 k:PySem.W.keepIn K (.ref f)=true
 b:Binds K fd ps []
def DAt.fn {ps:List Str} {k:Nat} {sp:Sp} (D:DAt P w base K mg x ps f fd) (o:FnOk P w K mg base CX0 k f fd ps sp):aU P w K mg base x k ps sp:=⟨f,fd,o,D.m,D.k,D.b⟩
end
end L2
namespace CW
open PySem L2
end CW
namespace L2
open PySem PySem.W PySem.Spec PyProof.Rows
section
variable {P:Program} {w:World} {K:PySem.W.Frag} {mg:Str->Option Value} {base h:Heap} {x q m:Str} {st:Stmt} {f c C:Addr} {fd:FuncData}
structure MethIn (K:PySem.W.Frag) (C:Addr) (m q:Str) (st:Stmt) (f:Addr) (fd:FuncData):Prop where
 me:x6 K C m f
 F:Fun K m q st f fd
def methIn {M:Value} {od J:Option Addr} {I:Array (Option Value)} {kV D L z ct:Value} (a:PySem.W.findIn K (.ref C) m=some (some (.ref f))) (l:K.lookup f=some ⟨M,od,.func (PySem.W.fnOf m q (cQ st) (cA st) (aJ st) .none kV D L J z ct),I⟩)
 (c:PySem.W.codeIn K z q=true) (k:PySem.W.keepIn K (.ref f)=true) (i:PySem.W.isFn K (.ref f)=true):MethIn K C m q st f (PySem.W.fnOf m q (cQ st) (cA st) (aJ st) .none kV D L J z ct):=⟨⟨a,i,k⟩,G0 l c k⟩
def MethIn.at {ps:List Str} {k:Nat} {sp:Sp} (D:MethIn K C m q st f fd) (b:Binds K fd ps []) (o:FnOk P w K mg base CX0 k f fd ps sp):cK P w K mg base C m k ps sp:=⟨f,fd,o,D.me,b⟩
structure InitIn (K:PySem.W.Frag) (C:Addr) (q:Str) (st:Stmt) (f:Addr) (fd:FuncData):Prop where
 mk_:Mk K C f
 F:Fun K "__init__" q st f fd
def initIn {M:Value} {od J:Option Addr} {I:Array (Option Value)} {kV D L z ct:Value} (a:PySem.W.findIn K (.ref C) "__init__"=some (some (.ref f))) (l:K.lookup f=some ⟨M,od,.func (PySem.W.fnOf "__init__" q (cQ st) (cA st) (aJ st) .none kV D L J z ct),I⟩)
 (c:PySem.W.codeIn K z q=true) (k:PySem.W.keepIn K (.ref f)=true) (i:PySem.W.isFn K (.ref f)=true) (mk:PySem.W.makesIn K C=true) (N:PySem.W.keepIn K (.ref C)=true):InitIn K C q st f (PySem.W.fnOf "__init__" q (cQ st) (cA st) (aJ st) .none kV D L J z ct):=⟨⟨mk,a,i,N⟩,G0 l c k⟩
def InitIn.at {ps:List Str} {k:Nat} {sp:Sp} (D:InitIn K C q st f fd) (hm:mg x=some (.ref C)) (b:Binds K fd ps []) (o:FnOk P w K mg base CX0 k f fd ps sp):iU P w K mg base x C k ps sp:=⟨f,fd,o,D.mk_,hm,b⟩
def DAt.ref {ps:List Str} {k:Nat} {sp:Sp} (D:DAt P w base K mg x ps f fd) (o:FnOk P w K mg base CX0 k f fd ps sp):qF P w K mg base f k ps sp:=⟨fd,o,D.k,D.b⟩
def DefIn.d5 (D:DefIn K x st f fd) (P:Program) (w:World) (base:Heap) (X:K.In h) (G:h.Ns mainGlobals mg) {ps:List Str} (b:Binds K fd ps []):DAt P w base K mg x ps f fd:=⟨PySem.W.mg_of X G D.a,D.F.kp,b⟩
end
end L2
namespace CW
open PySem L2
structure HcIn (K:PySem.W.Frag) (Rd Cs Hs:Addr):Prop where
 aR:PySem.W.nsIn K mainGlobals "Road"=some (some (.ref Rd))
 aC:PySem.W.nsIn K mainGlobals "Course"=some (some (.ref Cs))
 aH:PySem.W.nsIn K mainGlobals "House"=some (some (.ref Hs))
 r1:PySem.W.plainGet K Rd Str.empty=true
 r2:PySem.W.hasDictIn K Rd=true
 r3:PySem.W.plainOver K Rd=true
 r4:PySem.W.findIn K (.ref Rd) "__setattr__"=some (some (.builtin "object.__setattr__"))
 c1:PySem.W.plainGet K Cs Str.empty=true
 c2:PySem.W.hasDictIn K Cs=true
 c3:PySem.W.plainOver K Cs=true
 c4:PySem.W.findIn K (.ref Cs) "__setattr__"=some (some (.builtin "object.__setattr__"))
 h1:PySem.W.plainGet K Hs Str.empty=true
 h2:PySem.W.hasDictIn K Hs=true
 h3:PySem.W.plainOver K Hs=true
 h4:PySem.W.findIn K (.ref Hs) "__setattr__"=some (some (.builtin "object.__setattr__"))
 rEn:PySem.W.findIn K (.ref Rd) "entries"=some none
 rRe:PySem.W.findIn K (.ref Rd) "rests"=some none
 rCo:PySem.W.findIn K (.ref Rd) "course"=some none
 cRe:PySem.W.findIn K (.ref Cs) "rested"=some none
 cWa:PySem.W.findIn K (.ref Cs) "walks"=some none
 cTu:PySem.W.findIn K (.ref Cs) "turned"=some none
 hSt:PySem.W.findIn K (.ref Hs) "standing"=some none
 hPa:PySem.W.findIn K (.ref Hs) "past"=some none
 hAh:PySem.W.findIn K (.ref Hs) "ahead"=some none
 ne1:Nat.beq Rd Hs=false
 ne2:Nat.beq Cs Hs=false
def o9 {a b:Nat} (h:Nat.beq a b=false):a≠b:=λe=>by
 rw[e,Nat.beq_refl]at h;cases h
def HcIn.g {K:PySem.W.Frag} {Rd Cs Hs:Addr} (h:HcIn K Rd Cs Hs):Hc K:=⟨Rd,Cs,Hs,⟨h.r1,h.r2,h.r3,h.r4⟩,⟨h.c1,h.c2,h.c3,h.c4⟩,⟨h.h1,h.h2,h.h3,h.h4⟩,o9 h.ne1,o9 h.ne2,h.rEn,h.rRe,h.rCo,h.cRe,h.cWa,h.cTu,h.hSt,h.hPa,h.hAh⟩
def C1 {x y:Str} {v:Value} {l:List (Key×Value)}:valueAt (((Sum.inr y:Key),v) :: l) (Sum.inr x)=if x=y then some v else valueAt l (Sum.inr x):=by
 unfold valueAt;rw[List.find?_cons]
 by_cases c:x=y
 .rw[if_pos c,c];simp
 .rw[if_neg c];have:decide ((Sum.inr y:Key)=Sum.inr x)=false:=aD1 λz=>c (Sum.inr.inj z).symm;simp only[this]
def p0 {P:Program} {w:World} {K:PySem.W.Frag} {d:Addr} {ep:Nat} {M t1 t2 N U Y t6 t7 t8:Tok} {z r1 r2 r3 r4 D I J L:Addr}
 (h:K.lookup d=some ⟨.type "dict",none,.dict #[sP w ("build",M,z),sP w ("shut",t1,r1),sP w ("walk",t2,r2),sP w ("put",N,r3),sP w ("take",U,r4),sP w ("mirror",Y,D),sP w ("lay",t6,I),sP w ("late",t7,J),sP w ("strike",t8,L)] ep,#[]⟩) (hs:(d == sysModules)=false) :
 ∃ kvs,GDict P w K d kvs/\valueAt kvs (Sum.inr "build")=some (.ref z)/\valueAt kvs (Sum.inr "shut")=some (.ref r1)/\valueAt kvs (Sum.inr "walk")=some (.ref r2)/\valueAt kvs (Sum.inr "put")=some (.ref r3)/\valueAt kvs (Sum.inr "take")=some (.ref r4)/\valueAt kvs (Sum.inr "mirror")=some (.ref D)/\valueAt kvs (Sum.inr "lay")=some (.ref I)/\valueAt kvs (Sum.inr "late")=some (.ref J)/\valueAt kvs (Sum.inr "strike")=some (.ref L):=by
 have g:=b6 (P:=P) (w:=w) [("build",M,z),("shut",t1,r1),("walk",t2,r2),("put",N,r3),("take",U,r4),("mirror",Y,D),("lay",t6,I),("late",t7,J),("strike",t8,L)] h hs (show (["build","shut","walk","put","take","mirror","lay","late","strike"]:List Str).Nodup by decide +kernel);refine⟨_,g,?_,?_,?_,?_,?_,?_,?_,?_,?_⟩ <;> simp only[aD5,List.map_nil] <;> repeat (first | (rw[C1,if_pos rfl];done) | rw[C1,if_neg (by decide +kernel)])
def aBg {R:Str->Prop}:∀ x∈([]:List Str),R x:=λx z=>nomatch z
def oH {R:Str->Prop} {y:Str} {ks:List Str} (h:R y) (t:∀ x∈ks,R x):∀ x∈y :: ks,R x:=λx hx=>by
 rcases aDi.mp hx with e | hx
 .rw[e];exact h
 .exact t x hx
def tP {K:PySem.W.Frag} {G:Hc K} {ks:List Str} {y:Str} (I:y∈ks) {vs:List V} {H:Hp} {Q:VK} {E:XK} (h:cS G [y] vs H Q E):cS G ks vs H Q E:=by
 obtain⟨N,d,v,w,std,z,D,h0,hw,h1,h2,h3,h4,h5⟩:=h;exact⟨N,d,v,w,std,z,D,h0,by rw[aDc.mp hw];exact I,h1,h2,h3,h4,h5⟩
def iH:∀ {a b:List Int},a.Perm b->a.Pairwise (·<=·)->b.Pairwise (·<=·)->a=b
 | [],b,h,_,_=>by rw[h.symm.eq_nil]
 | x :: a,[],h,_,_=>by have:=h.eq_nil;cases this
 | x :: a,y :: b,h,I,J=>by
  have z:=List.pairwise_cons.mp I;have D:=List.pairwise_cons.mp J;have L:x∈y :: b:=h.mem_iff.mp aDI;have M:y∈x :: a:=h.mem_iff.mpr aDI;have e:x=y:=by
   rcases aDi.mp L with q | q
   .exact q
   .rcases aDi.mp M with r | r
    .exact r.symm
    .have h1:=z.1 y r;have h2:=D.1 x q;omega
  subst e;rw[iH (List.perm_cons x |>.mp h) z.2 D.2]
def top (i:Nat):Stmt:=PySem.Challenge.pw_creelway_k43_whole_late_walks_are_walks.main.body.getD i (.Pass ⟨0,0,0,0⟩)
section
variable {P:Program} {w:World} {K:PySem.W.Frag} {mg:Str->Option Value} {base:Heap}
abbrev fQ:Stmt:=eJ (top 48) 0
def pN:FnScope ["self","entries","rests","course"] ["self","entries","rests","course"] (aJ fQ):=⟨rfl,rfl,rfl,by decide +kernel,rfl,by decide +kernel,by decide +kernel⟩
def yD {f:Addr} {fd:FuncData} (G:Hc K) (F:Fun K "__init__" "Road.__init__" fQ f fd):FnOk P w K mg base CX0 1 f fd ["self","entries","rests","course"] (jI G):=by
 refine F.ok pN (λvs H Q E h=>?_) (λz A outer s H vs Q E M h=>?_)
 .obtain⟨x,dx,D,I,J,rfl,_⟩:=h;rfl
 .obtain⟨x,dx,D,I,J,rfl,L,k⟩:=h;refine⟨_,(aF (dW (pv 0) (pv 1) rfl)
 (aF (dW (pv 0) (pv 2) rfl)
 (aK (dW (pv 0) (pv 3) rfl)))),?_⟩
  refine⟨_,rfl,_,rfl,x,_,dx,_,rfl,L,G.rd,G.rEn,(show 0<1000 by decide),?_⟩;refine⟨_,rfl,_,rfl,x,_,dx,_,rfl,aB,G.rd,G.rRe,(show 1<1000 by decide),?_⟩;refine⟨_,rfl,_,rfl,x,_,dx,_,rfl,aB,G.rd,G.rCo,(show 2<1000 by decide),?_⟩;rw[gZ,gZ];exact k
abbrev eP:Stmt:=eJ (top 49) 0
def mS:FnScope ["self","rested","walks","turned"] ["self","rested","walks","turned"] (aJ eP):=⟨rfl,rfl,rfl,by decide +kernel,rfl,by decide +kernel,by decide +kernel⟩
def tQ {f:Addr} {fd:FuncData} (G:Hc K) (F:Fun K "__init__" "Course.__init__" eP f fd):FnOk P w K mg base CX0 1 f fd ["self","rested","walks","turned"] (mR G):=by
 refine F.ok mS (λvs H Q E h=>?_) (λz A outer s H vs Q E M h=>?_)
 .obtain⟨x,dx,D,I,J,rfl,_⟩:=h;rfl
 .obtain⟨x,dx,D,I,J,rfl,L,k⟩:=h;refine⟨_,(aF (dW (pv 0) (pv 1) rfl)
 (aF (dW (pv 0) (pv 2) rfl)
 (aK (dW (pv 0) (pv 3) rfl)))),?_⟩
  refine⟨_,rfl,_,rfl,x,_,dx,_,rfl,L,G.cs,G.cRe,(show 0<1000 by decide),?_⟩;refine⟨_,rfl,_,rfl,x,_,dx,_,rfl,aB,G.cs,G.cWa,(show 1<1000 by decide),?_⟩;refine⟨_,rfl,_,rfl,x,_,dx,_,rfl,aB,G.cs,G.cTu,(show 2<1000 by decide),?_⟩;rw[gZ,gZ];exact k
abbrev eZ:Stmt:=eJ (top 79) 0
def oI:FnScope ["self"] ["self"] (aJ eZ):=⟨rfl,rfl,rfl,by decide +kernel,rfl,by decide +kernel,by decide +kernel⟩
def uG {f:Addr} {fd:FuncData} (G:Hc K) (F:Fun K "__init__" "House.__init__" eZ f fd):FnOk P w K mg base CX0 1 f fd ["self"] (kT G):=by
 refine F.ok oI (λvs H Q E h=>?_) (λal A outer s H vs Q E hr h=>?_)
 .obtain⟨x,dx,rfl,_⟩:=h;rfl
 .obtain⟨x,dx,rfl,N,k⟩:=h;refine⟨_,(aF (dW (pv 0) gS rfl)
 (aF (dW (pv 0) (dA aE) rfl)
 (aK (dW (pv 0) (dA aE) rfl)))),?_⟩
  refine λd hd=>?_;have nd:x≠d:=aN N hd;have e1:(upd H d (.dK [])) x=some (.ins G.Hs dx []):=by rw[aG nd];exact N
  refine⟨_,rfl,x,_,dx,_,rfl,e1,G.hs,G.hSt,(show 0<1000 by decide),?_⟩;refine⟨(show 0<=sizeLine by decide),λp U=>?_⟩;have Y:x≠p:=aN aB U;have z:=bS U;have J:d≠p:=aN aB z;refine⟨_,rfl,x,_,dx,_,rfl,(aG Y).trans aB,G.hs,G.hPa,(show 1<1000 by decide),?_⟩;refine⟨(show 0<=sizeLine by decide),λq hq=>?_⟩;have nq:x≠q:=aN aB hq;have D:=bS hq;have L:p≠q:=aN aB D;have I:=bS (bS D);have M:d≠q:=aN aB I;refine⟨_,rfl,x,_,dx,_,rfl,(aG nq).trans aB,G.hs,G.hAh,(show 2<1000 by decide),?_⟩;have:=k d p q hd (bS z) (bS I) J M L;rw[V1 nd Y nq];exact this
abbrev mT:Stmt:=top 21
def qJ:FnScope ["row","at"] ["row"] (aJ mT):=⟨rfl,rfl,rfl,by decide +kernel,rfl,by decide +kernel,by decide +kernel⟩
def C2 {f:Addr} {fd:FuncData} {tC:Tok} (F:Fun K "look_row" "look_row" mT f fd) (B:Bt mg) (C:Cn mg tC):FnOk P w K mg base CX0 1 f fd ["row"] hX:=by
 refine F.ok qJ (λvs H Q E h=>?_) (λcdv A outer s H vs Q E hr h=>?_)
 .obtain⟨a,r,rfl,_⟩:=h;rfl
 .obtain⟨a,row,rfl,ha,⟨hrow,hlen⟩,k⟩:=h;refine⟨_,(aF (bU (aY mB (aP aV (by rfl) B.len PySem.boot_len (aA (pv 0) aE)) (fE (v:=.int 60) rfl C.MOST_STONES ⟨_,rfl⟩) (bD _))
 (aK bR)
 bE)
 (aK (cZ PassesOwn.never rfl (uZ rfl B.range (aA aI (aA (aP aV (by rfl) B.len PySem.boot_len (aA (pv 0) aE)) aE))) (aM (i:=1) qJ.nd rfl (Or.inl rfl))
 (aK (bU (aY W6 (bH F8 (pv 0) (pv 1) (λ_ _=>rfl)) (bH F8 (pv 0) (aL eY (pv 1) aI) (λ_ _=>rfl)) (bD _))
 (aK bR)
 bE))))),?_⟩
  refine⟨_,rfl,a,_,rfl,ha.sq,_,_,rfl,rfl,_,rfl,eC (by rw[aDG];omega) ?_⟩;refine⟨_,rfl,a,_,rfl,ha.sq,_,_,rfl,⟨by decide,by decide,by omega,by rw[aDG];omega⟩,dZ (lo:=1) (λi σ H2=>∃ v,σ=[some (.ref a),v]/\H2=H) ⟨none,rfl,rfl⟩ ?_ ?_⟩
  .rintro i σ H2 hi ⟨v,rfl,rfl⟩;rw[aDG]at hi;obtain⟨x,_,hx,ex⟩:=cR (ns:=row) (i:=1+(i:Int)) (by omega) (by omega);obtain⟨y,_,hy,ey⟩:=cR (ns:=row) (i:=1+(i:Int) - 1) (by omega) (by omega);refine⟨_,rfl,_,rfl,ha.ix ex ⟨_,rfl,_,rfl,_,_,rfl,rfl,ha.ix ey ⟨_,_,rfl,rfl,_,rfl,eC ?_ ⟨_,rfl,rfl⟩⟩⟩⟩;have:=hrow.lt (show (1+(i:Int) - 1).toNat<(1+(i:Int)).toNat by omega) hy hx;omega
  .rintro σ H2 ⟨v,rfl,rfl⟩;exact k
abbrev jK:Stmt:=top 22
def C4:FnScope ["row"] ["row"] (aJ jK):=⟨rfl,rfl,rfl,by decide +kernel,rfl,by decide +kernel,by decide +kernel⟩
def C5 {f:Addr} {fd:FuncData} (F:Fun K "mirrored" "mirrored" jK f fd) (B:Bt mg) (F_look_row:aU P w K mg base "look_row" 1 ["row"] sG):FnOk P w K mg base CX0 2 f fd ["row"] gP:=by
 refine F.ok C4 (λvs H Q E h=>?_) (λcdv A outer s H vs Q E hr h=>?_)
 .obtain⟨a,r,rfl,_⟩:=h;rfl
 .obtain⟨a,row,rfl,ha,hrow,hlen,k⟩:=h;refine⟨_,(aF (aS (aW F_look_row hr rfl (aA (pv 0) aE)))
 (aK (aZ (dH ["place"] [] [] rfl (.of (show dB (aJ jK) _ ["row"] [] []=true by decide +kernel)) (aBF rfl B.reversed (aA (pv 0) aE)) (λ_ _ _=>(aM (i:=0) (show (["place"]:List Str).Nodup by decide +kernel) rfl (Or.inl rfl))) (fT (by decide)) (λ_ _ _=>dE) (λ_ _ _=>(lZ iE (pv 0))))))),?_⟩
  refine⟨_,rfl,a,row,rfl,ha,hrow,hlen,_,rfl,a,_,rfl,SqL.of ha,Y1 (xs:=row.map V.int) (λi ys H2=>H2=H/\ys=((row.reverse.take i).map (λz=>-z)).map V.int) ⟨rfl,rfl⟩ ?_ ?_ ?_⟩
  .rintro i ys H2 hi ⟨rfl,rfl⟩;exact⟨SqL.of ha,nK _ _ (by rw[aDG]at hi;omega) _⟩
  .rintro i x ys H2 hi ⟨rfl,rfl⟩;rw[<- List.map_reverse]at hi;obtain⟨z,rfl,hz⟩:=kJ hi;exact⟨_,rfl,_,rfl,rfl,sI _ hz⟩
  .rintro ys H2 ⟨rfl,rfl⟩ D hD;refine k D _ hD (Same.upd hD) ?_;rw[aB,aDG,<- List.length_reverse,aDU];rfl
abbrev rL:Stmt:=top 23
def p7:FnScope ["row","by"] ["row","by"] (aJ rL):=⟨rfl,rfl,rfl,by decide +kernel,rfl,by decide +kernel,by decide +kernel⟩
def V2 {f:Addr} {fd:FuncData} (F:Fun K "moved" "moved" rL f fd) (B:Bt mg) (F_look_row:aU P w K mg base "look_row" 1 ["row"] hX):FnOk P w K mg base CX0 2 f fd ["row","by"] oC:=by
 refine F.ok p7 (λvs H Q E h=>?_) (λcdv A outer s H vs Q E hr h=>?_)
 .obtain⟨a,r,b,rfl,_⟩:=h;rfl
 .obtain⟨a,row,b,rfl,ha,hrw,k⟩:=h;have hlen:=hrw.len;refine⟨_,(aF (aS (aW F_look_row hr rfl (aA (pv 0) aE)))
 (aK (aZ (dH ["place"] ["by"] [1] rfl (.of (show dB (aJ rL) _ ["row","by"] [1] ["by"]=true by decide +kernel)) (E3 (pv 0)) (λ_ _ _=>(aM (i:=0) (show (["place","by"]:List Str).Nodup by decide +kernel) rfl (Or.inl rfl))) (fT (by decide)) (λ_ _ _=>dE) (λ_ _ _=>(aL bF (pv 0) (pv 1))))))),?_⟩
  refine⟨_,rfl,a,row,rfl,.inr ha,hrw,_,rfl,a,rfl,⟨_,SqT.of ha⟩,B5 (xs:=row.map V.int) (λi ys H2=>H2=H/\ys=((row.take i).map (λz=>z+b)).map V.int) ⟨rfl,rfl⟩ ?_ ?_ ?_⟩
  .rintro i ys H2 hi ⟨rfl,rfl⟩;exact⟨SqT.of ha,nK _ _ (by rw[aDG]at hi;omega) _⟩
  .rintro i x ys H2 hi ⟨rfl,rfl⟩;obtain⟨z,rfl,hz⟩:=kJ hi;exact⟨_,rfl,_,rfl,_,_,rfl,rfl,rfl,sI _ hz⟩
  .rintro ys H2 ⟨rfl,rfl⟩ D hD;refine k D _ hD (Same.upd hD) ?_;rw[aB,aDG,aDU];rfl
abbrev jL:Stmt:=top 25
def uH:FnScope ["creel"] ["creel"] (aJ jL):=⟨rfl,rfl,rfl,by decide +kernel,rfl,by decide +kernel,by decide +kernel⟩
def uI {f:Addr} {fd:FuncData} (F:Fun K "look_creel" "look_creel" jL f fd) (B:Bt mg):FnOk P w K mg base CX0 1 f fd ["creel"] dF:=by
 refine F.ok uH (λvs H Q E h=>?_) (λcdv A outer s H vs Q E hr h=>?_)
 .obtain⟨c,rfl,_⟩:=h;rfl
 .obtain⟨c,rfl,hc,k⟩:=h;refine⟨_,(aK (bU (aY nB (pv 0) aI (bD _))
 (aK bR)
 bE)),?_⟩
  exact⟨_,rfl,_,_,rfl,rfl,_,rfl,eC (by omega) k⟩
abbrev jM:Stmt:=top 26
def iI:FnScope ["walks","creel","count"] ["walks"] (aJ jM):=⟨rfl,rfl,rfl,by decide +kernel,rfl,by decide +kernel,by decide +kernel⟩
def uJ {f:Addr} {fd:FuncData} (F:Fun K "look_walks" "look_walks" jM f fd) (B:Bt mg) (F_look_creel:aU P w K mg base "look_creel" 1 ["creel"] dF):FnOk P w K mg base CX0 2 f fd ["walks"] rB:=by
 refine F.ok iI (λvs H Q E h=>?_) (λcdv A outer s H vs Q E hr h=>?_)
 .obtain⟨a,r,rfl,_⟩:=h;rfl
 .obtain⟨a,ws,rfl,⟨us,ha,pr⟩,hc,k⟩:=h;refine⟨_,(aK (cZ PassesOwn.never rfl (dC (pv 0)) (eW rfl (aO (aM (i:=1) iI.nd rfl (Or.inl rfl)) (aO (aM (i:=2) iI.nd rfl (Or.inl rfl)) bW)))
 (aK (aS (aW F_look_creel hr rfl (aA (pv 1) aE)))))),?_⟩
  refine⟨_,rfl,a,rfl,⟨_,SqL.of ha⟩,gJ (K:=K) (a:=a) (xs:=us) (λi σ H2=>∃ v1 v2,σ=[some (.ref a),v1,v2]/\H2=H) ⟨none,none,rfl,rfl⟩ (λi σ H2 _ ⟨_,_,_,e⟩=>by rw[e];exact SqL.of ha) ?_ ?_⟩
  .rintro i x σ H2 hi ⟨v1,v2,rfl,rfl⟩;obtain⟨p,t',hp,rfl,et⟩:=dI pr hi;exact⟨t',_,rfl,SqT.of et,rfl,_,_,rfl,_,_,rfl,rfl,_,rfl,_,rfl,hc p (aDR hp),_,_,rfl,rfl⟩
  .rintro σ H2 ⟨v1,v2,rfl,rfl⟩;exact k
abbrev oJ:Stmt:=top 27
def dJ:FnScope ["row","creel","behind","held","niche","place"] ["row","creel"] (aJ oJ):=⟨rfl,rfl,rfl,by decide +kernel,rfl,by decide +kernel,by decide +kernel⟩
inductive wF (H:Hp) (a:Addr) (l:Addr) (c:Int) (row:List Int) (i:Nat) (σ:St) (H2:Hp):Prop
 | mk (bs:List Int) (h:Nat) (n:Int) (v:Option V) (k0_:σ=[some (.ref a),some (.int c),some (.ref l),some (.int h),some (.int n),v]) (k1_:Same H H2) (k2_:H2 l=some (.lst (bs.map V.int))) (k3_:bs++goM c (row.drop i) h n=cU row c) (k4_:bs.length+h=i):wF H a l c row i σ H2
inductive wG (H:Hp) (a:Addr) (l:Addr) (c:Int) (row:List Int) (i:Nat) (p:Int) (σ:St) (H3:Hp):Prop
 | mk (bs:List Int) (h:Nat) (n:Int) (k0_:σ=[some (.ref a),some (.int c),some (.ref l),some (.int h),some (.int n),some (.int p)]) (k1_:Same H H3) (k2_:H3 l=some (.lst (bs.map V.int))) (k3_:bs++goM c (p :: row.drop (i+1)) h n=cU row c) (k4_:bs.length+h=i):wG H a l c row i p σ H3
inductive wH (H:Hp) (a:Addr) (l:Addr) (c:Int) (row:List Int) (i:Nat) (p:Int) (n:Int) (σ:St) (H4:Hp):Prop
 | mk (bs:List Int) (h:Nat) (k0_:σ=[some (.ref a),some (.int c),some (.ref l),some (.int h),some (.int n),some (.int p)]) (k1_:Same H H4) (k2_:H4 l=some (.lst (bs.map V.int))) (k3_:bs++goM c (row.drop (i+1)) h (p+1)=cU row c) (k4_:bs.length+h=i+1):wH H a l c row i p n σ H4
inductive wI (H:Hp) (a:Addr) (l:Addr) (c:Int) (row:List Int) (i:Nat) (p:Int) (n:Int) (σ:St) (H4:Hp):Prop
 | mk (bs:List Int) (h:Nat) (k0_:σ=[some (.ref a),some (.int c),some (.ref l),some (.int h),some (.int n),some (.int p)]) (k1_:Same H H4) (k2_:H4 l=some (.lst (bs.map V.int))) (k3_:bs++goM c (row.drop (i+1)) h (p+1)=cU row c) (k4_:bs.length+h=i+1):wI H a l c row i p n σ H4
def V3 {f:Addr} {fd:FuncData} (F:Fun K "walked" "walked" oJ f fd) (B:Bt mg) (F_look_row:aU P w K mg base "look_row" 1 ["row"] sG) (F_look_creel:aU P w K mg base "look_creel" 1 ["creel"] dF):FnOk P w K mg base CX0 2 f fd ["row","creel"] kL:=by
 refine F.ok dJ (λvs H Q E h=>?_) (λcdv A outer s H vs Q E hr h=>?_)
 .obtain⟨a,r,c,rfl,_⟩:=h;rfl
 .obtain⟨a,row,c,rfl,ha,hrow,hlen,hc,k⟩:=h;refine⟨_,(aF (aS (aW F_look_row hr rfl (aA (pv 0) aE)))
 (aF (aS (aW F_look_creel hr rfl (aA (pv 1) aE)))
 (aF (aQ (i:=2) dJ.nd rfl (Or.inl rfl) (dA aE))
 (aF (aQ (i:=3) dJ.nd rfl (Or.inl rfl) aI)
 (aF (aQ (i:=4) dJ.nd rfl (Or.inr rfl) aI)
 (aF (cZ PassesOwn.never rfl (dC (pv 0)) (aM (i:=5) dJ.nd rfl (Or.inl rfl))
 (aF (rR PassesOwn.never (PW.pt (aAp (aY mB (pv 3) aI (bD _)) (u9 (aY nB (pv 4) (pv 5) (bD _)))))
 (aF (aS (iP aDd aDe aDf cC (pv 2) (aA (pv 4) aE)))
 (aF (rQ (i:=3) dJ.nd rfl (Or.inl rfl) aI W2)
 (aK (rQ (i:=4) dJ.nd rfl (Or.inr rfl) aI D9)))))
 (qV (bU (aY nB (pv 3) (pv 1) (bD _))
 (aK (rQ (i:=3) dJ.nd rfl (Or.inl rfl) aI D9))
 (aK (aS (iP aDd aDe aDf cC (pv 2) (aA (pv 5) aE)))))
 (aK (aQ (i:=4) dJ.nd rfl (Or.inr rfl) (aL bF (pv 5) aI))))))
 (aK (aZ (aL oY (pv 2) (dH ["more"] ["niche"] [4] rfl (.of (show dB (aJ oJ) _ ["row","creel","behind","held","niche","place"] [4] ["niche"]=true by decide +kernel)) (eX rfl B.range (aA (pv 3) aE)) (λ_ _ _=>(aM (i:=0) (show (["more","niche"]:List Str).Nodup by decide +kernel) rfl (Or.inl rfl))) (fT (by decide)) (λ_ _ _=>dE) (λ_ _ _=>(aL bF (pv 1) (pv 0))))))))))))),?_⟩
  refine⟨_,rfl,a,row,rfl,ha,hrow,hlen,_,rfl,c,rfl,hc,by decide,λl hl=>?_⟩;refine⟨_,rfl,a,rfl,⟨_,SqL.of (Same.upd hl _ _ ha)⟩,gJ (K:=K) (a:=a) (xs:=row.map V.int) (wF H a l c row)
   ⟨[],0,0,none,rfl,Same.upd hl,aB,rfl,rfl⟩ (λi σ H2 _ z_=>by obtain⟨bs,h,n,v,_,sm,_⟩:=z_;exact SqL.of (sm _ _ ha)) ?_ ?_⟩
  .rintro i x σ H2 hi ⟨bs,h,n,v,rfl,sm,el,eq,hb⟩;have hil:i<row.length:=by
    have:=(aDh.mp hi).1;simpa using this
   obtain⟨p,rfl,hz⟩:=kJ hi;have hd:row.drop i=p :: row.drop (i+1):=by
    obtain⟨h1,rfl⟩:=aDh.mp hz;exact List.drop_eq_getElem_cons h1
   rw[hd]at eq;refine yW (wG H a l c row i p)
    (fun σ _=>match σ with | [_,_,_,some (.int h),_,_]=>h.toNat | _=>0) ⟨bs,h,n,rfl,sm,el,eq,hb⟩ ?_ ?_
   .rintro σ H3 ⟨bs,h,n,rfl,sm3,el3,eq3,hb3⟩;refine⟨_,rfl,_,_,rfl,rfl,_,rfl,mL (λh0=>?_) (λh0=>?_)⟩
    .refine⟨_,rfl,_,rfl,_,_,rfl,rfl,_,rfl,mL (λh1=>?_) (λh1=>?_)⟩
     .obtain⟨h',rfl⟩:∃ h',h=h'+1:=⟨h - 1,by omega⟩;refine⟨_,rfl,.inl ⟨rfl,_,SqL.of el3⟩,_,rfl,l,_,_,rfl,rfl,el3,(by rw[aDG];exact bC (by omega)),?_⟩;refine⟨_,rfl,_,_,rfl,rfl,_,rfl,_,_,rfl,rfl,?_⟩;rw[wW h1]at eq3;refine⟨⟨bs++[n],h',n+1,?_,Same.upd' hl sm3,by rw[aB,aDV];rfl,by rw[List.append_assoc];exact eq3,by simp;omega⟩,?_⟩
      .have e1:((h'+1:Nat):Int) - 1=(h':Int):=by omega
       show [some (V.ref a),some (V.int c),some (V.ref l),some (V.int (((h'+1:Nat):Int) - 1)),some (V.int (n+1)),some (V.int p)]=_;rw[e1]
      .show (((h'+1:Nat):Int) - 1).toNat<((h'+1:Nat):Int).toNat;omega
     .rw[lM (.inr (by omega))]at eq3;refine⟨wH H a l c row i p n,?_,?_⟩
      .refine⟨_,rfl,_,rfl,_,_,rfl,rfl,_,rfl,mL (λh2=>?_) (λh2=>?_)⟩
       .rw[if_pos h2]at eq3;exact⟨_,rfl,_,_,rfl,rfl,bs,h+1,rfl,sm3,el3,eq3,by omega⟩
       .rw[if_neg h2]at eq3;refine⟨_,rfl,.inl ⟨rfl,_,SqL.of el3⟩,_,rfl,l,_,_,rfl,rfl,el3,(by rw[aDG];exact bC (by omega)),?_⟩;exact⟨bs++[p],h,rfl,Same.upd' hl sm3,by rw[aB,aDV];rfl,by rw[List.append_assoc];exact eq3,by simp;omega⟩
      .rintro σ H4 ⟨bs,h,rfl,sm4,el4,eq4,hb4⟩;exact⟨_,rfl,_,_,rfl,rfl,bs,h,p+1,_,rfl,sm4,el4,eq4,hb4⟩
    .have h00:h=0:=by omega
     rw[lM (.inl h00)]at eq3;refine⟨wI H a l c row i p n,?_,?_⟩
     .refine⟨_,rfl,_,rfl,_,_,rfl,rfl,_,rfl,mL (λh2=>?_) (λh2=>?_)⟩
      .rw[if_pos h2]at eq3;exact⟨_,rfl,_,_,rfl,rfl,bs,h+1,rfl,sm3,el3,eq3,by omega⟩
      .rw[if_neg h2]at eq3;refine⟨_,rfl,.inl ⟨rfl,_,SqL.of el3⟩,_,rfl,l,_,_,rfl,rfl,el3,(by rw[aDG];exact bC (by omega)),?_⟩;exact⟨bs++[p],h,rfl,Same.upd' hl sm3,by rw[aB,aDV];rfl,by rw[List.append_assoc];exact eq3,by simp;omega⟩
     .rintro σ H4 ⟨bs,h,rfl,sm4,el4,eq4,hb4⟩;exact⟨_,rfl,_,_,rfl,rfl,bs,h,p+1,_,rfl,sm4,el4,eq4,hb4⟩
   .intro σ H3 Q1 Q2 hq h;obtain⟨x,e,i1,j1,e1,e2,b1,e3,h⟩:=h;refine⟨x,e,i1,j1,e1,e2,b1,e3,?_⟩;cases b1 with
    | false=>exact hq _ _ h
    | true =>
     obtain⟨x,e,y,e',i2,j2,e4,e5,b2,e6,h⟩:=h;exact⟨x,e,y,e',i2,j2,e4,e5,b2,e6,hq _ _ h⟩
  .rintro σ H2 ⟨bs,h,n,v,rfl,sm,el,eq,hb⟩;rw[aDG]at eq hb;rw[List.drop_length]at eq;refine⟨_,rfl,_,rfl,_,rfl,by omega,by omega,G1 (lo:=0) (n:=h) (λi ys H3=>H3=H2/\ys=((List.range i).map (λ(k:Nat)=>n+(k:Int))).map V.int) ⟨rfl,rfl⟩ ?_ ?_ ?_⟩
   .rintro i ys H3 hi ⟨rfl,rfl⟩;simp only[aDG,List.length_range];exact bC (by omega)
   .rintro i ys H3 hi ⟨rfl,rfl⟩;refine⟨_,rfl,_,rfl,_,_,rfl,rfl,rfl,?_⟩;rw[List.range_succ,aDV,aDV];simp
   .rintro ys H3 ⟨rfl,rfl⟩ D hD;have smD:=Same.upd (o:=.lst (((List.range h).map (λ(k:Nat)=>n+(k:Int))).map V.int)) hD;refine⟨l,D,_,_,rfl,rfl,smD _ _ el,aB,?_,λq hq=>?_⟩
    .simp only[aDG,List.length_range];exact cV (by omega)
    .rw[<- aDV];have smH:=sm.trans smD;refine k q _ (smH.free hq) (Same.upd' (smH.free hq) smH) ?_;rw[aB,<- eq];rfl
abbrev iJ:Stmt:=top 28
def tR:FnScope ["row","creel"] ["row","creel"] (aJ iJ):=⟨rfl,rfl,rfl,by decide +kernel,rfl,by decide +kernel,by decide +kernel⟩
def tU {f:Addr} {fd:FuncData} (F:Fun K "walked_back" "walked_back" iJ f fd) (B:Bt mg) (z:aU P w K mg base "mirrored" 2 ["row"] gP) (D:aU P w K mg base "walked" 2 ["row","creel"] kL):FnOk P w K mg base CX0 3 f fd ["row","creel"] xB:=by
 refine F.ok tR (λvs H Q E h=>?_) (λU A outer s H vs Q E J h=>?_)
 .obtain⟨a,r,c,rfl,_⟩:=h;rfl
 .obtain⟨a,row,c,rfl,Y,I,hlen,hc,k⟩:=h;refine⟨_,(aK (aZ (aW z J rfl (aA (aW D J rfl (aA (aW z J rfl (aA (pv 0) aE)) (aA (pv 1) aE))) aE)))),?_⟩;refine⟨_,rfl,a,row,rfl,Y,I,hlen,λq1 H1 al M e1=>?_⟩;refine⟨_,rfl,q1,eV row,c,rfl,e1,gQ I,by rw[kK];exact hlen,hc,λq2 H2 am N e2=>?_⟩;refine⟨q2,_,rfl,e2,pA (gQ I),by rw[oZ,kK];exact hlen,λq3 H3 L s3 e3=>?_⟩;exact k q3 H3 ((M.trans N).free L) ((M.trans N).trans s3) e3
abbrev fI:Stmt:=top 30
def eQ:FnScope ["trains","at","size","offset"] ["trains"] (aJ fI):=⟨rfl,rfl,rfl,by decide +kernel,rfl,by decide +kernel,by decide +kernel⟩
def tV {f:Addr} {fd:FuncData} {tC:Tok} (F:Fun K "look_trains" "look_trains" fI f fd) (B:Bt mg) (C:Cn mg tC):FnOk P w K mg base CX0 1 f fd ["trains"] nM:=by
 refine F.ok eQ (λvs H Q E h=>?_) (λcdv A outer s H vs Q E hr h=>?_)
 .obtain⟨a,r,rfl,_⟩:=h;rfl
 .obtain⟨a,ps,rfl,⟨us,ha,pr⟩,ht,k⟩:=h;have hul:us.length<=60:=by rw[pr.len];exact ht.len
  refine⟨_,(aF (cZ PassesOwn.never rfl (N2 rfl B.enumerate (aA (pv 0) aE)) (eW rfl (aO (aM (i:=1) eQ.nd rfl (Or.inl rfl)) (aO (eW rfl (aO (aM (i:=2) eQ.nd rfl (Or.inl rfl)) (aO (aM (i:=3) eQ.nd rfl (Or.inl rfl)) bW))) bW)))
 (aK (bU (aY nB (pv 2) aI (bD _))
 (aK bR)
 bE)))
 (aK (bU (aY mB (aP (kG rfl) (by rfl) B.sum kF (aA (dH ["size","offset"] [] [] rfl (.of (show dB (aJ fI) _ ["trains","at","size","offset"] [] []=true by decide +kernel)) (dC (pv 0)) (λ_ _ _=>(jD (n:=2) K rfl rfl (aO (aM (i:=0) (show (["size","offset"]:List Str).Nodup by decide +kernel) rfl (Or.inl rfl)) (aO (aM (i:=1) (show (["size","offset"]:List Str).Nodup by decide +kernel) rfl (Or.inl rfl)) bW)))) (mK (cN (by decide) (cN (by decide) jC))) (λ_ _ _=>dE) (λ_ _ _=>(pv 0))) aE)) (fE (v:=.int 60) rfl C.MOST_STONES ⟨_,rfl⟩) (bD _))
 (aK bR)
 bE))),?_⟩
  refine⟨_,rfl,a,_,rfl,SqL.of ha,zG (K:=K) (a:=a) (xs:=us) (λi σ H2=>∃ v1 v2 v3,σ=[some (.ref a),v1,v2,v3]/\Same H H2) ⟨none,none,none,rfl,Same.refl _⟩ (λi σ H2 _ ⟨_,_,_,_,sm⟩=>SqL.of (sm _ _ ha)) ?_ ?_⟩
  .rintro i x σ H2 t hi ⟨v1,v2,v3,rfl,sm⟩ hn;obtain⟨p,t',hp,rfl,et⟩:=dI pr hi;have sm2:Same H (upd H2 t (.tup [.int i,.ref t'])):=sm.trans (Same.upd hn);have e1:=sm2 _ _ et;refine⟨t,_,rfl,SqT.of aB,rfl,_,_,rfl,_,_,rfl,⟨t',_,rfl,SqT.of e1,rfl,_,_,rfl,_,_,rfl,rfl,rfl,?_⟩⟩;have:=ht.pos p (aDR hp);exact⟨_,rfl,_,_,rfl,rfl,_,rfl,eC (by omega) ⟨_,_,_,rfl,sm2⟩⟩
  .rintro σ H2 ⟨v1,v2,v3,rfl,sm⟩;refine⟨_,rfl,a,rfl,⟨_,SqL.of (sm _ _ ha)⟩,iQ (K:=K) (a:=a) (xs:=us) (λi ys H3=>H3=H2/\ys=((ps.take i).map (·.1)).map V.int) ⟨rfl,rfl⟩ ?_ ?_ ?_⟩
   .rintro i ys H3 hi ⟨rfl,rfl⟩;exact⟨SqL.of (sm _ _ ha),nK _ _ (by omega) _⟩
   .rintro i x ys H3 hi ⟨rfl,rfl⟩;obtain⟨p,t',hp,rfl,et⟩:=dI pr hi;exact⟨t',_,rfl,SqT.of (sm _ _ et),rfl,_,_,rfl,_,_,rfl,rfl,_,rfl,rfl,sK (·.1) hp⟩
   .rintro ys H3 ⟨rfl,rfl⟩ D hD;have e:us.length=ps.length:=pr.len;refine⟨D,szs ps,rfl,by rw[aB,e,aDU];rfl,_,_,rfl,rfl,_,rfl,eC ?_ (k _ (sm.trans (Same.upd hD)))⟩;have:=ht.few;omega
abbrev pO:Stmt:=top 31
def jN:FnScope ["trains","offsets","size","offset"] ["trains"] (aJ pO):=⟨rfl,rfl,rfl,by decide +kernel,rfl,by decide +kernel,by decide +kernel⟩
inductive tW (H:Hp) (a:Addr) (d:Addr) (l:Addr) (us':List V) (qs:Trs) (i:Nat) (σ:St) (H3:Hp):Prop
 | mk (gs:List Grp) (v1 v2:Option V) (k0_:σ=[some (.ref a),some (.ref d),v1,v2]) (k1_:Same H H3) (k2_:H3 l=some (.lst us')) (k3_:Prs H3 us' qs) (k4_:DG H3 d gs) (k5_:(∀ g∈gs,H g.2.1=none/\g.2.1≠l/\g.2.1≠d)) (k6_:((bI gs).Perm (qs.take i)/\Asc gs)) (k7_:gs.length<=i) (k8_:∀ g∈gs,g.2.2.length<=i/\g.2.2≠[]):tW H a d l us' qs i σ H3
def L3 {f:Addr} {fd:FuncData} (F:Fun K "by_size" "by_size" pO f fd) (B:Bt mg):FnOk P w K mg base CX0 1 f fd ["trains"] lS:=by
 refine F.ok jN (λvs H Q E h=>?_) (λca A outer s H vs Q E hr h=>?_)
 .obtain⟨a,r,rfl,_⟩:=h;rfl
 .obtain⟨a,ps,rfl,⟨us,ha,pr⟩,hpl,k⟩:=h;refine⟨_,(aF (aQ (i:=1) jN.nd rfl (Or.inl rfl) gS)
 (aF (cZ PassesOwn.never rfl (dC (aP nN (by rfl) B.sorted cT (aA (pv 0) aE))) (eW rfl (aO (aM (i:=2) jN.nd rfl (Or.inl rfl)) (aO (aM (i:=3) jN.nd rfl (Or.inl rfl)) bW)))
 (aK (aS (iP aDd aDe aDf cC (O3 (pv 1) (pv 2) (dA aE) ⟨rfl,rfl,rfl,rfl⟩) (aA (pv 3) aE)))))
 (aK (aZ (pv 1))))),?_⟩
  refine λd hd=>?_;have g1:=Same.upd (o:=.dK []) hd;have ed:(upd H d (.dK [])) d=some (.dK (kvG [])):=aB;generalize upd H d (.dK [])=H1 at g1 ed ⊢;refine⟨_,rfl,a,us,ps,rfl,g1 _ _ ha,pr.mono (TupS.same g1),by omega,λl J qs hl bu U av=>?_⟩;have g2:=Same.upd (o:=.lst J) hl;have el:(upd H1 l (.lst J)) l=some (.lst J):=aB;have aw:=bu.mono (TupS.same g2);have ax:=g2 _ _ ed;generalize upd H1 l (.lst J)=H2 at g2 el aw ax ⊢;have eu:J.length=ps.length:=by rw[aw.len,U.length_eq]
  have bv:l≠d:=bJ el ax (by intro z;cases z);have bw:=g1.trans g2;have cb:H l=none:=g1.free hl;refine⟨l,rfl,⟨_,SqL.of el⟩,gJ (K:=K) (a:=l) (xs:=J) (tW H a d l J qs)
   ⟨[],none,none,rfl,bw,el,aw,⟨ax,λg D=>(nomatch D),List.Pairwise.nil,List.Pairwise.nil⟩,λg D=>(nomatch D),⟨.refl _,λg D=>(nomatch D)⟩,Nat.le_refl _,λg D=>(nomatch D)⟩ (λi σ H3 _ z_=>by obtain⟨_,_,_,_,_,e,_⟩:=z_;exact SqL.of e) ?_ ?_⟩
  .rintro i x σ H3 hi ⟨gs,v1,v2,rfl,sm,ay,aq,dg,M,⟨hw,ar⟩,bx,Y⟩;obtain⟨p,t',hp,rfl,et⟩:=dI aq hi;have au:∀ q∈bI gs,q.1=p.1->q.2<=p.2:=λq hq e=>by
    obtain⟨k',bf,bg⟩:=List.mem_iff_getElem.mp (hw.mem_iff.mp hq);have bz:k'<i:=by rw[aDW]at bf;omega
    have b_:k'<qs.length:=by rw[aDW]at bf;omega
    have bh:=(aDh.mp hp);have h3:=List.pairwise_iff_getElem.mp av k' i b_ bh.1 bz;rw[bh.2]at h3;rw[List.getElem_take]at bg;rw[bg]at h3;unfold ple at h3;omega
   have bi:∀ l:Trs,l.Perm (p :: bI gs)->l.Perm (qs.take (i+1)):=λl hl=>by
    rw[aDb,hp];refine hl.trans ((hw.cons p).trans ?_);exact(List.perm_append_comm (l₁:=qs.take i) (l₂:=[p])).symm
   have ce:i<J.length:=(aDh.mp hi).1;refine⟨t',_,rfl,SqT.of et,rfl,_,_,rfl,_,_,rfl,rfl,_,rfl,d,rfl,.inl ⟨_,.inl dg.at_⟩,_,rfl,by decide,λz hz=>?_⟩;have g4:=Same.upd (o:=.lst []) hz;have ez:(upd H3 z (.lst [])) z=some (.lst []):=aB;have bj:H z=none:=sm.free hz;have bm:z≠l:=λe=>by rw[e,ay]at hz;cases hz
   have az:z≠d:=λe=>by rw[e,dg.at_]at hz;cases hz
   generalize upd H3 z (.lst [])=H4 at g4 ez ⊢;have bn:=sm.trans g4;have bo:=g4 _ _ ay;have bq:=aq.mono (TupS.same g4);have al:∀ g∈gs,H4 g.2.1=some (.lst (g.2.2.map V.int)):=λg D=>g4 _ _ (dg.lst g D);have nz:∀ g∈gs,g.2.1≠z:=λg D e=>by have:=dg.lst g D;rw[e,hz]at this;cases this
   refine⟨kvG gs,Sum.inl p.1,g4 _ _ dg.at_,rfl,by simp only[kvG,aDG];exact bC (by omega),λv hv=>?_,λhv=>?_⟩
   .-- the size is there
    rw[eM]at hv;obtain⟨g,D,rfl⟩:=aDg.mp hv;have N:=List.mem_of_find?_eq_some D;have a_:g.1=p.1:=by simpa using List.find?_some D
    have eg:=al g N;have ba:=M g N;refine⟨.inl ⟨rfl,_,SqL.of eg⟩,_,rfl,g.2.1,_,_,rfl,rfl,eg,(by rw[aDG];exact bC (by have:=(Y g N).1;omega)),?_⟩;have am:∀ g'∈eF p.1 p.2 gs,∃ I∈gs,g'.2.1=I.2.1/\g'.1=I.1/\(g'.2.2=if I.1=p.1 then I.2.2++[p.2]else I.2.2):=λg' L=>by
     obtain⟨I,h0,rfl⟩:=aDk.mp L;refine⟨I,h0,?_⟩
     by_cases hk:I.1=p.1
     .rw[if_pos hk,if_pos hk];exact⟨rfl,rfl,rfl⟩
     .rw[if_neg hk,if_neg hk];exact⟨rfl,rfl,rfl⟩
    have ao:sT H4 p.1 p.2 gs (eF p.1 p.2 gs):=.inl ⟨⟨g,N,a_⟩,rfl⟩;have uniq:∀ I∈gs,I.2.1=g.2.1->I=g:=λI h0 e=>cD (f:=λg:Grp=>g.2.1) dg.adr h0 N e;refine⟨eF p.1 p.2 gs,_,_,rfl,Same.upd' ba.1 bn,by rw[aG (Ne.symm ba.2.1)];exact bo,bq.mono (TupS.lst eg),⟨by rw[zX,aG (Ne.symm ba.2.2)];exact g4 _ _ dg.at_,λg' L=>?_,by rw[zY];exact dg.adr,by rw[zZ];exact dg.key⟩,λg' L=>?_,⟨bi _ (gF dg.key ao),ar.puts ao au⟩,by rw[e8];omega,λg' L=>?_⟩
    .obtain⟨I,h0,e1,e2,e3⟩:=am g' L;rw[e1]
     by_cases ap:I.2.1=g.2.1
     .have:=uniq I h0 ap;subst this;rw[aB,e3,if_pos a_,aDV];rfl
     .have hk:I.1≠p.1:=λe=>ap (by rw[cD (f:=λg:Grp=>g.1) dg.key h0 N (e.trans a_.symm)]);rw[aG ap,e3,if_neg hk];exact al I h0
    .obtain⟨I,h0,e1,_,_⟩:=am g' L;rw[e1];exact M I h0
    .obtain⟨I,h0,_,_,e3⟩:=am g' L;have:=Y I h0;rw[e3];split
     .exact⟨by rw[aDP,List.length_singleton];omega,by simp⟩
     .exact⟨by omega,this.2⟩
   .-- the size is new
    rw[eM]at hv;have br:∀ g∈gs,g.1≠p.1:=λg D e=>by
     have:=List.find?_eq_none.mp (Option.map_eq_none_iff.mp hv) g D;exact this (by simpa using e)
    have ao:sT H3 p.1 p.2 gs (gs++[(p.1,z,[p.2])]):=.inr ⟨br,z,hz,rfl⟩;rw[zR (V.ref z) (by rw[eM];exact hv)];have bt:(upd H4 d (.dK (kvG gs++[((Sum.inl p.1:Key),V.ref z)]))) z=some (.lst []):=by rw[aG az];exact ez
    refine⟨.inl ⟨rfl,_,SqL.of bt⟩,_,rfl,z,_,_,rfl,rfl,bt,(show 0<sizeLine by decide),?_⟩;have bb:∀ b o,b≠d->b≠z->H4 b=some o->(upd (upd H4 d (.dK (kvG gs++[((Sum.inl p.1:Key),V.ref z)]))) z (.lst ([]++[V.int p.2]))) b=some o:=λb o n1 n2 e=>by rw[aG n2,aG n1];exact e
    refine⟨gs++[(p.1,z,[p.2])],_,_,rfl,Same.upd' bj (Same.upd' hd bn),bb _ _ bv (Ne.symm bm) bo,bq.mono (λt xs e=>bb _ _ (bJ e (g4 _ _ dg.at_) (by intro z;cases z)) (bJ e ez (by intro z;cases z)) e),⟨?_,λg D=>?_,?_,?_⟩,λg D=>?_,⟨bi _ (gF dg.key ao),ar.puts ao au⟩,by rw[aDP,List.length_singleton];omega,λg D=>?_⟩
    .rw[aG (Ne.symm az),aB];unfold kvG;rw[aDV];rfl
    .rcases aDj.mp D with h | h
     .exact bb _ _ (M g h).2.2 (nz g h) (al g h)
     .rw[aDc.mp h];exact aB
    .rw[aDV,List.nodup_append];refine⟨dg.adr,by simp,λx hx y hy=>?_⟩;obtain⟨g,D,rfl⟩:=aDk.mp hx;have bc:y=z:=by simpa using hy
     rw[bc];exact nz g D
    .rw[aDV,List.nodup_append];refine⟨dg.key,by simp,λx hx y hy=>?_⟩;obtain⟨g,D,rfl⟩:=aDk.mp hx;have bc:y=p.1:=by simpa using hy
     rw[bc];exact br g D
    .rcases aDj.mp D with h | h
     .exact M g h
     .rw[aDc.mp h];exact⟨bj,bm,az⟩
    .rcases aDj.mp D with h | h
     .have:=Y g h;exact⟨by omega,this.2⟩
     .rw[aDc.mp h];exact⟨by show 1<=i+1;omega,by simp⟩
  .rintro σ H3 ⟨gs,v1,v2,rfl,sm,ay,aq,dg,M,⟨hw,ar⟩,bx,Y⟩;refine⟨_,rfl,k d gs H3 hd sm dg ?_ ar λg D=>⟨(Y g D).2,(M g D).1⟩⟩;rw[show J.length=qs.length from aq.len,aDU]at hw;exact hw.trans U
abbrev rM:Stmt:=top 32
def p8:FnScope ["offsets","size"] ["offsets","size"] (aJ rM):=⟨rfl,rfl,rfl,by decide +kernel,rfl,by decide +kernel,by decide +kernel⟩
def p9 {f:Addr} {fd:FuncData} (F:Fun K "crowd" "crowd" rM f fd) (B:Bt mg):FnOk P w K mg base CX0 1 f fd ["offsets","size"] nX:=by
 refine F.ok p8 (λvs H Q E h=>?_) (λao A outer s H vs Q E hr h=>?_)
 .obtain⟨d,r,j,rfl,_⟩:=h;rfl
 .obtain⟨d,gs,j,rfl,dg,hl,L,k⟩:=h;refine⟨_,(aK (aZ (aL dN aI (aP (kG rfl) (by rfl) B.sum kF (aA (qY (dH ["other","some"] ["size"] [1] rfl (.of (show dB (aJ rM) _ ["offsets","size"] [1] ["size"]=true by decide +kernel)) (nR (pv 0)) (λ_ _ _=>(jD (n:=2) K rfl rfl (aO (aM (i:=0) (show (["other","some","size"]:List Str).Nodup by decide +kernel) rfl (Or.inl rfl)) (aO (aM (i:=1) (show (["other","some","size"]:List Str).Nodup by decide +kernel) rfl (Or.inl rfl)) bW)))) (mK (cN (by decide) (cN (by decide) jC))) (λ_ _ _=>dE) (λ_ _ _=>(aL dN (aP (oW rfl) (by rfl) B.min rY (aA (pv 2) (aA (pv 0) aE))) (aP (mG K rfl) (by rfl) B.len PySem.boot_len (aA (pv 1) aE)))))) aE))))),?_⟩;refine⟨d,kvG gs,dg.at_,_,rfl,d,kvG gs,rfl,dg.at_,λod=>?_⟩;have Y:SameD d H (upd H d (.frz od (.dK (kvG gs)))):=λb o n e=>by rw[aG n];exact e
  have U:(upd H d (.frz od (.dK (kvG gs)))) d=some (.frz od (.dK (kvG gs))):=aB;have I:∀ g∈gs,(upd H d (.frz od (.dK (kvG gs)))) g.2.1=some (.lst (g.2.2.map V.int)):=λg M=>Y _ _ (bJ (dg.lst g M) dg.at_ (by intro z;cases z)) (dg.lst g M);generalize upd H d (.frz od (.dK (kvG gs)))=H1 at Y U I ⊢;have al:(kvG gs).length=gs.length:=by simp[kvG]
  refine mO (d:=d) (od:=od) (kvs:=kvG gs) (λi ys H2=>Same H1 H2/\ys=((gs.take i).map (λg:Grp=>fX j g.1 * (g.2.2.length:Int))).map V.int) ⟨Same.refl _,rfl⟩ ?_ ?_ ?_
  .rintro i ys H2 hi ⟨g2,rfl⟩;exact⟨g2 _ _ U,by simp only[aDG,aDW];exact bC (by omega)⟩
  .rintro i ky x ys H2 t hx ⟨g2,rfl⟩ ht;obtain⟨g,M,am⟩:∃ g,gs[i]?=some g/\((Sum.inl g.1:Key),V.ref g.2.1)=(ky,x):=by
    unfold kvG at hx;rw[aD4]at hx;obtain⟨g,h1,h2⟩:=aDg.mp hx;exact⟨g,h1,h2⟩
   cases am;have J:=aDR M;have g3:=g2.trans (Same.upd (o:=.tup [kV (Sum.inl g.1),V.ref g.2.1]) ht);refine⟨t,_,rfl,SqT.of aB,rfl,_,_,rfl,_,_,rfl,rfl,_,rfl,_,rfl,_,_,rfl,_,rfl,g.2.1,_,rfl,.inl (SqL.of (g3 _ _ (I g J))),_,_,rfl,rfl,.inr ⟨?_,?_⟩,g3,?_⟩
   .have:=L g J;rw[aDG];omega
   .have:=L g J;rw[aDG];omega
   .rw[aDb,M];simp[fX]
  .rintro ys H2 ⟨g2,rfl⟩ D hD;have N:D≠d:=λz=>by rw[z,g2 _ _ U]at hD;cases hD
   refine⟨od,by rw[aG (Ne.symm N)];exact g2 _ _ U,D,gs.map (λg:Grp=>fX j g.1 * (g.2.2.length:Int)),rfl,by rw[aG N,aB,al,aDU],_,_,rfl,rfl,.inl ⟨by decide,by decide⟩,k _ λb o e=>?_⟩
   by_cases hb:b=d
   .subst hb;rw[aB,<- dg.at_];exact e
   .rw[aG hb];exact(g2.trans (Same.upd hD)) _ _ (Y b o hb e)
abbrev oK:Stmt:=top 33
def dM:FnScope ["offsets","found","longer","total","below","size"] ["offsets"] (aJ oK):=⟨rfl,rfl,rfl,by decide +kernel,rfl,by decide +kernel,by decide +kernel⟩
inductive wJ (H:Hp) (d:Addr) (e:Addr) (l:Addr) (gs:List Grp) (ms:List Int) (i:Nat) (σ:St) (H6:Hp):Prop
 | mk (kvs:List (Key×V)) (b:Int) (v:Option V) (k0_:σ=[some (.ref d),some (.ref e),some (.int (lng b gs)),some (.int (2 * wgt (fX b) gs)),some (.int b),v]) (k1_:Same H H6) (k2_:H6 l=some (.lst (ms.map V.int))) (k3_:H6 e=some (.dK kvs)) (k4_:kvs.length<=i) (k5_:(∀ g∈gs,b<g.1->g.1∈ms.drop i)) (k6_:(∀ m∈ms.drop i,b<m)) (k7_:∀ m∈ms.take i,cW kvs (Sum.inl m:Key)=some (.int (2 * wgt (fX m) gs))):wJ H d e l gs ms i σ H6
def V4 {f:Addr} {fd:FuncData} (F:Fun K "crowds" "crowds" oK f fd) (B:Bt mg):FnOk P w K mg base CX0 1 f fd ["offsets"] iW:=by
 refine F.ok dM (λvs H Q E h=>?_) (λbz A outer s H vs Q E hr h=>?_)
 .obtain⟨d,gs,rfl,_⟩:=h;rfl
 .obtain⟨d,gs,rfl,dg,av,hl,bj,k⟩:=h;have ax:=nF hr;refine⟨_,(aF (aQ (i:=1) dM.nd rfl (Or.inl rfl) gS)
 (aF (aQ (i:=2) dM.nd rfl (Or.inl rfl) (aP (kG rfl) (by rfl) B.sum kF (aA (qY (dH ["some"] [] [] rfl (.of (show dB (aJ oK) _ ["offsets","found","longer","total","below","size"] [] []=true by decide +kernel)) (vP (pv 0)) (λ_ _ _=>(aM (i:=0) (show (["some"]:List Str).Nodup by decide +kernel) rfl (Or.inl rfl))) (fT (by decide)) (λ_ _ _=>dE) (λ_ _ _=>(aP (mG K rfl) (by rfl) B.len PySem.boot_len (aA (pv 0) aE))))) aE)))
 (aF (aQ (i:=3) dM.nd rfl (Or.inl rfl) aI)
 (aF (aQ (i:=4) dM.nd rfl (Or.inl rfl) aI)
 (aF (cZ PassesOwn.never rfl (dC (aP (nU rfl) (by rfl) B.sorted cT (aA (pv 0) aE))) (aM (i:=5) dM.nd rfl (Or.inl rfl))
 (aF (rQ (i:=3) dM.nd rfl (Or.inl rfl) (aL dN (aL dN aI (pv 2)) (aL eY (pv 5) (pv 4))) D9)
 (aF (xE ax (pv 1) (pv 5) (pv 3) rfl)
 (aF (rQ (i:=2) dM.nd rfl (Or.inl rfl) (aP aV (by rfl) B.len PySem.boot_len (aA (jF ax (pv 0) (pv 5) (λ_ _=>rfl)) aE)) W2)
 (aK (aQ (i:=4) dM.nd rfl (Or.inl rfl) (pv 5)))))))
 (aK (aZ (pv 1)))))))),?_⟩
  refine λe he=>?_;have g1:=Same.upd (o:=.dK []) he;have ee:(upd H e (.dK [])) e=some (.dK []):=aB;have bm:e≠d:=λz=>by rw[z,dg.at_]at he;cases he
  generalize upd H e (.dK [])=H1 at g1 ee ⊢;have J:DG H1 d gs:=⟨g1 _ _ dg.at_,λg I=>g1 _ _ (dg.lst g I),dg.adr,dg.key⟩;refine⟨d,kvG gs,J.at_,_,rfl,d,kvG gs,rfl,J.at_,λod=>?_⟩;have gd:SameD d H1 (upd H1 d (.frz od (.dK (kvG gs)))):=λb o n e=>by rw[aG n];exact e
  have ed:(upd H1 d (.frz od (.dK (kvG gs)))) d=some (.frz od (.dK (kvG gs))):=aB;have ar:∀ g∈gs,(upd H1 d (.frz od (.dK (kvG gs)))) g.2.1=some (.lst (g.2.2.map V.int)):=λg I=>gd _ _ (bJ (J.lst g I) J.at_ (by intro z;cases z)) (J.lst g I);generalize upd H1 d (.frz od (.dK (kvG gs)))=H2 at gd ed ar ⊢;have bn:(kvG gs).length=gs.length:=by simp[kvG]
  refine qD (d:=d) (od:=od) (kvs:=kvG gs) (λi ys H3=>H3=H2/\ys=((gs.take i).map (λg:Grp=>(g.2.2.length:Int))).map V.int) ⟨rfl,rfl⟩ ?_ ?_ ?_
  .rintro i ys H3 hi ⟨rfl,rfl⟩;exact⟨ed,by simp only[aDG,aDW];exact bC (by omega)⟩
  .rintro i ky x ys H3 Y ⟨rfl,rfl⟩;obtain⟨g,I,bo⟩:∃ g,gs[i]?=some g/\((Sum.inl g.1:Key),V.ref g.2.1)=(ky,x):=by
    unfold kvG at Y;rw[aD4]at Y;obtain⟨g,h1,h2⟩:=aDg.mp Y;exact⟨g,h1,h2⟩
   cases bo;have M:=aDR I;refine⟨_,rfl,g.2.1,_,rfl,.inl (SqL.of (ar g M)),rfl,?_⟩;rw[aDb,I];simp
  .rintro ys H3 ⟨rfl,rfl⟩ D hD;have ay:D≠d:=λz=>by rw[z,ed]at hD;cases hD
   refine⟨od,by rw[aG (Ne.symm ay)];exact ed,D,gs.map (λg:Grp=>(g.2.2.length:Int)),rfl,by rw[aG ay,aB,bn,aDU],?_⟩;have g4:Same H1 (upd (upd H3 D (.lst (((gs.take (kvG gs).length).map (λg:Grp=>(g.2.2.length:Int))).map V.int))) d (.dK (kvG gs))):=λb o q=>by
    by_cases hb:b=d
    .subst hb;rw[aB,<- J.at_];exact q
    .rw[aG hb];exact(Same.upd hD) _ _ (gd b o hb q)
   generalize upd (upd H3 D (.lst (((gs.take (kvG gs).length).map (λg:Grp=>(g.2.2.length:Int))).map V.int))) d (.dK (kvG gs))=H4 at g4 ⊢;have bq:zT (kvG gs) (gs.map (·.1)):=by unfold zT kvG;simp[Function.comp]
   have br:DG H4 d gs:=⟨g4 _ _ J.at_,λg I=>g4 _ _ (J.lst g I),dg.adr,dg.key⟩;have az:=g4 _ _ ee;have a_:=g1.trans g4;have bt:=i7 av;rw[<- bt];refine⟨_,rfl,d,kvG gs,gs.map (·.1),rfl,br.at_,bq,by rw[aDG];omega,λl N al hp hs=>?_⟩;have g5:=Same.upd (o:=.lst (N.map V.int)) al;have el:(upd H4 l (.lst (N.map V.int))) l=some (.lst (N.map V.int)):=aB;have b_:H l=none:=a_.free al;have bu:l≠e:=λz=>by rw[z,az]at al;cases al
   generalize upd H4 l (.lst (N.map V.int))=H5 at g5 el ⊢;have bv:=a_.trans g5;have bw:=g5 _ _ az;have ca:N.length=gs.length:=by rw[hp.length_eq,aDG]
   have hst:=vX hp hs dg.key;refine⟨l,rfl,⟨_,SqL.of el⟩,gJ (K:=K) (a:=l) (xs:=N.map V.int) (wJ H d e l gs N)
    ⟨[],0,none,by rw[i8 av];rfl,bv,el,bw,Nat.le_refl _,λg I _=>hp.mem_iff.mpr (aDk.mpr ⟨g,I,rfl⟩),λm hm=>by
     obtain⟨g,I,e⟩:=aDk.mp (hp.mem_iff.mp hm);have:=(av g I).1;have e':g.1=m:=e;omega,λm hm=>by simp at hm⟩ (λi σ H6 _ z_=>by obtain⟨_,_,_,_,_,q,_⟩:=z_;exact SqL.of q) ?_ ?_⟩
   .rintro i x σ H6 hi ⟨kvs,b,v,rfl,U,ba,am,bb,bc,bx,L⟩;rw[aD4]at hi;obtain⟨m,hm,rfl⟩:=aDg.mp hi;have bf:i<N.length:=(aDh.mp hm).1;obtain⟨g,I,M⟩:=aDk.mp (hp.mem_iff.mp (aDR hm));have M:g.1=m:=M;subst M;have ao:N.drop i=g.1 :: N.drop (i+1):=by
     rw[List.drop_eq_getElem_cons bf];rw[aDQ bf]at hm;rw[Option.some.inj hm]
    have bg:b<g.1:=bx g.1 (by rw[ao];exact aDI);have au:(g.1 :: N.drop (i+1)).Pairwise (·<·):=by rw[<- ao];exact hst.sublist (List.drop_sublist _ _)
    have bh:∀ x∈gs,b<x.1->g.1<=x.1:=λx Y hb=>by
     have:=bc x Y hb;rw[ao]at this;rcases aDi.mp this with e | e
     .omega
     .have:=(List.pairwise_cons.mp au).1 _ e;omega
    have e1:=J7 (Int.le_of_lt bg) bh;have e2:=i6 bg bh dg.key I rfl;obtain⟨cb,ce⟩:=j3 (b:=b) bj;have aw:DG H6 d gs:=⟨U _ _ dg.at_,λg I=>U _ _ (dg.lst g I),dg.adr,dg.key⟩;have e3:2 * wgt (fX b) gs+2 * lng b gs * (g.1 - b)=2 * wgt (fX g.1) gs:=by
     rw[e1,Int.mul_add,Int.mul_assoc,Int.mul_comm (lng b gs)]
    refine⟨_,rfl,_,rfl,_,_,rfl,rfl,.inl ⟨by decide,by decide⟩,_,rfl,_,rfl,_,_,rfl,rfl,_,_,rfl,rfl,.inl ⟨by omega,by omega⟩,?_⟩;refine⟨_,_,rfl,rfl,?_⟩;refine⟨_,rfl,_,rfl,_,rfl,e,_,rfl,DPut.k (k:=Sum.inl g.1) am (bC (by omega)),?_⟩;have bi:DG (upd H6 e (.dK (eK kvs (Sum.inl g.1:Key) (V.int (2 * wgt (fX b) gs+2 * lng b gs * (g.1 - b)))))) d gs:=⟨by rw[aG (Ne.symm bm)];exact aw.at_,λx Y=>by rw[aG (bJ (aw.lst x Y) am (by intro z;cases z))];exact aw.lst x Y,dg.adr,dg.key⟩;refine⟨_,rfl,_,rfl,_,rfl,d,_,rfl,bi.get I,g.2.1,_,rfl,.inl (SqL.of (bi.lst g I)),?_⟩;refine⟨_,_,rfl,rfl,?_⟩;refine⟨_,rfl,?_⟩;refine⟨eK kvs (Sum.inl g.1:Key) (V.int (2 * wgt (fX b) gs+2 * lng b gs * (g.1 - b))),g.1,_,by rw[e2,<- e3,<- aDG (as:=g.2.2) V.int];rfl,Same.upd' he U,by rw[aG bu];exact ba,aB,Nat.le_trans (hV ..) (by omega),λx Y cf=>?_,λm' ap=>(List.pairwise_cons.mp au).1 m' ap,λm' ap=>?_⟩
    .have:=bc x Y (by omega);rw[ao]at this;rcases aDi.mp this with e | e
     .omega
     .exact e
    rw[Z5]
    by_cases aq:(Sum.inl m':Key)=Sum.inl g.1
    .rw[if_pos aq,e3];rw[Sum.inl.inj aq]
    .rw[if_neg aq];rw[aDb,hm]at ap;rcases aDj.mp ap with h | h
     .exact L m' h
     .exact absurd (by have:m'=g.1:=by simpa using h
                       rw[this]) aq
   .rintro σ H6 ⟨kvs,b,v,rfl,U,ba,am,bb,_,_,L⟩;refine⟨_,rfl,k e kvs H6 he U am λg I=>?_⟩;rw[aDG,aDU]at L;rw[L g.1 (hp.mem_iff.mpr (aDk.mpr ⟨g,I,rfl⟩)),xH]
abbrev kU:Stmt:=top 36
def yE:FnScope ["offsets","size"] ["offsets","size"] (aJ kU):=⟨rfl,rfl,rfl,by decide +kernel,rfl,by decide +kernel,by decide +kernel⟩
def yF {f:Addr} {fd:FuncData} (F:Fun K "drop_last" "drop_last" kU f fd) (B:Bt mg):FnOk P w K mg base CX0 1 f fd ["offsets","size"] gT:=by
 refine F.ok yE (λvs H Q E h=>?_) (λao A outer s H vs Q E hr h=>?_)
 .obtain⟨d,gs,g,rfl,_⟩:=h;rfl
 .obtain⟨d,gs,g,rfl,dg,M,al,k⟩:=h;have N:=nF hr;refine⟨_,(aF (aS (aBB aDd PySem.F.slot_list_pop PySem.F.type_list_pop aBC (jF N (pv 0) (pv 1) (λ_ _=>rfl))))
 (aK (bU (wM (fK (jF N (pv 0) (pv 1) (λ_ _=>rfl)) (λ_=>rfl)))
 (aK (aAK (pv 0) (pv 1)))
 bE))),?_⟩
  have U:g.2.2.map V.int≠[]:=by simpa using al
  have J:(g.2.2.map V.int)[(g.2.2.map V.int).length - 1]?=some ((g.2.2.map V.int).getLast U):=by rw[<- List.getLast?_eq_getElem?];exact List.getLast?_eq_getLast U
  refine⟨_,rfl,_,rfl,d,_,rfl,dg.get M,.inl ⟨rfl,_,SqL.of (dg.lst g M)⟩,g.2.1,_,_,rfl,rfl,dg.lst g M,J,?_⟩;rw[<- List.map_dropLast];have z:=dg.pops M;have L:StayG d gs H (upd H g.2.1 (.lst (g.2.2.dropLast.map V.int))):=λb o _ n e=>by rw[aG (n g M)];exact e
  generalize upd H g.2.1 (.lst (g.2.2.dropLast.map V.int))=H2 at z L ⊢;have D:(g.1,g.2.1,g.2.2.dropLast)∈pops g.1 gs:=aDk.mpr ⟨g,M,if_pos rfl⟩;have Y:DGet H2 d (.int g.1) (some (.ref g.2.1)):=z.get (g:=(g.1,g.2.1,g.2.2.dropLast)) D;have am:H2 g.2.1=some (.lst (g.2.2.dropLast.map V.int)):=z.lst (g.1,g.2.1,g.2.2.dropLast) D;refine⟨_,rfl,_,rfl,d,_,rfl,Y,_,.inl ⟨_,SqL.of am,rfl⟩,?_⟩;have I:((pops g.1 gs).any (λx=>decide (x.1=g.1) && x.2.2.isEmpty))=g.2.2.dropLast.isEmpty:=by
   cases hE:g.2.2.dropLast.isEmpty with
   | true=>exact List.any_eq_true.mpr ⟨_,D,by simp[hE]⟩
   | false =>
    rw[List.any_eq_false];intro x hx;simp only[Bool.and_eq_true,decide_eq_true_eq,not_and];intro e;have:x=(g.1,g.2.1,g.2.2.dropLast):=cD (f:=λg:Grp=>g.1) z.key hx D e;rw[this];simp[hE]
  have hm:(g.2.2.dropLast.map V.int).isEmpty=g.2.2.dropLast.isEmpty:=by rw[List.isEmpty_map]
  simp only[hm];cases hE:g.2.2.dropLast.isEmpty with
  | true =>
   refine⟨_,rfl,_,rfl,d,_,Sum.inl g.1,rfl,z.at_,rfl,?_,k _ (λb o n1 n2 e=>by rw[aG n1];exact L b o n1 n2 e) ?_⟩
   .rw[eM,nW z.key D];rfl
   .unfold shr;rw[I,hE,if_pos rfl];exact z.outs g.1
  | false =>
   refine k _ L ?_;unfold shr;rw[I,hE,if_neg aDT];exact z
abbrev kW:Stmt:=top 37
def oM:FnScope ["offsets","size","place","offset"] ["offsets","size","place"] (aJ kW):=⟨rfl,rfl,rfl,by decide +kernel,rfl,by decide +kernel,by decide +kernel⟩
def yG {f:Addr} {fd:FuncData} (F:Fun K "add_train" "add_train" kW f fd) (B:Bt mg) (M:aU P w K mg base "crowd" 1 ["offsets","size"] nX):FnOk P w K mg base CX0 2 f fd ["offsets","size","place"] fO:=by
 refine F.ok oM (λvs H Q E h=>?_) (λaz A outer s H vs Q E hr h=>?_)
 .obtain⟨d,gs,k,p,rfl,_⟩:=h;rfl
 .obtain⟨d,gs,k,p,rfl,dg,hl,ao,kk⟩:=h;refine⟨_,(aF (aQ (i:=3) oM.nd rfl (Or.inl rfl) (aL eY (aL eY (pv 2) (aW M hr rfl (aA (pv 0) (aA (pv 1) aE)))) (aL dN aI (pv 1))))
 (aK (aS (iP aDd aDe aDf cC (O3 (pv 0) (pv 1) (dA aE) ⟨rfl,rfl,rfl,rfl⟩) (aA (pv 3) aE))))),?_⟩
  refine⟨_,rfl,_,rfl,_,rfl,d,gs,k,rfl,dg,hl,ao,λH3 sm=>?_⟩;refine⟨_,_,rfl,rfl,_,rfl,_,_,rfl,rfl,.inl ⟨by decide,by decide⟩,_,_,rfl,rfl,?_⟩;have I:DG H3 d gs:=⟨sm _ _ dg.at_,λg D=>sm _ _ (dg.lst g D),dg.adr,dg.key⟩;refine⟨_,rfl,d,rfl,.inl ⟨_,.inl I.at_⟩,_,rfl,by decide,λz hz=>?_⟩;have g4:=Same.upd (o:=.lst []) hz;have ez:(upd H3 z (.lst [])) z=some (.lst []):=aB;have ap:H z=none:=sm.free hz;have aq:z≠d:=λe=>by rw[e,I.at_]at hz;cases hz
  generalize upd H3 z (.lst [])=H4 at g4 ez ⊢;have ar:=sm.trans g4;have N:∀ g∈gs,H4 g.2.1=some (.lst (g.2.2.map V.int)):=λg D=>g4 _ _ (I.lst g D);have nz:∀ g∈gs,g.2.1≠z:=λg D e=>by have:=I.lst g D;rw[e,hz]at this;cases this
  have au:∀ g∈gs,g.2.1≠d:=λg D=>bJ (I.lst g D) I.at_ (by intro z;cases z);refine⟨kvG gs,Sum.inl k,g4 _ _ I.at_,rfl,by simp only[kvG,aDG];exact bC (by omega),λv hv=>?_,λhv=>?_⟩
  .rw[eM]at hv;obtain⟨g,D,rfl⟩:=aDg.mp hv;have L:=List.mem_of_find?_eq_some D;have Y:g.1=k:=by simpa using List.find?_some D
   have eg:=N g L;refine⟨.inl ⟨rfl,_,SqL.of eg⟩,_,rfl,g.2.1,_,_,rfl,rfl,eg,(by rw[aDG];exact bC (by have:=ao g L;omega)),?_⟩;have av:∀ g'∈eF k (p - 2 * wgt (fX k) gs - 2 * k) gs,∃ J∈gs,g'.2.1=J.2.1/\g'.1=J.1/\(g'.2.2=if J.1=k then J.2.2++[(p - 2 * wgt (fX k) gs - 2 * k)]else J.2.2):=λg' al=>by
    obtain⟨J,h0,rfl⟩:=aDk.mp al;refine⟨J,h0,?_⟩
    by_cases hk:J.1=k
    .rw[if_pos hk,if_pos hk];exact⟨rfl,rfl,rfl⟩
    .rw[if_neg hk,if_neg hk];exact⟨rfl,rfl,rfl⟩
   have uniq:∀ J∈gs,J.2.1=g.2.1->J=g:=λJ h0 e=>cD (f:=λg:Grp=>g.2.1) dg.adr h0 L e;refine kk (eF k (p - 2 * wgt (fX k) gs - 2 * k) gs) _ (λb u n1 n2 e=>by rw[aG (n2 g L)];exact ar b u e) ⟨by rw[zX,aG (Ne.symm (au g L))];exact g4 _ _ I.at_,λg' al=>?_,by rw[zY];exact dg.adr,by rw[zZ];exact dg.key⟩ (.inl ⟨⟨g,L,Y⟩,rfl⟩);obtain⟨J,h0,e1,e2,e3⟩:=av g' al;rw[e1]
   by_cases U:J.2.1=g.2.1
   .have:=uniq J h0 U;subst this;rw[aB,e3,if_pos Y,aDV];rfl
   .have hk:J.1≠k:=λe=>U (by rw[cD (f:=λg:Grp=>g.1) dg.key h0 L (e.trans Y.symm)]);rw[aG U,e3,if_neg hk];exact N J h0
  .rw[eM]at hv;have aw:∀ g∈gs,g.1≠k:=λg D e=>by
    have:=List.find?_eq_none.mp (Option.map_eq_none_iff.mp hv) g D;exact this (by simpa using e)
   rw[zR (V.ref z) (by rw[eM];exact hv)];have ax:(upd H4 d (.dK (kvG gs++[((Sum.inl k:Key),V.ref z)]))) z=some (.lst []):=by rw[aG aq];exact ez
   refine⟨.inl ⟨rfl,_,SqL.of ax⟩,_,rfl,z,_,_,rfl,rfl,ax,(show 0<sizeLine by decide),?_⟩;have ay:∀ b u,b≠d->b≠z->H4 b=some u->(upd (upd H4 d (.dK (kvG gs++[((Sum.inl k:Key),V.ref z)]))) z (.lst ([]++[V.int (p - 2 * wgt (fX k) gs - 2 * k)]))) b=some u:=λb u n1 n2 e=>by rw[aG n2,aG n1];exact e
   refine kk (gs++[(k,z,[(p - 2 * wgt (fX k) gs - 2 * k)])]) _ (λb u n1 n2 e=>ay b u n1 (λe'=>by rw[e',ap]at e;cases e) (ar b u e)) ⟨?_,λg D=>?_,?_,?_⟩ (.inr ⟨aw,z,ap,rfl⟩)
   .rw[aG (Ne.symm aq),aB];unfold kvG;rw[aDV];rfl
   .rcases aDj.mp D with h | h
    .exact ay _ _ (au g h) (nz g h) (N g h)
    .rw[aDc.mp h];exact aB
   .rw[aDV,List.nodup_append];refine⟨dg.adr,by simp,λx hx y hy=>?_⟩;obtain⟨g,D,rfl⟩:=aDk.mp hx;have am:y=z:=by simpa using hy
    rw[am];exact nz g D
   .rw[aDV,List.nodup_append];refine⟨dg.key,by simp,λx hx y hy=>?_⟩;obtain⟨g,D,rfl⟩:=aDk.mp hx;have am:y=k:=by simpa using hy
    rw[am];exact aw g D
abbrev iD:Stmt:=top 35
def fY:FnScope ["offsets","place","crowded","ready","size"] ["offsets","place"] (aJ iD):=⟨rfl,rfl,rfl,by decide +kernel,rfl,by decide +kernel,by decide +kernel⟩
def yH {f:Addr} {fd:FuncData} (F:Fun K "add_stone" "add_stone" iD f fd) (B:Bt mg) (al:aU P w K mg base "crowds" 1 ["offsets"] iW)
 (L:aU P w K mg base "drop_last" 1 ["offsets","size"] gT) (M:aU P w K mg base "add_train" 2 ["offsets","size","place"] fO):FnOk P w K mg base CX0 3 f fd ["offsets","place"] jG:=by
 refine F.ok fY (λvs H Q E h=>?_) (λcq A outer s H vs Q E hr h=>?_)
 .obtain⟨d,gs,p,H0,rfl,_⟩:=h;rfl
 .obtain⟨d,gs,p,H0,rfl,dg,gd,ac,bb,bd,b_,bc,az,k⟩:=h;have ca:=nF hr;obtain⟨cr,cb⟩:=GoodG.bound gd;refine⟨_,(aF (aQ (i:=2) fY.nd rfl (Or.inr rfl) (aW al hr rfl (aA (pv 0) aE)))
 (aF (O8 (N0 (i:=3) ["size","some"] ["place","crowded"] [1,2] rfl fY.nd rfl rfl (.of (show dB (aJ iD) _ ["offsets","place","crowded","ready","size"] [1,2] ["place","crowded"]=true by decide +kernel)) (nR (pv 0)) (λ_ _ _=>(jD (n:=2) K rfl rfl (aO (aM (i:=0) (show (["size","some","place","crowded"]:List Str).Nodup by decide +kernel) rfl (Or.inl rfl)) (aO (aM (i:=1) (show (["size","some","place","crowded"]:List Str).Nodup by decide +kernel) rfl (Or.inl rfl)) bW)))) (mK (cN (by decide) (cN (by decide) jC))) (λ_ _ _=>wT (aY rZ (bH (zE K rfl) (pv 1) (lZ iE aI) (λ_ _=>rfl)) (aL eY (aL eY (pv 2) aI) (jF ca (pv 3) (pv 0) (λ_ _=>rfl))) (bD _))) (λ_ _ _=>(pv 0)) (by first | rfl | decide +kernel)))
 (aF (aQ (i:=4) fY.nd rfl (Or.inl rfl) (vI rfl rfl B.max (pv 3) aI))
 (qV (bU (aY mB (pv 4) aI (bD _))
 (aK (aS (aW L hr rfl (aA (pv 0) (aA (pv 4) aE)))))
 bE)
 (aK (aS (aW M hr rfl (aA (pv 0) (aA (aL bF (pv 4) aI) (aA (pv 1) aE)))))))))),?_⟩
  refine⟨_,rfl,d,gs,rfl,dg,gd,by omega,λg N=>by have:=cb g N;omega,λe kvs H5 he a_ ee bf=>?_⟩;have U:DG H5 d gs:=⟨a_ _ _ dg.at_,λg N=>a_ _ _ (dg.lst g N),dg.adr,dg.key⟩;have ce:e≠d:=λz=>by rw[z,dg.at_]at he;cases he
  refine⟨d,kvG gs,U.at_,_,rfl,d,kvG gs,rfl,U.at_,λod=>?_⟩;have sd:SameD d H5 (upd H5 d (.frz od (.dK (kvG gs)))):=λb o n e=>by rw[aG n];exact e
  have ed:(upd H5 d (.frz od (.dK (kvG gs)))) d=some (.frz od (.dK (kvG gs))):=aB;have aw:∀ g∈gs,(upd H5 d (.frz od (.dK (kvG gs)))) g.2.1=some (.lst (g.2.2.map V.int)):=λg N=>sd _ _ (bJ (U.lst g N) U.at_ (by intro z;cases z)) (U.lst g N);have bg:(upd H5 d (.frz od (.dK (kvG gs)))) e=some (.dK kvs):=sd _ _ ce ee;generalize upd H5 d (.frz od (.dK (kvG gs)))=H6 at sd ed aw bg ⊢;have cf:(kvG gs).length=gs.length:=by simp[kvG]
  refine mO (d:=d) (od:=od) (kvs:=kvG gs) (λi ys H7=>Same H6 H7/\ys.length<=i/\∃ ns:List Int,ys=ns.map V.int/\(∀ n∈ns,∃ g∈gs,∃ I:g.2.2≠[],n=g.1/\g.2.2.getLast I=p - 1 - 2 * les (bI gs) g.1)/\(∀ g∈gs.take i,∀ I:g.2.2≠[],g.2.2.getLast I=p - 1 - 2 * les (bI gs) g.1->g.1∈ns)) ⟨Same.refl _,Nat.le_refl _,[],rfl,λn hn=>(nomatch hn),λg N=>by simp at N⟩ ?_ ?_ ?_
  .rintro i ys H7 hi ⟨g7,bh,_⟩;exact⟨g7 _ _ ed,bC (by omega)⟩
  .rintro i ky x ys H7 t J ⟨g7,bh,ns,rfl,ar,am⟩ cg;obtain⟨g,N,ci⟩:∃ g,gs[i]?=some g/\((Sum.inl g.1:Key),V.ref g.2.1)=(ky,x):=by
    unfold kvG at J;rw[aD4]at J;obtain⟨g,h1,h2⟩:=aDg.mp J;exact⟨g,h1,h2⟩
   cases ci;have au:=aDR N;have g8:=g7.trans (Same.upd (o:=.tup [kV (Sum.inl g.1),V.ref g.2.1]) cg);have bi:(upd H7 t (.tup [kV (Sum.inl g.1),V.ref g.2.1])) t=some (.tup [kV (Sum.inl g.1),V.ref g.2.1]):=aB;generalize upd H7 t (.tup [kV (Sum.inl g.1),V.ref g.2.1])=H8 at g8 bi ⊢;refine⟨t,_,rfl,SqT.of bi,rfl,_,_,rfl,_,_,rfl,rfl,?_⟩;have ao:g.2.2≠[]:=(gd g au).2;have hv:atI (g.2.2.map V.int) (-1)=some (V.int (g.2.2.getLast ao)):=O9 ao;have bj:DGet H8 e (.int g.1) (some (.int (2 * les (bI gs) g.1))):=by rw[<- bf g au];exact DGet.k (k:=(Sum.inl g.1:Key)) (g8 _ _ bg)
   refine⟨_,rfl,_,rfl,g.2.1,_,_,_,rfl,rfl,SqL.of (g8 _ _ (aw g au)),hv,_,rfl,_,_,rfl,rfl,_,rfl,_,rfl,e,_,rfl,bj,_,_,rfl,rfl,_,_,rfl,rfl,_,rfl,?_⟩;have bm:∀ x∈gs.take (i+1),x∈gs.take i\/x=g:=λx J=>by
    rw[aDb,N]at J;rcases aDj.mp J with h | h
    .exact .inl h
    .exact .inr (by simpa using h)
   refine mL (λhc=>?_) (λhc=>?_)
   .refine⟨_,rfl,g8,by rw[aDP,List.length_singleton];omega,ns++[g.1],by rw[aDV];rfl,λn hn=>?_,λx J I hl=>?_⟩
    .rcases aDj.mp hn with h | h
     .exact ar n h
     .exact⟨g,au,ao,by simpa using h,by omega⟩
    .rcases bm x J with h | h
     .exact aDZ _ (am x h I hl)
     .rw[h];exact aDK _ (by simp)
   .refine⟨g8,by omega,ns,rfl,ar,λx J I hl=>?_⟩;rcases bm x J with h | h
    .exact am x h I hl
    .subst h;exact absurd (by omega) hc
  .rintro ys H7 ⟨g7,bh,ns,rfl,ar,am⟩ D hD;have bn:D≠d:=λz=>by rw[z,g7 _ _ ed]at hD;cases hD
   have cj:(upd H7 D (.lst (ns.map V.int))) d=some (.frz od (.dK (kvG gs))):=by rw[aG (Ne.symm bn)];exact g7 _ _ ed
   have eD:(upd (upd H7 D (.lst (ns.map V.int))) d (.dK (kvG gs))) D=some (.lst (ns.map V.int)):=by rw[aG bn,aB]
   have av:Same H5 (upd (upd H7 D (.lst (ns.map V.int))) d (.dK (kvG gs))):=λb o q=>by
    by_cases hb:b=d
    .subst hb;rw[aB,<- U.at_];exact q
    .rw[aG hb];exact(g7.trans (Same.upd hD)) _ _ (sd b o hb q)
   refine⟨od,cj,?_⟩;generalize upd (upd H7 D (.lst (ns.map V.int))) d (.dK (kvG gs))=H9 at eD av ⊢;have bo:DG H9 d gs:=⟨av _ _ U.at_,λg N=>av _ _ (U.lst g N),dg.adr,dg.key⟩;have ax:=(b_.trans a_).trans av;rw[cf,aDU]at am;obtain⟨s0,es,cu,ap,bq⟩:=U3 gd ar am;refine⟨_,rfl,D,ns,rfl,SqL.of eD,?_⟩;rw[es];refine⟨λbr H'=>∃ Y,br=[some (.ref d),some (.int p),some (.ref e),some (.ref D),some (.int s0)]/\Same H0 H'/\DG H' d Y/\GoodG Y/\sto Y<=59/\(∀ g∈Y,H0 g.2.1=none)/\(s0=0/\Y=gs\/1<=s0/\∃ g∈gs,∃ I:g.2.2≠[],g.1=s0/\g.2.2.getLast I=p - 1 - 2 * les (bI gs) s0/\Y=shr s0 gs),?_,?_⟩
   .refine⟨_,rfl,_,_,rfl,rfl,_,rfl,?_⟩;refine mL (λhc=>?_) (λhc=>?_)
    .rcases ap with hz | ⟨hz,g,N,I,e1,e2⟩
     .omega
     .subst e1;refine⟨_,rfl,_,rfl,d,gs,g,rfl,bo,N,I,λcv bt bu=>⟨shr g.1 gs,rfl,λb o q=>bt b o (λz=>by rw[z,bc]at q;cases q) (λx J z=>by rw[z,az x J]at q;cases q) (ax b o q),bu,gd.shr _,?_,λx J=>?_,.inr ⟨hz,g,N,I,rfl,e2,rfl⟩⟩⟩
      .have:sto (shr g.1 gs)=sto gs - g.1:=O4 _ dg.key N I;omega
      .obtain⟨y,hy,ez⟩:=O5 J;rw[ez];exact az y hy
    .rcases ap with hz | ⟨hz,_⟩
     .exact⟨gs,rfl,ax,bo,gd,bb,az,.inl ⟨hz,rfl⟩⟩
     .omega
   .rintro br cw ⟨Y,rfl,ay,bv,bw,ck,aq,hs⟩;obtain⟨cx,cm⟩:=GoodG.bound bw;refine⟨_,rfl,_,rfl,_,_,rfl,rfl,_,rfl,d,Y,s0+1,p,rfl,bv,by omega,λx J=>by have:=cm x J;omega,λcn cp bx bz ba=>?_⟩;rw[xH]at ba;obtain⟨ha,hA,hG⟩:=J6 dg.key gd ac bd hs bq ba;refine k cn cp (λb o q=>bx b o (λz=>by rw[z,bc]at q;cases q) (λx J z=>by rw[z,aq x J]at q;cases q) (ay b o q)) bz hG hA ha λx J=>?_;rcases A3 ba J with ⟨y,hy,ez⟩ | hz
    .rw[ez];exact aq y hy
    .exact ay.free hz
abbrev lW:Stmt:=top 34
def mU:FnScope ["row","offsets","place"] ["row"] (aJ lW):=⟨rfl,rfl,rfl,by decide +kernel,rfl,by decide +kernel,by decide +kernel⟩
inductive tX (H:Hp) (a:Addr) (d:Addr) (row:List Int) (i:Nat) (σ:St) (H3:Hp):Prop
 | mk (gs:List Grp) (v:Option V) (k0_:σ=[some (.ref a),some (.ref d),v]) (k1_:Same H H3) (k2_:DG H3 d gs) (k3_:GoodG gs) (k4_:Asc gs) (k5_:Lst (row.take i) (bI gs)) (k6_:(∀ g∈gs,H g.2.1=none)):tX H a d row i σ H3
def L4 {f:Addr} {fd:FuncData} (F:Fun K "list_of" "list_of" lW f fd) (B:Bt mg) (F_look_row:aU P w K mg base "look_row" 1 ["row"] hX) (F_add_stone:aU P w K mg base "add_stone" 3 ["offsets","place"] jG):FnOk P w K mg base CX0 4 f fd ["row"] lT:=by
 refine F.ok mU (λvs H Q E h=>?_) (λcdv A outer s H vs Q E hr h=>?_)
 .obtain⟨a,row,rfl,_⟩:=h;rfl
 .obtain⟨a,row,rfl,ha,hrw,k⟩:=h;obtain⟨hrow,hrl⟩:=id hrw;have hu1:=nF hr;refine⟨_,(aF (aS (aW F_look_row hr rfl (aA (pv 0) aE)))
 (aF (aQ (i:=1) mU.nd rfl (Or.inr rfl) gS)
 (aF (cZ PassesOwn.never rfl (aB8 (pv 0)) (aM (i:=2) mU.nd rfl (Or.inl rfl))
 (aK (aS (aW F_add_stone hr rfl (aA (pv 1) (aA (pv 2) aE))))))
 (aK (aZ (i9 ["size"] ["offset"] ["offsets"] [1] rfl (.of (show dB (aJ lW) _ ["row","offsets","place"] [1] ["offsets"]=true by decide +kernel)) (dC (aP (nU rfl) (by rfl) B.sorted cT (aA (pv 1) aE))) (λ_ _ _=>(aM (i:=0) (show (["size","offset","offsets"]:List Str).Nodup by decide +kernel) rfl (Or.inl rfl))) (fT (by decide)) (λ_ _ _=>dE) (λ_ _ _=>(j0 K rfl (jF hu1 (pv 2) (pv 0) (λ_ _=>rfl)))) (λ_ _ _=>(aM (i:=1) (show (["size","offset","offsets"]:List Str).Nodup by decide +kernel) rfl (Or.inl rfl))) (aAR (by decide) (by decide)) (λ_ _ _=>dE) (λ_ _ _=>(cF (aA (pv 0) (aA (pv 1) aE)))))))))),?_⟩
  refine⟨_,rfl,a,row,rfl,ha,hrw,?_⟩;refine λd hd=>?_;have g1:=Same.upd (o:=.dK []) hd;have ed:(upd H d (.dK [])) d=some (.dK (kvG [])):=aB;generalize upd H d (.dK [])=H1 at g1 ed ⊢;refine aAY (K:=K) (a:=a) (r:=row) (j:=0) (Hb:=H) (tX H a d row) ha rfl
   ⟨[],none,rfl,g1,⟨ed,λg hg=>(nomatch hg),List.Pairwise.nil,List.Pairwise.nil⟩,λg hg=>(nomatch hg),λg hg=>(nomatch hg),.nil,λg hg=>(nomatch hg)⟩ (λi σ H3 h=>by obtain⟨_,_,_,sm,_⟩:=h;exact sm) ?_ ?_
  .rintro i z σ H3 hz ⟨gs,v,rfl,sm,dg,gd,ac,hl,hfr⟩;have hil:i<row.length:=(aDh.mp hz).1;have htk:row.take (i+1)=row.take i++[z]:=by rw[aDb,hz];rfl
   have hlt:∀ x∈row.take i,x<z:=λx hx=>by
    have hp:(row.take i++[z]).Pairwise (·<·):=by rw[<- htk];exact List.Pairwise.sublist (List.take_sublist _ _) hrow
    exact(List.pairwise_append.mp hp).2.2 x hx z (by simp)
   have hsz:sto gs=(i:Int):=by
    rw[rA,hl.sizx,aDW];omega
   refine⟨_,rfl,_,rfl,d,gs,z,H,rfl,dg,gd,ac,by omega,hl.bd λx hx=>by have:=hlt x hx;omega,sm,hd,hfr,λgs' H' sm' dg' gd' ac' hadd hfr'=>?_⟩;exact⟨gs',_,rfl,sm',dg',gd',ac',by rw[htk];exact .snoc hl hlt hadd,hfr'⟩
  .rintro σ H3 ⟨gs,v,rfl,sm,dg,gd,ac,hl,hfr⟩;rw[aDU]at hl;obtain⟨hb1,hb2⟩:=GoodG.bound gd;have hsz:sto gs=(row.length:Int):=by rw[rA,hl.sizx]
   have hks:zT (kvG gs) (gs.map (·.1)):=by unfold zT kvG;simp[Function.comp]
   refine⟨_,rfl,d,kvG gs,gs.map (·.1),rfl,dg.at_,hks,by rw[aDG];omega,λl ms hnl hp hs=>?_⟩;have g5:=Same.upd (o:=.lst (ms.map V.int)) hnl;have el:(upd H3 l (.lst (ms.map V.int))) l=some (.lst (ms.map V.int)):=aB;generalize upd H3 l (.lst (ms.map V.int))=H5 at g5 el ⊢;have hst:=vX hp hs dg.key;have dg5:DG H5 d gs:=⟨g5 _ _ dg.at_,λg hg=>g5 _ _ (dg.lst g hg),dg.adr,dg.key⟩;have hsize:∀ i,(laid (ms.take i) gs).length<=60:=λi=>by
    have h1:(laid (ms.take i) gs).length<=(laid ms gs).length:=by
     conv=>rhs;rw[<- List.take_append_drop i ms,qG,aDP]
     omega
    have h2:=(vV gs hp).length_eq;rw[vW dg.key]at h2;have h3:=gR hl.pos;have h4:(szs (bI gs)).sum=siz (bI gs):=rfl;have h5:=rA gs;omega
   refine⟨l,rfl,⟨_,SqL.of el⟩,K1 (K:=K) (a:=l) (xs:=ms.map V.int) (λi ys H6=>Same H5 H6/\Prs H6 ys (laid (ms.take i) gs)) ⟨Same.refl _,.nil⟩ ?_ ?_ ?_⟩
   .rintro i ys H6 hi ⟨sm6,pr6⟩;exact⟨SqL.of (sm6 _ _ el),by rw[pr6.len];exact bC (by have:=hsize i;omega)⟩
   .rintro i x ys H6 hi ⟨sm6,pr6⟩;obtain⟨m,rfl,hm⟩:=kJ hi;obtain⟨g,hg,hgm⟩:=aDk.mp (hp.mem_iff.mp (aDR hm));have hgm:g.1=m:=hgm;subst hgm;have dg6:DG H6 d gs:=⟨sm6 _ _ dg5.at_,λg hg=>sm6 _ _ (dg5.lst g hg),dg.adr,dg.key⟩;have htk:laid (ms.take (i+1)) gs=laid (ms.take i) gs++g.2.2.map λo=>(g.1,o):=by
     rw[aDb,hm,qG]
     congr 1
     exact j4 dg.key hg
    have hgl:=hsize (i+1);rw[htk,aDP,aDG]at hgl;refine⟨_,rfl,_,rfl,d,_,rfl,dg6.get hg,g.2.1,rfl,⟨_,SqL.of (dg6.lst g hg)⟩,K2 (K:=K) (a:=g.2.1) (xs:=g.2.2.map V.int) (λj ys H7=>Same H6 H7/\Prs H7 ys (laid (ms.take i) gs++(g.2.2.take j).map λo=>(g.1,o))) ⟨Same.refl _,by rw[List.take_zero,List.map_nil,List.append_nil];exact pr6⟩ ?_ ?_ ?_⟩
    .rintro j ys H7 hj ⟨sm7,pr7⟩;refine⟨SqL.of (sm7 _ _ (dg6.lst g hg)),?_⟩;rw[pr7.len,aDP,aDG,aDW];exact bC (by omega)
    .rintro j x ys H7 hj ⟨sm7,pr7⟩;obtain⟨o,rfl,ho⟩:=kJ hj;refine⟨_,rfl,_,rfl,(show 2<=sizeLine by decide),λt ht=>⟨sm7.trans (Same.upd ht),?_⟩⟩;rw[aDb,ho,aDV,<- List.append_assoc];exact Paired.append' (pr7.mono (TupS.new ht)) (.cons ⟨t,rfl,aB⟩ .nil)
    .rintro ys H7 ⟨sm7,pr7⟩;rw[aDG,aDU]at pr7;rw[htk];exact⟨sm6.trans sm7,pr7⟩
   .rintro ys H6 ⟨sm6,pr6⟩ D hD;rw[aDG,aDU]at pr6;have hpm:(laid ms gs).Perm (bI gs):=by rw[<- vW dg.key];exact vV gs hp
    have sm36:=(sm.trans g5).trans sm6;exact k (laid ms gs) (hl.perm hpm.symm) (qH ac hst) D ys _ (sm36.free hD) (sm36.trans (Same.upd hD)) aB (pr6.mono (TupS.new hD))
abbrev oN:Stmt:=top 38
def fA:FnScope ["trains","offsets","row","crowded","place","shortest","size"] ["trains"] (aJ oN):=⟨rfl,rfl,rfl,by decide +kernel,rfl,by decide +kernel,by decide +kernel⟩
def V5 {f:Addr} {fd:FuncData} (F:Fun K "row_of" "row_of" oN f fd) (B:Bt mg) (F_look_trains:aU P w K mg base "look_trains" 1 ["trains"] nM) (F_by_size:aU P w K mg base "by_size" 1 ["trains"] lS) (F_crowds:aU P w K mg base "crowds" 1 ["offsets"] iW)
 (F_drop_last:aU P w K mg base "drop_last" 1 ["offsets","size"] gT) (F_add_train:aU P w K mg base "add_train" 2 ["offsets","size","place"] fO):FnOk P w K mg base CX0 3 f fd ["trains"] nZ:=by
 refine F.ok fA (λvs H Q E h=>?_) (λcdv A outer s H vs Q E hr h=>?_)
 .obtain⟨a,ps,rfl,_⟩:=h;rfl
 .obtain⟨a,ps,rfl,hps,ht,k⟩:=h;have hu1:=nF hr;have hu:=hr.units;refine⟨_,(aF (aS (aW F_look_trains hr rfl (aA (pv 0) aE)))
 (aF (aQ (i:=1) fA.nd rfl (Or.inl rfl) (aW F_by_size hr rfl (aA (pv 0) aE)))
 (aF (aQ (i:=2) fA.nd rfl (Or.inl rfl) (dA aE))
 (aF (rR PassesOwn.never (T7 (pv 1) (λ_=>rfl))
 (aF (aQ (i:=3) fA.nd rfl (Or.inr rfl) (aW F_crowds hr rfl (aA (pv 1) aE)))
 (aF (oU (aP (T6 rfl hu) (by rfl) B.max zD (aA (qY (dH ["size","some"] ["crowded"] [3] rfl (.of (show dB (aJ oN) _ ["trains","offsets","row","crowded","place","shortest","size"] [3] ["crowded"]=true by decide +kernel)) (nR (pv 1)) (λ_ _ _=>(jD (n:=2) K rfl rfl (aO (aM (i:=0) (show (["size","some","crowded"]:List Str).Nodup by decide +kernel) rfl (Or.inl rfl)) (aO (aM (i:=1) (show (["size","some","crowded"]:List Str).Nodup by decide +kernel) rfl (Or.inl rfl)) bW)))) (mK (cN (by decide) (cN (by decide) jC))) (λ_ _ _=>dE) (λ_ _ _=>(cF (aA (aL bF (bH (zE K rfl) (pv 1) (lZ iE aI) (λ_ _=>rfl)) (jF hu1 (pv 2) (pv 0) (λ_ _=>rfl))) (aA (lZ iE (pv 0)) aE)))))) aE)) (eW rfl (aO (aM (i:=4) fA.nd rfl (Or.inl rfl)) (aO (aM (i:=5) fA.nd rfl (Or.inl rfl)) bW))))
 (aF (aQ (i:=6) fA.nd rfl (Or.inl rfl) (lZ iE (pv 5)))
 (aF (aS (iP aDd aDe aDf cC (pv 2) (aA (pv 4) aE)))
 (aF (aS (aW F_drop_last hr rfl (aA (pv 1) (aA (pv 6) aE))))
 (aK (bU (aY mB (pv 6) aI (bD _))
 (aK (aS (aW F_add_train hr rfl (aA (pv 1) (aA (aL eY (pv 6) aI) (aA (aL eY (pv 4) aI) aE))))))
 bE))))))))
 (aK (aZ (aP fW (by rfl) B.sorted cT (aA (pv 2) aE)))))))),?_⟩
  refine⟨_,rfl,a,ps,rfl,hps,ht,λH1 g1=>?_⟩;refine⟨_,rfl,a,ps,rfl,hps.mono g1,ht.len,λd gs H2 hd sm2 dg hfp hac hne=>?_⟩;refine⟨by decide,λr hrn=>?_⟩;have g3:=Same.upd (o:=.lst []) hrn;have er:(upd H2 r (.lst [])) r=some (.lst []):=aB;have sm3:=(g1.trans sm2).trans g3;have hHr:H r=none:=(g1.trans sm2).free hrn;have hHd:H d=none:=g1.free hd;generalize upd H2 r (.lst [])=H3 at g3 er sm3 ⊢;have dg3:DG H3 d gs:=⟨g3 _ _ dg.at_,λg hg=>g3 _ _ (dg.lst g hg),dg.adr,dg.key⟩;have gd:GoodG gs:=λg hg=>⟨by
   have hm:=List.getLast_mem (hne g hg).1;exact ht.pos (g.1,g.2.2.getLast (hne g hg).1) (hfp.mem_iff.mp (fN.mpr ⟨g,hg,rfl,hm⟩)),(hne g hg).1⟩
  have hst:sto gs=(szs ps).sum:=by rw[rA,kP hfp];rfl
  have hlo:0<=sto gs:=by have:=(GoodG.bound gd).1;omega
  refine⟨aBZ H ps a d r,⟨(sto gs).toNat,gs,[],_,_,_,_,rfl,sm3,dg3,gd,hac,er,λg hg=>⟨g1.free (hne g hg).2,λe=>?_⟩,by omega,by have:=ht.few;simp only[List.length_nil];omega,λr' hr'=>by simpa using hr'.perm hfp⟩,?_⟩
  .have:=dg.lst g hg;rw[e,hrn]at this;cases this
  clear hst hlo gd dg3 sm3 er g3 hne hfp hac dg sm2 g1;rintro m σ H4 ⟨gs,row,v3,v4,v5,v6,rfl,sm,dg,gd,ac,er,hfr,hm,hcount,fin⟩;obtain⟨hb1,hb2⟩:=GoodG.bound gd;have hpos:∀ q∈bI gs,1<=q.1:=λq hq=>by
   obtain⟨x,hx,e1,_⟩:=fN.mp hq;rw[<- e1];exact(gd x hx).1
  refine⟨_,rfl,d,kvG gs,rfl,dg.at_,?_⟩
  by_cases hgs:gs=[]
  .subst hgs;have hfin:Lst row.reverse ps:=by simpa using fin [] .nil
   refine⟨_,rfl,r,row,rfl,er,by omega,λl ms hl hpm hsm=>?_⟩;have em:=K3 hpm hsm hfin.rowp;subst em;exact k row.reverse hfin l _ (sm.free hl) (sm.trans (Same.upd hl)) aB
  have hne:(!(kvG gs).isEmpty)=true:=by
   cases gs with
   | nil=>exact absurd rfl hgs
   | cons _ _=>rfl
  rw[hne];show (if true=true then _ else _);rw[if_pos rfl];refine⟨fun σ' H'=>∃ m',m'<m/\aBZ H ps a d r m' σ' H',λ_ _ h=>h,?_⟩;refine⟨_,rfl,d,gs,rfl,dg,gd,by omega,λg hg=>by have:=hb2 g hg;omega,λe kvs H5 he sm5 ee hall=>?_⟩;have dg5:DG H5 d gs:=⟨sm5 _ _ dg.at_,λg hg=>sm5 _ _ (dg.lst g hg),dg.adr,dg.key⟩;refine⟨d,kvG gs,dg5.at_,_,rfl,d,kvG gs,rfl,dg5.at_,λod=>?_⟩;have hed:e≠d:=λz=>by rw[z,dg.at_]at he;cases he
  have sd:SameD d H5 (upd H5 d (.frz od (.dK (kvG gs)))):=λb o n e=>by rw[aG n];exact e
  have ed:(upd H5 d (.frz od (.dK (kvG gs)))) d=some (.frz od (.dK (kvG gs))):=aB;have hlst:∀ g∈gs,(upd H5 d (.frz od (.dK (kvG gs)))) g.2.1=some (.lst (g.2.2.map V.int)):=λg hg=>sd _ _ (bJ (dg5.lst g hg) dg5.at_ (by intro z;cases z)) (dg5.lst g hg);have ee6:(upd H5 d (.frz od (.dK (kvG gs)))) e=some (.dK kvs):=sd _ _ hed ee;generalize upd H5 d (.frz od (.dK (kvG gs)))=H6 at sd ed hlst ee6 ⊢;have hkl:(kvG gs).length=gs.length:=by simp[kvG]
  refine mO (d:=d) (od:=od) (kvs:=kvG gs) (λi ys H7=>Same H6 H7/\ys.length=i/\∃ qs:List (Int×Int),Prs H7 ys qs/\(∀ q∈qs,∃ g∈gs,∃ hne:g.2.2≠[],q=(g.2.2.getLast hne+2 * les (bI gs) g.1,-g.1))/\∀ g∈gs.take i,∀ hne:g.2.2≠[],(g.2.2.getLast hne+2 * les (bI gs) g.1,-g.1)∈qs) ⟨Same.refl _,rfl,[],.nil,λq hq=>(nomatch hq),λg hg=>by simp at hg⟩ ?_ ?_ ?_
  .rintro i ys H7 hi ⟨g7,hyl,_⟩;exact⟨g7 _ _ ed,bC (by omega)⟩
  .rintro i ky x ys H7 t hx ⟨g7,hyl,qs,pr,hq,hq2⟩ htn;obtain⟨g,hg,hgx⟩:∃ g,gs[i]?=some g/\((Sum.inl g.1:Key),V.ref g.2.1)=(ky,x):=by
    unfold kvG at hx;rw[aD4]at hx;obtain⟨g,h1,h2⟩:=aDg.mp hx;exact⟨g,h1,h2⟩
   cases hgx;have hgm:=aDR hg;have g8:=g7.trans (Same.upd (o:=.tup [kV (Sum.inl g.1),V.ref g.2.1]) htn);have pr8:=pr.mono (TupS.same (Same.upd (o:=.tup [kV (Sum.inl g.1),V.ref g.2.1]) htn));have et8:(upd H7 t (.tup [kV (Sum.inl g.1),V.ref g.2.1])) t=some (.tup [kV (Sum.inl g.1),V.ref g.2.1]):=aB;generalize upd H7 t (.tup [kV (Sum.inl g.1),V.ref g.2.1])=H8 at g8 pr8 et8 ⊢;refine⟨t,_,rfl,SqT.of et8,rfl,_,_,rfl,_,_,rfl,rfl,?_⟩;have hne2:g.2.2≠[]:=(gd g hgm).2;have hv:atI (g.2.2.map V.int) (-1)=some (V.int (g.2.2.getLast hne2)):=O9 hne2;have hget:DGet H8 e (.int g.1) (some (.int (2 * les (bI gs) g.1))):=by rw[<- hall g hgm];exact DGet.k (k:=(Sum.inl g.1:Key)) (g8 _ _ ee6)
   refine⟨_,rfl,_,rfl,g.2.1,_,_,_,rfl,rfl,SqL.of (g8 _ _ (hlst g hgm)),hv,_,rfl,_,rfl,e,_,rfl,hget,_,_,rfl,rfl,_,rfl,_,rfl,by show 2<=sizeLine;decide,λt2 ht2=>?_⟩;refine⟨g8.trans (Same.upd ht2),by rw[aDP,hyl];rfl,qs++[(g.2.2.getLast hne2+2 * les (bI gs) g.1,-g.1)],Paired.snoc (pr8.mono (TupS.same (Same.upd ht2))) ⟨t2,rfl,aB⟩,λq hq'=>?_,λx hx hnx=>?_⟩
   .rcases aDj.mp hq' with h | h
    .exact hq q h
    .rw[aDc.mp h];exact⟨g,hgm,hne2,rfl⟩
   .rw[aDb,hg]at hx;rcases aDj.mp hx with h | h
    .exact aDZ _ (hq2 x h hnx)
    .have:x=g:=by simpa using h
     subst this;exact aDK _ (by simp)
  .rintro ys H7 ⟨g7,hyl,qs,pr,hq,hq2⟩ D hD;rw[hkl,aDU]at hq2;have hnD:D≠d:=λz=>by rw[z,g7 _ _ ed]at hD;cases hD
   have edD:(upd H7 D (.lst ys)) d=some (.frz od (.dK (kvG gs))):=by rw[aG (Ne.symm hnD)];exact g7 _ _ ed
   have eD:(upd (upd H7 D (.lst ys)) d (.dK (kvG gs))) D=some (.lst ys):=by rw[aG hnD,aB]
   have pr9:Prs (upd (upd H7 D (.lst ys)) d (.dK (kvG gs))) ys qs:=(pr.mono (TupS.same (Same.upd hD))).mono λt xs q=>by
    rw[aG (bJ q edD (by intro z;cases z))];exact q
   have sm9:Same H5 (upd (upd H7 D (.lst ys)) d (.dK (kvG gs))):=λb o q=>by
    by_cases hb:b=d
    .subst hb;rw[aB,<- dg5.at_];exact q
    .rw[aG hb];exact(g7.trans (Same.upd hD)) _ _ (sd b o hb q)
   refine⟨od,edD,D,ys,qs,rfl,eD,pr9,λz=>?_,λj x htop hx=>?_⟩
   .rw[z]at hyl;rw[hkl]at hyl;exact hgs (List.length_eq_zero_iff.mp hyl.symm)
   generalize upd (upd H7 D (.lst ys)) d (.dK (kvG gs))=H9 at pr9 sm9 ⊢;obtain⟨p,t',hp,rfl,et⟩:=dI pr9 hx;obtain⟨g,hg,hgne,hpg,hplace,hbest⟩:=K4 gd htop hp hq hq2;have dg9:DG H9 d gs:=⟨sm9 _ _ dg5.at_,λg hg=>sm9 _ _ (dg5.lst g hg),dg.adr,dg.key⟩;have er9:=sm9 _ _ (sm5 _ _ er);have smH:=(sm.trans sm5).trans sm9;refine⟨t',_,rfl,SqT.of et,rfl,_,_,rfl,_,_,rfl,rfl,?_⟩;refine⟨_,rfl,_,rfl,?_⟩;refine⟨_,rfl,.inl ⟨rfl,_,SqL.of er9⟩,_,rfl,r,_,_,rfl,rfl,er9,by rw[aDG];exact bC (by omega),?_⟩;have hrd:r≠d:=bJ er9 dg9.at_ (by intro z;cases z);have dg10:DG (upd H9 r (.lst (row.map V.int++[V.int p.1]))) d gs:=⟨by rw[aG (Ne.symm hrd)];exact dg9.at_,λg hg=>by rw[aG (hfr g hg).2];exact dg9.lst g hg,dg.adr,dg.key⟩;have er10:(upd H9 r (.lst (row.map V.int++[V.int p.1]))) r=some (.lst ((row++[p.1]).map V.int)):=by rw[aB,aDV];rfl
   have sm10:Same H (upd H9 r (.lst (row.map V.int++[V.int p.1]))):=Same.upd' hHr smH;generalize upd H9 r (.lst (row.map V.int++[V.int p.1]))=H10 at dg10 er10 sm10 ⊢;have hg1:=(gd g hg).1;have hnn:-p.2=g.1:=by omega
   refine⟨_,rfl,_,rfl,d,gs,g,by show [V.ref d,V.int (-p.2)]=_;rw[hnn],dg10,hg,hgne,λH11 st11 dg11=>?_⟩;have sm11:Same H H11:=st11.same sm10 hHd hfr;have er11:=st11 _ _ hrd (λx hx z=>(hfr x hx).2 z.symm) er10;have gd11:GoodG (shr g.1 gs):=gd.shr g.1;have hw11:sto (shr g.1 gs)=sto gs - g.1:=O4 _ dg.key hg hgne;have hfr11:∀ x∈shr g.1 gs,H x.2.1=none/\x.2.1≠r:=λx hx=>by
    obtain⟨y,hy,e⟩:=O5 hx;rw[e];exact hfr y hy
   obtain⟨hc1,hc2⟩:=GoodG.bound gd11;refine⟨_,rfl,_,_,rfl,rfl,_,rfl,?_⟩
   by_cases h1:1<g.1
   .have hd1:decide ((1:Int) < -p.2)=true:=by rw[hnn];exact aD2 h1
    show (if decide ((1:Int) < -p.2)=true then _ else _);rw[hd1,if_pos rfl];refine⟨_,rfl,_,rfl,_,_,rfl,rfl,_,rfl,_,_,rfl,rfl,d,shr g.1 gs,-p.2 - 1,p.1 - 1,rfl,dg11,by omega,λx hx=>by have:=hc2 x hx;omega,λgs' H12 st12 dg12 hputs=>?_⟩;rw[xH,hnn]at hputs;have hpu:sT H11 (g.1 - 1) (p.1 - 1 - 2 * les (bI (shr g.1 gs)) (g.1 - 1) - 2 * (g.1 - 1)) (shr g.1 gs) gs':=hputs;obtain⟨hTak,hAsc,hGood⟩:=sV dg.key gd ac hg hgne hplace hbest (.inr ⟨by omega,hpu⟩);have hw12:sto gs'=sto (shr g.1 gs)+(g.1 - 1):=i4 _ dg11.key hpu;have er12:=st12 _ _ hrd (λx hx z=>(hfr11 x hx).2 z.symm) er11;refine⟨m - 1,by omega,gs',row++[p.1],_,_,_,_,rfl,st12.same sm11 hHd hfr11,dg12,hGood,hAsc,er12,λx hx=>?_,by omega,by rw[aDP,List.length_singleton];omega,by rw[List.reverse_append];exact A7 hTak hpos fin⟩;rcases A3 hpu hx with ⟨y,hy,e⟩ | hz
    .rw[e];exact hfr11 y hy
    .exact⟨sm11.free hz,λe=>by rw[e,er11]at hz;cases hz⟩
   .have hd1:decide ((1:Int) < -p.2)=false:=by rw[hnn];exact aD1 h1
    show (if decide ((1:Int) < -p.2)=true then _ else _);rw[hd1,if_neg aDT];obtain⟨hTak,hAsc,hGood⟩:=sV (H:=H11) dg.key gd ac hg hgne hplace hbest (.inl ⟨by omega,rfl⟩);exact⟨m - 1,by omega,shr g.1 gs,row++[p.1],_,_,_,_,rfl,sm11,dg11,gd11,hAsc,er11,hfr11,by omega,by rw[aDP,List.length_singleton];omega,by rw[List.reverse_append];exact A7 hTak hpos fin⟩
abbrev yI:Stmt:=top 41
def aA3:FnScope ["walks","size"] ["walks","size"] (aJ yI):=⟨rfl,rfl,rfl,by decide +kernel,rfl,by decide +kernel,by decide +kernel⟩
def aA4 {f:Addr} {fd:FuncData} (F:Fun K "gain" "gain" yI f fd) (B:Bt mg):FnOk P w K mg base CX0 1 f fd ["walks","size"] xL:=by
 refine F.ok aA3 (λvs H Q E h=>?_) (λM A outer s H vs Q E hr h=>?_)
 .obtain⟨a,r,j,rfl,_⟩:=h;rfl
 .obtain⟨a,ws,j,rfl,⟨us,I,J⟩,hl,N,U,Y,k⟩:=h;have e:us.length=ws.length:=J.len;refine⟨_,(aK (aZ (aP (kG rfl) (by rfl) B.sum kF (aA (dH ["creel","count"] ["size"] [1] rfl (.of (show dB (aJ yI) _ ["walks","size"] [1] ["size"]=true by decide +kernel)) (dC (pv 0)) (λ_ _ _=>(jD (n:=2) K rfl rfl (aO (aM (i:=0) (show (["creel","count","size"]:List Str).Nodup by decide +kernel) rfl (Or.inl rfl)) (aO (aM (i:=1) (show (["creel","count","size"]:List Str).Nodup by decide +kernel) rfl (Or.inl rfl)) bW)))) (mK (cN (by decide) (cN (by decide) jC))) (λ_ _ _=>dE) (λ_ _ _=>(aL dN (pv 1) (aP (oW rfl) (by rfl) B.min rY (aA (pv 0) (aA (pv 2) aE)))))) aE)))),?_⟩;refine⟨_,rfl,a,rfl,⟨_,SqL.of I⟩,iQ (K:=K) (a:=a) (xs:=us) (λi ys z=>z=H/\ys=((ws.take i).map (sX j)).map V.int) ⟨rfl,rfl⟩ ?_ ?_ ?_⟩
  .rintro i ys z hi ⟨rfl,rfl⟩;exact⟨SqL.of I,by simp only[aDG,aDW];exact bC (by omega)⟩
  .rintro i x ys z hi ⟨rfl,rfl⟩;obtain⟨p,t',L,rfl,et⟩:=dI J hi;have h1:=N p (aDR L);refine⟨t',_,rfl,SqT.of et,rfl,_,_,rfl,_,_,rfl,rfl,_,rfl,_,rfl,_,rfl,_,_,rfl,_,_,rfl,rfl,.inr ⟨?_,?_⟩,rfl,sK (sX j) L⟩
   .split <;> omega
   .split <;> omega
  .rintro ys z ⟨rfl,rfl⟩ D hD;exact⟨D,ws.map (sX j),rfl,by rw[aB,e,aDU],k _ (Same.upd hD)⟩
abbrev rN:Stmt:=top 40
def r9:FnScope ["trains","walks"] ["trains","walks"] (aJ rN):=⟨rfl,rfl,rfl,by decide +kernel,rfl,by decide +kernel,by decide +kernel⟩
def u0 {f:Addr} {fd:FuncData} (F:Fun K "added" "added" rN f fd) (B:Bt mg) (F_look_trains:aU P w K mg base "look_trains" 1 ["trains"] nM) (F_look_walks:aU P w K mg base "look_walks" 2 ["walks"] rB) (F_gain:aU P w K mg base "gain" 1 ["walks","size"] xL):FnOk P w K mg base CX0 3 f fd ["trains","walks"] rC:=by
 refine F.ok r9 (λvs H Q E h=>?_) (λcdv A outer s H vs Q E hr h=>?_)
 .obtain⟨a,b,r,j,rfl,_⟩:=h;rfl
 .obtain⟨a,b,ps,ws,rfl,hps,ht,hws,hwl,hc,k⟩:=h;refine⟨_,(aF (aS (aW F_look_trains hr rfl (aA (pv 0) aE)))
 (aF (aS (aW F_look_walks hr rfl (aA (pv 1) aE)))
 (aK (aZ (aP nN (by rfl) B.sorted cT (aA (dH ["size","offset"] ["walks"] [1] rfl (.of (show dB (aJ rN) _ ["trains","walks"] [1] ["walks"]=true by decide +kernel)) (dC (pv 0)) (λ_ _ _=>(jD (n:=2) K rfl rfl (aO (aM (i:=0) (show (["size","offset","walks"]:List Str).Nodup by decide +kernel) rfl (Or.inl rfl)) (aO (aM (i:=1) (show (["size","offset","walks"]:List Str).Nodup by decide +kernel) rfl (Or.inl rfl)) bW)))) (mK (cN (by decide) (cN (by decide) jC))) (λ_ _ _=>dE) (λ_ _ _=>(cF (aA (pv 0) (aA (aL bF (pv 1) (aW F_gain hr rfl (aA (pv 2) (aA (pv 0) aE)))) aE))))) aE)))))),?_⟩
  refine⟨_,rfl,a,ps,rfl,hps,ht,λH1 g1=>?_⟩;have hws1:=hws.mono g1;refine⟨_,rfl,b,ws,rfl,hws1,hc,?_⟩;obtain⟨us,ha,pr⟩:=hps.mono g1;have e:us.length=ps.length:=pr.len;have hpl:=ht.len;refine⟨_,rfl,a,rfl,⟨_,SqL.of ha⟩,iQ (K:=K) (a:=a) (xs:=us) (λi ys H3=>Same H1 H3/\Prs H3 ys ((eN ps ws).take i)) ⟨Same.refl _,.nil⟩ ?_ ?_ ?_⟩
  .rintro i ys H3 hi ⟨g3,pr3⟩;refine⟨SqL.of (g3 _ _ ha),bC ?_⟩;rw[pr3.len];simp only[aDW,eN,aDG];omega
  .rintro i x ys H3 hi ⟨g3,pr3⟩;obtain⟨p,t',hp,rfl,et⟩:=dI pr hi;have hpm:=aDR hp;have h1:=ht.pos p hpm;have h2:=aB0 ht hpm;refine⟨t',_,rfl,SqT.of (g3 _ _ et),rfl,_,_,rfl,_,_,rfl,rfl,_,rfl,_,rfl,_,rfl,_,rfl,b,ws,p.1,rfl,hws1.mono g3,hwl,hc,by omega,by omega,λH4 g4=>?_⟩;refine⟨_,_,rfl,rfl,(show 2<=sizeLine by decide),λt ht'=>⟨g3.trans (g4.trans (Same.upd ht')),?_⟩⟩;have ei:(eN ps ws).take (i+1)=(eN ps ws).take i++[(p.1,p.2+cI ws p.1)]:=by
    rw[aDb];unfold eN;rw[aD4,hp];rfl
   rw[ei];exact Paired.append' (Prs.mono (TupS.same (g4.trans (Same.upd ht'))) pr3) (.cons ⟨t,rfl,aB⟩ .nil)
  .rintro ys H3 ⟨g3,pr3⟩ D hD;rw[e,show ps.length=(eN ps ws).length by simp[eN],aDU]at pr3;have gD:=Same.upd (o:=.lst ys) hD;refine⟨D,ys,eN ps ws,rfl,aB,Prs.mono (TupS.same gD) pr3,by simp[eN];omega,λl us' qs hl pr' hperm hs=>?_⟩;have gA:=(g1.trans g3).trans gD;exact k qs hperm hs l us' _ (gA.free hl) (Same.upd' (gA.free hl) gA) aB (Prs.mono (TupS.new hl) pr')
abbrev u4:Stmt:=top 42
def aBh:FnScope ["row","walks"] ["row","walks"] (aJ u4):=⟨rfl,rfl,rfl,by decide +kernel,rfl,by decide +kernel,by decide +kernel⟩
def aA5 {f:Addr} {fd:FuncData} (F:Fun K "far" "far" u4 f fd) (B:Bt mg) (z:aU P w K mg base "list_of" 4 ["row"] lT) (I:aU P w K mg base "added" 3 ["trains","walks"] rC) (D:aU P w K mg base "row_of" 3 ["trains"] nZ):FnOk P w K mg base CX0 5 f fd ["row","walks"] tF:=by
 refine F.ok aBh (λvs H Q E h=>?_) (λav A outer s H vs Q E M h=>?_)
 .obtain⟨a,b,row,ws,rfl,_⟩:=h;rfl
 .obtain⟨a,b,row,ws,rfl,ha,J,hb,U,hc,k⟩:=h;refine⟨_,(aK (aZ (aW D M rfl (aA (aW I M rfl (aA (aW z M rfl (aA (pv 0) aE)) (aA (pv 1) aE))) aE)))),?_⟩;refine⟨_,rfl,a,row,rfl,ha,J,λqs L aw l1 Y H1 hl1 g1 al am=>?_⟩;refine⟨_,rfl,l1,b,qs,ws,rfl,⟨Y,al,am⟩,L.trn J.len,hb.mono g1,U,hc,λrs N ax l2 ao H2 hl2 g2 ap aq=>?_⟩;have hT:=j6 (k9 (ws:=ws) (L.trn J.len)) N;refine⟨l2,rs,rfl,⟨ao,ap,aq⟩,hT,λr M l3 H3 ar g3 au=>?_⟩;have er:r=wso ws row:=(M.perm N).row (L.wso hc) (.refl _);subst er;exact k l3 H3 ((g1.trans g2).free ar) ((g1.trans g2).trans g3) au
abbrev tY:Stmt:=top 44
def V6:FnScope ["one","other","gap"] ["one","other","gap"] (aJ tY):=⟨rfl,rfl,rfl,by decide +kernel,rfl,by decide +kernel,by decide +kernel⟩
def aA6 {f:Addr} {fd:FuncData} {tC:Tok} (F:Fun K "behind" "behind" tY f fd) (B:Bt mg) (C:Cn mg tC) (F_look_row:aU P w K mg base "look_row" 1 ["row"] hX) (F_moved:aU P w K mg base "moved" 2 ["row","by"] oC):FnOk P w K mg base CX0 3 f fd ["one","other","gap"] yA:=by
 refine F.ok V6 (λvs H Q E h=>?_) (λcdv A outer s H vs Q E hr h=>?_)
 .obtain⟨a,b,r,r',g,rfl,_⟩:=h;rfl
 .obtain⟨a,b,one,other,gap,rfl,ha,hb,hw1,⟨e1,e2,hr2,hl,hg⟩,k⟩:=h;have hw2:Rw other:=⟨hr2,by omega⟩;refine⟨_,(aF (aS (aW F_look_row hr rfl (aA (pv 0) aE)))
 (aF (aS (aW F_look_row hr rfl (aA (pv 1) aE)))
 (aF (bU (PW.pt (W0 (wM (fK (pv 0) (λ_=>rfl))) (D7 (wM (fK (pv 1) (λ_=>rfl))))))
 (aK bR)
 bE)
 (aF (bU (aY mB (aL bF (aP aV (by rfl) B.len PySem.boot_len (aA (pv 0) aE)) (aP aV (by rfl) B.len PySem.boot_len (aA (pv 1) aE))) (fE (v:=.int 60) rfl C.MOST_STONES ⟨_,rfl⟩) (bD _))
 (aK bR)
 bE)
 (aF (bU (aY nB (pv 2) (aP aV (by rfl) B.len PySem.boot_len (aA (pv 1) aE)) (bD _))
 (aK bR)
 bE)
 (aK (aZ (aL oY (cL eI (by rfl) B.list gE (aA (pv 0) aE)) (aW F_moved hr rfl (aA (pv 1) (aA (aL eY (aL bF (aL bF (bH bM (pv 0) (lZ iE aI) (λ_ _=>rfl)) (pv 2)) aI) (bH cG (pv 1) aI (λ_ _=>rfl))) aE))))))))))),?_⟩
  refine⟨_,rfl,a,one,rfl,.inl ⟨trivial,ha⟩,hw1,?_⟩;refine⟨_,rfl,b,other,rfl,.inr hb,hw2,?_⟩;refine⟨_,rfl,true,.inl ⟨_,SqL.of ha,by cases one with | nil=>exact absurd rfl e1 | cons x r=>rfl⟩,?_⟩;refine⟨_,rfl,true,.inr (.inl ⟨_,SqT.of hb,by cases other with | nil=>exact absurd rfl e2 | cons x r=>rfl⟩),?_⟩;refine⟨_,rfl,a,_,rfl,.inl (SqL.of ha),_,rfl,b,_,rfl,.inr (SqT.of hb),_,_,rfl,rfl,_,_,rfl,rfl,_,rfl,eC (by rw[aDG,aDG];omega) ?_⟩;refine⟨_,rfl,_,rfl,b,_,rfl,.inr (SqT.of hb),_,_,rfl,rfl,_,rfl,eC (by rw[aDG];omega) ?_⟩;refine⟨_,rfl,a,_,rfl,.inl (SqL.of ha),λp hp=>?_⟩;have g1:=Same.upd (o:=.lst (one.map V.int)) hp;have ep:(upd H p (.lst (one.map V.int))) p=some (.lst (one.map V.int)):=aB;generalize upd H p (.lst (one.map V.int))=H1 at g1 ep ⊢;refine⟨_,rfl,_,rfl,_,rfl,a,_,_,_,rfl,rfl,SqL.of (g1 _ _ ha),aB4 e1,_,rfl,_,_,rfl,rfl,_,_,rfl,rfl,_,rfl,b,_,_,_,rfl,rfl,SqT.of (g1 _ _ hb),aB5 e2,_,_,rfl,rfl,b,other,_,rfl,g1 _ _ hb,hw2,λq H2 hq g2 eq=>?_⟩;refine⟨p,q,_,_,rfl,rfl,g2 _ _ ep,eq,cV (by rw[aDG,aDG,zM];omega),λl hl=>?_⟩;rw[<- aDV];have g12:=g1.trans g2;exact k l _ (g12.free hl) (g12.trans (Same.upd hl)) aB
abbrev cY:Stmt:=top 57
def bQ:FnScope ["rested","walks","row","creel","count","walk"] ["rested","walks"] (aJ cY):=⟨rfl,rfl,rfl,by decide +kernel,rfl,by decide +kernel,by decide +kernel⟩
def aBi {f:Addr} {fd:FuncData} {t1 t2 t3:Tok} (F:Fun K "row_behind_walks" "row_behind_walks" cY f fd) (B:Bt mg) (C3:Cn3 mg t1 t2 t3) (aq:aU P w K mg base "far" 5 ["row","walks"] tF) (L:aU P w K mg base "walked" 2 ["row","creel"] kL) (I:aU P w K mg base "walked_back" 3 ["row","creel"] xB):FnOk P w K mg base CX0 6 f fd ["rested","walks"] P6:=by
 refine F.ok bQ (λvs H Q E h=>?_) (λbz A outer s H vs Q E hr h=>?_)
 .obtain⟨t,d,r,ws,rfl,_⟩:=h;rfl
 .obtain⟨t,d,r,ws,rfl,ht,ar,hd,hw,k⟩:=h;have b_:=hw.few;have au:(kvW ws).length=ws.length:=by simp
  have av:∀ {i:Nat} {ky:Key} {x:V},(kvW ws)[i]?=some (ky,x)->∃ q,ws[i]?=some q/\ky=.inl q.1/\x=.int q.2:=λ{i ky x} e=>by
   rw[aD4]at e;obtain⟨q,h1,h2⟩:=aDg.mp e;cases h2;exact⟨q,h1,rfl,rfl⟩
  refine⟨_,(aF (bU (aY mB (aP (kG rfl) (by rfl) B.sum kF (aA (qY (dH ["count"] [] [] rfl (.of (show dB (aJ cY) _ ["rested","walks","row","creel","count","walk"] [] []=true by decide +kernel)) (vP (pv 1)) (λ_ _ _=>(aM (i:=0) (show (["count"]:List Str).Nodup by decide +kernel) rfl (Or.inl rfl))) (fT (by decide)) (λ_ _ _=>dE) (λ_ _ _=>(aP vR (by rfl) B.abs vQ (aA (pv 0) aE))))) aE)) (fE (v:=.int 10) rfl C3.FEW_WALKS ⟨_,rfl⟩) (bD _))
 (aK (aZ (aW aq hr rfl (aA (pv 0) (aA (xG rfl (by rfl) B.list (pv 1)) aE)))))
 bE)
 (aF (aQ (i:=2) bQ.nd rfl (Or.inl rfl) (cL eI (by rfl) B.list gE (aA (pv 0) aE)))
 (aF (O8 (cZ PassesOwn.never rfl (nR (pv 1)) (eW rfl (aO (aM (i:=3) bQ.nd rfl (Or.inl rfl)) (aO (aM (i:=4) bQ.nd rfl (Or.inl rfl)) bW)))
 (aK (cZ PassesOwn.never rfl (eX rfl B.range (aA (aP vR (by rfl) B.abs vQ (aA (pv 4) aE)) aE)) (aM (i:=5) bQ.nd rfl (Or.inl rfl))
 (aK (aQ (i:=2) bQ.nd rfl (Or.inl rfl) (wV (nA (aY mB (pv 4) aI (bD _)) (aW L hr rfl (aA (pv 2) (aA (pv 3) aE))) (aW I hr rfl (aA (pv 2) (aA (pv 3) aE)))))))))))
 (aK (aZ (pv 2)))))),?_⟩
  refine⟨d,kvW ws,hd,_,rfl,d,kvW ws,rfl,hd,λod=>?_⟩;have gd:SameD d H (upd H d (.frz od (.dK (kvW ws)))):=SameD.frz;have ed:(upd H d (.frz od (.dK (kvW ws)))) d=some (.frz od (.dK (kvW ws))):=aB;generalize upd H d (.frz od (.dK (kvW ws)))=H1 at gd ed ⊢;refine qD (d:=d) (od:=od) (kvs:=kvW ws) (λi ys J=>J=H1/\ys=((ws.take i).map (λq:Int×Int=>if q.2<0 then -q.2 else q.2)).map V.int) ⟨rfl,rfl⟩ ?_ ?_ ?_
  .rintro i ys J hi ⟨rfl,rfl⟩;exact⟨ed,by simp only[aDG,aDW];exact bC (by omega)⟩
  .rintro i ky x ys J hx ⟨rfl,rfl⟩;obtain⟨q,hq,rfl,rfl⟩:=av hx;refine⟨_,rfl,q.2,rfl,rfl,?_⟩;rw[aDb,hq];simp
  .rintro ys J ⟨rfl,rfl⟩ D hD;have aw:D≠d:=λz=>by rw[z,ed]at hD;cases hD
   refine⟨od,by rw[aG (Ne.symm aw)];exact ed,D,ws.map (λq:Int×Int=>if q.2<0 then -q.2 else q.2),rfl,by rw[aG aw,aB,au,aDU],?_⟩;have g4:Same H (upd (upd J D (.lst (((ws.take (kvW ws).length).map (λq:Int×Int=>if q.2<0 then -q.2 else q.2)).map V.int))) d (.dK (kvW ws))):=SameD.thaw hd (gd.then (Same.upd hD));generalize upd (upd J D (.lst (((ws.take (kvW ws).length).map (λq:Int×Int=>if q.2<0 then -q.2 else q.2)).map V.int))) d (.dK (kvW ws))=H4 at g4 ⊢;clear gd ed aw hD;refine⟨_,_,rfl,rfl,_,rfl,mL (λU=>?_) (λU=>?_)⟩
   .refine⟨_,rfl,_,rfl,d,kvW ws,rfl,g4 _ _ hd,λS Ts H5 hS Y eS bn hT=>?_⟩;have t5:=g4.trans Y;have bo:LP H5 S ws:=by
     refine⟨_,eS,?_⟩;refine wC (by rw[aDG,bn,au]) λj v q h1 h2=>?_;rw[aD4]at h1;obtain⟨T,h3,rfl⟩:=aDg.mp h1;obtain⟨ky,y,h4,h5⟩:=hT j T h3;obtain⟨q',h6,rfl,rfl⟩:=av h4;rw[h2]at h6;cases h6;exact⟨T,rfl,h5⟩
    exact⟨t,S,r,ws,rfl,ht.same t5,ar,bo,by omega,hw.crl,λl H6 hl g6 el=>k l H6 (t5.free hl) (t5.trans g6) el⟩
   .refine⟨_,rfl,t,_,rfl,(ht.same g4).sq,λl0 ax=>?_⟩;have Y:=Same.upd (o:=.lst (r.map V.int)) ax;have ba:(upd H4 l0 (.lst (r.map V.int))) l0=some (.lst (r.map V.int)):=aB;generalize upd H4 l0 (.lst (r.map V.int))=H5 at Y ba ⊢;have t5:=g4.trans Y;have al:H l0=none:=g4.free ax;clear g4 Y ax;refine⟨d,kvW ws,t5 _ _ hd,_,rfl,d,kvW ws,rfl,t5 _ _ hd,λod=>?_⟩;have gd:SameD d H (upd H5 d (.frz od (.dK (kvW ws)))):=λb o n e=>by rw[aG n];exact t5 _ _ e
    have ed:(upd H5 d (.frz od (.dK (kvW ws)))) d=some (.frz od (.dK (kvW ws))):=aB;have bq:l0≠d:=λe=>by rw[e,hd]at al;cases al
    have bb:(upd H5 d (.frz od (.dK (kvW ws)))) l0=some (.lst (r.map V.int)):=by rw[aG bq];exact ba
    generalize upd H5 d (.frz od (.dK (kvW ws)))=H6 at gd ed bb ⊢;refine T9 (d:=d) (od:=od) (kvs:=kvW ws) (λi σ J=>∃ (l:Addr) (v3 v4 v5:Option V),σ=[some (.ref t),some (.ref d),some (.ref l),v3,v4,v5]/\SameD d H J/\J d=some (.frz od (.dK (kvW ws)))/\H l=none/\J l=some (.lst ((wso (ws.take i) r).map V.int)))
     ⟨l0,none,none,none,rfl,gd,ed,al,bb⟩ (λi σ J _ ⟨_,_,_,_,_,_,e,_⟩=>e) ?_ ?_
    .rintro i ky x σ J t' hx ⟨l,v3,v4,v5,rfl,sm,e3,am,el⟩ br;obtain⟨q,hq,rfl,rfl⟩:=av hx;have bc:=aDR hq;have ay:=hw.crl q bc;have ca:=(aB9 q bc).1;have g7:=Same.upd (o:=.tup [V.int q.1,V.int q.2]) br;have et:(upd J t' (.tup [V.int q.1,V.int q.2])) t'=some (.tup [V.int q.1,V.int q.2]):=aB;show v0 _ _ _ _ _ (upd J t' (.tup [V.int q.1,V.int q.2])) _;generalize upd J t' (.tup [V.int q.1,V.int q.2])=H7 at g7 et ⊢;have bt:=sm.then g7;have e7:=g7 _ _ e3;have bf:=g7 _ _ el;obtain⟨N,az⟩:∃ N,N=wso (ws.take i) r:=⟨_,rfl⟩;have bu:Crl (ws.take i):=λx hx=>hw.crl x (List.mem_of_mem_take hx);have bv:Row N:=by rw[az];exact xW ar.row bu
     have bg:N.length<=60:=by rw[az,rE];exact ar.len
     have bh:=l6 hq r;rw[<- az]at bf bh;refine⟨t',_,rfl,SqT.of et,rfl,_,_,rfl,_,_,rfl,rfl,?_⟩;refine⟨_,rfl,q.2,rfl,_,rfl,by split <;> omega,by split <;> omega,dZ (lo:=0) (n:=(if q.2<0 then -q.2 else q.2).toNat) (λj σ H4=>∃ (l:Addr) (v5:Option V),σ=[some (.ref t),some (.ref d),some (.ref l),some (.int q.1),some (.int q.2),v5]/\SameD d H H4/\H4 d=some (.frz od (.dK (kvW ws)))/\H l=none/\H4 l=some (.lst ((wkn q j N).map V.int))) ⟨l,v5,rfl,bt,e7,am,bf⟩ ?_ ?_⟩
     .rintro j σ H4 hj ⟨l4,w5,rfl,M,e4,ap,ao⟩;have bi:Row (wkn q j N):=xU ay bv j;have bj:(wkn q j N).length<=60:=by rw[xV];exact bg
      have stp:wkn q (j+1) N=wk1 q (wkn q j N):=rfl;refine⟨λv H'=>∃ l5,v=V.ref l5/\SameD d H H'/\H' d=some (.frz od (.dK (kvW ws)))/\H l5=none/\H' l5=some (.lst ((wkn q (j+1) N).map V.int)),⟨_,rfl,_,_,rfl,rfl,_,rfl,mL (λU=>?_) (λU=>?_)⟩,?_⟩
      .exact⟨_,rfl,_,rfl,l4,wkn q j N,q.1,rfl,ao,bi,bj,ay,λl5 H5 a_ Y e5=>⟨l5,rfl,M.then Y,Y _ _ e4,M.free e4 a_,by rw[stp];unfold wk1;rw[if_pos U];exact e5⟩⟩
      .exact⟨_,rfl,_,rfl,l4,wkn q j N,q.1,rfl,ao,bi,bj,ay,λl5 H5 a_ Y e5=>⟨l5,rfl,M.then Y,Y _ _ e4,M.free e4 a_,by rw[stp];unfold wk1;rw[if_neg U];exact e5⟩⟩
      .rintro v H5 ⟨l5,rfl,bw,e5,bm,bx⟩;exact⟨l5,_,rfl,bw,e5,bm,bx⟩
     .rintro σ H4 ⟨l4,w5,rfl,M,e4,ap,ao⟩;have e:(if q.2<0 then -q.2 else q.2).toNat=q.2.natAbs:=by split <;> omega
      rw[e,<- bh]at ao;exact⟨l4,_,_,_,rfl,M,e4,ap,ao⟩
    .rintro σ J ⟨l,v3,v4,v5,rfl,sm,e3,am,el⟩;rw[au,aDU]at el;have nl:l≠d:=λe=>by rw[e,hd]at am;cases am
     exact⟨od,e3,_,rfl,k l _ am (SameD.thaw hd sm) (by rw[aG nl];exact el)⟩
abbrev pP:Stmt:=top 56
def tZ:FnScope ["course","row"] ["course"] (aJ pP):=⟨rfl,rfl,rfl,by decide +kernel,rfl,by decide +kernel,by decide +kernel⟩
def L5 {f:Addr} {fd:FuncData} (G:Hc K) (F:Fun K "row_now" "row_now" pP f fd) (B:Bt mg) (z:aU P w K mg base "row_behind_walks" 6 ["rested","walks"] P6) (D:aU P w K mg base "mirrored" 2 ["row"] gP):FnOk P w K mg base CX0 7 f fd ["course"] (kQ G):=by
 refine F.ok tZ (λvs H Q E h=>?_) (λY A outer s H vs Q E M h=>?_)
 .obtain⟨a,C,rfl,_⟩:=h;rfl
 .obtain⟨a,C,rfl,⟨dx,t,d,h1,h2,h3⟩,L,k⟩:=h;refine⟨_,(aF (aQ (i:=1) tZ.nd rfl (Or.inl rfl) (aW z M rfl (aA (bK (pv 0) rfl) (aA (bK (pv 0) rfl) aE))))
 (aK (aZ (wV (nA (fK (bK (pv 0) rfl) (λ_=>rfl)) (aW D M rfl (aA (pv 1) aE)) (pv 1)))))),?_⟩
  refine⟨_,rfl,a,_,dx,_,_,rfl,h1,G.cs,G.cRe,rfl,_,rfl,a,_,dx,_,_,rfl,h1,G.cs,G.cWa,rfl,t,d,C.rested,C.walks,rfl,h2,L.rw,h3,L.ws,λl H1 hl g1 N=>?_⟩;have hw:=L.wrw;refine⟨λv H'=>∃ I,v=.ref I/\H I=none/\Same H H'/\H' I=some (.lst (C.row.map V.int)),⟨_,rfl,a,_,dx,_,_,rfl,g1 _ _ h1,G.cs,G.cTu,rfl,C.turned,by first | rfl | exact .inl rfl | exact .inr rfl,?_⟩,?_⟩
  .cases U:C.turned with
   | true =>
    refine X7 ⟨_,rfl,l,_,rfl,N,hw.row,hw.len,λI H2 hl2 g2 J=>⟨I,rfl,g1.free hl2,g1.trans g2,?_⟩⟩;unfold Crs.row;rw[if_pos U];exact J
   | false =>
    refine zC ⟨_,rfl,l,rfl,hl,g1,?_⟩;unfold Crs.row;rw[if_neg (by rw[U];exact aDT)];exact N
  .rintro v H2 ⟨I,rfl,hl2,g2,J⟩;exact k I H2 hl2 g2 J
abbrev jO:Stmt:=top 59
def uK:FnScope ["row","place"] ["row","place"] (aJ jO):=⟨rfl,rfl,rfl,by decide +kernel,rfl,by decide +kernel,by decide +kernel⟩
def uL {f:Addr} {fd:FuncData} {tC:Tok} (F:Fun K "with_stone" "with_stone" jO f fd) (B:Bt mg) (C:Cn mg tC):FnOk P w K mg base CX0 1 f fd ["row","place"] hZ:=by
 refine F.ok uK (λvs H Q E h=>?_) (λN A outer s H vs Q E hr h=>?_)
 .obtain⟨a,row,p,rfl,_⟩:=h;rfl
 .obtain⟨a,row,p,rfl,z,D,⟨L,hl⟩,k⟩:=h;refine⟨_,(aF (bU (aY R0 (pv 1) (pv 0) (by with_unfolding_all rfl))
 (aK bR)
 bE)
 (aF (bU (aY M7 (aP aV (by rfl) B.len PySem.boot_len (aA (pv 0) aE)) (fE (v:=.int 60) rfl C.MOST_STONES ⟨_,rfl⟩) (bD _))
 (aK bR)
 bE)
 (aK (aZ (aP fW (by rfl) B.sorted cT (aA (aL oY (pv 0) (dA (aA (pv 1) aE))) aE)))))),?_⟩
  refine⟨_,rfl,_,rfl,a,_,rfl,.inl (SqL.of z),rfl,by simp[mE],_,rfl,?_⟩;rw[show (if false=true then !inV (V.int p) (row.map V.int)else inV (V.int p) (row.map V.int))=decide (p∈row) from zO _ _];refine eC L ?_;refine⟨_,rfl,a,_,rfl,.inl (SqL.of z),_,_,rfl,rfl,_,rfl,eC (by rw[aDG];omega) ?_⟩;refine⟨_,rfl,_,rfl,(show 1<=sizeLine by decide),λx U=>?_⟩;have g1:=Same.upd (o:=.lst [V.int p]) U;have ex:(upd H x (.lst [V.int p])) x=some (.lst [V.int p]):=aB;generalize upd H x (.lst [V.int p])=H1 at g1 ex ⊢;refine⟨a,x,_,_,rfl,rfl,g1 _ _ z,ex,cV (by rw[aDG,List.length_singleton];omega),λy Y=>?_⟩;have g2:=Same.upd (o:=.lst (row.map V.int++[V.int p])) Y;have M:(upd H1 y (.lst (row.map V.int++[V.int p]))) y=some (.lst ((row++[p]).map V.int)):=by rw[aB,aDV];rfl
  generalize upd H1 y (.lst (row.map V.int++[V.int p]))=H2 at g2 M ⊢;refine⟨y,row++[p],rfl,M,by rw[aDP,List.length_singleton];omega,λl ms hl2 I J=>?_⟩;have e:ms=xX row p:=iH (I.trans (pJ L).symm) J ((B1 D.row).imp λh=>Int.le_of_lt h);subst e;exact k l _ ((g1.trans g2).free hl2) ((g1.trans g2).trans (Same.upd hl2)) aB
abbrev dS:Stmt:=top 60
def pQ:FnScope ["row","place"] ["row","place"] (aJ dS):=⟨rfl,rfl,rfl,by decide +kernel,rfl,by decide +kernel,by decide +kernel⟩
def pR {f:Addr} {fd:FuncData} (F:Fun K "without_stone" "without_stone" dS f fd) (B:Bt mg):FnOk P w K mg base CX0 1 f fd ["row","place"] eO:=by
 refine F.ok pQ (λvs H Q E h=>?_) (λM A outer s H vs Q E U h=>?_)
 .obtain⟨a,row,p,rfl,_⟩:=h;rfl
 .obtain⟨a,row,p,rfl,I,J,N,k⟩:=h;have Y:=J.len;refine⟨_,(aF (bU (aY nE (pv 1) (pv 0) (by with_unfolding_all rfl))
 (aK bR)
 bE)
 (aK (aZ (dH ["stone"] ["place"] [1] rfl (.of (show dB (aJ dS) _ ["row","place"] [1] ["place"]=true by decide +kernel)) (dC (pv 0)) (λ_ _ _=>(aM (i:=0) (show (["stone","place"]:List Str).Nodup by decide +kernel) rfl (Or.inl rfl))) (fT (by decide)) (λ_ _ _=>wT (aY aBG (pv 0) (pv 1) (bD _))) (λ_ _ _=>(pv 0)))))),?_⟩
  refine⟨_,rfl,_,rfl,a,_,rfl,.inl (SqL.of I),rfl,by simp[mE],_,rfl,?_⟩;rw[show (if true=true then !inV (V.int p) (row.map V.int)else inV (V.int p) (row.map V.int))=!decide (p∈row)by rw[if_pos rfl,zO]];refine aAd N ?_;refine⟨_,rfl,a,rfl,⟨_,SqL.of I⟩,iQ (xs:=row.map V.int) (λi ys H2=>H2=H/\ys=((row.take i).filter (λx=>decide (x≠p))).map V.int) ⟨rfl,rfl⟩ ?_ ?_ ?_⟩
  .rintro i ys H2 hi ⟨rfl,rfl⟩;refine⟨SqL.of I,?_⟩;have:=List.length_filter_le (λx=>decide (x≠p)) (row.take i);rw[aDW]at this;rw[aDG];exact bC (by omega)
  .rintro i x ys H2 hi ⟨rfl,rfl⟩;obtain⟨z,rfl,hz⟩:=kJ hi;refine⟨_,rfl,_,rfl,_,_,rfl,rfl,_,rfl,?_⟩;dsimp only;rw[aDb,hz]
   by_cases c:z=p
   .rw[if_neg (by simp[c])];exact⟨rfl,by simp[c]⟩
   .rw[if_pos (by simp[c])];exact⟨_,rfl,rfl,by simp[c]⟩
  .rintro ys H2 ⟨rfl,rfl⟩ D L;refine k D _ L (Same.upd L) ?_;rw[aB,aDG,aDU];rfl
abbrev jP:Stmt:=top 58
def mH:FnScope ["row","entry","word"] ["row","entry"] (aJ jP):=⟨rfl,rfl,rfl,by decide +kernel,rfl,by decide +kernel,by decide +kernel⟩
def uM {f:Addr} {fd:FuncData} (F:Fun K "row_behind" "row_behind" jP f fd) (B:Bt mg) (D:aU P w K mg base "with_stone" 1 ["row","place"] hZ) (z:aU P w K mg base "without_stone" 1 ["row","place"] eO) (I:aU P w K mg base "behind" 3 ["one","other","gap"] yA):FnOk P w K mg base CX0 4 f fd ["row","entry"] iA:=by
 refine F.ok mH (λvs H Q E h=>?_) (λY A outer s H vs Q E L h=>?_)
 .obtain⟨a,v,row,e,rfl,_⟩:=h;rfl
 .obtain⟨a,v,row,e,rfl,M,J,N,hst,U,k⟩:=h;refine⟨_,(aF (aQ (i:=2) mH.nd rfl (Or.inl rfl) (bH cG (pv 1) aI (λ_ _=>rfl)))
 (aF (bU (aY M6 (pv 2) bO (bD _))
 (aK (aZ (aW D L rfl (aA (pv 0) (aA (bH cG (pv 1) aI (λ_ _=>rfl)) aE)))))
 bE)
 (aF (bU (aY M6 (pv 2) bO (bD _))
 (aK (aZ (aW z L rfl (aA (pv 0) (aA (bH cG (pv 1) aI (λ_ _=>rfl)) aE)))))
 bE)
 (aK (aZ (aW I L rfl (aA (pv 0) (aA (bH cG (pv 1) aI (λ_ _=>rfl)) (aA (bH cG (pv 1) aI (λ_ _=>rfl)) aE))))))))),?_⟩
  cases e with
  | walk c n=>exact hst.elim
  | mir=>exact hst.elim
  | put p =>
   obtain⟨t,rfl,ht⟩:=l9 N;refine⟨_,rfl,t,_,_,_,rfl,rfl,SqT.of ht,rfl,?_⟩;refine⟨_,rfl,rfl,_,rfl,N1 rfl ?_⟩;exact⟨_,rfl,_,rfl,t,_,_,_,rfl,rfl,SqT.of ht,rfl,a,row,p,rfl,M,J,U,k⟩
  | take p =>
   obtain⟨t,rfl,ht⟩:=P3 N;refine⟨_,rfl,t,_,_,_,rfl,rfl,SqT.of ht,rfl,?_⟩;refine⟨_,rfl,rfl,_,rfl,eC (by decide +kernel) ?_⟩;refine⟨_,rfl,rfl,_,rfl,N1 rfl ?_⟩;exact⟨_,rfl,_,rfl,t,_,_,_,rfl,rfl,SqT.of ht,rfl,a,row,p,rfl,M,J,U,k⟩
  | lay o g =>
   obtain⟨t,u,rfl,ht,hu⟩:=m4 N;refine⟨_,rfl,t,_,_,_,rfl,rfl,SqT.of ht,rfl,?_⟩;refine⟨_,rfl,rfl,_,rfl,eC (by decide +kernel) ?_⟩;refine⟨_,rfl,rfl,_,rfl,eC (by decide +kernel) ?_⟩;exact⟨_,rfl,_,rfl,t,_,_,_,rfl,rfl,SqT.of ht,rfl,_,rfl,t,_,_,_,rfl,rfl,SqT.of ht,rfl,a,u,row,o,g,rfl,M,hu,J,U,k⟩
abbrev mV:Stmt:=top 55
def qK:FnScope ["course","creel","count","useful"] ["course","creel","count"] (aJ mV):=⟨rfl,rfl,rfl,by decide +kernel,rfl,by decide +kernel,by decide +kernel⟩
def C7 {f:Addr} {fd:FuncData} {tC:Tok} (G:Hc K) (F:Fun K "add_walk" "add_walk" mV f fd) (B:Bt mg) (C:Cn mg tC) (F_look_creel:aU P w K mg base "look_creel" 1 ["creel"] dF):FnOk P w K mg base CX0 2 f fd ["course","creel","count"] (lU G):=by
 refine F.ok qK (λvs H Q E h=>?_) (λcdv A outer s H vs Q E hr h=>?_)
 .obtain⟨N,Hb,a,c,n,C,rfl,_⟩:=h;rfl
 .obtain⟨N,Hb,a,c,n,Cr,rfl,⟨sm,hba,dx,t,d,hbd,h1,h2,h3⟩,hc,hC,k⟩:=h;have hu1:=nF hr;refine⟨_,(aF (aS (aW F_look_creel hr rfl (aA (pv 1) aE)))
 (aF (aQ (i:=3) qK.nd rfl (Or.inl rfl) (aP (oW rfl) (by rfl) B.min rY (aA (pv 1) (aA (fE (v:=.int 60) rfl C.MOST_STONES ⟨_,rfl⟩) aE))))
 (aK (xE hu1 (bK (pv 0) rfl) (pv 3) (aL bF (Z8 hu1 (bK (pv 0) rfl) (pv 3) aI ⟨rfl,rfl,rfl,rfl⟩) (wV (nA (fK (bK (pv 0) rfl) (λ_=>rfl)) (lZ iE (pv 2)) (pv 2)))) rfl)))),?_⟩
  refine⟨_,rfl,c,rfl,hc,?_⟩;refine⟨_,rfl,_,_,rfl,?_⟩;have em:(if (60:Int)<c then 60 else c)=min c 60:=by split <;> omega
  rw[em];obtain⟨z,e1,e2⟩:=P1 (min c 60) (if Cr.turned=true then -n else n) hC.ws.nd;have hl:=hC.ws.few;refine⟨_,rfl,a,_,dx,_,_,rfl,h1,G.cs,G.cWa,rfl,d,rfl,.inl ⟨_,.inl h3⟩,_,rfl,_,DGet.k (k:=Sum.inl (min c 60)) h3,?_⟩;refine⟨λv H'=>v=.int (if Cr.turned=true then -n else n)/\H'=H,⟨_,rfl,a,_,dx,_,_,rfl,h1,G.cs,G.cTu,rfl,Cr.turned,by first | rfl | exact .inl rfl | exact .inr rfl,?_⟩,?_⟩
  .cases hT:Cr.turned with
   | true=>exact X7 ⟨_,rfl,_,rfl,rfl,rfl⟩
   | false=>exact zC ⟨_,rfl,rfl,rfl⟩
  .rintro v H' ⟨rfl,rfl⟩;refine⟨_,_,e1,rfl,_,rfl,a,_,dx,_,_,rfl,h1,G.cs,G.cWa,rfl,_,rfl,d,_,rfl,DPut.k (k:=Sum.inl (min c 60)) h3 (bC (by rw[aDG];omega)),?_⟩;rw[e2];have nad:a≠d:=bJ h1 h3 (by intro z;cases z);refine k _ ⟨sm.upd' hbd,hba,dx,t,d,hbd,by rw[aG nad];exact h1,?_,aB⟩ (λx hx=>by
    by_cases z:x=d
    .rw[z,aB]at hx;cases hx
    .rw[aG z]at hx;exact hx)
   rcases h2 with ⟨n1,h2⟩ | h2
   .exact .inl ⟨n1,by rw[aG (bJ h2 h3 (by intro z;cases z))];exact h2⟩
   .exact .inr (by rw[aG (bJ h2 h3 (by intro z;cases z))];exact h2)
abbrev yJ:Stmt:=top 54
def C8:FnScope ["course","entry","word"] ["course","entry"] (aJ yJ):=⟨rfl,rfl,rfl,by decide +kernel,rfl,by decide +kernel,by decide +kernel⟩
def u5 {f:Addr} {fd:FuncData} (G:Hc K) (F:Fun K "go_on" "go_on" yJ f fd) (B:Bt mg) (F_add_walk:aU P w K mg base "add_walk" 2 ["course","creel","count"] (lU G)) (F_row_behind:aU P w K mg base "row_behind" 4 ["row","entry"] iA) (F_row_now:aU P w K mg base "row_now" 7 ["course"] (kQ G)):FnOk P w K mg base CX0 8 f fd ["course","entry"] (tG G):=by
 refine F.ok C8 (λvs H Q E h=>?_) (λcdv A outer s H vs Q E hr h=>?_)
 .obtain⟨N,Hb,a,v,e,C,rfl,_⟩:=h;rfl
 .obtain⟨N,Hb,a,v,e,C,rfl,hN,hO,hv,hC,ho,k⟩:=h;have sm:Same Hb H:=hO.1;have hvH:=hv.mono (TupS.same sm);refine⟨_,(aF (aQ (i:=2) C8.nd rfl (Or.inl rfl) (bH cG (pv 1) aI (λ_ _=>rfl)))
 (aK (bU (aY M6 (pv 2) bO (bD _))
 (aK (aS (aW F_add_walk hr rfl (aA (pv 0) (aA (bH cG (pv 1) aI (λ_ _=>rfl)) (aA (bH cG (pv 1) aI (λ_ _=>rfl)) aE))))))
 (aK (bU (aY M6 (pv 2) bO (bD _))
 (aK (dW (pv 0) (aAq (bK (pv 0) rfl)) rfl))
 (aF (dW (pv 0) (aW F_row_behind hr rfl (aA (aW F_row_now hr rfl (aA (pv 0) aE)) (aA (pv 1) aE))) rfl)
 (aF (dW (pv 0) gS rfl)
 (aK (dW (pv 0) uW rfl))))))))),?_⟩
  by_cases hw:∃ c n,e=.walk c n
  .obtain⟨c,n,rfl⟩:=hw;obtain⟨t,rfl,ht⟩:=rH hvH;refine⟨_,rfl,t,_,_,_,rfl,rfl,SqT.of ht,rfl,?_⟩;refine⟨_,rfl,rfl,_,rfl,N1 rfl ?_⟩;refine⟨_,rfl,_,rfl,t,_,_,_,rfl,rfl,SqT.of ht,rfl,_,rfl,t,_,_,_,rfl,rfl,SqT.of ht,rfl,N,Hb,a,c,n,C,rfl,hO,ho,hC,λH' hO' hf=>?_⟩;exact k _ H' hO' (Crs.walk_ok hC ho n) (Crs.walk_row hC ho n) (λz=>z.elim) λx hx=>hN x (hf x hx)
  .by_cases hm:e=.mir
   .subst hm;obtain⟨t,rfl,ht⟩:=m3 hvH;obtain⟨_,hba,dx,tr,d,hbd,h1,h2,h3⟩:=hO;refine⟨_,rfl,t,_,_,_,rfl,rfl,SqT.of ht,rfl,?_⟩;refine⟨_,rfl,rfl,_,rfl,eC (by decide +kernel) ?_⟩;refine⟨_,rfl,rfl,_,rfl,N1 rfl ?_⟩;refine⟨_,rfl,a,_,dx,_,_,rfl,h1,G.cs,G.cTu,rfl,C.turned,rfl,_,rfl,a,_,dx,_,rfl,h1,G.cs,G.cTu,(show 3<1000 by decide),?_⟩;have nd:d≠a:=bJ h3 h1 (by intro z;cases z);refine k { C with turned:=!C.turned } _ ⟨sm.upd' hba,hba,dx,tr,d,hbd,aB,h2.out h1,by rw[aG nd];exact h3⟩ ⟨hC.rw,hC.ws⟩ (Crs.turn_row C) (λz=>z.elim) λx hx=>hN x ?_
    by_cases z:x=a
    .rw[z,aB]at hx;cases hx
    .rw[aG z]at hx;exact hx
   .have hs:e.still:=by
     cases e with
     | walk c n=>exact absurd ⟨c,n,rfl⟩ hw
     | mir=>exact absurd rfl hm
     | put p=>trivial
     | take p=>trivial
     | lay o g=>trivial
    obtain⟨w1,w2⟩:=K7 hs;obtain⟨t,xs,rfl,ht⟩:=P4 hvH;obtain⟨_,hba,dx,tr,d,hbd,h1,h2,h3⟩:=id hO;refine⟨_,rfl,t,_,_,_,rfl,rfl,SqT.of ht,at0,?_⟩;refine⟨_,rfl,rfl,_,rfl,eC w1 ?_⟩;refine⟨_,rfl,rfl,_,rfl,eC w2 ?_⟩;refine⟨_,rfl,a,C,rfl,⟨dx,tr,d,h1,h2.nt,h3⟩,hC,λl H1 hl g1 el=>?_⟩;refine⟨_,rfl,l,.ref t,C.row,e,rfl,el,hC.row,hvH.mono (TupS.same g1),hs,ho,λl2 H2 hl2 g2 el2=>?_⟩;have g12:=g1.trans g2;have nl2:l2≠a:=λz=>by rw[z,g1 _ _ h1]at hl2;cases hl2
    refine⟨_,rfl,a,_,dx,_,rfl,g12 _ _ h1,G.cs,G.cRe,(show 3<1000 by decide),?_⟩;refine λd2 hd2=>?_;have nd2:d2≠a:=λz=>by rw[z,aB]at hd2;cases hd2
    have hd2':H2 d2=none:=by rw[aG nd2]at hd2;exact hd2
    refine⟨_,rfl,a,_,dx,_,rfl,(aG (Ne.symm nd2)).trans aB,G.cs,G.cWa,(show 3<1000 by decide),?_⟩;refine⟨_,rfl,a,_,dx,_,rfl,aB,G.cs,G.cTu,(show 3<1000 by decide),?_⟩;have nld:l2≠d2:=λz=>by rw[z,hd2']at el2;cases el2
    have s2:=sm.trans g12;rw[gZ];refine k ⟨e.app C.row,[],false⟩ _ ⟨((s2.upd' hba).upd' (s2.free hd2')).upd' hba,hba,dx,l2,d2,s2.free hd2',aB,.inl ⟨hN l2 (g1.free hl2),by rw[aG nl2,aG nld,aG nl2];exact el2⟩,by rw[aG nd2,aB];rfl⟩ (Crs.new_ok (Ent.app_row hC.row ho)) rfl (λ_=>rfl) λx hx=>hN x ?_
    by_cases z:x=a
    .rw[z,aB]at hx;cases hx
    .rw[aG z]at hx
     by_cases z2:x=d2
     .rw[z2,aB]at hx;cases hx
     .rw[aG z2,aG z]at hx;exact g12.free hx
abbrev pS:Stmt:=top 53
def L6:FnScope ["rests","number","entry"] ["rests","number","entry"] (aJ pS):=⟨rfl,rfl,rfl,by decide +kernel,rfl,by decide +kernel,by decide +kernel⟩
def L7 {f:Addr} {fd:FuncData} {t1 t2 M:Tok} (F:Fun K "is_rest" "is_rest" pS f fd) (B:Bt mg) (N:Cn3 mg t1 t2 M):FnOk P w K mg base CX0 1 f fd ["rests","number","entry"] (kR (K:=K)):=by
 refine F.ok L6 (λvs H Q E h=>?_) (λU A outer s H vs Q E hr h=>?_)
 .obtain⟨r,t,n,v,u,Y,m,e,rfl,_⟩:=h;rfl
 .obtain⟨r,t,n,v,u,Y,m,e,rfl,hq,L,ht,hv,k⟩:=h;obtain⟨x,xs,rfl,hx⟩:=P4 hv;refine⟨_,(aK (aZ (wN (jB M7 (pv 1) (aL bF (bH cG (bH F8 (pv 0) (lZ iE aI) (λ_ _=>rfl)) aI (λ_ _=>rfl)) (fE (v:=.int 16) rfl N.REST_APART ⟨_,rfl⟩)) (bD _)) (D8 (jB nE (bH cG (pv 2) aI (λ_ _=>rfl)) (cF (aA bO (aA bO aE))) (by with_unfolding_all rfl)))))),?_⟩;have D:∀ I,I (V.ref t) H->rIx K (.ref r) (.int (-1)) H I:=λI q=>by
   rcases hq with hq | hq
   .exact .inl ⟨r,_,-1,_,rfl,rfl,hq,L,q⟩
   .exact .inr (.inl ⟨r,_,-1,_,rfl,rfl,hq,L,q⟩)
  refine⟨_,rfl,_,rfl,_,rfl,D _ ⟨t,_,_,_,rfl,rfl,SqT.of ht,rfl,_,_,rfl,rfl,_,_,rfl,rfl,_,rfl,?_⟩⟩;refine mL (λJ=>?_) (λJ=>?_)
  .refine⟨_,rfl,x,_,_,_,rfl,rfl,SqT.of hx,at0,(show 2<=sizeLine by decide),λy hy=>?_⟩;refine⟨y,_,rfl,.inr (SqT.of aB),rfl,rfl,?_⟩;exact k _ _ (λz=>⟨by omega,B7 z⟩) (Same.upd hy)
  .exact k false H (λz=>nomatch z) (Same.refl _)
abbrev mW:Stmt:=top 50
def C9:FnScope ["row"] ["row"] (aJ mW):=⟨rfl,rfl,rfl,by decide +kernel,rfl,by decide +kernel,by decide +kernel⟩
def D0 {f:Addr} {fd:FuncData} (G:Hc K) (F:Fun K "new_road" "new_road" mW f fd) (B:Bt mg) (D:iU P w K mg base "Road" G.Rd 1 ["self","entries","rests","course"] (jI G)) (z:iU P w K mg base "Course" G.Cs 1 ["self","rested","walks","turned"] (mR G)):FnOk P w K mg base CX0 3 f fd ["row"] (lV G):=by
 refine F.ok C9 (λvs H Q E h=>?_) (λap A outer s H vs Q E hr h=>?_)
 .obtain⟨N,t,row,rfl,_⟩:=h;rfl
 .obtain⟨N,t,row,rfl,ht,I,k⟩:=h;refine⟨_,(aK (aZ (mP D hr rfl (aA (cF aE) (aA (cF (aA (cF (aA aI (aA (cL dQ (by rfl) B.tuple gM (aA (pv 0) aE)) aE))) aE)) (aA (mP z hr rfl (aA (cL dQ (by rfl) B.tuple gM (aA (pv 0) aE)) (aA gS (aA uW aE)))) aE)))))),?_⟩;refine⟨(show 0<=sizeLine by decide),λe he=>?_⟩;have g1:=Same.upd (o:=.tup []) he;have ee:(upd H e (.tup [])) e=some (.tup []):=aB;generalize upd H e (.tup [])=H1 at g1 ee ⊢;refine⟨_,rfl,t,_,rfl,.inr ⟨SqT.of (g1 _ _ ht),(show 2<=sizeLine by decide),λx hx=>?_⟩⟩;have g2:=Same.upd (o:=.tup [V.int 0,V.ref t]) hx;have ex:(upd H1 x (.tup [V.int 0,V.ref t])) x=some (.tup [V.int 0,V.ref t]):=aB;generalize upd H1 x (.tup [V.int 0,V.ref t])=H2 at g2 ex ⊢;refine⟨(show 1<=sizeLine by decide),λr Y=>?_⟩;have g3:=Same.upd (o:=.tup [V.ref x]) Y;have er:(upd H2 r (.tup [V.ref x])) r=some (.tup [V.ref x]):=aB;generalize upd H2 r (.tup [V.ref x])=H3 at g3 er ⊢;have t3:=(g1.trans g2).trans g3;refine⟨_,rfl,t,_,rfl,.inr ⟨SqT.of (t3 _ _ ht),λd hd=>?_⟩⟩;have M:=Same.upd (o:=.dK []) hd;have ed:(upd H3 d (.dK [])) d=some (.dK []):=aB;generalize upd H3 d (.dK [])=H4 at M ed ⊢;refine λc dc hc al am=>m6 G hc al am λH5 U ec=>?_;refine λa dx ha ao J=>P5 G ha ao J λH6 L ea=>?_;have t6:=((t3.trans M).trans U).trans L;have s2:=((g3.trans M).trans U).trans L;refine k _ H6 t6 ⟨a,dx,e,r,c,_,_,[(0,row)],⟨row,[],false⟩,rfl,ea,(g2.trans s2) _ _ ee,.nil,((M.trans U).trans L) _ _ er,.cons ⟨x,t,rfl,s2 _ _ ex,.inr (t6 _ _ ht)⟩ .nil,⟨dc,t,d,L _ _ ec,.inr (t6 _ _ ht),(U.trans L) _ _ ed⟩,?_⟩;exact⟨I,rfl,λq hq=>by rw[aDc.mp hq];exact⟨Nat.le_refl _,.nil⟩,List.pairwise_singleton _ _,Crs.new_ok I,.nil,Nat.zero_le _⟩
abbrev jQ:Stmt:=top 51
def iK:FnScope ["road","entry","course","entries"] ["road","entry"] (aJ jQ):=⟨rfl,rfl,rfl,by decide +kernel,rfl,by decide +kernel,by decide +kernel⟩
def uN {f:Addr} {fd:FuncData} (G:Hc K) (F:Fun K "with_entry" "with_entry" jQ f fd) (B:Bt mg) (B6:Bt6 mg) (I:iU P w K mg base "Road" G.Rd 1 ["self","entries","rests","course"] (jI G)) (J:iU P w K mg base "Course" G.Cs 1 ["self","rested","walks","turned"] (mR G))
 (M:aU P w K mg base "go_on" 8 ["course","entry"] (tG G)) (D:aU P w K mg base "is_rest" 1 ["rests","number","entry"] (kR (K:=K))):FnOk P w K mg base CX0 9 f fd ["road","entry"] (iB G):=by
 refine F.ok iK (λvs H Q E h=>?_) (λcp A outer s H vs Q E hr h=>?_)
 .obtain⟨N,v,x,first,ents,r,e,rfl,_⟩:=h;rfl
 .obtain⟨N,v,x,first,ents,r,e,rfl,hN,⟨a,dx,en,re,c,us,qs,rests,C,rfl,ha,bt,az,aq,al,⟨dc,tr,d,h1,h2,h3⟩,hR⟩,hx,bu,ho,cm,k⟩:=h;have er:r=C.row:=bu.det hR.go;subst er;refine⟨_,(aF (aQ (i:=2) iK.nd rfl (Or.inl rfl) (mP J hr rfl (aA (bK (bK (pv 0) rfl) rfl) (aA (cL sR (by rfl) B6.dict PyProof.Rows.boot_dict (aA (bK (bK (pv 0) rfl) rfl) aE)) (aA (bK (bK (pv 0) rfl) rfl) aE)))))
 (aF (aS (aW M hr rfl (aA (pv 2) (aA (pv 1) aE))))
 (aF (aQ (i:=3) iK.nd rfl (Or.inl rfl) (aL lQ (bK (pv 0) rfl) (cF (aA (pv 1) aE))))
 (aF (bU (fK (aW D hr rfl (aA (bK (pv 0) rfl) (aA (aP aV (by rfl) B.len PySem.boot_len (aA (pv 3) aE)) (aA (pv 1) aE)))) (λ_=>rfl))
 (aK (aZ (mP I hr rfl (aA (pv 3) (aA (aL lQ (bK (pv 0) rfl) (cF (aA (cF (aA (aP aV (by rfl) B.len PySem.boot_len (aA (pv 3) aE)) (aA (bK (pv 2) rfl) aE))) aE))) (aA (pv 2) aE))))))
 bE)
 (aK (aZ (mP I hr rfl (aA (pv 3) (aA (bK (pv 0) rfl) (aA (pv 2) aE)))))))))),?_⟩
  refine⟨_,rfl,a,_,dx,_,_,rfl,ha,G.rd,G.rCo,rfl,c,_,dc,_,_,rfl,h1,G.cs,G.cRe,rfl,_,rfl,a,_,dx,_,_,rfl,ha,G.rd,G.rCo,rfl,c,_,dc,_,_,rfl,h1,G.cs,G.cWa,rfl,d,_,rfl,h3,λd2 a_=>?_⟩;have g1:=Same.upd (o:=.dK (kvW C.walks)) a_;have ba:(upd H d2 (.dK (kvW C.walks))) d2=some (.dK (kvW C.walks)):=aB;generalize upd H d2 (.dK (kvW C.walks))=H1 at g1 ba ⊢;refine⟨_,rfl,a,_,dx,_,_,rfl,g1 _ _ ha,G.rd,G.rCo,rfl,c,_,dc,_,_,rfl,g1 _ _ h1,G.cs,G.cTu,rfl,λc2 bv bb bc bf=>m6 G bb bc bf λH2 g2 bw=>?_⟩;have ar:=g1.trans g2;refine⟨_,rfl,_,rfl,N,H,c2,x,e,C,rfl,λt ht=>hN t (ar.free ht),⟨ar,g1.free bb,bv,tr,d2,a_,bw,h2.same ar,g2 _ _ ba⟩,hx,hR.cok,ho,λC' H3 hO bx bg bh cq=>?_⟩;have g3:Same H H3:=hO.1;obtain⟨_,cn,bi,L,d3,_,y1,y2,y3⟩:=id hO;have bz:=az.length;rw[aDG]at bz;refine⟨_,rfl,a,_,dx,_,_,rfl,g3 _ _ ha,G.rd,G.rEn,rfl,_,rfl,(show 1<=sizeLine by decide),λp hp=>?_⟩;have g4:=Same.upd (o:=.tup [x]) hp;have ep:(upd H3 p (.tup [x])) p=some (.tup [x]):=aB;generalize upd H3 p (.tup [x])=H4 at g4 ep ⊢;have t4:=g3.trans g4;refine⟨en,p,us,[x],rfl,rfl,t4 _ _ bt,ep,cV (by rw[List.length_singleton];omega),λam H5 g5 ao=>?_⟩;have t5:=t4.trans g5;have D5:DTs H5 (us++[x]) ((ents++[e]).map Ent.data):=by
   rw[aDV];exact(az.mono (TupS.same t5)).append (.cons (hx.mono (TupS.same t5)) .nil)
  have ap:∀ H',Same H3 H'->CrsAt G N H' c2 C':=λH' g=>⟨bi,L,d3,g _ _ y1,y2.same g,g _ _ y3⟩;have bj:Go first (ents++[e]) C'.row:=by rw[bg];exact hR.go.snoc ho
  have b_:=al.length;have cr:rests.length<=ents.length+1:=hR.few;have bm:RoadOk first (ents++[e]) rests C':=hR.more bx bj (by rw[aDP,List.length_singleton];omega)
  obtain⟨lq,bn,cu⟩:∃ lq,rests[rests.length - 1]?=some lq/\lq∈rests:=by
   have h0:=(aDh.mp hR.hd).1;exact⟨rests[rests.length - 1],by simp,List.getElem_mem _⟩
  obtain⟨lv,ca,lt,lu,rfl,elt,cv⟩:=fP al bn;have cb:atI qs (-1)=some (.ref lt):=yB (by rw[b_];exact ca);refine⟨_,rfl,a,_,dx,_,_,rfl,t5 _ _ ha,G.rd,G.rRe,rfl,_,rfl,am,_,rfl,.inr (SqT.of ao),_,rfl,re,lt,(us++[x]).length,x,_,qs,lq.1,e,rfl,.inr (SqT.of (t5 _ _ aq)),cb,t5 _ _ elt,hx.mono (TupS.same t5),λb H6 hb g6=>?_⟩;have t6:=t5.trans g6;have q6:=(g4.trans g5).trans g6;refine⟨b,by first | rfl | exact .inl rfl | exact .inr rfl,?_⟩;cases b with
  | true =>
   refine X7 ?_;refine⟨_,rfl,_,rfl,a,_,dx,_,_,rfl,t6 _ _ ha,G.rd,G.rRe,rfl,_,rfl,am,_,rfl,.inr (SqT.of (g6 _ _ ao)),_,rfl,c2,_,bi,_,_,rfl,q6 _ _ y1,G.cs,G.cRe,rfl,(show 2<=sizeLine by decide),λp2 ce=>?_⟩;have g7:=Same.upd (o:=.tup [V.int ((us++[x]).length:Int),V.ref L]) ce;have bo:(upd H6 p2 (.tup [V.int ((us++[x]).length:Int),V.ref L])) p2=some (.tup [V.int ((us++[x]).length:Int),V.ref L]):=aB;generalize upd H6 p2 (.tup [V.int ((us++[x]).length:Int),V.ref L])=H7 at g7 bo ⊢;refine⟨(show 1<=sizeLine by decide),λp3 cf=>?_⟩;have g8:=Same.upd (o:=.tup [V.ref p2]) cf;have bq:(upd H7 p3 (.tup [V.ref p2])) p3=some (.tup [V.ref p2]):=aB;generalize upd H7 p3 (.tup [V.ref p2])=H8 at g8 bq ⊢;have t8:=(t6.trans g7).trans g8;refine⟨re,p3,qs,[V.ref p2],rfl,rfl,t8 _ _ aq,bq,cV (by rw[List.length_singleton];omega),λcg H9 g9 ci=>?_⟩;refine⟨_,rfl,λx2 au av U aw=>P5 G av U aw λcj ax ay=>?_⟩;have Y:=((g7.trans g8).trans g9).trans ax;have br:=t6.trans Y;have hlen:(us++[x]).length=(ents++[e]).length:=by rw[aDP,aDP];simp;omega
   refine k _ cj br ⟨x2,au,am,cg,c2,_,_,rests++[((us++[x]).length,C'.rested)],C',rfl,ay,(g6.trans Y) _ _ ao,D5.mono (TupS.same (g6.trans Y)),ax _ _ ci,Paired.append' (Paired.mapP al λ_ _ z=>z.kp (Kp.same (G:=G) br)) (.cons ⟨p2,L,rfl,((g8.trans g9).trans ax) _ _ bo,y2.same (q6.trans Y)⟩ .nil),ap _ (q6.trans Y),?_⟩;obtain⟨cw,ck⟩:=hb rfl;exact bm.rest hlen (bh ck) bn (by omega)
  | false =>
   refine zC ?_;refine⟨_,rfl,_,rfl,a,_,dx,_,_,rfl,t6 _ _ ha,G.rd,G.rRe,rfl,_,rfl,λx2 au av U aw=>P5 G av U aw λH7 g7 ay=>?_⟩;have t7:=t6.trans g7;exact k _ H7 t7 ⟨x2,au,am,re,c2,_,_,rests,C',rfl,ay,(g6.trans g7) _ _ ao,D5.mono (TupS.same (g6.trans g7)),t7 _ _ aq,Paired.mapP al λ_ _ z=>z.kp (Kp.same (G:=G) t7),ap _ (q6.trans g7),bm⟩
abbrev jR:Stmt:=top 52
def eE:FnScope ["road","at","entries","rests","start","rested","course","number"] ["road","at","entries"] (aJ jR):=⟨rfl,rfl,rfl,by decide +kernel,rfl,by decide +kernel,by decide +kernel⟩
def D1 {f:Addr} {fd:FuncData} (G:Hc K) (F:Fun K "with_log" "with_log" jR f fd) (B:Bt mg) (av:iU P w K mg base "Road" G.Rd 1 ["self","entries","rests","course"] (jI G)) (U:iU P w K mg base "Course" G.Cs 1 ["self","rested","walks","turned"] (mR G))
 (al:aU P w K mg base "go_on" 8 ["course","entry"] (tG G)) (M:aU P w K mg base "is_rest" 1 ["rests","number","entry"] (kR (K:=K))):FnOk P w K mg base CX0 9 f fd ["road","at","entries"] (iY G):=by
 refine F.ok eE (λvs H Q E h=>?_) (λfm A outer s H vs Q E hr h=>?_)
 .obtain⟨N,v,k,x,us,first,ents,es,r,rfl,_⟩:=h;rfl
 .obtain⟨N,v,k,x,us,first,ents,es,r,rfl,hN,⟨a,dx,en,re,c,fq,qs,rests,C,rfl,ha,ft,fi,bn,bo,fu,hR⟩,hx,bb,cw,cx,cy,cz,ax,kk⟩:=h;have c_:=hR.lim;have fj:=hR.few;have da:=bo.length;have bq:=bb.length;rw[aDG]at bq;refine⟨_,(aF (N0 (i:=3) ["number","row"] ["at"] [1] rfl eE.nd rfl rfl (.of (show dB (aJ jR) _ ["road","at","entries","rests","start","rested","course","number"] [1] ["at"]=true by decide +kernel)) (E3 (bK (pv 0) rfl)) (λ_ _ _=>(jD (n:=2) K rfl rfl (aO (aM (i:=0) (show (["number","row","at"]:List Str).Nodup by decide +kernel) rfl (Or.inl rfl)) (aO (aM (i:=1) (show (["number","row","at"]:List Str).Nodup by decide +kernel) rfl (Or.inl rfl)) bW)))) (mK (cN (by decide) (cN (by decide) jC))) (λ_ _ _=>wT (aY W6 (pv 0) (pv 2) (bD _))) (λ_ _ _=>(cF (aA (pv 0) (aA (pv 1) aE)))) (by first | rfl | decide +kernel))
 (aF (oU (bH bM (pv 3) (lZ iE aI) (λ_ _=>rfl)) (eW rfl (aO (aM (i:=4) eE.nd rfl (Or.inl rfl)) (aO (aM (i:=5) eE.nd rfl (Or.inl rfl)) bW))))
 (aF (aQ (i:=6) eE.nd rfl (Or.inl rfl) (mP U hr rfl (aA (pv 5) (aA gS (aA uW aE)))))
 (aF (cZ PassesOwn.never rfl (uZ rfl B.range (aA (pv 4) (aA (aP aV (by rfl) B.len PySem.boot_len (aA (pv 2) aE)) aE))) (aM (i:=7) eE.nd rfl (Or.inl rfl))
 (aF (aAQ (λ_ _ z=>z) (aW al hr rfl (aA (pv 6) (aA (bH cG (pv 2) (pv 7) (λ_ _=>rfl)) aE))))
 (aK (bU (fK (aW M hr rfl (aA (pv 3) (aA (aL bF (pv 7) aI) (aA (bH cG (pv 2) (pv 7) (λ_ _=>rfl)) aE)))) (λ_=>rfl))
 (aK (aS (iP aDd aDe aDf cC (pv 3) (aA (cF (aA (aL bF (pv 7) aI) (aA (bK (pv 6) rfl) aE))) aE))))
 bE))))
 (aK (aZ (mP av hr rfl (aA (pv 2) (aA (cL dQ (by rfl) B.tuple gM (aA (pv 3) aE)) (aA (pv 6) aE)))))))))),?_⟩
  refine⟨_,rfl,a,_,dx,_,_,rfl,ha,G.rd,G.rRe,rfl,re,rfl,⟨_,SqT.of bn⟩,B5 (K:=K) (a:=re) (xs:=qs) (λi ys H2=>Same H H2/\Paired (RestAt N H2) ys ((rests.take i).filter λq=>decide (q.1<=k))) ⟨Same.refl _,.nil⟩ ?_ ?_ ?_⟩
  .rintro i ys H2 hi ⟨g,pr⟩;refine⟨SqT.of (g _ _ bn),?_⟩;have:=pr.length;have h2:=List.length_filter_le (λq:Nat×List Int=>decide (q.1<=k)) (rests.take i);rw[aDW]at h2;exact bC (by omega)
  .rintro i y ys H2 hi ⟨g,pr⟩;obtain⟨q,hq⟩:∃ q,rests[i]?=some q:=⟨rests[i]'(by have:=(aDh.mp hi).1;omega),by simp⟩;obtain⟨y',br,t,u,rfl,et,eu⟩:=fP bo hq;rw[hi]at br;cases br;refine⟨t,_,rfl,SqT.of (g _ _ et),rfl,_,_,rfl,_,_,rfl,rfl,_,rfl,_,rfl,_,_,rfl,rfl,_,rfl,?_⟩;dsimp only;rw[aDb,hq]
   by_cases hc:q.1<=k
   .rw[if_pos (by simpa using hc)];refine⟨_,rfl,_,rfl,(show 2<=sizeLine by decide),λp hp=>⟨g.trans (Same.upd hp),?_⟩⟩;rw[List.filter_append];refine Paired.append' (Paired.mapP pr λ_ _ z=>z.same (Same.upd hp)) ?_;show Paired _ _ ([q].filter λq=>decide (q.1<=k));rw[List.filter_cons_of_pos (by simpa using hc)];exact .cons ⟨p,u,rfl,aB,eu.same (g.trans (Same.upd hp))⟩ .nil
   .rw[if_neg (by simpa using hc)];refine⟨g,?_⟩;rw[List.filter_append];show Paired _ _ (_++([q].filter λq=>decide (q.1<=k)));rw[List.filter_cons_of_neg (by simpa using hc)];rw[List.filter_nil,List.append_nil];exact pr
  .rintro ys H2 ⟨g2,pr⟩ D hD;rw[da,aDU]at pr;have fw:H D=none:=g2.free hD;obtain⟨L,bt,fz,bu⟩:=hR.cut cw cx cy ax;generalize (rests.filter λq=>decide (q.1<=k))=fl at pr bt bu;have g3:=Same.upd (o:=.lst ys) hD;have eD:(upd H2 D (.lst ys)) D=some (.lst ys):=aB;generalize upd H2 D (.lst ys)=H3 at g3 eD ⊢;have pl:=pr.length;obtain⟨lv,db,lt,lu,rfl,elt,de⟩:=fP pr bt;have df:atI ys (-1)=some (.ref lt):=yB (by rw[pl];exact db);refine⟨_,rfl,_,rfl,D,_,_,_,rfl,rfl,SqL.of eD,df,lt,_,rfl,SqT.of (g3 _ _ elt),rfl,_,_,rfl,_,_,rfl,rfl,?_⟩;refine⟨_,rfl,λd hd=>?_⟩;have g4:=Same.upd (o:=.dK []) hd;have ed:(upd H3 d (.dK [])) d=some (.dK []):=aB;generalize upd H3 d (.dK [])=H4 at g4 ed ⊢;refine λc2 dh bv bw bx=>m6 G bv bw bx λH5 g5 di=>?_;have bc:=(g3.trans g4).trans g5;have t5:=g2.trans bc;have am:Same H2 (wo [c2,d,D] H5):=m7 bc λy hy=>by
    rcases aDi.mp hy with e | hy
    .rw[e];exact(g3.trans g4).free bv
    .rcases aDi.mp hy with e | hy
     .rw[e];exact g3.free hd
     .rw[aDc.mp hy];exact hD
   have dj:∀ t,H5 t=none->N t/\t≠D:=λt ht=>⟨hN t (t5.free ht),λz=>by rw[z,(g4.trans g5) _ _ eD]at ht;cases ht⟩;have bz:∀ t xs,N t->H2 t=some (.lst xs)->N t/\t≠D:=λt xs hn ht=>⟨hn,λz=>by rw[z,hD]at ht;cases ht⟩;refine⟨_,rfl,_,rfl,x,_,rfl,.inr (SqT.of (t5 _ _ hx)),_,_,rfl,⟨by omega,by omega,by omega,by rw[bq];omega⟩,dZ (lo:=(L.1:Int)) (λi σ H'=>∃ (Hb:Hp) (C':Crs) (rs:List (Nat×List Int)) (zs:List V) (v7:Option V),σ=[some (.ref a),some (.int k),some (.ref x),some (.ref D),some (.int L.1),some (.ref lu),some (.ref c2),v7]/\Same H Hb/\Hb D=none/\COwn G (λt=>N t/\t≠D) Hb H' c2 C'/\H' D=some (.lst zs)/\Paired (RestAt (λt=>N t/\t≠D) Hb) zs rs/\RoadOk first (es.take (L.1+i)) rs C'/\∀ t,H' t=none->N t/\t≠D)
    ⟨wo [c2,d,D] H5,⟨L.2,[],false⟩,fl,ys,none,rfl,g2.trans am,kS (by simp),⟨yC,kS (by simp),dh,lu,d,kS (by simp),di,(de.imp bz).same bc,g5 _ _ ed⟩,(g4.trans g5) _ _ eD,Paired.mapP pr λ_ _ z=>(z.imp bz).same am,bu,dj⟩ ?_ ?_⟩
   .rintro i σ H' hi ⟨Hb,C',rs,zs,v7,rfl,sH,aw,hO,ao,Y,I,ay⟩;have dm:L.1+i<es.length:=by omega
    obtain⟨e,he⟩:∃ e,es[L.1+i]?=some e:=⟨es[L.1+i],by simp[dm]⟩;obtain⟨v,hv,b_⟩:=bb.get (i:=L.1+i) (d:=e.data) (by rw[aD4,he];rfl);have az:atI us ((L.1:Int)+(i:Int))=some v:=by rw[<- Int.natCast_add];exact nC hv
    obtain⟨r',dn,hok,dq⟩:=cz.at he;have er:=dn.det I.go;subst er;have sb:Same Hb H':=hO.1;obtain⟨_,dr,dc,tr,d',dt,y1,y2,y3⟩:=id hO;have du:c2≠D:=bJ y1 ao (by intro z;cases z);have dv:d'≠D:=bJ y3 ao (by intro z;cases z);have s1:Same Hb (upd Hb D (.lst zs)):=Same.upd aw;have dw:COwn G (λt=>N t/\t≠D) (upd Hb D (.lst zs)) H' c2 C':=⟨λb o h=>by
     by_cases z:b=D
     .subst z;rw[aB]at h;cases h;exact ao
     .rw[aG z]at h;exact sb _ _ h,by rw[aG du];exact dr,dc,tr,d',by rw[aG dv];exact dt,y1,y2,y3⟩
    have tH:=sH.trans sb;refine⟨_,rfl,_,rfl,_,rfl,x,_,_,_,rfl,rfl,SqT.of (tH _ _ hx),az,_,_,c2,v,e,C',rfl,ay,dw,b_.mono (TupS.same (sH.trans s1)),I.cok,hok,λC6 H6 ca dz bf cb d_=>?_⟩;have s6:Same (upd Hb D (.lst zs)) H6:=ca.1;have bg:H6 D=some (.lst zs):=s6 _ _ aB;have ce:=s1.trans s6;have t6:=sH.trans ce;have zl:=Y.length;obtain⟨bh,a_⟩:∃ bh,rs[rs.length - 1]?=some bh:=⟨rs[rs.length - 1]'(by have:=(aDh.mp I.hd).1;omega),by simp⟩;obtain⟨_,cf,cg,f_,rfl,ci,fk⟩:=fP Y a_;have cj:atI zs (-1)=some (.ref cg):=yB (by rw[zl];exact cf);refine⟨_,rfl,_,rfl,_,_,rfl,rfl,_,rfl,_,rfl,x,_,_,_,rfl,rfl,SqT.of (t6 _ _ hx),az,D,cg,L.1+i+1,v,_,zs,bh.1,e,rfl,.inl (SqL.of bg),cj,ce _ _ ci,b_.mono (TupS.same t6),λb H7 hb g7=>?_⟩;have ap:RoadOk first (es.take (L.1+i+1)) rs C6:=I.step he dz (by rw[bf];exact dq) ax
    have bi:=ca.same g7;have ck:∀ t,H7 t=none->N t/\t≠D:=λt ht=>d_ t (g7.free ht);refine⟨b,by first | rfl | exact .inl rfl | exact .inr rfl,?_⟩;cases b with
    | false=>exact zC ⟨Hb,C6,rs,zs,_,rfl,sH,aw,bi.weak s1,g7 _ _ bg,Y,ap,ck⟩
    | true =>
     refine X7 ?_;obtain⟨ga,ef⟩:=hb rfl;obtain⟨_,cm,cn,J,d7,cp,y1,y2,y3⟩:=id bi;have bj:=g7 _ _ bg;have bm:=ap.few;rw[aDW]at bm;refine⟨_,rfl,.inl ⟨rfl,_,SqL.of bj⟩,_,rfl,_,_,rfl,rfl,_,rfl,c2,_,cn,_,_,rfl,y1,G.cs,G.cRe,rfl,(show 2<=sizeLine by decide),λp hp=>?_⟩;have g8:=Same.upd (o:=.tup [V.int ((L.1:Int)+(i:Int)+1),V.ref J]) hp;have ep:(upd H7 p (.tup [V.int ((L.1:Int)+(i:Int)+1),V.ref J])) p=some (.tup [V.int ((L.1+i+1:Nat):Int),V.ref J]):=aB;generalize upd H7 p (.tup [V.int ((L.1:Int)+(i:Int)+1),V.ref J])=H8 at g8 ep ⊢;refine⟨D,_,_,rfl,rfl,g8 _ _ bj,bC (by omega),?_⟩;have aq:=g8 _ _ bj;have ar:=g8 _ _ y1;have cq:=y2.same g8;have au:=g8 _ _ y3;have nc:c2≠D:=bJ ar aq (by intro z;cases z);have nd:d7≠D:=bJ au aq (by intro z;cases z);have eh:p≠c2:=bJ ep ar (by intro z;cases z);have ej:p≠d7:=bJ ep au (by intro z;cases z);have ek:p≠D:=bJ ep aq (by intro z;cases z);have e_:Same Hb H8:=(s1.trans bi.1).trans g8;have cr:Same Hb (wo [c2,d7,D] H8):=m7 e_ λy hy=>by
      rcases aDi.mp hy with e | hy
      .rw[e];exact s1.free cm
      .rcases aDi.mp hy with e | hy
       .rw[e];exact s1.free cp
       .rw[aDc.mp hy];exact aw
     have out:∀ y:Addr,y≠c2->y≠d7->y≠D->wo [c2,d7,D] H8 y=H8 y:=λy a1 a2 a3=>tI (by simp[a1,a2,a3]);have fb:RowA (λt=>N t/\t≠D) (wo [c2,d7,D] H8) J C6.rested:=by
      rcases cq with ⟨n1,h⟩ | h
      .exact .inl ⟨n1,by rw[out J (bJ h ar (by intro z;cases z)) (bJ h au (by intro z;cases z)) n1.2];exact h⟩
      .exact .inr (by rw[out J (bJ h ar (by intro z;cases z)) (bJ h au (by intro z;cases z)) (bJ h aq (by intro z;cases z))];exact h)
     refine⟨wo [c2,d7,D] H8,C6,rs++[(L.1+i+1,C6.rested)],zs++[.ref p],_,rfl,sH.trans cr,kS (by simp),⟨yC.upd' (kS (by simp)),kS (by simp),cn,J,d7,kS (by simp),by rw[aG nc];exact ar,?_,by rw[aG nd];exact au⟩,aB,?_,?_,λt ht=>?_⟩
     .rcases cq with ⟨n1,h⟩ | h
      .exact .inl ⟨n1,by rw[aG n1.2];exact h⟩
      .exact .inr (by rw[aG (bJ h aq (by intro z;cases z))];exact h)
     .exact Paired.append' (Paired.mapP Y λ_ _ z=>z.same cr) (.cons ⟨p,J,rfl,by rw[out p eh ej ek];exact ep,fb⟩ .nil)
     .exact ap.rest (by rw[aDW];omega) (cb ef) a_ (by omega)
     .by_cases z:t=D
      .rw[z,aB]at ht;cases ht
      .rw[aG z]at ht;exact ck t (g8.free ht)
   .rintro σ H' ⟨Hb,C',rs,zs,v7,rfl,sH,aw,hO,ao,Y,I,ay⟩;have en:L.1+((us.length:Int) - (L.1:Int)).toNat=es.length:=by omega
    rw[en,aDU]at I;have sb:Same Hb H':=hO.1;refine⟨_,rfl,_,rfl,D,_,rfl,.inl ⟨SqL.of ao,λtp fc=>?_⟩⟩;have g7:=Same.upd (o:=.tup zs) fc;have cu:(upd H' tp (.tup zs)) tp=some (.tup zs):=aB;generalize upd H' tp (.tup zs)=H7 at g7 cu ⊢;refine⟨_,rfl,λx2 fe ff cv fg=>P5 G ff cv fg λH8 g8 fh=>?_⟩;have s8:=(sb.trans g7).trans g8;have t8:=sH.trans s8;have ba:∀ (Hx:Hp) t xs,(N t/\t≠D)->Hx t=some (.lst xs)->N t:=λ_ _ _ h _=>h.1;exact kk _ H8 t8 ⟨x2,fe,x,tp,c2,us,zs,rs,C',rfl,fh,t8 _ _ hx,bb.mono (TupS.same t8),g8 _ _ cu,Paired.mapP Y λ_ _ z=>(z.same s8).imp (ba _),((hO.same (g7.trans g8)).at).imp (ba _),I⟩
abbrev fZ:Stmt:=top 65
def uO:FnScope ["text","signs","most"] ["text","signs","most"] (aJ fZ):=⟨rfl,rfl,rfl,by decide +kernel,rfl,by decide +kernel,by decide +kernel⟩
def aA7 {f:Addr} {fd:FuncData} (F:Fun K "is_made_of" "is_made_of" fZ f fd) (B:Bt mg):FnOk P w K mg base CX0 1 f fd ["text","signs","most"] xY:=by
 refine F.ok uO (λvs H Q E h=>?_) (λY A outer s H vs Q E hr h=>?_)
 .obtain⟨t,I,m,rfl,_⟩:=h;rfl
 .obtain⟨t,I,m,rfl,ht,k⟩:=h;have hu:=hr.units;refine⟨_,(aK (aZ (wN (jB (wU hu) (pv 0) bO (bD _)) (wN (jB W6 (aP wR (by rfl) B.len PySem.boot_len (aA (pv 0) aE)) (pv 2) (bD _)) (D8 (aP (X9 rfl) (by rfl) B.all Y2 (aA (dH ["sign"] ["signs"] [1] rfl (.of (show dB (aJ fZ) _ ["text","signs","most"] [1] ["signs"]=true by decide +kernel)) (aBT (pv 0)) (λ_ _ _=>(aM (i:=0) (show (["sign","signs"]:List Str).Nodup by decide +kernel) rfl (Or.inl rfl))) (fT (by decide)) (λ_ _ _=>dE) (λ_ _ _=>(jB Q6 (pv 0) (pv 1) (by with_unfolding_all rfl)))) aE))))))),?_⟩;have N:=l7 ht.asc;refine⟨_,rfl,_,_,Den.str _,Den.str _,N,(by decide +kernel),?_⟩;rw[aCV];have J:sQ t I m=(decide (t≠"") && (decide ((t.length:Int)<=m) && (jY t).all λc=>decide (c∈jY I))):=rfl;refine⟨_,rfl,?_⟩
  by_cases L:t=""
  .rw[if_neg (by simp[L])];have:=k H (Same.refl _);rw[J,aD1 (λz=>z L),Bool.false_and]at this;exact this
  rw[if_pos (by simp[L])];rw[aD2 L,Bool.true_and]at J;have h5:=ht.len;refine⟨_,rfl,t,rfl,cV (by omega),_,rfl,_,_,rfl,rfl,_,rfl,?_⟩
  by_cases c1:(t.length:Int)<=m
  .rw[if_pos (by simpa using c1)];rw[aD2 c1,Bool.true_and]at J;refine⟨_,rfl,t,rfl,ht.asc,b4 (z:=t) (λi ys M=>M=H/\ys=(((jY t).take i).map λc=>decide (c∈jY I)).map V.bl) ⟨rfl,rfl⟩ ?_ ?_ ?_⟩
   .rintro i ys M hi ⟨rfl,rfl⟩;rw[aDG,aDG,aDW];exact bC (by have:t.cps.size=t.length:=rfl;omega)
   .rintro i c ys M hi ⟨rfl,rfl⟩;refine⟨_,rfl,_,rfl,_,_,rfl,rfl,rfl,?_⟩;have U:(jY t)[i]?=some c:=by rw[Array.getElem?_toList];exact hi
    rw[StrLaws.found_one,List.take_add_one,U];simp
   .rintro ys M ⟨rfl,rfl⟩ D hD;refine⟨D,(jY t).map λc=>decide (c∈jY I),rfl,?_,?_⟩
    .rw[aB,List.take_of_length_le (by rw[U0];exact Nat.le_refl _)]
    .have:=k _ (Same.upd (o:=.lst ((((jY t).take t.cps.size).map λc=>decide (c∈jY I)).map V.bl)) hD);rw[J]at this;rw[List.all_map];exact this
  .rw[if_neg (by simpa using c1)];have:=k H (Same.refl _);rw[J,aD1 c1,Bool.false_and]at this;exact this
abbrev pT:Stmt:=top 64
def L8:FnScope ["text"] ["text"] (aJ pT):=⟨rfl,rfl,rfl,by decide +kernel,rfl,by decide +kernel,by decide +kernel⟩
def L9 {f:Addr} {fd:FuncData} (F:Fun K "is_name" "is_name" pT f fd) (B:Bt mg) (G:Wl mg) (z:aU P w K mg base "is_made_of" 1 ["text","signs","most"] xY):FnOk P w K mg base CX0 2 f fd ["text"] rG:=by
 refine F.ok L8 (λvs H Q E h=>?_) (λD A outer s H vs Q E I h=>?_)
 .obtain⟨t,rfl,_⟩:=h;rfl
 .obtain⟨t,rfl,ht,k⟩:=h;refine⟨_,(aK (aZ (aW z I rfl (aA (pv 0) (aA (b7 rfl G.LETTERS) (aA (b8 rfl G.MOST_LETTERS) aE)))))),?_⟩;exact⟨_,rfl,t,J3,8,rfl,ht,k⟩
abbrev jS:Stmt:=top 68
def uP:FnScope ["roads","name"] ["roads","name"] (aJ jS):=⟨rfl,rfl,rfl,by decide +kernel,rfl,by decide +kernel,by decide +kernel⟩
def uQ {f:Addr} {fd:FuncData} (G:Hc K) (F:Fun K "road_named" "road_named" jS f fd) (B:Bt mg):FnOk P w K mg base CX0 1 f fd ["roads","name"] (iC G):=by
 refine F.ok uP (λvs H Q E h=>?_) (λI A outer s H vs Q E J h=>?_)
 .obtain⟨N,d,n,std,first,ents,rfl,_⟩:=h;rfl
 .obtain⟨N,d,n,std,first,ents,rfl,⟨_,kvs,hd,L⟩,M,k⟩:=h;have z:=nF J;obtain⟨v,D,U⟩:=P7 L M;refine⟨_,(aF (bU (V9 (T4 z (pv 1) (pv 0)))
 (aK bR)
 bE)
 (aK (aZ (jF z (pv 0) (pv 1) (λ_ _=>rfl))))),?_⟩
  refine⟨_,rfl,_,rfl,d,_,rfl,DGet.k (k:=Sum.inr n) hd,_,rfl,?_⟩;rw[D];refine zC ?_;refine⟨_,rfl,_,rfl,d,v,rfl,?_,k v U⟩;rw[<- D];exact DGet.k (k:=Sum.inr n) hd
abbrev kX:Stmt:=top 69
def oO:FnScope ["roads","name","road","changed"] ["roads","name","road"] (aJ kX):=⟨rfl,rfl,rfl,by decide +kernel,rfl,by decide +kernel,by decide +kernel⟩
def yK {f:Addr} {fd:FuncData} (G:Hc K) (F:Fun K "with_road" "with_road" kX f fd) (B:Bt mg) (M:Bt6 mg):FnOk P w K mg base CX0 1 f fd ["roads","name","road"] (dX G):=by
 refine F.ok oO (λvs H Q E h=>?_) (λU A outer s H vs Q E Y h=>?_)
 .obtain⟨N,d,n,v,std,first,ents,rfl,_⟩:=h;rfl
 .obtain⟨N,d,n,v,std,first,ents,rfl,⟨h8,kvs,hd,J⟩,hR,hl,k⟩:=h;have D:=nF Y;have kl:=J.length;refine⟨_,(aF (aQ (i:=3) oO.nd rfl (Or.inl rfl) (cL sR (by rfl) M.dict PyProof.Rows.boot_dict (aA (pv 0) aE)))
 (aF (xE D (pv 3) (pv 1) (pv 2) rfl)
 (aK (aZ (pv 3))))),?_⟩
  refine⟨_,rfl,d,kvs,rfl,hd,λL I=>?_⟩;refine⟨_,rfl,_,rfl,_,rfl,L,_,rfl,DPut.k (k:=Sum.inr n) aB (bC (by omega)),?_⟩;rw[gZ];have g:=Same.upd (o:=.dK (eK kvs (Sum.inr n) v)) I;exact⟨_,rfl,k L _ g ⟨hl,_,aB,n4 (hR.kp (.same g)) (Paired.mapP J λ_ _ z=>⟨z.1,z.2.kp (.same g)⟩)⟩⟩
abbrev yL:Stmt:=top 70
def oP:FnScope ["roads","deed","word","name","row"] ["roads","deed"] (aJ yL):=⟨rfl,rfl,rfl,by decide +kernel,rfl,by decide +kernel,by decide +kernel⟩
def D2 {f:Addr} {fd:FuncData} {t1 t2 t3:Tok} (G:Hc K) (F:Fun K "built" "built" yL f fd) (B:Bt mg) (C3:Cn3 mg t1 t2 t3) (F_is_name:aU P w K mg base "is_name" 2 ["text"] rG) (F_look_row:aU P w K mg base "look_row" 1 ["row"] hX) (F_new_road:aU P w K mg base "new_road" 3 ["row"] (lV G)) (F_with_road:aU P w K mg base "with_road" 1 ["roads","name","road"] (dX G)):FnOk P w K mg base CX0 10 f fd ["roads","deed"] (cS G ["build"]):=by
 refine F.ok oP (λvs H Q E h=>?_) (λcdv A outer s H vs Q E hr h=>?_)
 .obtain⟨N,d,v,x,std,std',D,rfl,_⟩:=h;rfl
 .obtain⟨N,d,v,x,std,std',D,rfl,hw,hN,hdi,hv,hD,k⟩:=h;obtain⟨h8',kvs,hd,pr⟩:=id hdi;have hu1:=nF hr;obtain⟨n,row,hn,ht,h0,hrw,h8,rfl,rfl⟩:=n5 hw hD;obtain⟨a,t,rfl,ha,hta⟩:=n6 hv;refine⟨_,(aF (oU (pv 1) (eW rfl (aO (aM (i:=2) oP.nd rfl (Or.inl rfl)) (aO (aM (i:=3) oP.nd rfl (Or.inl rfl)) (aO (aM (i:=4) oP.nd rfl (Or.inl rfl)) bW)))))
 (aF (bU (wM (fK (aW F_is_name hr rfl (aA (pv 3) aE)) (λ_=>rfl)))
 (aK bR)
 bE)
 (aF (bU (V9 (aBN hu1 (pv 3) (pv 0)))
 (aK bR)
 bE)
 (aF (aS (aW F_look_row hr rfl (aA (pv 4) aE)))
 (aF (bU (aY M7 (aP T8 (by rfl) B.len PySem.boot_len (aA (pv 0) aE)) (fE (v:=.int 8) rfl C3.MOST_ROADS ⟨_,rfl⟩) (bD _))
 (aK bR)
 bE)
 (aK (aZ (aW F_with_road hr rfl (aA (pv 0) (aA (pv 3) (aA (aW F_new_road hr rfl (aA (pv 4) aE)) aE))))))))))),?_⟩
  refine⟨_,rfl,a,_,rfl,SqT.of ha,rfl,_,_,rfl,_,_,rfl,_,_,rfl,rfl,?_⟩;refine⟨_,rfl,n,rfl,ht,λH1 g1=>?_⟩;refine⟨_,by first | rfl | exact .inl rfl | exact .inr rfl,?_⟩;rw[hn];refine zC ?_;refine⟨_,rfl,_,rfl,d,_,rfl,DGet.k (k:=Sum.inr n) (g1 _ _ hd),_,rfl,?_⟩;rw[wD pr h0];refine zC ?_;refine⟨_,rfl,t,row,rfl,.inr (g1 _ _ hta),hrw,?_⟩;have kl:=pr.length;refine⟨_,rfl,d,_,rfl,g1 _ _ hd,_,_,rfl,rfl,_,rfl,eC (by omega) ?_⟩;refine⟨_,rfl,_,rfl,_,rfl,N,t,row,rfl,g1 _ _ hta,hrw,λv2 H2 g2 hR=>?_⟩;have g12:=g1.trans g2;have e:=m8 (r:=(row,[])) h0;refine⟨N,d,n,v2,std,row,[],rfl,hdi.kp (.same g12),hR,by rw[e,aDP,List.length_singleton];omega,λd' H3 g3 hd3=>?_⟩;rw[e]at hd3;exact k d' H3 (g12.trans g3) hd3
abbrev pU:Stmt:=top 72
def jT:FnScope ["roads","deed","word","name","rest"] ["roads","deed"] (aJ pU):=⟨rfl,rfl,rfl,by decide +kernel,rfl,by decide +kernel,by decide +kernel⟩
def mX {f:Addr} {fd:FuncData} (G:Hc K) (F:Fun K "entered" "entered" pU f fd) (B:Bt mg) (I:aU P w K mg base "road_named" 1 ["roads","name"] (iC G)) (L:aU P w K mg base "with_road" 1 ["roads","name","road"] (dX G)) (J:aU P w K mg base "with_entry" 9 ["road","entry"] (iB G)):FnOk P w K mg base CX0 10 f fd ["roads","deed"] (cS G ["walk","put","take","mirror"]):=by
 refine F.ok jT (λvs H Q E h=>?_) (λav A outer s H vs Q E hr h=>?_)
 .obtain⟨N,d,v,x,std,U,D,rfl,_⟩:=h;rfl
 .obtain⟨N,d,v,x,std,U,D,rfl,hw,hN,M,hv,hD,k⟩:=h;obtain⟨n,first,r,ents,e,h0,hg,hp,ho,hl,rfl,rfl⟩:=aBc hw hD;obtain⟨a,xs,ds,rfl,ha,al,am,aw⟩:=tL hp hv;refine⟨_,(aF (oU (pv 1) (c8 (n:=3) (i:=2) rfl (aO (aM (i:=2) jT.nd rfl (Or.inl rfl)) (aO (aM (i:=3) jT.nd rfl (Or.inl rfl)) (b5 (aM (i:=4) jT.nd rfl (Or.inl rfl)) bW)))))
 (aK (aZ (aW L hr rfl (aA (pv 0) (aA (pv 3) (aA (aW J hr rfl (aA (aW I hr rfl (aA (pv 0) (aA (pv 3) aE))) (aA (aL lQ (cF (aA (pv 2) aE)) (cL dQ (by rfl) B.tuple gM (aA (pv 4) aE))) aE))) aE))))))),?_⟩
  refine⟨_,rfl,a,_,rfl,SqT.of ha,by decide,by show 3<=(xs.length+1+1)+1;omega,by show (xs.length+1+1)<=16384;omega,λy hy=>?_⟩;have ey:((V.str e.word :: V.str n :: xs).drop 2).take ((V.str e.word :: V.str n :: xs).length+1 - 3)=xs:=by simp
  have ao:(V.str e.word :: V.str n :: xs).take 2++[V.ref y]++((V.str e.word :: V.str n :: xs).drop 2).drop ((V.str e.word :: V.str n :: xs).length+1 - 3)=[V.str e.word,V.str n,V.ref y]:=by simp
  rw[ey,ao];have g1:=Same.upd (o:=.lst xs) hy;have Y:(upd H y (.lst xs)) y=some (.lst xs):=aB;generalize upd H y (.lst xs)=H1 at g1 Y ⊢;refine⟨_,_,rfl,_,_,rfl,_,_,rfl,rfl,?_⟩;refine⟨_,rfl,_,rfl,_,rfl,_,rfl,N,d,n,std,first,ents,rfl,M.kp (.same g1),h0,λv2 hR=>?_⟩;refine⟨_,rfl,(show 1<=sizeLine by decide),λp ap=>?_⟩;have g2:=Same.upd (o:=.tup [V.str e.word]) ap;have ep:(upd H1 p (.tup [V.str e.word])) p=some (.tup [V.str e.word]):=aB;generalize upd H1 p (.tup [V.str e.word])=H2 at g2 ep ⊢;refine⟨_,rfl,y,_,rfl,.inl ⟨SqL.of (g2 _ _ Y),λz hz=>?_⟩⟩;have g3:=Same.upd (o:=.tup xs) hz;have ez:(upd H2 z (.tup xs)) z=some (.tup xs):=aB;generalize upd H2 z (.tup xs)=H3 at g3 ez ⊢;refine⟨p,z,_,_,rfl,rfl,g3 _ _ ep,ez,cV (by simp;omega),λq H4 g4 eq=>?_⟩;have t4:=((g1.trans g2).trans g3).trans g4;have aq:DT H4 (.ref q) e.data:=by rw[am];exact .tup eq (.cons (.str _) (al.mono (TupS.same t4)))
  refine⟨N,v2,.ref q,first,ents,r,e,rfl,λt ht=>hN t (t4.free ht),hR.kp (.same ((g2.trans g3).trans g4)),aq,hg,ho,hl,λv3 H5 g5 ar=>?_⟩;have t5:=t4.trans g5;exact⟨N,d,n,v3,std,first,ents++[e],rfl,M.kp (.same t5),ar,by rw[tJ h0];exact M.1,λd' H6 g6 au=>k d' H6 (t5.trans g6) au⟩
abbrev jU:Stmt:=top 74
def cB:FnScope ["roads","deed","word","name","at","creel","count","road","entries"] ["roads","deed"] (aJ jU):=⟨rfl,rfl,rfl,by decide +kernel,rfl,by decide +kernel,by decide +kernel⟩
def mI {f:Addr} {fd:FuncData} (G:Hc K) (F:Fun K "found_late" "found_late" jU f fd) (B:Bt mg) (F_road_named:aU P w K mg base "road_named" 1 ["roads","name"] (iC G)) (F_look_creel:aU P w K mg base "look_creel" 1 ["creel"] dF) (F_with_road:aU P w K mg base "with_road" 1 ["roads","name","road"] (dX G)) (F_with_log:aU P w K mg base "with_log" 9 ["road","at","entries"] (iY G)):FnOk P w K mg base CX0 10 f fd ["roads","deed"] (cS G ["late"]):=by
 refine F.ok cB (λvs H Q E h=>?_) (λcdv A outer s H vs Q E hr h=>?_)
 .obtain⟨N,d,v,x,std,std',D,rfl,_⟩:=h;rfl
 .obtain⟨N,d,v,x,std,std',D,rfl,hw,hN,hdi,hv,hD,k⟩:=h;obtain⟨n,j,c,m,first,r,ents,es,h0,hj,hc,he,hg,hl,rfl,rfl⟩:=aAZ hw hD;obtain⟨a,rfl,ha⟩:=aA0 hv;refine⟨_,(aF (oU (pv 1) (eW rfl (aO (aM (i:=2) cB.nd rfl (Or.inl rfl)) (aO (aM (i:=3) cB.nd rfl (Or.inl rfl)) (aO (aM (i:=4) cB.nd rfl (Or.inl rfl)) (aO (aM (i:=5) cB.nd rfl (Or.inl rfl)) (aO (aM (i:=6) cB.nd rfl (Or.inl rfl)) bW)))))))
 (aF (aQ (i:=7) cB.nd rfl (Or.inl rfl) (aW F_road_named hr rfl (aA (pv 0) (aA (pv 3) aE))))
 (aF (bU (PW.pt (W0 (aY nB (pv 4) aI (bD _)) (D7 (aY mB (pv 4) (aP aV (by rfl) B.len PySem.boot_len (aA (bK (pv 7) rfl) aE)) (bD _)))))
 (aK bR)
 bE)
 (aF (aS (aW F_look_creel hr rfl (aA (pv 5) aE)))
 (aF (aQ (i:=8) cB.nd rfl (Or.inl rfl) (aL lQ (aL lQ (dP qZ (bK (pv 7) rfl) fF (fG (pv 4))) (cF (aA (cF (aA bO (aA (pv 5) (aA (pv 6) aE)))) aE))) (dP qZ (bK (pv 7) rfl) (fG (pv 4)) fF)))
 (aK (aZ (aW F_with_road hr rfl (aA (pv 0) (aA (pv 3) (aA (aW F_with_log hr rfl (aA (pv 7) (aA (pv 4) (aA (pv 8) aE)))) aE))))))))))),?_⟩
  refine⟨_,rfl,a,_,rfl,SqT.of ha,rfl,_,_,rfl,_,_,rfl,_,_,rfl,_,_,rfl,_,_,rfl,rfl,?_⟩;refine⟨_,rfl,_,rfl,N,d,n,std,first,ents,rfl,hdi,h0,λv2 hR=>?_⟩;obtain⟨b,dx,en,re,cc,us,qs,rests,C,rfl,hb,hen,hus,hre,hqs,hcr,hOk⟩:=id hR;have hul:=hus.length;rw[aDG]at hul;have hlim:=hOk.lim;refine⟨_,rfl,_,_,rfl,rfl,_,rfl,eC (by omega) ?_⟩;refine⟨_,rfl,_,rfl,b,_,dx,_,_,rfl,hb,G.rd,G.rEn,rfl,en,_,rfl,.inr (SqT.of hen),_,_,rfl,rfl,_,rfl,eC (by omega) ?_⟩;refine⟨_,rfl,c,rfl,hc,?_⟩;refine⟨_,rfl,b,_,dx,_,_,rfl,hb,G.rd,G.rEn,rfl,_,rfl,_,rfl,en,_,rfl,hen,λp1 H1 g1 e1=>?_⟩;rw[O0 us j]at e1;refine⟨_,rfl,_,rfl,(show 3<=sizeLine by decide),λp2 hp2=>?_⟩;have g2:=Same.upd (o:=.tup [V.str "walk",V.int c,V.int m]) hp2;have e2:(upd H1 p2 (.tup [V.str "walk",V.int c,V.int m])) p2=some (.tup [V.str "walk",V.int c,V.int m]):=aB;generalize upd H1 p2 (.tup [V.str "walk",V.int c,V.int m])=H2 at g2 e2 ⊢;refine⟨(show 1<=sizeLine by decide),λp3 hp3=>?_⟩;have g3:=Same.upd (o:=.tup [V.ref p2]) hp3;have e3:(upd H2 p3 (.tup [V.ref p2])) p3=some (.tup [V.ref p2]):=aB;generalize upd H2 p3 (.tup [V.ref p2])=H3 at g3 e3 ⊢;refine⟨p1,p3,_,_,rfl,rfl,(g2.trans g3) _ _ e1,e3,cV (by rw[aDW,List.length_singleton];omega),λp4 H4 g4 e4=>?_⟩;have t4:=((g1.trans g2).trans g3).trans g4;refine⟨_,rfl,b,_,dx,_,_,rfl,t4 _ _ hb,G.rd,G.rEn,rfl,_,rfl,_,rfl,en,_,rfl,t4 _ _ hen,λp5 H5 g5 e5=>?_⟩;rw[vL us j]at e5;have hesl:es.length=ents.length+1:=by rw[he,aDP,aD9,aDW,List.length_drop];omega
  refine⟨p4,p5,_,_,rfl,rfl,g5 _ _ e4,e5,cV (by rw[aDP,aDW,List.length_drop,List.length_singleton];omega),λp6 H6 g6 e6=>?_⟩;have t6:=(t4.trans g5).trans g6;have D6:DTs H6 (us.take j++[V.ref p2]++us.drop j) (es.map Ent.data):=by
   have hm:=hus.mono (TupS.same t6);have q2:=((g3.trans g4).trans g5).trans g6;rw[he,aDV,aD5,List.map_take,List.map_drop,List.append_assoc];exact(hm.take j).append (.cons (.tup (q2 _ _ e2) (.cons (.str _) (.cons (.int _) (.cons (.int _) .nil)))) (hm.drop j))
  have htk:es.take j=ents.take j:=by rw[he,List.take_append_of_le_length (by rw[aDW];omega),List.take_take,Nat.min_self]
  refine⟨_,rfl,_,rfl,_,rfl,_,rfl,_,rfl,N,.ref b,j,p6,_,first,ents,es,r,rfl,λt ht=>hN t (t6.free ht),hR.kp (.same t6),e6,D6,hj,htk,by omega,hg,hl,λv3 H7 g7 hR7=>?_⟩;have t7:=t6.trans g7;exact⟨N,d,n,v3,std,first,es,rfl,hdi.kp (.same t7),hR7,by rw[tJ h0];exact hdi.1,λd' H8 g8 hd8=>k d' H8 (t7.trans g8) hd8⟩
abbrev uA:Stmt:=top 75
def gI:FnScope ["roads","deed","word","name","at","road","entries"] ["roads","deed"] (aJ uA):=⟨rfl,rfl,rfl,by decide +kernel,rfl,by decide +kernel,by decide +kernel⟩
def wK {f:Addr} {fd:FuncData} (G:Hc K) (F:Fun K "struck" "struck" uA f fd) (B:Bt mg) (z:aU P w K mg base "road_named" 1 ["roads","name"] (iC G)) (I:aU P w K mg base "with_road" 1 ["roads","name","road"] (dX G)) (J:aU P w K mg base "with_log" 9 ["road","at","entries"] (iY G)):FnOk P w K mg base CX0 10 f fd ["roads","deed"] (cS G ["strike"]):=by
 refine F.ok gI (λvs H Q E h=>?_) (λau A outer s H vs Q E hr h=>?_)
 .obtain⟨N,d,v,x,std,Y,D,rfl,_⟩:=h;rfl
 .obtain⟨N,d,v,x,std,Y,D,rfl,hw,hN,M,hv,hD,k⟩:=h;obtain⟨n,j,c,m,first,r,ents,es,h0,hj,he,hg,hl,rfl,rfl⟩:=U9 hw hD;obtain⟨a,rfl,ha⟩:=V0 hv;have av:j<ents.length:=(aDh.mp hj).1;refine⟨_,(aF (oU (pv 1) (eW rfl (aO (aM (i:=2) gI.nd rfl (Or.inl rfl)) (aO (aM (i:=3) gI.nd rfl (Or.inl rfl)) (aO (aM (i:=4) gI.nd rfl (Or.inl rfl)) bW)))))
 (aF (aQ (i:=5) gI.nd rfl (Or.inl rfl) (aW z hr rfl (aA (pv 0) (aA (pv 3) aE))))
 (aF (bU (PW.pt (W0 (aY nB (pv 4) aI (bD _)) (D7 (aY M7 (pv 4) (aP aV (by rfl) B.len PySem.boot_len (aA (bK (pv 5) rfl) aE)) (bD _)))))
 (aK bR)
 bE)
 (aF (bU (aY aBw (bH cG (bH cG (bK (pv 5) rfl) (pv 4) (λ_ _=>rfl)) aI (λ_ _=>rfl)) bO (bD _))
 (aK bR)
 bE)
 (aF (aQ (i:=6) gI.nd rfl (Or.inl rfl) (aL lQ (dP qZ (bK (pv 5) rfl) fF (fG (pv 4))) (dP qZ (bK (pv 5) rfl) (fG (aL bF (pv 4) aI)) fF)))
 (aK (aZ (aW I hr rfl (aA (pv 0) (aA (pv 3) (aA (aW J hr rfl (aA (pv 5) (aA (pv 4) (aA (pv 6) aE)))) aE))))))))))),?_⟩
  refine⟨_,rfl,a,_,rfl,SqT.of ha,rfl,_,_,rfl,_,_,rfl,_,_,rfl,rfl,?_⟩;refine⟨_,rfl,_,rfl,N,d,n,std,first,ents,rfl,M,h0,λv2 hR=>?_⟩;obtain⟨b,dx,en,re,cc,us,qs,rests,C,rfl,hb,L,U,aw,ax,ay,az⟩:=id hR;have al:=U.length;rw[aDG]at al;refine⟨_,rfl,_,_,rfl,rfl,_,rfl,eC (by omega) ?_⟩;refine⟨_,rfl,_,rfl,b,_,dx,_,_,rfl,hb,G.rd,G.rEn,rfl,en,_,rfl,.inr (SqT.of L),_,_,rfl,rfl,_,rfl,eC (by omega) ?_⟩;obtain⟨u,hu,am⟩:=U.get (i:=j) (d:=(Ent.walk c m).data) (by rw[aD4,hj];rfl);obtain⟨t,rfl,ht⟩:=rH am;refine⟨_,rfl,b,_,dx,_,_,rfl,hb,G.rd,G.rEn,rfl,_,rfl,en,_,_,_,rfl,rfl,SqT.of L,nC hu,t,_,_,_,rfl,rfl,SqT.of ht,rfl,rfl,_,rfl,aAd rfl ?_⟩;refine⟨_,rfl,b,_,dx,_,_,rfl,hb,G.rd,G.rEn,rfl,_,rfl,_,rfl,en,_,rfl,L,λp1 H1 g1 e1=>?_⟩;rw[O0 us j]at e1;refine⟨_,rfl,b,_,dx,_,_,rfl,g1 _ _ hb,G.rd,G.rEn,rfl,_,rfl,_,_,rfl,rfl,_,rfl,en,_,rfl,g1 _ _ L,λp2 H2 g2 e2=>?_⟩;rw[show (j:Int)+1=((j+1:Nat):Int) from rfl,vL us (j+1)]at e2;refine⟨p1,p2,_,_,rfl,rfl,g2 _ _ e1,e2,cV (by rw[aDW,List.length_drop];omega),λp3 H3 g3 e3=>?_⟩;have t3:=(g1.trans g2).trans g3;have D3:DTs H3 (us.take j++us.drop (j+1)) (es.map Ent.data):=by
   have hm:=U.mono (TupS.same t3);rw[he,aDV,List.map_take,List.map_drop];exact(hm.take j).append (hm.drop (j+1))
  have ar:es.length+1=ents.length:=by rw[he,aDP,aDW,List.length_drop];omega
  have ao:es.take j=ents.take j:=by rw[he,List.take_append_of_le_length (by rw[aDW];omega),List.take_take,Nat.min_self]
  refine⟨_,rfl,_,rfl,_,rfl,_,rfl,_,rfl,N,.ref b,j,p3,_,first,ents,es,r,rfl,λt ht=>hN t (t3.free ht),hR.kp (.same t3),e3,D3,by omega,ao,by omega,hg,by omega,λv3 H4 g4 ap=>?_⟩;have t4:=t3.trans g4;exact⟨N,d,n,v3,std,first,es,rfl,M.kp (.same t4),ap,by rw[tJ h0];exact M.1,λd' H5 g5 aq=>k d' H5 (t4.trans g5) aq⟩
abbrev gW:Stmt:=top 77
def jZ:FnScope ["roads","deed","act"] ["roads","deed"] (aJ gW):=⟨rfl,rfl,rfl,by decide +kernel,rfl,by decide +kernel,by decide +kernel⟩
def qR {f:Addr} {fd:FuncData} {L:Addr} {I:List (Key×Value)} {ks:List Str} (G:Hc K) (F:Fun K "roads_behind" "roads_behind" gW f fd) (B:Bt mg) (Y:GDict P w K L I) (mD:mg "DEEDS"=some (.ref L))
 (FD:∀ x∈ks,∃ g,valueAt I (Sum.inr x)=some (.ref g)/\qF P w K mg base g 10 ["roads","deed"] (cS G [x])):FnOk P w K mg base CX0 11 f fd ["roads","deed"] (cS G ks):=by
 refine F.ok jZ (λvs H Q E h=>?_) (λal A outer s H vs Q E hr h=>?_)
 .obtain⟨N,d,v,x,std,z,D,rfl,_⟩:=h;rfl
 .obtain⟨N,d,v,x,std,z,D,rfl,hw,hN,J,M,U,k⟩:=h;obtain⟨a,xs,rfl,ha⟩:=aA1 U M;obtain⟨g,hg,hF⟩:=FD x hw;refine⟨_,(aF (aQ (i:=2) jZ.nd rfl (Or.inl rfl) (aAO Y rfl mD (bH cG (pv 1) aI (λ_ _=>rfl)) (λ_ _=>rfl)))
 (aK (aZ (c9 2 hr (aA (pv 0) (aA (pv 1) aE)))))),?_⟩
  refine⟨_,rfl,a,_,_,_,rfl,rfl,SqT.of ha,at0,x,g,rfl,hg,?_⟩;exact⟨g,_,_,rfl,hF,_,rfl,_,rfl,N,d,.ref a,x,std,z,D,rfl,aDc.mpr rfl,hN,J,M,U,k⟩
abbrev mY:Stmt:=eJ (top 79) 10
def qL:FnScope ["self","deed","changed"] ["self","deed"] (aJ mY):=⟨rfl,rfl,rfl,by decide +kernel,rfl,by decide +kernel,by decide +kernel⟩
def D4 {f:Addr} {fd:FuncData} {ks:List Str} (G:Hc K) (F:Fun K "do" "House.do" mY f fd) (B:Bt mg) (I:aU P w K mg base "roads_behind" 11 ["roads","deed"] (cS G ks)):FnOk P w K mg base CX0 12 f fd ["self","deed"] (B8 G ks):=by
 refine F.ok qL (λvs H Q E h=>?_) (λba A outer s H vs Q E hr h=>?_)
 .obtain⟨N,Hb,a,v,x,m,al,D,rfl,_⟩:=h;rfl
 .obtain⟨N,Hb,a,v,x,m,al,D,rfl,hw,⟨sm,am,⟨p,q,aq,bb,⟨dx,d,us,ws,bc,ha,hd,hp,ar,hq,bf⟩⟩,hN⟩,hv,hD,hl,k⟩:=h;refine⟨_,(aF (aQ (i:=2) qL.nd rfl (Or.inl rfl) (aW I hr rfl (aA (bK (pv 0) rfl) (aA (pv 1) aE))))
 (aF (aS (iP aDd aDe aDf cC (bK (pv 0) rfl) (aA (cF (aA (pv 1) (aA (bK (pv 0) rfl) aE))) aE)))
 (aF (dW (pv 0) (pv 2) rfl)
 (aK (dW (pv 0) (dA aE) rfl))))),?_⟩
  refine⟨_,rfl,a,_,dx,_,_,rfl,ha,G.hs,G.hSt,rfl,_,rfl,_,d,v,x,m.std,al,D,rfl,hw,λt ht=>⟨hN t ht,(λz=>by rw[z,hp]at ht;cases ht),(λz=>by rw[z,hq]at ht;cases ht)⟩,hd,hv,hD,λd' H1 g1 ay=>?_⟩;have ul:=ar.length;refine⟨_,rfl,a,_,dx,_,_,rfl,g1 _ _ ha,G.hs,G.hPa,rfl,.inl ⟨rfl,_,SqL.of (g1 _ _ hp)⟩,_,rfl,_,rfl,a,_,dx,_,_,rfl,g1 _ _ ha,G.hs,G.hSt,rfl,(show 2<=sizeLine by decide),λt ht=>?_⟩;have g2:=Same.upd (o:=.tup [v,V.ref d]) ht;have et:(upd H1 t (.tup [v,V.ref d])) t=some (.tup [v,V.ref d]):=aB;generalize upd H1 t (.tup [v,V.ref d])=H2 at g2 et ⊢;have J:=g1.trans g2;have M:=J _ _ ha;have Y:=J _ _ hp;have bg:=J _ _ hq;refine⟨p,_,_,rfl,rfl,Y,bC (by omega),?_⟩;have ao:a≠p:=bJ M Y (by intro z;cases z);have bh:t≠p:=bJ et Y (by intro z;cases z);have bi:t≠a:=bJ et M (by intro z;cases z);refine⟨_,rfl,_,rfl,a,_,dx,_,rfl,(aG ao).trans M,G.hs,G.hSt,(show 3<1000 by decide),?_⟩;refine⟨(show 0<=sizeLine by decide),λL au=>?_⟩;have av:a≠L:=aN aB au;have aw:=bS au;have ax:p≠L:=aN aB aw;have U:=bS aw;have bj:t≠L:=aN et U;refine⟨_,rfl,a,_,dx,_,rfl,(aG av).trans aB,G.hs,G.hAh,(show 3<1000 by decide),?_⟩;have ap:∀ t xs,(N t/\t≠p/\t≠q)->H2 t=some (.lst xs)->(N t/\t≠p/\t≠L):=λt xs h e=>⟨h.1,h.2.1,aN e U⟩;have kp:Kp G (λt=>N t/\t≠p/\t≠L) H2 (upd (upd (upd (upd H2 p (.lst (us++[V.ref t]))) a (.ins G.Hs dx (iG d' p q))) L (.lst [])) a (.ins G.Hs dx (iG d' p L))) :=
   (((Kp.refl.updL Y λz=>z.2.1 rfl).updI M).updN U).updI M
  have az:=((ay.kp (.same g2)).imp ap).kp kp;have past:Paired (PastAt G (λt=>N t/\t≠p/\t≠L) (upd (upd (upd (upd H2 p (.lst (us++[V.ref t]))) a (.ins G.Hs dx (iG d' p q))) L (.lst [])) a (.ins G.Hs dx (iG d' p L)))) (us++[V.ref t]) (m.past++[(D,m.std)]):=by
   refine Paired.append' (Paired.mapP ar λ_ _ z=>((z.kp (.same J)).imp ap).kp kp) (.cons ⟨t,v,d,rfl,kp.tup _ _ et,(hv.mono (TupS.same J)).mono kp.tup,((hd.kp (.same J)).imp ap).kp kp⟩ .nil)
  have a_:Same Hb (upd (upd (upd (upd H2 p (.lst (us++[V.ref t]))) a (.ins G.Hs dx (iG d' p q))) L (.lst [])) a (.ins G.Hs dx (iG d' p L))) :=
   ((((sm.trans J).upd' aq).upd' am).upd' ((sm.trans J).free U)).upd' am
  refine k _ ⟨a_,am,⟨p,L,aq,(sm.trans J).free U,⟨dx,d',us++[V.ref t],[],ax,aB,az,?_,past,?_,.nil⟩⟩,λy hy=>hN y (J.free (bS (bS (bS (bS hy)))))⟩
  .rw[aG (Ne.symm ao),aG ax,aG (Ne.symm ao),aB]
  .rw[aG (Ne.symm av),aB]
abbrev iL:Stmt:=eJ (top 79) 1
def uB:FnScope ["self","name","row"] ["self","name","row"] (aJ iL):=⟨rfl,rfl,rfl,by decide +kernel,rfl,by decide +kernel,by decide +kernel⟩
def uC {f:Addr} {fd:FuncData} {ks:List Str} (M:("build":Str)∈ks) (G:Hc K) (F:Fun K "build" "House.build" iL f fd) (B:Bt mg) (z:cK P w K mg base G.Hs "do" 12 ["self","deed"] (B8 G ks)):FnOk P w K mg base CX0 13 f fd ["self","name","row"] (rK G):=by
 refine F.ok uB (λvs H Q E h=>?_) (λU A outer s H vs Q E Y h=>?_)
 .obtain⟨N,Hb,a,l,n,row,m,rfl,_⟩:=h;rfl
 .obtain⟨N,Hb,a,l,n,row,m,rfl,J,hl,hn,ht,h0,D,h8,hp,k⟩:=h;obtain⟨dx,d,p,q,ha⟩:=J.ins;refine⟨_,(aK (aS (cP z G.hs Y (pv 0) (aA (cF (aA bO (aA (pv 1) (aA (cL dQ (by rfl) B.tuple gM (aA (pv 2) aE)) aE)))) aE)))),?_⟩;refine⟨_,rfl,a,dx,_,rfl,ha,rfl,_,rfl,_,rfl,l,_,rfl,.inl ⟨SqL.of hl,λt I=>?_⟩⟩;have g1:=Same.upd (o:=.tup (row.map V.int)) I;have L:(upd H t (.tup (row.map V.int))) t=some (.tup (row.map V.int)):=aB;generalize upd H t (.tup (row.map V.int))=H1 at g1 L ⊢;refine⟨(show 3<=sizeLine by decide),λu hu=>?_⟩;have g2:=Same.upd (o:=.tup [V.str "build",V.str n,V.ref t]) hu;exact⟨N,Hb,a,.ref u,"build",m,_,_,rfl,M,J.same (g1.trans g2),.tup aB (.cons (.str _) (.cons (.str _) (.cons (.tup (g2 _ _ L) (DTs.ints row)) .nil))),.build hn ht h0 D h8,hp,k⟩
abbrev kY:Stmt:=eJ (top 79) 4
def yM:FnScope ["self","name","place"] ["self","name","place"] (aJ kY):=⟨rfl,rfl,rfl,by decide +kernel,rfl,by decide +kernel,by decide +kernel⟩
def yN {f:Addr} {fd:FuncData} {ks:List Str} (M:("put":Str)∈ks) (G:Hc K) (F:Fun K "put" "House.put" kY f fd) (B:Bt mg) (z:cK P w K mg base G.Hs "do" 12 ["self","deed"] (B8 G ks)):FnOk P w K mg base CX0 13 f fd ["self","name","place"] (cX G "put" 2):=by
 refine F.ok yM (λvs H Q E h=>?_) (λU A outer s H vs Q E Y h=>?_)
 .obtain⟨N,Hb,a,xs,ds,m,D,rfl,I,_⟩:=h;exact congrArg Nat.succ I
 .obtain⟨N,Hb,a,xs,ds,m,D,rfl,I,L,J,hD,hp,k⟩:=h;obtain⟨dx,d,p,q,ha⟩:=L.ins;obtain⟨x1,x2,rfl⟩:=aC2 I;refine⟨_,(aK (aS (cP z G.hs Y (pv 0) (aA (cF (aA bO (aA (pv 1) (aA (pv 2) aE)))) aE)))),?_⟩;refine⟨_,rfl,a,dx,_,rfl,ha,rfl,_,rfl,_,rfl,(show 3<=sizeLine by decide),λu hu=>?_⟩;have g1:=Same.upd (o:=.tup [V.str "put",x1,x2]) hu;exact⟨N,Hb,a,.ref u,"put",m,_,_,rfl,M,L.same g1,.tup aB (.cons (.str _) (J.mono (TupS.same g1))),hD,hp,k⟩
abbrev jV:Stmt:=eJ (top 79) 3
def uR:FnScope ["self","name","creel","count"] ["self","name","creel","count"] (aJ jV):=⟨rfl,rfl,rfl,by decide +kernel,rfl,by decide +kernel,by decide +kernel⟩
def uS {f:Addr} {fd:FuncData} {ks:List Str} (M:("walk":Str)∈ks) (G:Hc K) (F:Fun K "walk" "House.walk" jV f fd) (B:Bt mg) (z:cK P w K mg base G.Hs "do" 12 ["self","deed"] (B8 G ks)):FnOk P w K mg base CX0 13 f fd ["self","name","creel","count"] (cX G "walk" 3):=by
 refine F.ok uR (λvs H Q E h=>?_) (λU A outer s H vs Q E Y h=>?_)
 .obtain⟨N,Hb,a,xs,ds,m,D,rfl,I,_⟩:=h;exact congrArg Nat.succ I
 .obtain⟨N,Hb,a,xs,ds,m,D,rfl,I,L,J,hD,hp,k⟩:=h;obtain⟨dx,d,p,q,ha⟩:=L.ins;obtain⟨x1,x2,x3,rfl⟩:=aDC I;refine⟨_,(aK (aS (cP z G.hs Y (pv 0) (aA (cF (aA bO (aA (pv 1) (aA (pv 2) (aA (pv 3) aE))))) aE)))),?_⟩;refine⟨_,rfl,a,dx,_,rfl,ha,rfl,_,rfl,_,rfl,_,rfl,(show 4<=sizeLine by decide),λu hu=>?_⟩;have g1:=Same.upd (o:=.tup [V.str "walk",x1,x2,x3]) hu;exact⟨N,Hb,a,.ref u,"walk",m,_,_,rfl,M,L.same g1,.tup aB (.cons (.str _) (J.mono (TupS.same g1))),hD,hp,k⟩
abbrev jW:Stmt:=eJ (top 79) 8
def uT:FnScope ["self","name","at","creel","count"] ["self","name","at","creel","count"] (aJ jW):=⟨rfl,rfl,rfl,by decide +kernel,rfl,by decide +kernel,by decide +kernel⟩
def uU {f:Addr} {fd:FuncData} {ks:List Str} (M:("late":Str)∈ks) (G:Hc K) (F:Fun K "late" "House.late" jW f fd) (B:Bt mg) (z:cK P w K mg base G.Hs "do" 12 ["self","deed"] (B8 G ks)):FnOk P w K mg base CX0 13 f fd ["self","name","at","creel","count"] (cX G "late" 4):=by
 refine F.ok uT (λvs H Q E h=>?_) (λU A outer s H vs Q E Y h=>?_)
 .obtain⟨N,Hb,a,xs,ds,m,D,rfl,I,_⟩:=h;exact congrArg Nat.succ I
 .obtain⟨N,Hb,a,xs,ds,m,D,rfl,I,L,J,hD,hp,k⟩:=h;obtain⟨dx,d,p,q,ha⟩:=L.ins;obtain⟨x1,x2,x3,x4,rfl⟩:=aDD I;refine⟨_,(aK (aS (cP z G.hs Y (pv 0) (aA (cF (aA bO (aA (pv 1) (aA (pv 2) (aA (pv 3) (aA (pv 4) aE)))))) aE)))),?_⟩;refine⟨_,rfl,a,dx,_,rfl,ha,rfl,_,rfl,_,rfl,_,rfl,_,rfl,(show 5<=sizeLine by decide),λu hu=>?_⟩;have g1:=Same.upd (o:=.tup [V.str "late",x1,x2,x3,x4]) hu;exact⟨N,Hb,a,.ref u,"late",m,_,_,rfl,M,L.same g1,.tup aB (.cons (.str _) (J.mono (TupS.same g1))),hD,hp,k⟩
abbrev gX:Stmt:=eJ (top 79) 9
def qS:FnScope ["self","name","at"] ["self","name","at"] (aJ gX):=⟨rfl,rfl,rfl,by decide +kernel,rfl,by decide +kernel,by decide +kernel⟩
def qT {f:Addr} {fd:FuncData} {ks:List Str} (M:("strike":Str)∈ks) (G:Hc K) (F:Fun K "strike" "House.strike" gX f fd) (B:Bt mg) (z:cK P w K mg base G.Hs "do" 12 ["self","deed"] (B8 G ks)):FnOk P w K mg base CX0 13 f fd ["self","name","at"] (cX G "strike" 2):=by
 refine F.ok qS (λvs H Q E h=>?_) (λU A outer s H vs Q E Y h=>?_)
 .obtain⟨N,Hb,a,xs,ds,m,D,rfl,I,_⟩:=h;exact congrArg Nat.succ I
 .obtain⟨N,Hb,a,xs,ds,m,D,rfl,I,L,J,hD,hp,k⟩:=h;obtain⟨dx,d,p,q,ha⟩:=L.ins;obtain⟨x1,x2,rfl⟩:=aC2 I;refine⟨_,(aK (aS (cP z G.hs Y (pv 0) (aA (cF (aA bO (aA (pv 1) (aA (pv 2) aE)))) aE)))),?_⟩;refine⟨_,rfl,a,dx,_,rfl,ha,rfl,_,rfl,_,rfl,(show 3<=sizeLine by decide),λu hu=>?_⟩;have g1:=Same.upd (o:=.tup [V.str "strike",x1,x2]) hu;exact⟨N,Hb,a,.ref u,"strike",m,_,_,rfl,M,L.same g1,.tup aB (.cons (.str _) (J.mono (TupS.same g1))),hD,hp,k⟩
abbrev kZ:Stmt:=eJ (top 79) 15
def yO:FnScope ["self","name"] ["self","name"] (aJ kZ):=⟨rfl,rfl,rfl,by decide +kernel,rfl,by decide +kernel,by decide +kernel⟩
def yP {f:Addr} {fd:FuncData} (G:Hc K) (F:Fun K "row" "House.row" kZ f fd) (B:Bt mg) (z:aU P w K mg base "road_named" 1 ["roads","name"] (iC G)) (D:aU P w K mg base "row_now" 7 ["course"] (kQ G)):FnOk P w K mg base CX0 8 f fd ["self","name"] (pL G):=by
 refine F.ok yO (λvs H Q E h=>?_) (λU A outer s H vs Q E L h=>?_)
 .obtain⟨N,Hb,a,n,m,first,r,ents,rfl,_⟩:=h;rfl
 .obtain⟨N,Hb,a,n,m,first,r,ents,rfl,⟨sm,Y,⟨p,q,al,am,⟨dx,d,us,ws,ao,ha,hd,hp,ap,hq,aq⟩⟩,hN⟩,h0,hg,k⟩:=h;refine⟨_,(aK (aZ (aW D L rfl (aA (bK (aW z L rfl (aA (bK (pv 0) rfl) (aA (pv 1) aE))) rfl) aE)))),?_⟩;refine⟨_,rfl,a,_,dx,_,_,rfl,ha,G.hs,G.hSt,rfl,_,rfl,_,d,n,m.std,first,ents,rfl,hd,h0,λv hR=>?_⟩;obtain⟨b,dy,en,re,cc,ar,qs,rests,C,rfl,hb,au,M,av,aw,J,I⟩:=id hR;have er:=hg.det I.go;subst er;exact⟨b,_,dy,_,_,rfl,hb,G.rd,G.rCo,rfl,cc,C,rfl,J.imp (λ_ _ _ _=>trivial),I.cok,k⟩
abbrev lC:Stmt:=eJ (top 79) 16
def yQ:FnScope ["self","name"] ["self","name"] (aJ lC):=⟨rfl,rfl,rfl,by decide +kernel,rfl,by decide +kernel,by decide +kernel⟩
def yR {f:Addr} {fd:FuncData} (G:Hc K) (F:Fun K "log" "House.log" lC f fd) (B:Bt mg) (z:aU P w K mg base "road_named" 1 ["roads","name"] (iC G)):FnOk P w K mg base CX0 2 f fd ["self","name"] (pM G):=by
 refine F.ok yQ (λvs H Q E h=>?_) (λM A outer s H vs Q E U h=>?_)
 .obtain⟨N,Hb,a,n,m,first,ents,rfl,_⟩:=h;rfl
 .obtain⟨N,Hb,a,n,m,first,ents,rfl,⟨sm,Y,⟨p,q,al,am,⟨dx,d,us,ws,ao,ha,hd,hp,ap,hq,aq⟩⟩,hN⟩,h0,k⟩:=h;refine⟨_,(aK (aZ (cL eI (by rfl) B.list gE (aA (bK (aW z U rfl (aA (bK (pv 0) rfl) (aA (pv 1) aE))) rfl) aE)))),?_⟩;refine⟨_,rfl,a,_,dx,_,_,rfl,ha,G.hs,G.hSt,rfl,_,rfl,_,d,n,m.std,first,ents,rfl,hd,h0,λv hR=>?_⟩;obtain⟨b,dy,en,re,cc,D,qs,rests,C,rfl,hb,J,I,ar,au,av,aw⟩:=id hR;refine⟨b,_,dy,_,_,rfl,hb,G.rd,G.rEn,rfl,en,_,rfl,.inr (SqT.of J),λl L=>?_⟩;have g:=Same.upd (o:=.lst D) L;exact k l D _ L g aB (I.mono (TupS.same g))
abbrev iM:Stmt:=top 81
def bP:FnScope ["_law_script","_law_many","_law_row_here","_law_seed","_law_cell","_law_rest","_law_k"] ["_law_script","_law_many"] (aJ iM):=⟨rfl,rfl,rfl,by decide +kernel,rfl,by decide +kernel,by decide +kernel⟩
inductive lE (H:Hp) (a:Addr) (l:Addr) (p:Addr) (m:Nat) (ms:List Int) (i:Nat) (σ:St) (H2:Hp):Prop
 | mk (seed:Int) (xs:List Int) (v1 v2 v3:Option V) (k0_:σ=[some (.ref a),some (.int m),some (.ref l),some (.int seed),v1,v2,v3]) (k1_:Same H H2) (k2_:H2 p=some (.lst (ms.map V.int))) (k3_:H2 l=some (.lst (xs.map V.int))) (k4_:G4 xs) (k5_:xs.length<=61 * i) (k6_:0<=seed) (k7_:seed<2147483629):lE H a l p m ms i σ H2
inductive lF (H:Hp) (a:Addr) (l:Addr) (p:Addr) (m:Nat) (ms:List Int) (i:Nat) (seed:Int) (z:Int) (v3:Option V) (σ:St) (H3:Hp):Prop
 | mk (ys:List Int) (k0_:σ=[some (.ref a),some (.int m),some (.ref l),some (.int (sd1 seed z)),some (.int z),some (.int (rs1 z)),v3]) (k1_:Same H H3) (k2_:H3 p=some (.lst (ms.map V.int))) (k3_:H3 l=some (.lst (ys.map V.int))) (k4_:G4 ys) (k5_:ys.length<=61 * i+1):lF H a l p m ms i seed z v3 σ H3
inductive lG (H:Hp) (a:Addr) (l:Addr) (p:Addr) (m:Nat) (ms:List Int) (i:Nat) (seed:Int) (z:Int) (j:Nat) (σ:St) (H4:Hp):Prop
 | mk (r:Int) (ys:List Int) (v:Option V) (k0_:σ=[some (.ref a),some (.int m),some (.ref l),some (.int (sd1 seed z)),some (.int z),some (.int r),v]) (k1_:Same H H4) (k2_:H4 p=some (.lst (ms.map V.int))) (k3_:H4 l=some (.lst (ys.map V.int))) (k4_:G4 ys) (k5_:ys.length<=61 * i+1+j):lG H a l p m ms i seed z j σ H4
inductive lH (H:Hp) (a:Addr) (l:Addr) (m:Nat) (v1:Option V) (v2:Option V) (v3:Option V) (σ:St) (H3:Hp):Prop
 | mk (seed:Int) (ys:List Int) (k0_:σ=[some (.ref a),some (.int m),some (.ref l),some (.int seed),v1,v2,v3]) (k1_:Same H H3) (k2_:H3 l=some (.lst (ys.map V.int))) (k3_:G4 ys) (k4_:ys.length<=5000) (k5_:0<=seed) (k6_:seed<2147483629):lH H a l m v1 v2 v3 σ H3
def M0 {f:Addr} {fd:FuncData} (F:Fun K "_law_numbers" "_law_numbers" iM f fd) (B:Bt mg):FnOk P w K mg base CX0 1 f fd ["_law_script","_law_many"] (lN K):=by
 refine F.ok bP (λvs H Q E h=>?_) (λax A outer s H vs Q E hr h=>?_)
 .obtain⟨a,sc,m,rfl,_⟩:=h;rfl
 .obtain⟨a,sc,m,rfl,hS,hlen,hm,k⟩:=h;refine⟨_,(bA (aQ (i:=2) bP.nd rfl (Or.inl rfl) (dA aE))
 (bA (aQ (i:=3) bP.nd rfl (Or.inl rfl) aI)
 (bA (cZ PassesOwn.never rfl (dC (dP lK (pv 0) fF (fG aI))) (aM (i:=4) bP.nd rfl (Or.inl rfl))
 (bA (aQ (i:=3) bP.nd rfl (Or.inl rfl) (aL bZ (aL bF (aL bF (aL dN (pv 3) aI) (aL bZ (pv 4) aI)) aI) aI))
 (bA (aQ (i:=5) bP.nd rfl (Or.inl rfl) (aL eY (pv 4) (aL rS aI aI)))
 (qV (bU (aY nB (pv 5) aI (bD _))
 (aK (aS (iP aDd aDe aDf cC (pv 2) (aA (aL bZ (pv 4) aI) aE))))
 bE)
 (aK (cZ PassesOwn.never rfl (eX rfl B.range (aA aI aE)) (aM (i:=6) bP.nd rfl (Or.inl rfl))
 (aK (bU (aY mB (pv 5) aI (bD _))
 (bA (aS (iP aDd aDe aDf cC (pv 2) (aA (aL bZ (pv 5) aI) aE)))
 (aK (aQ (i:=5) bP.nd rfl (Or.inl rfl) (aL lJ (pv 5) aI))))
 bE))))))))
 (aF (rR PassesOwn.never (aY nB (aP aV (by rfl) B.len PySem.boot_len (aA (pv 2) aE)) (pv 1) (bD _))
 (bA (aQ (i:=3) bP.nd rfl (Or.inl rfl) (aL bZ (aL bF (aL bF (aL bF (aL dN (pv 3) (pv 3)) (aL dN aI (pv 3))) (aL dN aI (aP aV (by rfl) B.len PySem.boot_len (aA (pv 2) aE)))) aI) aI))
 (aK (aS (iP aDd aDe aDf cC (pv 2) (aA (aL bZ (aL lJ (pv 3) aI) aI) aE))))))
 (aK (aZ (dP lK (pv 2) fF (fG (pv 1))))))))),?_⟩
  refine λM1 I=>?_;refine⟨by decide,λl hl=>?_⟩;refine I [some (.ref a),some (.int m),some (.ref l),none,none,none,none] _ ?_;clear I M1;refine λM1 I=>?_;refine I [some (.ref a),some (.int m),some (.ref l),some (.int 59),none,none,none] _ ?_;clear I M1;refine λM1 I=>?_;refine⟨_,rfl,_,rfl,a,sc.map V.int,rfl,(Same.upd hl).seq hS,λp hp=>?_⟩;obtain⟨ms,ec,ay,az⟩:=R8 sc none (some 63);rw[ec];have hpl:p≠l:=λe=>by subst e;rw[aB]at hp;cases hp
  have aq:H p=none:=by rw[<- hp,aG hpl]
  refine⟨p,rfl,⟨_,SqL.of aB⟩,gJ (K:=K) (a:=p) (xs:=ms.map V.int) (lE H a l p m ms) ?_ ?_ ?_ ?_⟩
  .exact⟨59,[],none,none,none,rfl,Same.upd' aq (Same.upd hl),aB,by rw[aG (Ne.symm hpl),aB];rfl,λ_ h=>(by cases h),Nat.le_refl _,by decide,by decide⟩
  .rintro i σ H2 _ ⟨D,xs,v1,v2,U,_,_,e,_⟩;exact SqL.of e
  .rintro i x σ H2 hi ⟨D,xs,v1,v2,U,rfl,sm,ep,el,nx,lx,s0,s1⟩;have a_:i<ms.length:=by
    have:=(aDh.mp hi).1;simpa using this
   obtain⟨z,rfl⟩:∃ z,x=V.int z:=by
    rw[aD4]at hi;cases e:ms[i]? with
    | none=>rw[e]at hi;cases hi
    | some z=>rw[e]at hi;exact⟨z,(Option.some.inj hi).symm⟩
   clear I;refine λM2 J=>?_;refine⟨_,rfl,_,_,rfl,rfl,.inr ⟨by decide,by decide⟩,_,rfl,_,_,rfl,rfl,(by show (0:Int)<999983;decide),_,_,rfl,rfl,_,_,rfl,rfl,_,_,rfl,rfl,(by show (0:Int)<2147483563;decide),?_⟩;have t0:0<=sd1 D z:=Int.emod_nonneg _ (by decide);have t1:sd1 D z<2147483563:=Int.emod_lt_of_pos _ (by decide);refine J [some (.ref a),some (.int m),some (.ref l),some (.int (sd1 D z)),some (.int z),v2,U] _ ?_;clear J M2;refine λM2 J=>?_;refine⟨_,rfl,_,_,rfl,rfl,⟨by decide,by decide,by decide⟩,_,_,rfl,rfl,?_⟩;refine J [some (.ref a),some (.int m),some (.ref l),some (.int (sd1 D z)),some (.int z),some (.int (rs1 z)),U] _ ?_;clear J M2;refine⟨lF H a l p m ms i D z U,?_,?_⟩
   .refine⟨_,rfl,_,_,rfl,rfl,_,rfl,mL (λ_=>?_) (λ_=>⟨xs,rfl,sm,ep,el,nx,by omega⟩)⟩;refine⟨_,rfl,.inl ⟨rfl,_,SqL.of el⟩,_,rfl,_,_,rfl,rfl,(by show (0:Int)<9967;decide),l,_,_,rfl,rfl,el,(by rw[aDG];exact bC (by omega)),?_⟩;refine⟨xs++[z % 9967],rfl,Same.upd' hl sm,by rw[aG hpl];exact ep,by rw[aB];simp,?_,by simp;omega⟩;intro n hn;rcases aDj.mp hn with h | h
    .exact nx n h
    .rw[aDc.mp h];exact⟨Int.emod_nonneg _ (by decide),Int.emod_lt_of_pos _ (by decide)⟩
   .rintro σ H3 ⟨ys,rfl,M,ar,L,Y,au⟩;refine⟨60,rfl,by decide,by decide,dZ (lo:=0) (n:=60) (lG H a l p m ms i D z)
     ⟨rs1 z,ys,U,rfl,M,ar,L,Y,by omega⟩ ?_ ?_⟩
    .rintro j σ H4 hj ⟨r,ys,v,rfl,al,am,N,ao,av⟩;refine⟨_,rfl,_,_,rfl,rfl,_,rfl,mL (λba=>?_) (λ_=>⟨r,ys,_,rfl,al,am,N,ao,by omega⟩)⟩;refine λM2 J=>?_;refine⟨_,rfl,.inl ⟨rfl,_,SqL.of N⟩,_,rfl,_,_,rfl,rfl,(by show (0:Int)<1013;decide),l,_,_,rfl,rfl,N,(by rw[aDG];exact bC (by omega)),?_⟩;refine J [some (.ref a),some (.int m),some (.ref l),some (.int (sd1 D z)),some (.int z),some (.int r),some (.int (0+(j:Int)))] _ ?_;clear J M2;refine⟨_,rfl,_,_,rfl,rfl,⟨by decide,by decide⟩,?_⟩;refine⟨r / 1013,ys++[r % 1013],_,rfl,Same.upd' hl al,by rw[aG hpl];exact am,by rw[aB];simp,?_,by simp;omega⟩;intro n hn;rcases aDj.mp hn with h | h
     .exact ao n h
     .rw[aDc.mp h];have a1:=Int.emod_nonneg r (show (1013:Int)≠0 by decide);have a2:=Int.emod_lt_of_pos r (show (0:Int)<1013 by decide);exact⟨a1,by omega⟩
    .rintro σ H4 ⟨r,ys,v,rfl,al,am,N,ao,av⟩;exact⟨sd1 D z,ys,_,_,_,rfl,al,am,N,ao,by omega,t0,by omega⟩
  .rintro σ H2 ⟨D,xs,v1,v2,U,rfl,sm,ep,el,nx,lx,s0,s1⟩;have bb:xs.length<=61 * 63:=by
    have:(ms.map V.int).length<=63:=by rw[aDG];omega
    omega
   refine I [some (.ref a),some (.int m),some (.ref l),some (.int D),v1,v2,U] _ ?_;clear I M1;refine yW (lH H a l m v1 v2 U)
    (λ_ H3=>match H3 l with | some (.lst ys)=>m - ys.length | _=>0) ⟨D,xs,rfl,sm,el,nx,by omega,s0,s1⟩ ?_ ?_
   .rintro σ H3 ⟨D,ys,rfl,M,L,Y,au,q0,q1⟩;refine⟨_,rfl,l,_,rfl,.inl (SqL.of L),_,rfl,_,_,rfl,rfl,_,rfl,mL (λhc=>?_) (λhc=>?_)⟩
    .rw[aDG]at hc;refine λM1 I=>?_;refine⟨_,rfl,_,rfl,_,_,rfl,rfl,.inl ⟨by omega,by omega⟩,_,rfl,_,_,rfl,rfl,.inl ⟨by decide,by decide⟩,_,_,rfl,rfl,_,rfl,l,_,rfl,.inl (SqL.of L),_,_,rfl,rfl,.inl ⟨by decide,by decide⟩,_,_,rfl,rfl,_,_,rfl,rfl,_,_,rfl,rfl,(by show (0:Int)<2147483629;decide),?_⟩;refine I [some (.ref a),some (.int m),some (.ref l),some (.int (sd2 D ys)),v1,v2,U] _ ?_;clear I M1;have t0:0<=sd2 D ys:=Int.emod_nonneg _ (by decide);have t1:sd2 D ys<2147483629:=Int.emod_lt_of_pos _ (by decide);refine⟨_,rfl,.inl ⟨rfl,_,SqL.of L⟩,_,rfl,_,_,rfl,rfl,⟨by decide,by decide⟩,_,_,rfl,rfl,(by show (0:Int)<9967;decide),l,_,_,rfl,rfl,L,(by rw[aDG];exact bC (by omega)),?_⟩;refine⟨⟨sd2 D ys,ys++[sd2 D ys / 1019 % 9967],rfl,Same.upd' hl M,by rw[aB,aDV];rfl,?_,by simp;omega,t0,t1⟩,?_⟩
     .intro n hn;rcases aDj.mp hn with h | h
      .exact Y n h
      .rw[aDc.mp h];exact⟨Int.emod_nonneg _ (by decide),Int.emod_lt_of_pos _ (by decide)⟩
     .simp only[aB,L,aDP,aDG,List.length_singleton];omega
    .rw[aDG]at hc;refine⟨_,rfl,_,rfl,_,rfl,l,_,rfl,SqL.of L,λp2 ap=>?_⟩;rw[Z0 ys m (by omega)];exact k p2 (ys.take m) _ (by simp;omega) (λn hn=>Y n (List.mem_of_mem_take hn)) (M.free ap) (Same.upd' (M.free ap) M) aB
   .intro σ H3 Q1 Q2 hq h;obtain⟨x,e,p2,ys,e2,aw,z,e3,i,j,e4,e5,b,e6,q⟩:=h;exact⟨x,e,p2,ys,e2,aw,z,e3,i,j,e4,e5,b,e6,hq _ _ q⟩
abbrev pV:Stmt:=top 82
def fB:FnScope ["_law_d","_law_most","_law_place","_law_row_here","_law_k","_law_step"] ["_law_d","_law_most"] (aJ pV):=⟨rfl,rfl,rfl,by decide +kernel,rfl,by decide +kernel,by decide +kernel⟩
inductive uD (H:Hp) (a:Addr) (l:Addr) (m:Nat) (i:Nat) (σ:St) (H2:Hp):Prop
 | mk (place:Int) (row:List Int) (v1 v2:Option V) (k0_:σ=[some (.ref a),some (.int m),some (.int place),some (.ref l),v1,v2]) (k1_:Same H H2) (k2_:H2 l=some (.lst (row.map V.int))) (k3_:Row row) (k4_:row.length=i) (k5_:-15<=place) (k6_:place<=15+12 * i) (k7_:∀ x∈row,-15<=x/\x<=place):uD H a l m i σ H2
def aBj {f:Addr} {fd:FuncData} (F:Fun K "_law_row" "_law_row" pV f fd) (B:Bt mg):FnOk P w K mg base CX0 1 f fd ["_law_d","_law_most"] N9:=by
 refine F.ok fB (λvs H Q E h=>?_) (λap A outer s H vs Q E hr h=>?_)
 .obtain⟨a,ns,m,rfl,_⟩:=h;rfl
 .obtain⟨a,ns,m,rfl,Y,aq,hlen,hm,k⟩:=h;refine⟨_,(aF (aQ (i:=2) fB.nd rfl (Or.inl rfl) (aL eY (aL bZ (bH bM (pv 0) aI (λ_ _=>rfl)) aI) aI))
 (aF (aQ (i:=3) fB.nd rfl (Or.inl rfl) (dA aE))
 (aF (cZ PassesOwn.never rfl (eX rfl B.range (aA (aL bZ (bH bM (pv 0) aI (λ_ _=>rfl)) (aL bF (pv 1) aI)) aE)) (aM (i:=4) fB.nd rfl (Or.inl rfl))
 (aF (aQ (i:=5) fB.nd rfl (Or.inl rfl) (bH bM (pv 0) (aL bF aI (pv 4)) (λ_ _=>rfl)))
 (aF (aQ (i:=2) fB.nd rfl (Or.inl rfl) (aL bF (aL bF (pv 2) aI) (wV (nA (aY rZ (aL bZ (pv 5) aI) aI (bD _)) aI (aL bZ (aL lJ (pv 5) aI) (bH bM (dA (aA aI (aA aI (aA aI (aA aI aE))))) (aL bZ (bH bM (pv 0) aI (λ_ _=>rfl)) aI) (λ_ _=>rfl)))))))
 (aK (aS (iP aDd aDe aDf cC (pv 3) (aA (pv 2) aE)))))))
 (aK (aZ (pv 3)))))),?_⟩
  obtain⟨n0,m0,_,e0⟩:=cR (ns:=ns) (i:=0) (by omega) (by omega);obtain⟨n1,m1,_,e1⟩:=cR (ns:=ns) (i:=1) (by omega) (by omega);obtain⟨n2,m2,_,e2⟩:=cR (ns:=ns) (i:=2) (by omega) (by omega);have p1:(0:Int)<(m:Int)+1:=by omega
  have q1:=Int.emod_nonneg n1 (show ((m:Int)+1)≠0 by omega);have q2:=Int.emod_lt_of_pos n1 p1;have r1:=Int.emod_nonneg n0 (show (31:Int)≠0 by decide);have r2:=Int.emod_lt_of_pos n0 (show (0:Int)<31 by decide);refine⟨_,rfl,a,_,_,_,rfl,rfl,SqL.of Y,e0,_,_,rfl,rfl,(by show (0:Int)<31;decide),_,_,rfl,rfl,by decide,λl hl=>?_⟩;have al:=Same.upd (o:=.lst []) hl _ _ Y;refine⟨_,rfl,a,_,_,_,rfl,rfl,SqL.of al,e1,_,rfl,_,_,rfl,rfl,_,_,rfl,rfl,p1,_,rfl,by omega,by omega,
   dZ (lo:=0) (n:=(n1 % ((m:Int)+1)).toNat) (uD H a l m) ⟨_,[],none,none,rfl,Same.upd hl,aB,List.Pairwise.nil,rfl,by omega,by omega,λx D=>by cases D⟩ ?_ ?_⟩
  .rintro i σ H2 hi ⟨place,row,v1,v2,rfl,sm,J,z,L,h1,h2,D⟩;obtain⟨st,ms,_,es⟩:=cR (ns:=ns) (i:=3+(0+(i:Int))) (by omega) (by omega);refine⟨_,rfl,_,rfl,_,_,rfl,rfl,a,_,_,_,rfl,rfl,SqL.of (sm _ _ Y),es,?_⟩;refine⟨_,rfl,_,_,rfl,rfl,λv M=>∃ d:Int,v=.int d/\0<=d/\d<=11/\(M=H2\/∃ p xs,H2 p=none/\M=upd H2 p (.lst xs)),?_,?_⟩
   .refine⟨_,rfl,_,_,rfl,rfl,(by show (0:Int)<3;decide),_,_,rfl,rfl,_,rfl,mL (λ_=>⟨0,rfl,by decide,by decide,.inl rfl⟩) (λ_=>?_)⟩;refine⟨_,rfl,_,_,rfl,rfl,⟨by decide,by decide⟩,(by show 4<=sizeLine;decide),λp I=>?_⟩;obtain⟨w',mw,_,ew⟩:=cR (ns:=[2,3,5,12]) (i:=n2 % 4) (Int.emod_nonneg _ (by decide)) (Int.emod_lt_of_pos _ (by decide));refine⟨_,rfl,a,_,_,_,rfl,rfl,SqL.of ((Same.upd I) _ _ (sm _ _ Y)),e2,_,_,rfl,rfl,(by show (0:Int)<4;decide),p,_,_,_,rfl,rfl,SqL.of aB,ew,_,_,rfl,rfl,?_,_,rfl,?_,?_,.inr ⟨p,_,I,rfl⟩⟩
    .simp at mw;omega
    .exact Int.emod_nonneg _ (by simp at mw;omega)
    .have:=Int.emod_lt_of_pos (st / 3) (show (0:Int)<w' by simp at mw;omega);simp at mw;show st / 3 % w'<=11;omega
   .rintro v M ⟨d,rfl,d0,d1,N⟩;have am:Same H M:=by
     rcases N with e | ⟨p,xs,I,e⟩
     .rw[e];exact sm
     .rw[e];exact Same.upd' (sm.free I) sm
    have U:M l=some (.lst (row.map V.int)):=by
     rcases N with e | ⟨p,xs,I,e⟩
     .rw[e];exact J
     .rw[e,aG (aN J I)];exact J
    refine⟨_,_,rfl,rfl,_,rfl,.inl ⟨rfl,_,SqL.of U⟩,_,rfl,l,_,_,rfl,rfl,U,(by rw[aDG];exact bC (by omega)),?_⟩;refine⟨place+1+d,row++[place+1+d],_,_,rfl,Same.upd' hl am,by rw[aB,aDV];rfl,zL z λy hy=>?_,by simp[L],by omega,by omega,λx ao=>?_⟩
    .have:=D y hy;omega
    .rcases aDj.mp ao with h | h
     .have:=D x h;omega
     .rw[aDc.mp h];omega
  .rintro σ H2 ⟨place,row,v1,v2,rfl,sm,J,z,L,h1,h2,D⟩;exact⟨_,rfl,k row z (by omega) (λx h=>by have:=D x h;omega) l H2 hl sm J⟩
abbrev eR:Stmt:=top 83
def dU:FnScope ["_law_d","_law_most","_law_row_here","_law_cut","_law_by"] ["_law_d","_law_most"] (aJ eR):=⟨rfl,rfl,rfl,by decide +kernel,rfl,by decide +kernel,by decide +kernel⟩
def aA8 {f:Addr} {fd:FuncData} (F:Fun K "_law_long_row" "_law_long_row" eR f fd) (B:Bt mg) (I:aU P w K mg base "_law_row" 1 ["_law_d","_law_most"] N9):FnOk P w K mg base CX0 2 f fd ["_law_d","_law_most"] rF:=by
 refine F.ok dU (λvs H Q E h=>?_) (λba A outer s H vs Q E hr h=>?_)
 .obtain⟨a,ns,m,rfl,_⟩:=h;rfl
 .obtain⟨a,ns,m,rfl,ha,ax,hlen,hm,k⟩:=h;refine⟨_,(aF (aQ (i:=2) dU.nd rfl (Or.inl rfl) (aW I hr rfl (aA (pv 0) (aA (pv 1) aE))))
 (aF (aQ (i:=3) dU.nd rfl (Or.inl rfl) (aL bZ (aL lJ (bH bM (pv 0) aI (λ_ _=>rfl)) aI) (aL bF (aP aV (by rfl) B.len PySem.boot_len (aA (pv 2) aE)) aI)))
 (aF (aQ (i:=4) dU.nd rfl (Or.inr rfl) (bH bM (dA (aA aI (aA (aL rS aI aI) (aA (aL rS aI aI) (aA (aL rS aI aI) aE))))) (aL bZ (aL lJ (bH bM (pv 0) aI (λ_ _=>rfl)) aI) aI) (λ_ _=>rfl)))
 (aK (aZ (aL oY (dP lK (pv 2) fF (fG (pv 3))) (dH ["_law_place"] ["_law_by"] [4] rfl (.of (show dB (aJ eR) _ ["_law_d","_law_most","_law_row_here","_law_cut","_law_by"] [4] ["_law_by"]=true by decide +kernel)) (dC (dP lK (pv 2) (fG (pv 3)) fF)) (λ_ _ _=>(aM (i:=0) (show (["_law_place","_law_by"]:List Str).Nodup by decide +kernel) rfl (Or.inl rfl))) (fT (by decide)) (λ_ _ _=>dE) (λ_ _ _=>(aL bF (pv 0) (pv 1)))))))))),?_⟩
  obtain⟨J,m2,_,e2⟩:=cR (ns:=ns) (i:=2) (by omega) (by omega);refine⟨_,rfl,_,rfl,a,ns,m,rfl,ha,ax,hlen,hm,λrow al bb am l H1 hl sm el=>?_⟩;have p1:(0:Int)<(row.length:Int)+1:=by omega
  refine⟨_,rfl,a,_,_,_,rfl,rfl,SqL.of (sm _ _ ha),e2,_,_,rfl,rfl,⟨by decide,by decide⟩,_,rfl,l,_,rfl,.inl (SqL.of el),_,_,rfl,rfl,_,_,rfl,rfl,(by rw[aDG];exact p1),?_⟩;have c0:0<=J / 4 % ((row.length:Int)+1):=Int.emod_nonneg _ (by omega);have c1:J / 4 % ((row.length:Int)+1)<(row.length:Int)+1:=Int.emod_lt_of_pos _ p1;obtain⟨c,hc⟩:∃ c:Nat,J / 4 % (((row.map V.int).length:Int)+1)=(c:Int):=⟨(J / 4 % (((row.map V.int).length:Int)+1)).toNat,by rw[aDG];omega⟩;have ao:c<=row.length:=by rw[aDG]at hc;omega
  refine⟨_,_,rfl,rfl,⟨by decide,by decide,by decide⟩,_,_,rfl,rfl,⟨by decide,by decide,by decide⟩,_,_,rfl,rfl,⟨by decide,by decide,by decide⟩,(show 4<=sizeLine by decide),λp hp=>?_⟩;obtain⟨b,mb,_,eb⟩:=cR (ns:=[0,10 ^ (3:Int).toNat,10 ^ (12:Int).toNat,10 ^ (40:Int).toNat]) (i:=J / 64 % 4) (Int.emod_nonneg _ (by decide)) (Int.emod_lt_of_pos _ (by decide));have hb:0<=b:=by
   simp only[aDi,List.mem_nil_iff,or_false]at mb;rcases mb with h | h | h | h <;> rw[h] <;> decide
  have L:=Same.upd (o:=.lst [V.int 0,V.int (10 ^ (3:Int).toNat),V.int (10 ^ (12:Int).toNat),V.int (10 ^ (40:Int).toNat)]) hp;refine⟨_,rfl,a,_,_,_,rfl,rfl,SqL.of (L _ _ (sm _ _ ha)),e2,_,_,rfl,rfl,⟨by decide,by decide⟩,_,_,rfl,rfl,(by show (0:Int)<4;decide),p,_,_,_,rfl,rfl,SqL.of aB,eb,?_⟩;have M:=L _ _ el;have ap:Same H (upd H1 p (.lst [V.int 0,V.int (10 ^ (3:Int).toNat),V.int (10 ^ (12:Int).toNat),V.int (10 ^ (40:Int).toNat)])):=sm.trans L;generalize upd H1 p (.lst [V.int 0,V.int (10 ^ (3:Int).toNat),V.int (10 ^ (12:Int).toNat),V.int (10 ^ (40:Int).toNat)])=H2 at M ap ⊢;refine⟨_,rfl,_,rfl,_,rfl,l,_,rfl,SqL.of M,λp1 aq=>?_⟩;have ay:fS (row.map V.int) none (some (J / 4 % (((row.map V.int).length:Int)+1)))=(row.take c).map V.int:=by rw[hc];exact Z0 row c ao
  rw[show fS (row.map V.int) none (some ((λi j=>i % j) (J / 4) (((row.map V.int).length:Int)+1)))=(row.take c).map V.int from ay];have ar:=Same.upd (o:=.lst ((row.take c).map V.int)) aq _ _ M;have au:Same H (upd H2 p1 (.lst ((row.take c).map V.int))):=ap.trans (Same.upd aq);have av:(upd H2 p1 (.lst ((row.take c).map V.int))) p1=some (.lst ((row.take c).map V.int)):=aB;generalize upd H2 p1 (.lst ((row.take c).map V.int))=H3 at ar au av ⊢;refine⟨_,rfl,_,rfl,_,rfl,l,_,rfl,SqL.of ar,λp2 az=>?_⟩;have a_:fS (row.map V.int) (some (J / 4 % (((row.map V.int).length:Int)+1))) none=(row.drop c).map V.int:=by rw[hc];exact sF row c ao
  rw[show fS (row.map V.int) (some ((λi j=>i % j) (J / 4) (((row.map V.int).length:Int)+1))) none=(row.drop c).map V.int from a_];have N:=Same.upd (o:=.lst ((row.drop c).map V.int)) az;have U:(upd H3 p2 (.lst ((row.drop c).map V.int))) p2=some (.lst ((row.drop c).map V.int)):=aB;generalize upd H3 p2 (.lst ((row.drop c).map V.int))=H4 at N U ⊢;have bc:(row.drop c).length<=60:=by simp;omega
  refine⟨p2,rfl,⟨_,SqL.of U⟩,iQ (xs:=(row.drop c).map V.int) (λi ys H5=>H5=H4/\ys=(((row.drop c).take i).map (λz=>z+b)).map V.int) ⟨rfl,rfl⟩ ?_ ?_ ?_⟩
  .rintro i ys H5 hi ⟨rfl,rfl⟩;exact⟨SqL.of U,nK _ _ (by rw[aDG]at hi;omega) _⟩
  .rintro i x ys H5 hi ⟨rfl,rfl⟩;obtain⟨z,rfl,hz⟩:=kJ hi;exact⟨_,rfl,_,rfl,_,_,rfl,rfl,rfl,sI _ hz⟩
  .rintro ys H5 ⟨rfl,rfl⟩ D hD;rw[aDG,aDU];have aw:=Same.upd (o:=.lst (((row.drop c).map (λz=>z+b)).map V.int)) hD;refine⟨p1,D,_,_,rfl,rfl,aw _ _ (N _ _ av),aB,?_,λq hq=>?_⟩
   .simp only[aDG,aDW,List.length_drop];exact cV (by omega)
   .rw[<- aDV];have Y:=(au.trans N).trans aw;refine k _ (Z1 (c:=c) al hb) ?_ (λx hx=>?_) q _ (Y.free hq) (Same.upd' (Y.free hq) Y) aB
    .simp only[aDP,aDG,aDW,List.length_drop];omega
    .rcases aDj.mp hx with hx | hx
     .exact(am x (List.mem_of_mem_take hx)).1
     .obtain⟨z,hz,rfl⟩:=aDk.mp hx;have:=(am z (List.mem_of_mem_drop hz)).1;omega
abbrev lI:Stmt:=top 84
def eU:FnScope ["_law_d","_law_many","_law_found","_law_k","_law_creel"] ["_law_d","_law_many"] (aJ lI):=⟨rfl,rfl,rfl,by decide +kernel,rfl,by decide +kernel,by decide +kernel⟩
inductive oQ (H:Hp) (a:Addr) (l:Addr) (m:Nat) (i:Nat) (σ:St) (H2:Hp):Prop
 | mk (us:List V) (ws:List (Int×Int)) (v1 v2:Option V) (k0_:σ=[some (.ref a),some (.int m),some (.ref l),v1,v2]) (k1_:Same H H2) (k2_:H2 l=some (.lst us)) (k3_:Prs H2 us ws) (k4_:ws.length=i) (k5_:Crl ws) (k6_:∀ q∈ws,-4<=q.2/\q.2<=4):oQ H a l m i σ H2
inductive oS (a:Addr) (l:Addr) (m:Nat) (H3:Hp) (i:Nat) (σ':St) (H':Hp):Prop
 | mk (o:Int) (k0_:σ'=[some (.ref a),some (.int m),some (.ref l),some (.int (0+(i:Int))),some (.int o)]) (k1_:H'=H3) (k2_:1<=o):oS a l m H3 i σ' H'
def u6 {f:Addr} {fd:FuncData} (F:Fun K "_law_walks" "_law_walks" lI f fd) (B:Bt mg):FnOk P w K mg base CX0 1 f fd ["_law_d","_law_many"] rD:=by
 refine F.ok eU (λvs H Q E h=>?_) (λap A outer s H vs Q E hr h=>?_)
 .obtain⟨a,ns,m,rfl,_⟩:=h;rfl
 .obtain⟨a,ns,m,rfl,ha,hlen,hm,k⟩:=h;refine⟨_,(aF (aQ (i:=2) eU.nd rfl (Or.inl rfl) (dA aE))
 (aF (cZ PassesOwn.never rfl (eX rfl B.range (aA (aL bZ (bH bM (pv 0) aI (λ_ _=>rfl)) (aL bF (pv 1) aI)) aE)) (aM (i:=3) eU.nd rfl (Or.inl rfl))
 (aF (aQ (i:=4) eU.nd rfl (Or.inl rfl) (aL bF aI (aL bZ (bH bM (pv 0) (aL bF aI (aL dN aI (pv 3))) (λ_ _=>rfl)) (bH bM (dA (aA aI (aA aI (aA aI aE)))) (aL bZ (aL lJ (bH bM (pv 0) aI (λ_ _=>rfl)) aI) aI) (λ_ _=>rfl)))))
 (qV (bU (aY rZ (aL bZ (bH bM (pv 0) (aL bF aI (aL dN aI (pv 3))) (λ_ _=>rfl)) aI) aI (bD _))
 (aK (aQ (i:=4) eU.nd rfl (Or.inl rfl) (aL rS aI aI)))
 bE)
 (aK (aS (iP aDd aDe aDf cC (pv 2) (aA (cF (aA (pv 4) (aA (aL eY (aL bZ (bH bM (pv 0) (aL bF aI (aL dN aI (pv 3))) (λ_ _=>rfl)) aI) aI) aE))) aE)))))))
 (aK (aZ (pv 2))))),?_⟩
  obtain⟨n0,m0,_,e0⟩:=cR (ns:=ns) (i:=0) (by omega) (by omega);have p1:(0:Int)<(m:Int)+1:=by omega
  have q1:=Int.emod_nonneg n0 (show ((m:Int)+1)≠0 by omega);have q2:=Int.emod_lt_of_pos n0 p1;refine⟨by decide,λl hl=>?_⟩;have am:=Same.upd (o:=.lst []) hl _ _ ha;refine⟨_,rfl,a,_,_,_,rfl,rfl,SqL.of am,e0,_,rfl,_,_,rfl,rfl,_,_,rfl,rfl,p1,_,rfl,by omega,by omega,
   dZ (lo:=0) (n:=(n0 % ((m:Int)+1)).toNat) (oQ H a l m)
    ⟨[],[],none,none,rfl,Same.upd hl,aB,.nil,rfl,λp I=>(nomatch I),λp I=>(nomatch I)⟩ ?_ ?_⟩
  .rintro i σ H2 hi ⟨us,ws,v1,v2,rfl,sm,el,pr,hpl,J,L⟩;obtain⟨x1,w1,_,y1⟩:=cR (ns:=ns) (i:=1+2 * (0+(i:Int))) (by omega) (by omega);obtain⟨N,w2,_,y2⟩:=cR (ns:=ns) (i:=2+2 * (0+(i:Int))) (by omega) (by omega);have U:=sm _ _ ha;refine⟨_,rfl,_,rfl,_,_,rfl,rfl,.inl ⟨by decide,by decide⟩,_,_,rfl,rfl,a,_,_,_,rfl,rfl,SqL.of U,y1,(show 3<=sizeLine by decide),λp1 ao=>?_⟩;have g1:=Same.upd (o:=.lst [V.int 3,V.int 9,V.int 70]) ao;have f1:(upd H2 p1 (.lst [V.int 3,V.int 9,V.int 70])) p1=some (.lst ([3,9,70].map V.int)):=aB;generalize upd H2 p1 (.lst [V.int 3,V.int 9,V.int 70])=H3 at g1 f1 ⊢;obtain⟨z,mz,_,ez⟩:=cR (ns:=[3,9,70]) (i:=n0 / 8 % 3) (Int.emod_nonneg _ (by decide)) (Int.emod_lt_of_pos _ (by decide));have hz:(0:Int)<z:=by simp at mz;omega
   have z1:=Int.emod_nonneg x1 (Int.ne_of_gt hz);refine⟨_,rfl,a,_,_,_,rfl,rfl,SqL.of (g1 _ _ U),e0,_,_,rfl,rfl,⟨by decide,by decide⟩,_,_,rfl,rfl,(by show (0:Int)<3;decide),p1,_,_,_,rfl,rfl,SqL.of f1,ez,_,_,rfl,rfl,hz,_,_,rfl,rfl,?_⟩;have M:=sm.trans g1;have Y:=M _ _ ha;refine⟨oS a l m H3 i,⟨_,rfl,_,rfl,_,_,rfl,rfl,.inl ⟨by decide,by decide⟩,_,_,rfl,rfl,a,_,_,_,rfl,rfl,SqL.of Y,y1,_,_,rfl,rfl,(by show (0:Int)<17;decide),_,_,rfl,rfl,_,rfl,mL (λ_=>?_) (λ_=>⟨_,rfl,rfl,by omega⟩)⟩,?_⟩
   .exact⟨_,_,rfl,rfl,⟨by decide,by decide,by decide⟩,_,rfl,rfl,by decide⟩
   .rintro aq H4 ⟨o,rfl,rfl,ho⟩;have D:=g1 _ _ el;refine⟨_,rfl,.inl ⟨rfl,_,SqL.of D⟩,_,rfl,_,rfl,_,rfl,_,_,rfl,rfl,.inl ⟨by decide,by decide⟩,_,_,rfl,rfl,a,_,_,_,rfl,rfl,SqL.of Y,y2,_,_,rfl,rfl,(by show (0:Int)<9;decide),_,_,rfl,rfl,(show 2<=sizeLine by decide),λt ht=>?_⟩;have c1:=Int.emod_nonneg N (show (9:Int)≠0 by decide);have c2:=Int.emod_lt_of_pos N (show (0:Int)<9 by decide);have al:(upd H4 t (.tup [.int o,.int (N % 9 - 4)])) l=some (.lst us):=by rw[aG (aN D ht)];exact D
    refine⟨l,us,_,rfl,rfl,al,bC (by rw[pr.len];omega),us++[.ref t],ws++[(o,N % 9 - 4)],_,_,rfl,Same.upd' hl (Same.upd' (M.free ht) M),aB,?_,by simp[hpl],λp I=>?_,λp I=>?_⟩
    .exact Paired.append' (Prs.mono (TupS.trans (TupS.trans (TupS.same g1) (TupS.new ht)) (TupS.lst al)) pr) (.cons ⟨t,rfl,by rw[aG (Ne.symm (aN D ht)),aB]⟩ .nil)
    .rcases aDj.mp I with h | h
     .exact J p h
     .rw[aDc.mp h];exact ho
    .rcases aDj.mp I with h | h
     .exact L p h
     .rw[aDc.mp h]
      constructor
      .show -4<=N % 9 - 4;omega
      .show N % 9 - 4<=4;omega
  .rintro σ H2 ⟨us,ws,v1,v2,rfl,sm,el,pr,hpl,J,L⟩;exact⟨_,rfl,k ws (by omega) J L l us H2 hl sm el pr⟩
abbrev pW:Stmt:=top 85
def jX:FnScope ["_law_many","_law_found","_law_step"] ["_law_many"] (aJ pW):=⟨rfl,rfl,rfl,by decide +kernel,rfl,by decide +kernel,by decide +kernel⟩
def aBk {f:Addr} {fd:FuncData} (F:Fun K "_law_ten" "_law_ten" pW f fd) (B:Bt mg):FnOk P w K mg base CX0 1 f fd ["_law_many"] N8:=by
 refine F.ok jX (λvs H Q E h=>?_) (λz A outer s H vs Q E D h=>?_)
 .obtain⟨n,rfl,_⟩:=h;rfl
 .obtain⟨n,rfl,I,k⟩:=h;refine⟨_,(aF (aQ (i:=1) jX.nd rfl (Or.inl rfl) aI)
 (aF (cZ PassesOwn.never rfl (eX rfl B.range (aA (pv 0) aE)) (aM (i:=2) jX.nd rfl (Or.inl rfl))
 (aK (aQ (i:=1) jX.nd rfl (Or.inl rfl) (aL dN (pv 1) aI))))
 (aK (aZ (pv 1))))),?_⟩
  refine⟨_,rfl,_,rfl,by omega,by omega,dZ (n:=n) (λi σ H2=>∃ v,σ=[some (.int n),some (.int (10 ^ i)),v]/\H2=H) ⟨none,rfl,rfl⟩ ?_ ?_⟩
  .rintro i σ H2 hi ⟨v,rfl,rfl⟩;refine⟨_,rfl,_,_,rfl,rfl,.inr ⟨by decide,by decide⟩,_,rfl,rfl⟩
  .rintro σ H2 ⟨v,rfl,rfl⟩;exact⟨_,rfl,k⟩
abbrev u7:Stmt:=top 86
def dY:FnScope ["_law_script","_law_numbers_here","_law_row_here","_law_house","_law_far_place","_law_start","_law_walks_here","_law_creel","_law_count","_law_k","_law_walk","_law_at","_law_gone"] ["_law_script"] (aJ u7):=⟨rfl,rfl,rfl,by decide +kernel,rfl,by decide +kernel,by decide +kernel⟩
def aBl {f:Addr} {fd:FuncData} (G:Hc K) (F:Fun K "law" "law" u7 f fd) (B:Bt mg) (am:aU P w K mg base "_law_numbers" 1 ["_law_script","_law_many"] (lN K)) (U:aU P w K mg base "_law_long_row" 2 ["_law_d","_law_most"] rF)
 (aw:aU P w K mg base "_law_walks" 1 ["_law_d","_law_many"] rD) (a_:aU P w K mg base "_law_ten" 1 ["_law_many"] N8) (de:aU P w K mg base "far" 5 ["row","walks"] tF) (bt:iU P w K mg base "House" G.Hs 1 ["self"] (kT G))
 (ax:cK P w K mg base G.Hs "build" 13 ["self","name","row"] (rK G)) (bu:cK P w K mg base G.Hs "put" 13 ["self","name","place"] (cX G "put" 2)) (bh:cK P w K mg base G.Hs "walk" 13 ["self","name","creel","count"] (cX G "walk" 3)) (cj:cK P w K mg base G.Hs "late" 13 ["self","name","at","creel","count"] (cX G "late" 4))
 (bj:cK P w K mg base G.Hs "strike" 13 ["self","name","at"] (cX G "strike" 2)) (L:cK P w K mg base G.Hs "row" 8 ["self","name"] (pL G)) (bv:cK P w K mg base G.Hs "log" 2 ["self","name"] (pM G)) :
 FnOk P w K mg base CX0 14 f fd ["_law_script"] (zN K):=by
 refine F.ok dY (λvs H Q E h=>?_) (λi_ A outer s H vs Q E hr h=>?_)
 .obtain⟨a,ns,rfl,_⟩:=h;rfl
 .obtain⟨sa,sc,rfl,hS,hlen,kk⟩:=h;have hu:=hr.units;refine⟨_,(bA (aQ (i:=1) dY.nd rfl (Or.inl rfl) (aW am hr rfl (aA (pv 0) (aA aI aE))))
 (bA (aQ (i:=2) dY.nd rfl (Or.inl rfl) (aW U hr rfl (aA (dP lK (pv 1) (fG aI) fF) (aA (bH bM (dA (aA aI (aA aI (aA aI aE)))) (aL bZ (bH bM (pv 1) aI (λ_ _=>rfl)) aI) (λ_ _=>rfl)) aE))))
 (bA (aQ (i:=3) dY.nd rfl (Or.inl rfl) (aAP bt hr rfl))
 (bA (aS (cP ax G.hs hr (pv 3) (aA bO (aA (cL eI (by rfl) B.list gE (aA (pv 2) aE)) aE))))
 (bA (aS (cP ax G.hs hr (pv 3) (aA bO (aA (cL eI (by rfl) B.list gE (aA (pv 2) aE)) aE))))
 (bA (aQ (i:=4) dY.nd rfl (Or.inl rfl) (aL bF (aL bF (vI rfl rfl B.max (pv 2) aI) aI) (aL bZ (bH bM (pv 1) aI (λ_ _=>rfl)) aI)))
 (bA (aQ (i:=5) dY.nd rfl (Or.inl rfl) aI)
 (bA (bU (aY rZ (aL bZ (bH bM (pv 1) aI (λ_ _=>rfl)) aI) aI (bD _))
 (bA (aQ (i:=5) dY.nd rfl (Or.inl rfl) aI)
 (bA (aS (cP bu G.hs hr (pv 3) (aA bO (aA (pv 4) aE))))
 (aK (aS (cP bu G.hs hr (pv 3) (aA bO (aA (pv 4) aE)))))))
 bE)
 (bA (aQ (i:=6) dY.nd rfl (Or.inl rfl) (dA aE))
 (aF (cZ PassesOwn.never rfl (dC (aW aw hr rfl (aA (dP lK (pv 1) (fG aI) fF) (aA aI aE)))) (eW rfl (aO (aM (i:=7) dY.nd rfl (Or.inl rfl)) (aO (aM (i:=8) dY.nd rfl (Or.inl rfl)) bW)))
 (aK (aS (iP aDd aDe aDf cC (pv 6) (aA (cF (aA (pv 7) (aA (aL dN (pv 8) (aW a_ hr rfl (aA (aL bZ (bH bM (pv 1) (aL bF aI (aP aV (by rfl) B.len PySem.boot_len (aA (pv 6) aE))) (λ_ _=>rfl)) aI) aE))) aE))) aE)))))
 (aF (cZ PassesOwn.never rfl (N2 rfl B.enumerate (aA (pv 6) aE)) (eW rfl (aO (aM (i:=9) dY.nd rfl (Or.inl rfl)) (aO (aM (i:=10) dY.nd rfl (Or.inl rfl)) bW)))
 (bA (aS (cP cj G.hs hr (pv 3) (aA bO (aA (aL bF (pv 5) (aL bZ (bH bM (pv 1) (aL bF aI (pv 9)) (λ_ _=>rfl)) (aL bF (pv 9) aI))) (aA (bH cG (pv 10) aI (λ_ _=>rfl)) (aA (bH cG (pv 10) aI (λ_ _=>rfl)) aE))))))
 (bA (aS (cP bh G.hs hr (pv 3) (aA bO (aA (bH cG (pv 10) aI (λ_ _=>rfl)) (aA (bH cG (pv 10) aI (λ_ _=>rfl)) aE)))))
 (aK (bU (aY (wU hu) (cP L G.hs hr (pv 3) (aA bO aE)) (cP L G.hs hr (pv 3) (aA bO aE)) (bD _))
 (aK (aZ uW))
 bE)))))
 (bA (bU (aY (wU hu) (aW de hr rfl (aA (aP fW (by rfl) B.sorted cT (aA (aL oY (pv 2) (aL X5 (dA (aA (pv 4) aE)) (pv 5))) aE)) (aA (pv 6) aE))) (cP L G.hs hr (pv 3) (aA bO aE)) (bD _))
 (aK (aZ uW))
 bE)
 (aF (cZ PassesOwn.never rfl (eX rfl B.range (aA (aP aV (by rfl) B.len PySem.boot_len (aA (pv 6) aE)) aE)) (aM (i:=9) dY.nd rfl (Or.inl rfl))
 (bA (aQ (i:=11) dY.nd rfl (Or.inl rfl) (aL bF (pv 5) (aL bZ (bH bM (pv 1) (aL bF aI (pv 9)) (λ_ _=>rfl)) (aL eY (aP aV (by rfl) B.len PySem.boot_len (aA (pv 6) aE)) (pv 9)))))
 (bA (aQ (i:=12) dY.nd rfl (Or.inl rfl) (bH bM (cP bv G.hs hr (pv 3) (aA bO aE)) (pv 11) (λ_ _=>rfl)))
 (bA (aS (cP bj G.hs hr (pv 3) (aA bO (aA (pv 11) aE))))
 (bA (aS (cP bh G.hs hr (pv 3) (aA bO (aA (bH cG (pv 12) aI (λ_ _=>rfl)) (aA (lZ iE (bH cG (pv 12) aI (λ_ _=>rfl))) aE)))))
 (aK (bU (aY (wU hu) (cP L G.hs hr (pv 3) (aA bO aE)) (cP L G.hs hr (pv 3) (aA bO aE)) (bD _))
 (aK (aZ uW))
 bE)))))))
 (aK (aZ (wN (jB (aBE hu) (cP L G.hs hr (pv 3) (aA bO aE)) (aP fW (by rfl) B.sorted cT (aA (aL oY (pv 2) (aL X5 (dA (aA (pv 4) aE)) (pv 5))) aE)) (bD _)) (D8 (jB rZ (aP aV (by rfl) B.len PySem.boot_len (aA (cP bv G.hs hr (pv 3) (aA bO aE)) aE)) (aL bF (pv 5) (aL dN aI (aP aV (by rfl) B.len PySem.boot_len (aA (pv 6) aE)))) (bD _))))))))))))))))))),?_⟩
  refine λM1 D=>?_;refine⟨_,rfl,sa,sc,80,rfl,hS,hlen,by decide,λJ nums H1 ja df hl1 jb dh=>?_⟩;refine D [some (.ref sa),some (.ref J),none,none,none,none,none,none,none,none,none,none,none] _ ?_;clear D M1;obtain⟨n0,m0,_,e0⟩:=cR (ns:=nums) (i:=0) (by omega) (by omega);refine λM1 D=>?_;refine⟨_,rfl,_,rfl,J,_,rfl,SqL.of dh,λp1 ay=>?_⟩;have ec:fS (nums.map V.int) (some 4) none=(nums.drop 4).map V.int:=sF nums 4 (by omega);rw[ec];have di:=Same.upd (o:=.lst ((nums.drop 4).map V.int)) ay;have M:(upd H1 p1 (.lst ((nums.drop 4).map V.int))) p1=some (.lst ((nums.drop 4).map V.int)):=aB;generalize upd H1 p1 (.lst ((nums.drop 4).map V.int))=H2 at di M ⊢;refine⟨(show 3<=sizeLine by decide),λp2 bm=>?_⟩;have ck:=Same.upd (o:=.lst [V.int 5,V.int 12,V.int 20]) bm;have ap:(upd H2 p2 (.lst [V.int 5,V.int 12,V.int 20])) p2=some (.lst ([5,12,20].map V.int)):=aB;generalize upd H2 p2 (.lst [V.int 5,V.int 12,V.int 20])=H3 at ck ap ⊢;obtain⟨mm,ff,_,em⟩:=cR (ns:=[5,12,20]) (i:=n0 % 3) (Int.emod_nonneg _ (by decide)) (Int.emod_lt_of_pos _ (by decide));obtain⟨m,rfl,hm⟩:∃ m:Nat,mm=(m:Int)/\m<=20:=⟨mm.toNat,by simp at ff;omega,by simp at ff;omega⟩;have dj:=di.trans ck;refine⟨_,rfl,J,_,_,_,rfl,rfl,SqL.of (dj _ _ dh),e0,_,_,rfl,rfl,(by show (0:Int)<3;decide),p2,_,_,_,rfl,rfl,SqL.of ap,em,?_⟩;refine⟨p1,nums.drop 4,m,rfl,ck _ _ M,λn hn=>df n (List.mem_of_mem_drop hn),by simp;omega,by omega,λrow fg jc jd Y H4 gu fh bw=>?_⟩;have dm:=(dj.trans fh) _ _ dh;have dn:Rw row:=⟨fg,by omega⟩;refine D [some (.ref sa),some (.ref J),some (.ref Y),none,none,none,none,none,none,none,none,none,none] _ ?_;clear D M1 di ck M ap dj fh gu ay bm;refine λM1 D=>?_;refine λx dx hx gv gw=>aC3 hx gv gw λH5 cm=>?_;refine D [some (.ref sa),some (.ref J),some (.ref Y),some (.ref x),none,none,none,none,none,none,none,none,none] _ ?_;clear D M1;refine λM1 D=>?_;obtain⟨dq,d5,q5,r5,cn⟩:=cm.ins;refine⟨_,rfl,x,dq,_,rfl,cn,rfl,_,rfl,Y,_,rfl,.inl (SqL.of (cm.sm _ _ bw)),λl2 hl2=>?_⟩;refine⟨NT,H4,x,l2,"late",row,_,rfl,cm.same (Same.upd hl2),aB,by decide +kernel,o4,rfl,dn,by decide,by decide,λH6 cp=>?_⟩;refine D [some (.ref sa),some (.ref J),some (.ref Y),some (.ref x),none,none,none,none,none,none,none,none,none] _ ?_;clear D M1 cm cn;refine λM1 D=>?_;obtain⟨dr,d6,q6,r6,cq⟩:=cp.ins;refine⟨_,rfl,x,dr,_,rfl,cq,rfl,_,rfl,Y,_,rfl,.inl (SqL.of (cp.sm _ _ bw)),λl3 gx=>?_⟩;refine⟨NT,H4,x,l3,"now",row,_,rfl,cp.same (Same.upd gx),aB,by decide +kernel,aA2,gH (s:=(("late":Str),row,([]:List Ent))) o0,dn,(show 1<8 by decide),(show 1<9000 by decide),λH7 fi=>?_⟩;refine D [some (.ref sa),some (.ref J),some (.ref Y),some (.ref x),none,none,none,none,none,none,none,none,none] _ ?_;clear D M1 cq;have S7:S43 G H4 H7 x row [] [] [] 2:=⟨_,fi,rfl,Nat.le_refl _⟩;clear fi cp;obtain⟨n1,m1,_,e1⟩:=cR (ns:=nums) (i:=1) (by omega) (by omega);obtain⟨n2,m2,_,e2⟩:=cR (ns:=nums) (i:=2) (by omega) (by omega);have fj:=S7.sm _ _ bw;have fk:=S7.sm _ _ dm;refine λM1 D=>?_;refine⟨_,rfl,Y,row,rfl,SqL.of fj,?_⟩;rw[aBL];refine⟨_,_,rfl,rfl,_,rfl,J,_,_,_,rfl,rfl,SqL.of fk,e1,_,_,rfl,rfl,(by show (0:Int)<5;decide),_,_,rfl,rfl,?_⟩;refine D [some (.ref sa),some (.ref J),some (.ref Y),some (.ref x),some (.int (hiM row+2+n1 % 5)),none,none,none,none,none,none,none,none] _ ?_;clear D M1;generalize je:hiM row+2+n1 % 5=fp;have fm:fp∉row:=λhm=>by
   have h1:=aCT fp hm;have h2:=Int.emod_nonneg n1 (show (5:Int)≠0 by decide);omega
  refine λM1 D=>?_;refine D [some (.ref sa),some (.ref J),some (.ref Y),some (.ref x),some (.int fp),some (.int 0),none,none,none,none,none,none,none] _ ?_;clear D M1;refine λM1 D=>?_;have rest:∀ (pre:List Ent) (r0:List Int) (n:Nat) (H8:Hp),Go row pre r0->pre.length<=1->r0.Perm (row++List.replicate pre.length fp)->n<=10->S43 G H4 H8 x row pre [] [] n->M1 [some (.ref sa),some (.ref J),some (.ref Y),some (.ref x),some (.int fp),some (.int (pre.length:Int)),none,none,none,none,none,none,none] H8:=λpre r0 n H8 I hpl fq hn S8=>by
   refine D _ _ ?_;clear D;have bx:Rw r0:=I.rw dn;have al:=λns:List Int=>zK ns;refine λM1 D=>?_;refine⟨(show 0<=sizeLine by decide),λN dt=>?_⟩;have g9:=Same.upd (o:=.lst []) dt;have bi:(upd H8 N (.lst [])) N=some (.lst []):=aB;generalize upd H8 N (.lst [])=H9 at g9 bi ⊢;refine D [some (.ref sa),some (.ref J),some (.ref Y),some (.ref x),some (.int fp),some (.int (pre.length:Int)),some (.ref N),none,none,none,none,none,none] _ ?_;clear D M1;have ft:=S8.sm _ _ dm;have iw:=S8.sm _ _ bw;have ec:fS (nums.map V.int) (some 40) none=(nums.drop 40).map V.int:=sF nums 40 (by omega);refine⟨_,rfl,_,rfl,J,_,rfl,SqL.of (g9 _ _ ft),λp1 ay=>?_⟩;rw[ec];have bz:=Same.upd (o:=.lst ((nums.drop 40).map V.int)) ay;have M:(upd H9 p1 (.lst ((nums.drop 40).map V.int))) p1=some (.lst ((nums.drop 40).map V.int)):=aB;generalize upd H9 p1 (.lst ((nums.drop 40).map V.int))=jf at bz M ⊢;refine⟨p1,nums.drop 40,8,rfl,M,by simp;omega,by omega,λfu jg gy fw du fz f_ b_ dv ca cb=>?_⟩;have cx:=(g9.trans bz).trans dv;have ba:=(bz.trans dv) _ _ bi;have gz:du≠N:=λe=>by rw[e,bz _ _ bi]at b_;cases b_
   have g_:fz.length=fu.length:=cb.len;refine⟨du,rfl,⟨_,SqL.of ca⟩,gJ (K:=K) (a:=du) (xs:=fz) (λi σ Hx=>∃ (us:List V) (ws:Trs) (v7 v8:Option V),σ=[some (.ref sa),some (.ref J),some (.ref Y),some (.ref x),some (.int fp),some (.int (pre.length:Int)),some (.ref N),v7,v8,none,none,none,none]/\Same H8 Hx/\SameD N f_ Hx/\Hx N=some (.lst us)/\Prs Hx us ws/\ws.length=i/\Crl ws)
    ⟨[],[],none,none,rfl,cx,λ_ _ _ e=>e,ba,.nil,rfl,λq hq=>(nomatch hq)⟩ (λi σ Hx _ ⟨_,_,_,_,_,_,sd,_⟩=>SqL.of (sd _ _ gz ca)) ?_ ?_⟩
   .rintro i y σ Hx hi ⟨us,ws,v7,v8,rfl,s8,sd,ex,pr,h_,ao⟩;have tS:TupS f_ Hx:=λt xs e=>sd t _ (bJ e ba (by intro z;cases z)) e;obtain⟨q,t',hq,rfl,et⟩:=dI (cb.mono tS) hi;have ga:=aDR hq;have bb:=gy q ga;have jh:=fw q ga;have ia:i<fu.length:=(aDh.mp hq).1;have gb:us.length=ws.length:=pr.len;have ib:=s8 _ _ ft;obtain⟨z,_,_,ez⟩:=cR (ns:=nums) (i:=60+(us.length:Int)) (by omega) (by omega);obtain⟨k,hk,iy⟩:∃ k:Nat,z % 40=(k:Int)/\k<40:=⟨(z % 40).toNat,by have:=Int.emod_nonneg z (show (40:Int)≠0 by decide);omega,by have:=Int.emod_lt_of_pos z (show (0:Int)<40 by decide);omega⟩;refine⟨t',_,rfl,SqT.of et,rfl,_,_,rfl,_,_,rfl,rfl,?_⟩;refine⟨_,rfl,.inl ⟨rfl,_,SqL.of ex⟩,_,rfl,_,rfl,_,rfl,_,rfl,N,_,rfl,.inl (SqL.of ex),_,_,rfl,rfl,J,_,_,_,rfl,rfl,SqL.of ib,ez,_,_,rfl,rfl,(by show (0:Int)<40;decide),k,congrArg (λy=>[V.int y]) hk,by omega,_,_,rfl,rfl,.inl ⟨by omega,by omega⟩,(show 2<=sizeLine by decide),λt ht=>?_⟩;have gt:=Same.upd (o:=.tup [V.int q.1,V.int (q.2 * 10 ^ k)]) ht;have bn:(upd Hx t (.tup [V.int q.1,V.int (q.2 * 10 ^ k)])) t=some (.tup [V.int q.1,V.int (q.2 * 10 ^ k)]):=aB;generalize upd Hx t (.tup [V.int q.1,V.int (q.2 * 10 ^ k)])=Hy at gt bn ⊢;refine⟨N,_,_,rfl,rfl,gt _ _ ex,bC (by omega),?_⟩;have tw:t≠N:=bJ bn (gt _ _ ex) (by intro z;cases z);refine⟨us++[.ref t],ws++[(q.1,q.2 * 10 ^ k)],_,_,rfl,(s8.trans gt).upd' dt,λb o n e=>by rw[aG n];exact gt _ _ (sd b o n e),aB,?_,by rw[aDP,List.length_singleton];omega,λr hr=>?_⟩
    .have tT:TupS Hy (upd Hy N (.lst (us++[.ref t]))):=TupS.lst (gt _ _ ex);exact Paired.append' ((pr.mono (TupS.same gt)).mono tT) (.cons ⟨t,rfl,tT _ _ bn⟩ .nil)
    .rcases aDj.mp hr with hr | hr
     .exact ao r hr
     .rw[aDc.mp hr];exact bb
   .rintro σ Hx ⟨us,ws,v7,v8,rfl,s8,sd,gc,pr,h_,ao⟩;have gb:us.length=ws.length:=pr.len;obtain⟨Hb,S9,sb,gf,gg⟩:=S8.rebase s8;have ar:=gf _ _ dt gc;have gh:Prs Hb us ws:=pr.mono gg;have cy:=sb _ _ dm;have cz:=sb _ _ bw;clear sd pr gc gf gg s8 S8 cx ba ca cb b_ g9 bz dv bi;have gi:∀ a b:Trs,Crl a->Crl b->(∀ s,cI a s=cI b s)->wso a r0=wso b r0:=λa b ha hb h=>B3 bx ha hb λs _ _=>h s;refine⟨_,rfl,N,_,rfl,SqL.of (S9.sm _ _ ar),zG (K:=K) (a:=N) (xs:=us) (λi σ Hy=>∃ (a:Trs) (n:Nat) (v7 v8 v9 ic:Option V),σ=[some (.ref sa),some (.ref J),some (.ref Y),some (.ref x),some (.int fp),some (.int (pre.length:Int)),some (.ref N),v7,v8,v9,ic,none,none]/\S43 G Hb Hy x row pre a (ws.take i) n/\a.Perm (ws.take i)/\n<=10+2 * i)
     ⟨[],n,_,_,none,none,rfl,S9,.nil,by omega⟩ (λi σ Hy _ ⟨_,_,_,_,_,_,_,S,_⟩=>SqL.of (S.sm _ _ ar)) ?_ ?_⟩
    .rintro i y σ Hy t hi ⟨a,n',w7,w8,w9,bc,rfl,S,az,ie⟩ ht;obtain⟨q,t0,hq,rfl,cr⟩:=dI gh hi;have ia:i<ws.length:=(aDh.mp hq).1;have bb:=ao q (aDR hq);have gt:=Same.upd (o:=.tup [V.int (i:Int),V.ref t0]) ht;have bn:(upd Hy t (.tup [V.int (i:Int),V.ref t0])) t=some (.tup [V.int (i:Int),V.ref t0]):=aB;generalize upd Hy t (.tup [V.int (i:Int),V.ref t0])=Hz at gt bn ⊢;have Sz:=S.same gt;have gj:a.length=i:=by have:=az.length_eq;rw[aDW]at this;omega
     have aq:Crl a:=λr hr=>ao r (List.mem_of_mem_take (az.mem_iff.mp hr));have ce:Crl (ws.take i):=λr hr=>ao r (List.mem_of_mem_take hr);have gk:ws.take (i+1)=ws.take i++[(q.1,q.2)]:=by rw[aDb,hq];rfl
     refine⟨t,_,rfl,SqT.of bn,rfl,_,_,rfl,_,_,rfl,rfl,?_⟩;obtain⟨z,_,_,ez⟩:=cR (ns:=nums) (i:=70+(i:Int)) (by omega) (by omega);obtain⟨k,hk,gl⟩:∃ k:Nat,z % ((i:Int)+1)=(k:Int)/\k<=i:=⟨(z % ((i:Int)+1)).toNat,by have:=Int.emod_nonneg z (show (i:Int)+1≠0 by omega);omega,by have:=Int.emod_lt_of_pos z (show (0:Int)<(i:Int)+1 by omega);omega⟩;refine λM1 D=>?_;obtain⟨cf,d1,y1,z1,cg⟩:=Sz.ins;refine⟨_,rfl,x,cf,_,rfl,cg,rfl,_,rfl,_,rfl,_,rfl,_,_,rfl,rfl,J,_,_,_,rfl,rfl,SqL.of (Sz.sm _ _ cy),ez,_,rfl,_,_,rfl,rfl,_,_,rfl,rfl,(by show (0:Int)<(i:Int)+1;omega),_,_,rfl,rfl,_,rfl,t0,_,_,_,rfl,rfl,SqT.of (Sz.sm _ _ cr),rfl,_,rfl,t0,_,_,_,rfl,rfl,SqT.of (Sz.sm _ _ cr),rfl,aBd (k:=k) Sz I (by show (pre.length:Int)+z % ((i:Int)+1)=_;rw[hk];rfl) aq (by omega) bb (by omega) hpl (by omega) λHa Sa=>?_⟩;refine D [some (.ref sa),some (.ref J),some (.ref Y),some (.ref x),some (.int fp),some (.int (pre.length:Int)),some (.ref N),w7,w8,some (.int (i:Int)),some (.ref t0),none,none] _ ?_;clear D M1;have cu:(a.take k++(q.1,q.2) :: a.drop k).Perm (ws.take (i+1)):=by
      rw[gk];refine List.perm_middle.trans ?_;rw[List.take_append_drop];exact(az.cons _).trans (List.perm_append_comm (l₁:=[(q.1,q.2)]) (l₂:=ws.take i))
     generalize a.take k++(q.1,q.2) :: a.drop k=a' at Sa cu;refine λM1 D=>?_;obtain⟨dw,d2,y2,z2,dz⟩:=Sa.ins;refine⟨_,rfl,x,dw,_,rfl,dz,rfl,_,rfl,t0,_,_,_,rfl,rfl,SqT.of (Sa.sm _ _ cr),rfl,_,rfl,t0,_,_,_,rfl,rfl,SqT.of (Sa.sm _ _ cr),rfl,o7 Sa I ce bb (by rw[aDW];omega) hpl (by omega) λHc Sc=>?_⟩;refine D [some (.ref sa),some (.ref J),some (.ref Y),some (.ref x),some (.int fp),some (.int (pre.length:Int)),some (.ref N),w7,w8,some (.int (i:Int)),some (.ref t0),none,none] _ ?_;clear D M1;rw[<- gk]at Sc;have au:Crl a':=λr hr=>ao r (List.mem_of_mem_take (cu.mem_iff.mp hr));have av:Crl (ws.take (i+1)):=λr hr=>ao r (List.mem_of_mem_take hr);obtain⟨d_,d3,y3,z3,ef⟩:=Sc.ins;refine⟨_,rfl,x,d_,_,rfl,ef,rfl,L0 Sc I au λlA HA eh gA eA=>?_⟩;have SA:=Sc.same gA;obtain⟨bf,d4,y4,z4,bg⟩:=SA.ins;refine⟨_,rfl,x,bf,_,rfl,bg,rfl,L1 SA I av λlB HB gm gB eB=>?_⟩;rw[<- gi a' _ au av (vY cu)]at eB;refine⟨_,_,Den.ints (gB _ _ eA),Den.ints eB,al _,al _,_,rfl,?_⟩;rw[nL (al _)];exact⟨a',n'+1+1,_,_,_,_,rfl,SA.same gB,cu,by omega⟩
    .rintro σ Hy ⟨a,n',w7,w8,w9,bc,rfl,S,az,ie⟩;rw[gb,aDU]at S az;have iz:ws.length<=8:=by omega
     have aq:Crl a:=λr hr=>ao r (az.mem_iff.mp hr);have c_:∀ ms:List Int,ms.Perm (row++List.replicate pre.length fp)->ms.Pairwise (·<=·)->ms=r0:=λms h1 h2=>iH (h1.trans fq.symm) h2 (bx.row.imp λh=>Int.le_of_lt h);have da:((List.replicate ((pre.length:Int)).toNat [V.int fp]).flatten)=(List.replicate pre.length fp).map V.int:=by
      rw[Int.toNat_natCast]
      induction pre.length with
      | zero=>rfl
      | succ j ih=>rw[List.replicate_succ,List.flatten_cons,ih];rfl
     have cv:∀ (Hz:Hp) (l:Addr),Hz l=none->True:=λ_ _ _=>trivial;clear cv;refine λM1 D=>?_;refine⟨_,rfl,_,rfl,(show 1<=sizeLine by decide),λp1 ay=>?_⟩;have f1:=Same.upd (o:=.lst [V.int fp]) ay;have M:(upd Hy p1 (.lst [V.int fp])) p1=some (.lst [V.int fp]):=aB;generalize upd Hy p1 (.lst [V.int fp])=F1 at f1 M ⊢;refine⟨_,rfl,p1,_,_,rfl,rfl,M,by omega,by omega,cV (by rw[List.length_singleton];omega),λp2 bm=>?_⟩;rw[da];have f2:=Same.upd (o:=.lst ((List.replicate pre.length fp).map V.int)) bm;have ap:(upd F1 p2 (.lst ((List.replicate pre.length fp).map V.int))) p2=some (.lst ((List.replicate pre.length fp).map V.int)):=aB;generalize upd F1 p2 (.lst ((List.replicate pre.length fp).map V.int))=F2 at f2 ap ⊢;have bo:=f1.trans f2;refine⟨Y,p2,_,_,rfl,rfl,(S.sm.trans bo) _ _ cz,ap,cV (by rw[aDG,aDG,aD0];omega),λp3 ej=>?_⟩;rw[<- aDV];have f3:=Same.upd (o:=.lst ((row++List.replicate pre.length fp).map V.int)) ej;have bq:(upd F2 p3 (.lst ((row++List.replicate pre.length fp).map V.int))) p3=some (.lst ((row++List.replicate pre.length fp).map V.int)):=aB;generalize upd F2 p3 (.lst ((row++List.replicate pre.length fp).map V.int))=F3 at f3 bq ⊢;refine⟨p3,_,rfl,bq,by rw[aDP,aD0];omega,λl5 ms ek e_ fb=>?_⟩;rw[c_ ms e_ fb];have f4:=Same.upd (o:=.lst (r0.map V.int)) ek;have br:(upd F3 l5 (.lst (r0.map V.int))) l5=some (.lst (r0.map V.int)):=aB;generalize upd F3 l5 (.lst (r0.map V.int))=F4 at f4 br ⊢;have t4:=(bo.trans f3).trans f4;have S4:=S.same t4;refine⟨_,rfl,l5,N,r0,ws,rfl,.inl ⟨trivial,br⟩,bx,⟨us,S4.sm _ _ ar,gh.mono (TupS.same S4.sm)⟩,by omega,ao,λlA HA eh gA eA=>?_⟩;have SA:=S4.same gA;obtain⟨bf,d4,y4,z4,bg⟩:=SA.ins;refine⟨_,rfl,x,bf,_,rfl,bg,rfl,L1 SA I ao λlB HB gm gB eB=>?_⟩;refine⟨_,_,Den.ints (gB _ _ eA),Den.ints eB,al _,al _,_,rfl,?_⟩;rw[nL (al _)];have SB:=SA.same gB;refine D [some (.ref sa),some (.ref J),some (.ref Y),some (.ref x),some (.int fp),some (.int (pre.length:Int)),some (.ref N),w7,w8,w9,bc,none,none] _ ?_;clear D M1 f1 f2 bo f3 f4 t4 M ap bq br S4 SA S;refine⟨_,rfl,N,_,rfl,.inl (SqL.of (SB.sm _ _ ar)),_,rfl,by omega,by omega,dZ (lo:=0) (n:=(us.length:Int).toNat) (λi σ Hz=>∃ (a b:Trs) (n:Nat) (v9 fc cw:Option V),σ=[some (.ref sa),some (.ref J),some (.ref Y),some (.ref x),some (.int fp),some (.int (pre.length:Int)),some (.ref N),w7,w8,v9,bc,fc,cw]/\S43 G Hb Hz x row pre a b n/\Crl a/\Crl b/\a.length+i=ws.length/\b.length=ws.length+i/\(∀ s,cI a s=cI b s)/\n<=30+2 * i)
      ⟨a,ws,n',_,none,none,rfl,SB,aq,ao,by have:=az.length_eq;omega,rfl,vY az,by omega⟩ ?_ ?_⟩
     .rintro i σ Hz hi ⟨a,b,n2,v9,fc,cw,rfl,S,aq,ce,gj,ig,gn,ii⟩;have ji:i<ws.length:=by omega
      obtain⟨z,_,_,ez⟩:=cR (ns:=nums) (i:=60+(0+(i:Int))) (by omega) (by omega);obtain⟨k,hk,gl⟩:∃ k:Nat,z % ((us.length:Int) - (0+(i:Int)))=(k:Int)/\k<a.length:=⟨(z % ((us.length:Int) - (0+(i:Int)))).toNat,by have:=Int.emod_nonneg z (show (us.length:Int) - (0+(i:Int))≠0 by omega);omega,by have h1:=Int.emod_lt_of_pos z (show (0:Int)<(us.length:Int) - (0+(i:Int))by omega);have h2:=Int.emod_nonneg z (show (us.length:Int) - (0+(i:Int))≠0 by omega);omega⟩;refine λM1 D=>?_;refine⟨_,rfl,_,rfl,_,rfl,_,_,rfl,rfl,J,_,_,_,rfl,rfl,SqL.of (S.sm _ _ cy),ez,_,rfl,N,_,rfl,.inl (SqL.of (S.sm _ _ ar)),_,rfl,_,_,rfl,rfl,_,_,rfl,rfl,(by show (0:Int)<(us.length:Int) - (0+(i:Int));omega),_,_,rfl,rfl,?_⟩;refine D [some (.ref sa),some (.ref J),some (.ref Y),some (.ref x),some (.int fp),some (.int (pre.length:Int)),some (.ref N),w7,w8,some (.int (0+(i:Int))),bc,some (.int ((pre.length:Int)+z % ((us.length:Int) - (0+(i:Int))))),cw] _ ?_;clear D M1;have ij:(pre.length:Int)+z % ((us.length:Int) - (0+(i:Int)))=((pre.length+k:Nat):Int):=by rw[hk];rfl
      rw[ij];obtain⟨q,hq⟩:∃ q,a[k]?=some q:=⟨a[k],by simp[gl]⟩;have bb:=aq q (aDR hq);refine λM1 D=>?_;obtain⟨cf,d1,y1,z1,cg⟩:=S.ins;refine⟨_,rfl,x,cf,_,rfl,cg,rfl,aBe S λl ul HL hl gL eL dL=>?_⟩;obtain⟨u,ik,il⟩:=dL.get (i:=pre.length+k) (d:=(Ent.walk q.1 q.2).data) (by
       rw[aD4,List.getElem?_append_right (by omega),Nat.add_sub_cancel_left];simp[wE,hq])
      obtain⟨t,rfl,ht⟩:=rH il;refine⟨_,rfl,l,_,_,_,rfl,rfl,SqL.of eL,nC ik,?_⟩;refine D [some (.ref sa),some (.ref J),some (.ref Y),some (.ref x),some (.int fp),some (.int (pre.length:Int)),some (.ref N),w7,w8,some (.int (0+(i:Int))),bc,some (.int ((pre.length+k:Nat):Int)),some (.ref t)] _ ?_;clear D M1;obtain⟨jj,S3,im,_,gp⟩:=(S.same gL).rebase (Same.refl _);have gq:=gp _ _ ht;refine λM1 D=>?_;obtain⟨dw,d2,y2,z2,dz⟩:=S3.ins;refine⟨_,rfl,x,dw,_,rfl,dz,rfl,_,rfl,o6 (k:=k) S3 I rfl aq hq (by omega) hpl (by omega) λH5 S5=>?_⟩;refine D [some (.ref sa),some (.ref J),some (.ref Y),some (.ref x),some (.int fp),some (.int (pre.length:Int)),some (.ref N),w7,w8,some (.int (0+(i:Int))),bc,some (.int ((pre.length+k:Nat):Int)),some (.ref t)] _ ?_;clear D M1;refine λM1 D=>?_;obtain⟨d_,d3,y3,z3,ef⟩:=S5.ins;refine⟨_,rfl,x,d_,_,rfl,ef,rfl,_,rfl,t,_,_,_,rfl,rfl,SqT.of (S5.sm _ _ gq),rfl,_,rfl,t,_,_,_,rfl,rfl,SqT.of (S5.sm _ _ gq),rfl,_,rfl,o7 S5 I ce bb (by omega) hpl (by omega) λH6 S6=>?_⟩;refine D [some (.ref sa),some (.ref J),some (.ref Y),some (.ref x),some (.int fp),some (.int (pre.length:Int)),some (.ref N),w7,w8,some (.int (0+(i:Int))),bc,some (.int ((pre.length+k:Nat):Int)),some (.ref t)] _ ?_;clear D M1;have au:Crl (a.take k++a.drop (k+1)):=λr hr=>by
       rcases aDj.mp hr with hr | hr
       .exact aq r (List.mem_of_mem_take hr)
       .exact aq r (List.mem_of_mem_drop hr)
      have av:Crl (b++[(q.1,-q.2)]):=λr hr=>by
       rcases aDj.mp hr with hr | hr
       .exact ce r hr
       .rw[aDc.mp hr];exact bb
      have db:∀ s,cI (a.take k++a.drop (k+1)) s=cI (b++[(q.1,-q.2)]) s:=λs=>by
       have h1:=o8 hq s;have h2:=gn s;rw[oB b,tD,Int.neg_mul];omega
      have fe:=S6.weak im;obtain⟨dq,d5,y5,z5,cn⟩:=fe.ins;refine⟨_,rfl,x,dq,_,rfl,cn,rfl,L0 fe I au λlA HA eh gA eA=>?_⟩;have SA:=fe.same gA;obtain⟨bf,d4,y4,z4,bg⟩:=SA.ins;refine⟨_,rfl,x,bf,_,rfl,bg,rfl,L1 SA I av λlB HB gm gB eB=>?_⟩;rw[<- gi _ _ au av db]at eB;refine⟨_,_,Den.ints (gB _ _ eA),Den.ints eB,al _,al _,_,rfl,?_⟩;rw[nL (al _)];exact⟨_,_,n2+1+1,_,_,_,rfl,SA.same gB,au,av,by rw[aDP,aDW,List.length_drop];omega,by rw[aDP,List.length_singleton];omega,db,by omega⟩
     .rintro σ Hz ⟨a,b,n2,v9,fc,cw,rfl,S,aq,ce,gj,ig,gn,ii⟩;have io:a=[]:=List.length_eq_zero_iff.mp (by omega);subst io;obtain⟨cf,d1,y1,z1,cg⟩:=S.ins;refine⟨_,rfl,x,cf,_,rfl,cg,rfl,L0 S I aq λlA HA eh gA eA=>?_⟩;have eA:HA lA=some (.lst (r0.map V.int)):=eA;have SA:=S.same gA;refine⟨_,rfl,_,rfl,(show 1<=sizeLine by decide),λp1 ay=>?_⟩;have f1:=Same.upd (o:=.lst [V.int fp]) ay;have M:(upd HA p1 (.lst [V.int fp])) p1=some (.lst [V.int fp]):=aB;generalize upd HA p1 (.lst [V.int fp])=F1 at f1 M ⊢;refine⟨_,rfl,p1,_,_,rfl,rfl,M,by omega,by omega,cV (by rw[List.length_singleton];omega),λp2 bm=>?_⟩;rw[da];have f2:=Same.upd (o:=.lst ((List.replicate pre.length fp).map V.int)) bm;have ap:(upd F1 p2 (.lst ((List.replicate pre.length fp).map V.int))) p2=some (.lst ((List.replicate pre.length fp).map V.int)):=aB;generalize upd F1 p2 (.lst ((List.replicate pre.length fp).map V.int))=F2 at f2 ap ⊢;have bo:=f1.trans f2;refine⟨Y,p2,_,_,rfl,rfl,(SA.sm.trans bo) _ _ cz,ap,cV (by rw[aDG,aDG,aD0];omega),λp3 ej=>?_⟩;rw[<- aDV];have f3:=Same.upd (o:=.lst ((row++List.replicate pre.length fp).map V.int)) ej;have bq:(upd F2 p3 (.lst ((row++List.replicate pre.length fp).map V.int))) p3=some (.lst ((row++List.replicate pre.length fp).map V.int)):=aB;generalize upd F2 p3 (.lst ((row++List.replicate pre.length fp).map V.int))=F3 at f3 bq ⊢;refine⟨p3,_,rfl,bq,by rw[aDP,aD0];omega,λl5 ms ek e_ fb=>?_⟩;rw[c_ ms e_ fb];have f4:=Same.upd (o:=.lst (r0.map V.int)) ek;have br:(upd F3 l5 (.lst (r0.map V.int))) l5=some (.lst (r0.map V.int)):=aB;generalize upd F3 l5 (.lst (r0.map V.int))=F4 at f4 br ⊢;have t4:=(bo.trans f3).trans f4;refine⟨_,_,Den.ints (t4 _ _ eA),Den.ints br,al _,al _,?_⟩;rw[nL (al _)];refine⟨_,rfl,X7 ?_⟩;have S4:=SA.same t4;obtain⟨bf,d4,y4,z4,bg⟩:=S4.ins;refine⟨_,rfl,x,bf,_,rfl,bg,rfl,aBf S4 λl ul HL hl gL eL dL=>?_⟩;have ip:=dL.length;rw[aDG,aDP,tN]at ip;refine⟨l,_,rfl,.inl (SqL.of eL),_,rfl,_,rfl,N,_,rfl,.inl (SqL.of ((S4.same gL).sm _ _ ar)),_,_,rfl,rfl,.inl ⟨by decide,by decide⟩,_,_,rfl,rfl,_,_,rfl,rfl,?_⟩;show Q (V.bl (decide ((ul.length:Int)=(pre.length:Int)+2 * (us.length:Int)))) HL;rw[aD2 (by omega)];exact kk _
  refine⟨_,rfl,J,_,_,_,rfl,rfl,SqL.of fk,e2,_,_,rfl,rfl,(by show (0:Int)<2;decide),_,_,rfl,rfl,_,rfl,mL (λ_=>?_) (λ_=>?_)⟩
  .clear D;refine λM2 ci=>?_;refine ci [some (.ref sa),some (.ref J),some (.ref Y),some (.ref x),some (.int fp),some (.int 1),none,none,none,none,none,none,none] _ ?_;clear ci M2;obtain⟨mm,hO,hst,hpl⟩:=S7.ex;have hok:(Ent.put fp).ok row:=⟨fm,by omega⟩;refine λM2 ci=>?_;obtain⟨dr,d6,q6,r6,cq⟩:=hO.ins;refine⟨_,rfl,x,dr,_,rfl,cq,rfl,_,rfl,n8 (e:=.put fp) (n:="late") hO rfl (.cons (.str _) (.cons (.int _) .nil)) rfl rfl (by rw[hst];exact jA) .nil trivial hok (by decide) (by omega) λH8 gr=>?_⟩;refine ci [some (.ref sa),some (.ref J),some (.ref Y),some (.ref x),some (.int fp),some (.int 1),none,none,none,none,none,none,none] _ ?_;clear ci M2;obtain⟨iq,d8,q8,r8,ir⟩:=gr.ins;refine⟨_,rfl,x,iq,_,rfl,ir,rfl,_,rfl,n8 (e:=.put fp) (n:="now") gr rfl (.cons (.str _) (.cons (.int _) .nil)) rfl rfl (by show cJ (eG _ _ mm.std) _=_;rw[hst,oG];exact oF) .nil trivial hok (by decide) (by show (mm.past++_).length<9000;rw[aDP,List.length_singleton];omega) λH9 iu=>?_⟩;refine rest [.put fp] (xX row fp) 4 H9 (.one hok) (Nat.le_refl _) (pJ fm) (by decide) ⟨_,iu,?_,?_⟩
   .show eG _ _ (eG _ _ mm.std)=_;rw[hst,oG,P8];rfl
   .show ((mm.past++_)++_).length<=4;rw[aDP,aDP,List.length_singleton,List.length_singleton];omega
  .exact rest [] row 2 H7 .nil (Nat.zero_le _) (by rw[List.length_nil,List.replicate_zero,List.append_nil]) (by decide) S7
end
def all_mk {l:PySem.W.OpenLaw} {w:World} {K:PySem.W.Frag} {h:Heap} {mg:Str->Option Value} {fa:Addr} (X:K.In h) (Gm:h.Ns mainGlobals mg) (hfa:mg "law"=some (.ref fa))
 {C_Road C_Course C_House:Addr}
 {f0:Addr} {d0:FuncData}
 {f1:Addr} {d1:FuncData}
 {f2:Addr} {d2:FuncData}
 {f3:Addr} {d3:FuncData}
 {f4:Addr} {d4:FuncData}
 {f5:Addr} {d5:FuncData}
 {f6:Addr} {d6:FuncData}
 {f7:Addr} {d7:FuncData}
 {f8:Addr} {d8:FuncData}
 {f9:Addr} {d9:FuncData}
 {f10:Addr} {d10:FuncData}
 {f11:Addr} {d11:FuncData}
 {f12:Addr} {d12:FuncData}
 {f13:Addr} {d13:FuncData}
 {f14:Addr} {d14:FuncData}
 {f15:Addr} {d15:FuncData}
 {f16:Addr} {d16:FuncData}
 {f17:Addr} {d17:FuncData}
 {f18:Addr} {d18:FuncData}
 {f19:Addr} {d19:FuncData}
 {f20:Addr} {d20:FuncData}
 {f21:Addr} {d21:FuncData}
 {f22:Addr} {d22:FuncData}
 {f23:Addr} {d23:FuncData}
 {f24:Addr} {d24:FuncData}
 {f25:Addr} {d25:FuncData}
 {f26:Addr} {d26:FuncData}
 {f27:Addr} {d27:FuncData}
 {f28:Addr} {d28:FuncData}
 {f29:Addr} {d29:FuncData}
 {f30:Addr} {d30:FuncData}
 {f31:Addr} {d31:FuncData}
 {f32:Addr} {d32:FuncData}
 {f33:Addr} {d33:FuncData}
 {f34:Addr} {d34:FuncData}
 {f35:Addr} {d35:FuncData}
 {f36:Addr} {d36:FuncData}
 {f37:Addr} {d37:FuncData}
 {f38:Addr} {d38:FuncData}
 {f39:Addr} {d39:FuncData}
 {f40:Addr} {d40:FuncData}
 {f41:Addr} {d41:FuncData}
 {f42:Addr} {d42:FuncData}
 {f43:Addr} {d43:FuncData}
 {f44:Addr} {d44:FuncData}
 {f45:Addr} {d45:FuncData}
 {i_Road:Addr} {j_Road:FuncData}
 {i_Course:Addr} {j_Course:FuncData}
 {i_House:Addr} {j_House:FuncData}
 {m_do:Addr} {n_do:FuncData}
 {m_build:Addr} {n_build:FuncData}
 {m_put:Addr} {n_put:FuncData}
 {m_walk:Addr} {n_walk:FuncData}
 {K8:Addr} {n_late:FuncData}
 {tM:Addr} {n_strike:FuncData}
 {m_row:Addr} {n_row:FuncData}
 {m_log:Addr} {n_log:FuncData}
 {t_MOST_STONES:Tok}
 {t_FEW_WALKS:Tok}
 {t_REST_APART:Tok}
 {t_MOST_ROADS:Tok}
 {t_LETTERS:Tok}
 {t_MOST_LETTERS:Tok}
 {dD:Addr} {epD:Nat} {td0 td1 td2 td3 td4 td5 td6 td7 td8:Tok} {rd1 rd6:Addr}
 (hG:HcIn K C_Road C_Course C_House)
 (h0:DefIn K "look_row" mT f0 d0)
 (h1:DefIn K "mirrored" jK f1 d1)
 (h2:DefIn K "moved" rL f2 d2)
 (h3:DefIn K "look_creel" jL f3 d3)
 (h4:DefIn K "look_walks" jM f4 d4)
 (h5:DefIn K "walked" oJ f5 d5)
 (h6:DefIn K "walked_back" iJ f6 d6)
 (h7:DefIn K "look_trains" fI f7 d7)
 (h8:DefIn K "by_size" pO f8 d8)
 (h9:DefIn K "crowd" rM f9 d9)
 (h10:DefIn K "crowds" oK f10 d10)
 (h11:DefIn K "drop_last" kU f11 d11)
 (h12:DefIn K "add_train" kW f12 d12)
 (h13:DefIn K "add_stone" iD f13 d13)
 (h14:DefIn K "list_of" lW f14 d14)
 (h15:DefIn K "row_of" oN f15 d15)
 (h16:DefIn K "gain" yI f16 d16)
 (h17:DefIn K "added" rN f17 d17)
 (h18:DefIn K "far" u4 f18 d18)
 (h19:DefIn K "behind" tY f19 d19)
 (h20:DefIn K "row_behind_walks" cY f20 d20)
 (h21:DefIn K "row_now" pP f21 d21)
 (h22:DefIn K "with_stone" jO f22 d22)
 (h23:DefIn K "without_stone" dS f23 d23)
 (h24:DefIn K "row_behind" jP f24 d24)
 (h25:DefIn K "add_walk" mV f25 d25)
 (h26:DefIn K "go_on" yJ f26 d26)
 (h27:DefIn K "is_rest" pS f27 d27)
 (h28:DefIn K "new_road" mW f28 d28)
 (h29:DefIn K "with_entry" jQ f29 d29)
 (h30:DefIn K "with_log" jR f30 d30)
 (h31:DefIn K "is_made_of" fZ f31 d31)
 (h32:DefIn K "is_name" pT f32 d32)
 (h33:DefIn K "road_named" jS f33 d33)
 (h34:DefIn K "with_road" kX f34 d34)
 (h35:DefIn K "built" yL f35 d35)
 (h36:DefIn K "entered" pU f36 d36)
 (h37:DefIn K "found_late" jU f37 d37)
 (h38:DefIn K "struck" uA f38 d38)
 (h39:DefIn K "roads_behind" gW f39 d39)
 (h40:DefIn K "_law_numbers" iM f40 d40)
 (h41:DefIn K "_law_row" pV f41 d41)
 (h42:DefIn K "_law_long_row" eR f42 d42)
 (h43:DefIn K "_law_walks" lI f43 d43)
 (h44:DefIn K "_law_ten" pW f44 d44)
 (h45:DefIn K "law" u7 f45 d45)
 (hi_Road:InitIn K C_Road "Road.__init__" fQ i_Road j_Road)
 (hi_Course:InitIn K C_Course "Course.__init__" eP i_Course j_Course)
 (hi_House:InitIn K C_House "House.__init__" eZ i_House j_House)
 (hm_do:MethIn K C_House "do" "House.do" mY m_do n_do)
 (hm_build:MethIn K C_House "build" "House.build" iL m_build n_build)
 (hm_put:MethIn K C_House "put" "House.put" kY m_put n_put)
 (hm_walk:MethIn K C_House "walk" "House.walk" jV m_walk n_walk)
 (hm_late:MethIn K C_House "late" "House.late" jW K8 n_late)
 (hm_strike:MethIn K C_House "strike" "House.strike" gX tM n_strike)
 (hm_row:MethIn K C_House "row" "House.row" kZ m_row n_row)
 (hm_log:MethIn K C_House "log" "House.log" lC m_log n_log)
 (z_len:PySem.W.nsIn K mainGlobals "len"=some none)
 (z_range:PySem.W.nsIn K mainGlobals "range"=some none)
 (z_list:PySem.W.nsIn K mainGlobals "list"=some none)
 (z_tuple:PySem.W.nsIn K mainGlobals "tuple"=some none)
 (z_bool:PySem.W.nsIn K mainGlobals "bool"=some none)
 (z_str:PySem.W.nsIn K mainGlobals "str"=some none)
 (z_int:PySem.W.nsIn K mainGlobals "int"=some none)
 (z_isinstance:PySem.W.nsIn K mainGlobals "isinstance"=some none)
 (z_all:PySem.W.nsIn K mainGlobals "all"=some none)
 (z_sorted:PySem.W.nsIn K mainGlobals "sorted"=some none)
 (z_max:PySem.W.nsIn K mainGlobals "max"=some none)
 (z_min:PySem.W.nsIn K mainGlobals "min"=some none)
 (z_set:PySem.W.nsIn K mainGlobals "set"=some none)
 (z_reversed:PySem.W.nsIn K mainGlobals "reversed"=some none)
 (z_sum:PySem.W.nsIn K mainGlobals "sum"=some none)
 (z_enumerate:PySem.W.nsIn K mainGlobals "enumerate"=some none)
 (z_zip:PySem.W.nsIn K mainGlobals "zip"=some none)
 (z_any:PySem.W.nsIn K mainGlobals "any"=some none)
 (z_abs:PySem.W.nsIn K mainGlobals "abs"=some none)
 (z_dict:PySem.W.nsIn K mainGlobals "dict"=some none)
 (y_MOST_STONES:PySem.W.nsIn K mainGlobals "MOST_STONES"=some (some (.int 60 t_MOST_STONES)))
 (y_FEW_WALKS:PySem.W.nsIn K mainGlobals "FEW_WALKS"=some (some (.int 10 t_FEW_WALKS)))
 (y_REST_APART:PySem.W.nsIn K mainGlobals "REST_APART"=some (some (.int 16 t_REST_APART)))
 (y_MOST_ROADS:PySem.W.nsIn K mainGlobals "MOST_ROADS"=some (some (.int 8 t_MOST_ROADS)))
 (y_LETTERS:PySem.W.nsIn K mainGlobals "LETTERS"=some (some (.str "abcdefghijklmnopqrstuvwxyz" t_LETTERS)))
 (y_MOST_LETTERS:PySem.W.nsIn K mainGlobals "MOST_LETTERS"=some (some (.int 8 t_MOST_LETTERS)))
 (aD:PySem.W.nsIn K mainGlobals "DEEDS"=some (some (.ref dD)))
 (lD:K.lookup dD=some ⟨.type "dict",none,.dict #[⟨PyData.keyHash w.params "build",.str "build" td0,.ref f35⟩,⟨PyData.keyHash w.params "shut",.str "shut" td1,.ref rd1⟩,⟨PyData.keyHash w.params "walk",.str "walk" td2,.ref f36⟩,⟨PyData.keyHash w.params "put",.str "put" td3,.ref f36⟩,⟨PyData.keyHash w.params "take",.str "take" td4,.ref f36⟩,⟨PyData.keyHash w.params "mirror",.str "mirror" td5,.ref f36⟩,⟨PyData.keyHash w.params "lay",.str "lay" td6,.ref rd6⟩,⟨PyData.keyHash w.params "late",.str "late" td7,.ref f37⟩,⟨PyData.keyHash w.params "strike",.str "strike" td8,.ref f38⟩] epD,#[]⟩)
 (sysD:(dD == sysModules)=false) :
 ∃ fd:FuncData,(∀ (s:Shared) (v:Value),BindsTo s fd ⟨[v],[]⟩ [("_law_script",v)])/\∀ base:Heap,K.In base->base.Ns mainGlobals mg->FnOk l.prog w K mg base CX0 14 fa fd ["_law_script"] (zN K):=by
 have e:=hfa.symm.trans (PySem.W.mg_of X Gm h45.a);cases e;have B:Bt mg:=⟨PySem.W.mg_none_of X Gm z_len,PySem.W.mg_none_of X Gm z_range,PySem.W.mg_none_of X Gm z_list,PySem.W.mg_none_of X Gm z_tuple,PySem.W.mg_none_of X Gm z_bool,PySem.W.mg_none_of X Gm z_str,PySem.W.mg_none_of X Gm z_int,PySem.W.mg_none_of X Gm z_isinstance,PySem.W.mg_none_of X Gm z_all,PySem.W.mg_none_of X Gm z_sorted,PySem.W.mg_none_of X Gm z_max,PySem.W.mg_none_of X Gm z_min,PySem.W.mg_none_of X Gm z_set,PySem.W.mg_none_of X Gm z_reversed,PySem.W.mg_none_of X Gm z_sum,PySem.W.mg_none_of X Gm z_enumerate,PySem.W.mg_none_of X Gm z_zip,PySem.W.mg_none_of X Gm z_any,PySem.W.mg_none_of X Gm z_abs⟩;have B6:Bt6 mg:=⟨PySem.W.mg_none_of X Gm z_dict⟩;have C:Cn mg t_MOST_STONES:=⟨PySem.W.mg_of X Gm y_MOST_STONES⟩;have C3:Cn3 mg t_FEW_WALKS t_REST_APART t_MOST_ROADS:=⟨PySem.W.mg_of X Gm y_FEW_WALKS,PySem.W.mg_of X Gm y_REST_APART,PySem.W.mg_of X Gm y_MOST_ROADS⟩;have WL:Wl mg:=⟨⟨_,PySem.W.mg_of X Gm y_LETTERS⟩,⟨_,PySem.W.mg_of X Gm y_MOST_LETTERS⟩⟩;have mD:=PySem.W.mg_of X Gm aD;obtain⟨kvD,DD,v_build,v_shut,v_walk,v_put,v_take,v_mirror,v_lay,v_late,v_strike⟩:=p0 (P:=l.prog) (w:=w) lD sysD
 let G:Hc K:=hG.g
 have bl:∀ (s:Shared) (v:Value),BindsTo s d45 ⟨[v],[]⟩ [("_law_script",v)]:=by
  obtain⟨_,_,_,_,_,_,_,_,_,rfl,_,_⟩:=h45.F.ex;exact λs v=>.of_eq rfl
 refine⟨d45,bl,λbase _ _=>?_⟩;have N_Road:iU l.prog w K mg base "Road" C_Road 1 ["self","entries","rests","course"] (jI G):=hi_Road.at (PySem.W.mg_of X Gm hG.aR) (hi_Road.F.binds4 (p1:="self") (p2:="entries") (p3:="rests") (p4:="course") λ_ _ _ _ _ _ _ _ _ _=>rfl) (yD G hi_Road.F);have N_Course:iU l.prog w K mg base "Course" C_Course 1 ["self","rested","walks","turned"] (mR G):=hi_Course.at (PySem.W.mg_of X Gm hG.aC) (hi_Course.F.binds4 (p1:="self") (p2:="rested") (p3:="walks") (p4:="turned") λ_ _ _ _ _ _ _ _ _ _=>rfl) (tQ G hi_Course.F);have N_House:iU l.prog w K mg base "House" C_House 1 ["self"] (kT G):=hi_House.at (PySem.W.mg_of X Gm hG.aH) (hi_House.F.binds1 (p1:="self") λ_ _ _ _ _ _ _=>rfl) (uG G hi_House.F);have t0:=h0.d5 l.prog w base X Gm (h0.F.binds1 (p1:="row") λ_ _ _ _ _ _ _=>rfl);have A_look_row:aU l.prog w K mg base "look_row" 1 ["row"] hX:=t0.fn (C2 h0.F B C);have A_look_rowL:aU l.prog w K mg base "look_row" 1 ["row"] sG:=t0.fn ((C2 h0.F B C).imp λ_ _ _ _=>aBa);have t1:=h1.d5 l.prog w base X Gm (h1.F.binds1 (p1:="row") λ_ _ _ _ _ _ _=>rfl);have A_mirrored:aU l.prog w K mg base "mirrored" 2 ["row"] gP:=t1.fn (C5 h1.F B A_look_rowL);have t2:=h2.d5 l.prog w base X Gm (h2.F.binds2 (p1:="row") (p2:="by") λ_ _ _ _ _ _ _ _=>rfl);have A_moved:aU l.prog w K mg base "moved" 2 ["row","by"] oC:=t2.fn (V2 h2.F B A_look_row);have t3:=h3.d5 l.prog w base X Gm (h3.F.binds1 (p1:="creel") λ_ _ _ _ _ _ _=>rfl);have A_look_creel:aU l.prog w K mg base "look_creel" 1 ["creel"] dF:=t3.fn (uI h3.F B);have t4:=h4.d5 l.prog w base X Gm (h4.F.binds1 (p1:="walks") λ_ _ _ _ _ _ _=>rfl);have A_look_walks:aU l.prog w K mg base "look_walks" 2 ["walks"] rB:=t4.fn (uJ h4.F B A_look_creel);have t5:=h5.d5 l.prog w base X Gm (h5.F.binds2 (p1:="row") (p2:="creel") λ_ _ _ _ _ _ _ _=>rfl);have A_walked:aU l.prog w K mg base "walked" 2 ["row","creel"] kL:=t5.fn (V3 h5.F B A_look_rowL A_look_creel);have t6:=h6.d5 l.prog w base X Gm (h6.F.binds2 (p1:="row") (p2:="creel") λ_ _ _ _ _ _ _ _=>rfl);have A_walked_back:aU l.prog w K mg base "walked_back" 3 ["row","creel"] xB:=t6.fn (tU h6.F B A_mirrored A_walked);have t7:=h7.d5 l.prog w base X Gm (h7.F.binds1 (p1:="trains") λ_ _ _ _ _ _ _=>rfl);have A_look_trains:aU l.prog w K mg base "look_trains" 1 ["trains"] nM:=t7.fn (tV h7.F B C);have t8:=h8.d5 l.prog w base X Gm (h8.F.binds1 (p1:="trains") λ_ _ _ _ _ _ _=>rfl);have A_by_size:aU l.prog w K mg base "by_size" 1 ["trains"] lS:=t8.fn (L3 h8.F B);have t9:=h9.d5 l.prog w base X Gm (h9.F.binds2 (p1:="offsets") (p2:="size") λ_ _ _ _ _ _ _ _=>rfl);have A_crowd:aU l.prog w K mg base "crowd" 1 ["offsets","size"] nX:=t9.fn (p9 h9.F B);have t10:=h10.d5 l.prog w base X Gm (h10.F.binds1 (p1:="offsets") λ_ _ _ _ _ _ _=>rfl);have A_crowds:aU l.prog w K mg base "crowds" 1 ["offsets"] iW:=t10.fn (V4 h10.F B);have t11:=h11.d5 l.prog w base X Gm (h11.F.binds2 (p1:="offsets") (p2:="size") λ_ _ _ _ _ _ _ _=>rfl);have A_drop_last:aU l.prog w K mg base "drop_last" 1 ["offsets","size"] gT:=t11.fn (yF h11.F B);have t12:=h12.d5 l.prog w base X Gm (h12.F.binds3 (p1:="offsets") (p2:="size") (p3:="place") λ_ _ _ _ _ _ _ _ _=>rfl);have A_add_train:aU l.prog w K mg base "add_train" 2 ["offsets","size","place"] fO:=t12.fn (yG h12.F B A_crowd);have t13:=h13.d5 l.prog w base X Gm (h13.F.binds2 (p1:="offsets") (p2:="place") λ_ _ _ _ _ _ _ _=>rfl);have A_add_stone:aU l.prog w K mg base "add_stone" 3 ["offsets","place"] jG:=t13.fn (yH h13.F B A_crowds A_drop_last A_add_train);have t14:=h14.d5 l.prog w base X Gm (h14.F.binds1 (p1:="row") λ_ _ _ _ _ _ _=>rfl)
 have A_list_of:aU l.prog w K mg base "list_of" 4 ["row"] lT:=t14.fn (L4 h14.F B A_look_row A_add_stone);have t15:=h15.d5 l.prog w base X Gm (h15.F.binds1 (p1:="trains") λ_ _ _ _ _ _ _=>rfl);have A_row_of:aU l.prog w K mg base "row_of" 3 ["trains"] nZ:=t15.fn (V5 h15.F B A_look_trains A_by_size A_crowds A_drop_last A_add_train);have t16:=h16.d5 l.prog w base X Gm (h16.F.binds2 (p1:="walks") (p2:="size") λ_ _ _ _ _ _ _ _=>rfl);have A_gain:aU l.prog w K mg base "gain" 1 ["walks","size"] xL:=t16.fn (aA4 h16.F B);have t17:=h17.d5 l.prog w base X Gm (h17.F.binds2 (p1:="trains") (p2:="walks") λ_ _ _ _ _ _ _ _=>rfl);have A_added:aU l.prog w K mg base "added" 3 ["trains","walks"] rC:=t17.fn (u0 h17.F B A_look_trains A_look_walks A_gain);have t18:=h18.d5 l.prog w base X Gm (h18.F.binds2 (p1:="row") (p2:="walks") λ_ _ _ _ _ _ _ _=>rfl);have A_far:aU l.prog w K mg base "far" 5 ["row","walks"] tF:=t18.fn (aA5 h18.F B A_list_of A_added A_row_of);have t19:=h19.d5 l.prog w base X Gm (h19.F.binds3 (p1:="one") (p2:="other") (p3:="gap") λ_ _ _ _ _ _ _ _ _=>rfl);have A_behind:aU l.prog w K mg base "behind" 3 ["one","other","gap"] yA:=t19.fn (aA6 h19.F B C A_look_row A_moved);have t20:=h20.d5 l.prog w base X Gm (h20.F.binds2 (p1:="rested") (p2:="walks") λ_ _ _ _ _ _ _ _=>rfl);have A_row_behind_walks:aU l.prog w K mg base "row_behind_walks" 6 ["rested","walks"] P6:=t20.fn (aBi h20.F B C3 A_far A_walked A_walked_back);have t21:=h21.d5 l.prog w base X Gm (h21.F.binds1 (p1:="course") λ_ _ _ _ _ _ _=>rfl);have A_row_now:aU l.prog w K mg base "row_now" 7 ["course"] (kQ G):=t21.fn (L5 G h21.F B A_row_behind_walks A_mirrored);have t22:=h22.d5 l.prog w base X Gm (h22.F.binds2 (p1:="row") (p2:="place") λ_ _ _ _ _ _ _ _=>rfl);have A_with_stone:aU l.prog w K mg base "with_stone" 1 ["row","place"] hZ:=t22.fn (uL h22.F B C);have t23:=h23.d5 l.prog w base X Gm (h23.F.binds2 (p1:="row") (p2:="place") λ_ _ _ _ _ _ _ _=>rfl);have A_without_stone:aU l.prog w K mg base "without_stone" 1 ["row","place"] eO:=t23.fn (pR h23.F B);have t24:=h24.d5 l.prog w base X Gm (h24.F.binds2 (p1:="row") (p2:="entry") λ_ _ _ _ _ _ _ _=>rfl);have A_row_behind:aU l.prog w K mg base "row_behind" 4 ["row","entry"] iA:=t24.fn (uM h24.F B A_with_stone A_without_stone A_behind);have t25:=h25.d5 l.prog w base X Gm (h25.F.binds3 (p1:="course") (p2:="creel") (p3:="count") λ_ _ _ _ _ _ _ _ _=>rfl);have A_add_walk:aU l.prog w K mg base "add_walk" 2 ["course","creel","count"] (lU G):=t25.fn (C7 G h25.F B C A_look_creel);have t26:=h26.d5 l.prog w base X Gm (h26.F.binds2 (p1:="course") (p2:="entry") λ_ _ _ _ _ _ _ _=>rfl);have A_go_on:aU l.prog w K mg base "go_on" 8 ["course","entry"] (tG G):=t26.fn (u5 G h26.F B A_add_walk A_row_behind A_row_now);have t27:=h27.d5 l.prog w base X Gm (h27.F.binds3 (p1:="rests") (p2:="number") (p3:="entry") λ_ _ _ _ _ _ _ _ _=>rfl);have A_is_rest:aU l.prog w K mg base "is_rest" 1 ["rests","number","entry"] (kR (K:=K)):=t27.fn (L7 h27.F B C3);have t28:=h28.d5 l.prog w base X Gm (h28.F.binds1 (p1:="row") λ_ _ _ _ _ _ _=>rfl);have A_new_road:aU l.prog w K mg base "new_road" 3 ["row"] (lV G):=t28.fn (D0 G h28.F B N_Road N_Course);have t29:=h29.d5 l.prog w base X Gm (h29.F.binds2 (p1:="road") (p2:="entry") λ_ _ _ _ _ _ _ _=>rfl);have A_with_entry:aU l.prog w K mg base "with_entry" 9 ["road","entry"] (iB G):=t29.fn (uN G h29.F B B6 N_Road N_Course A_go_on A_is_rest);have t30:=h30.d5 l.prog w base X Gm (h30.F.binds3 (p1:="road") (p2:="at") (p3:="entries") λ_ _ _ _ _ _ _ _ _=>rfl);have A_with_log:aU l.prog w K mg base "with_log" 9 ["road","at","entries"] (iY G):=t30.fn (D1 G h30.F B N_Road N_Course A_go_on A_is_rest)
 have t31:=h31.d5 l.prog w base X Gm (h31.F.binds3 (p1:="text") (p2:="signs") (p3:="most") λ_ _ _ _ _ _ _ _ _=>rfl);have A_is_made_of:aU l.prog w K mg base "is_made_of" 1 ["text","signs","most"] xY:=t31.fn (aA7 h31.F B);have t32:=h32.d5 l.prog w base X Gm (h32.F.binds1 (p1:="text") λ_ _ _ _ _ _ _=>rfl);have A_is_name:aU l.prog w K mg base "is_name" 2 ["text"] rG:=t32.fn (L9 h32.F B WL A_is_made_of);have t33:=h33.d5 l.prog w base X Gm (h33.F.binds2 (p1:="roads") (p2:="name") λ_ _ _ _ _ _ _ _=>rfl);have A_road_named:aU l.prog w K mg base "road_named" 1 ["roads","name"] (iC G):=t33.fn (uQ G h33.F B);have t34:=h34.d5 l.prog w base X Gm (h34.F.binds3 (p1:="roads") (p2:="name") (p3:="road") λ_ _ _ _ _ _ _ _ _=>rfl);have A_with_road:aU l.prog w K mg base "with_road" 1 ["roads","name","road"] (dX G):=t34.fn (yK G h34.F B B6);have t35:=h35.d5 l.prog w base X Gm (h35.F.binds2 (p1:="roads") (p2:="deed") λ_ _ _ _ _ _ _ _=>rfl);have A_built:aU l.prog w K mg base "built" 10 ["roads","deed"] (cS G ["build"]):=t35.fn (D2 G h35.F B C3 A_is_name A_look_row A_new_road A_with_road);have t36:=h36.d5 l.prog w base X Gm (h36.F.binds2 (p1:="roads") (p2:="deed") λ_ _ _ _ _ _ _ _=>rfl);have A_entered:aU l.prog w K mg base "entered" 10 ["roads","deed"] (cS G ["walk","put","take","mirror"]):=t36.fn (mX G h36.F B A_road_named A_with_road A_with_entry);have t37:=h37.d5 l.prog w base X Gm (h37.F.binds2 (p1:="roads") (p2:="deed") λ_ _ _ _ _ _ _ _=>rfl);have A_found_late:aU l.prog w K mg base "found_late" 10 ["roads","deed"] (cS G ["late"]):=t37.fn (mI G h37.F B A_road_named A_look_creel A_with_road A_with_log);have t38:=h38.d5 l.prog w base X Gm (h38.F.binds2 (p1:="roads") (p2:="deed") λ_ _ _ _ _ _ _ _=>rfl);have A_struck:aU l.prog w K mg base "struck" 10 ["roads","deed"] (cS G ["strike"]):=t38.fn (wK G h38.F B A_road_named A_with_road A_with_log);have t39:=h39.d5 l.prog w base X Gm (h39.F.binds2 (p1:="roads") (p2:="deed") λ_ _ _ _ _ _ _ _=>rfl);have R_build:qF l.prog w K mg base f35 10 ["roads","deed"] (cS G ["build"]):=t35.ref (D2 G h35.F B C3 A_is_name A_look_row A_new_road A_with_road);have R_walk:qF l.prog w K mg base f36 10 ["roads","deed"] (cS G ["walk"]):=t36.ref ((mX G h36.F B A_road_named A_with_road A_with_entry).imp λ_ _ _ _=>tP (by decide +kernel));have R_put:qF l.prog w K mg base f36 10 ["roads","deed"] (cS G ["put"]):=t36.ref ((mX G h36.F B A_road_named A_with_road A_with_entry).imp λ_ _ _ _=>tP (by decide +kernel));have R_late:qF l.prog w K mg base f37 10 ["roads","deed"] (cS G ["late"]):=t37.ref (mI G h37.F B A_road_named A_look_creel A_with_road A_with_log);have R_strike:qF l.prog w K mg base f38 10 ["roads","deed"] (cS G ["strike"]):=t38.ref (wK G h38.F B A_road_named A_with_road A_with_log);have A_roads_behind:aU l.prog w K mg base "roads_behind" 11 ["roads","deed"] (cS G ["build","walk","put","late","strike"]):=t39.fn (qR G h39.F B DD mD (oH ⟨_,v_build,R_build⟩ (oH ⟨_,v_walk,R_walk⟩ (oH ⟨_,v_put,R_put⟩ (oH ⟨_,v_late,R_late⟩ (oH ⟨_,v_strike,R_strike⟩ aBg))))));have t40:=h40.d5 l.prog w base X Gm (h40.F.binds2 (p1:="_law_script") (p2:="_law_many") λ_ _ _ _ _ _ _ _=>rfl);have A_law_numbers:aU l.prog w K mg base "_law_numbers" 1 ["_law_script","_law_many"] (lN K):=t40.fn (M0 h40.F B);have t41:=h41.d5 l.prog w base X Gm (h41.F.binds2 (p1:="_law_d") (p2:="_law_most") λ_ _ _ _ _ _ _ _=>rfl);have A_law_row:aU l.prog w K mg base "_law_row" 1 ["_law_d","_law_most"] N9:=t41.fn (aBj h41.F B);have t42:=h42.d5 l.prog w base X Gm (h42.F.binds2 (p1:="_law_d") (p2:="_law_most") λ_ _ _ _ _ _ _ _=>rfl);have A_law_long_row:aU l.prog w K mg base "_law_long_row" 2 ["_law_d","_law_most"] rF:=t42.fn (aA8 h42.F B A_law_row)
 have t43:=h43.d5 l.prog w base X Gm (h43.F.binds2 (p1:="_law_d") (p2:="_law_many") λ_ _ _ _ _ _ _ _=>rfl);have A_law_walks:aU l.prog w K mg base "_law_walks" 1 ["_law_d","_law_many"] rD:=t43.fn (u6 h43.F B);have t44:=h44.d5 l.prog w base X Gm (h44.F.binds1 (p1:="_law_many") λ_ _ _ _ _ _ _=>rfl);have A_law_ten:aU l.prog w K mg base "_law_ten" 1 ["_law_many"] N8:=t44.fn (aBk h44.F B);have M_do:cK l.prog w K mg base C_House "do" 12 ["self","deed"] (B8 G ["build","walk","put","late","strike"]):=hm_do.at (hm_do.F.binds2 (p1:="self") (p2:="deed") λ_ _ _ _ _ _ _ _=>rfl) (D4 G hm_do.F B A_roads_behind)
 have M_build:cK l.prog w K mg base C_House "build" 13 ["self","name","row"] (rK G):=hm_build.at (hm_build.F.binds3 (p1:="self") (p2:="name") (p3:="row") λ_ _ _ _ _ _ _ _ _=>rfl) (uC (by decide +kernel) G hm_build.F B M_do);have M_put:cK l.prog w K mg base C_House "put" 13 ["self","name","place"] (cX G "put" 2):=hm_put.at (hm_put.F.binds3 (p1:="self") (p2:="name") (p3:="place") λ_ _ _ _ _ _ _ _ _=>rfl) (yN (by decide +kernel) G hm_put.F B M_do);have M_walk:cK l.prog w K mg base C_House "walk" 13 ["self","name","creel","count"] (cX G "walk" 3):=hm_walk.at (hm_walk.F.binds4 (p1:="self") (p2:="name") (p3:="creel") (p4:="count") λ_ _ _ _ _ _ _ _ _ _=>rfl) (uS (by decide +kernel) G hm_walk.F B M_do);have M_late:cK l.prog w K mg base C_House "late" 13 ["self","name","at","creel","count"] (cX G "late" 4):=hm_late.at (hm_late.F.binds (ps:=["self","name","at","creel","count"]) λ_ _ _ _ _ _ us hl=>match us,hl with | [_,_,_,_,_],_=>rfl) (uU (by decide +kernel) G hm_late.F B M_do);have M_strike:cK l.prog w K mg base C_House "strike" 13 ["self","name","at"] (cX G "strike" 2):=hm_strike.at (hm_strike.F.binds3 (p1:="self") (p2:="name") (p3:="at") λ_ _ _ _ _ _ _ _ _=>rfl) (qT (by decide +kernel) G hm_strike.F B M_do);have M_row:cK l.prog w K mg base C_House "row" 8 ["self","name"] (pL G):=hm_row.at (hm_row.F.binds2 (p1:="self") (p2:="name") λ_ _ _ _ _ _ _ _=>rfl) (yP G hm_row.F B A_road_named A_row_now);have M_log:cK l.prog w K mg base C_House "log" 2 ["self","name"] (pM G):=hm_log.at (hm_log.F.binds2 (p1:="self") (p2:="name") λ_ _ _ _ _ _ _ _=>rfl) (yR G hm_log.F B A_road_named);exact aBl G h45.F B A_law_numbers A_law_long_row A_law_walks A_law_ten A_far N_House M_build M_put M_walk M_late M_strike M_row M_log
def walk {l:PySem.W.OpenLaw} {q:Program} {loose:List Str} {XP:(Str->Option Value)->Heap->Prop} {YP:World->Heap->Prop} {d:DefRec} {K:Params->PySem.W.Frag} (hn:l.most=some 63) (hdf:d.params.defaults=[])
 (hY:∀ (w:World) (h:Heap),YP w h->(K w.params).In h)
 (F:∀ (w:World) (mg:Str->Option Value) (fa:Addr) (h:Heap),(K w.params).In h->h.Ns mainGlobals mg->mg d.name=some (.ref fa) ->
  ∃ fd:FuncData,(∀ (s:Shared) (u:Value),BindsTo s fd ⟨[u],[]⟩ [("_law_script",u)])/\∀ base:Heap,(K w.params).In base->base.Ns mainGlobals mg->FnOk l.prog w (K w.params) mg base CX0 14 fa fd ["_law_script"] (zN (K w.params))) :
 PySem.W.WalkO q loose XP YP l.row.toRowW d [] (λf vs=>PySem.call f vs) :=
 L2.walk_of (n:=63) (k:=14) (x:="_law_script") (CX:=λ_=>CX0) (sp:=λw=>zN (K w.params)) hn (by decide) hdf ⟨rfl,by decide,by decide⟩ hY F (λ_ _ a ns hl _ hS=>⟨a,ns,rfl,hS,hl,λ_=>rfl⟩) λ_ _ _ _ _ z=>z
end CW
namespace PySem.W.Fast
def tw7603491860915787705:=()
def tw9215050230952809964:=()
def tw8090612268082745758:=()
def tw4659833195872842836:=()
def tw18151828057066081602:=()
def tw3890577759856836644:=()
def tw17281846139748368216:=()
def tw17383486217983228266:=()
def tw17183354587492029116:=()
def tw5666233074183222970:=()
def tw10271451355020452057:=()
def tw17361032591118489898:=()
def tw863813169802182982:=()
def tw15380459249538203303:=()
def tw7243245254530650811:=()
def tw5221335769790708799:=()
def tw14993537474337394461:=()
def tw17867819408446968781:=()
def tw14590160440557822745:=()
def tw600870806490793053:=()
def tw4506047123398772599:=()
def tw3989085287451229391:=()
def tw11172348896132722703:=()
def tw150852823231154547:=()
def tw9561667756877425561:=()
def tw3058122154993010147:=()
def tw8576379557153630428:=()
def tw17535852739328255946:=()
def tw3345782828396185535:=()
def tw1799024782327844559:=()
def tw17721328007548572926:=()
def tw2084326680815450691:=()
def tw1417697539377353397:=()
def tw11476919190219967936:=()
def tw17715654809885031287:=()
def tw14177114754780000057:=()
def tw9149676898380372918:=()
def tw11213810151455050804:=()
def tw13834241497522800702:=()
def tw8457107825492175118:=()
def tw10920376976303772696:=()
def tw12433053020579524307:=()
def tw3216276828775076553:=()
def tw4258330932943633356:=()
def tw7646927751867684942:=()
def tw13163438428019418057:=()
def tw5499351226992864741:=()
def tw8000963481463740009:=()
def tw15715291451534115615:=()
def tw2560156334877561035:=()
def tw13449474924716498182:=()
def tw18102701545584584676:=()
def tw8585733578417790418:=()
def tw18427640486218971373:=()
def tw11822217017709661480:=()
def tw8849577389053200304:=()
def tw8454817886611112886:=()
def tw10321924991079992526:=()
def tw1340885951339026741:=()
def tw6204200688550336188:=()
def tw2914528284871637657:=()
def tw9738500448237226481:=()
def tw11187641699280703363:=()
def tw6307426684630556952:=()
def tw16998546542347957723:=()
def tw11762558418153094160:=()
def tw5687486663751560634:=()
def tw2977837411399055207:=()
def tw3844021006674396277:=()
def tw13093336617424304519:=()
def tw9800710108275031671:=()
def tw12016530501257002776:=()
def tw9837452475290587985:=()
def tw8366514291227517077:=()
def tw4139743418176243866:=()
def tw15042493536984896866:=()
def tw12024939500201832993:=()
def tw5150853825999021456:=()
def tw15874860978758907696:=()
def tw2963325837647220276:=()
def tw3362820898456510057:=()
def tw11784368210397607637:=()
def tw4970490267235312393:=()
def tw65284628682045364:=()
def tw8331056607995778126:=()
def tw5621097453394414697:=()
def tw5662048057540889334:=()
def tw11555005614285520907:=()
def tw5854869315224398570:=()
def tw6701263316872218569:=()
def tw16658131866107492974:=()
def tw16880343683411352687:=()
def tw3332856765409682649:=()
def tw18223574075590937954:=()
def tw63598896631576702:=()
def tw2334051660665249736:=()
def tw15621590213971162743:=()
def tw12550543150642301553:=()
def tw10439972696976136602:=()
def tw3202676034853815179:=()
def tw956847750542062247:=()
def tw15020060153296511845:=()
def tw11417568781011835123:=()
def tw4922914376478125431:=()
def tw8770400967516863459:=()
def tw7798657695506424471:=()
def tw7833947924855772211:=()
def tw3100292208989412970:=()
def tw8645179146742837753:=()
def tw6730403401506405972:=()
def tw12291704578037755047:=()
def tw4010147849126146593:=()
def tw17537930136327940589:=()
def tw10701747641459228012:=()
def tw16833961722293032660:=()
def tw4683410046617665511:=()
def tw15346503182893333628:=()
def tw1379858258864675638:=()
def tw13957077990702862598:=()
def tw17770220838497815217:=()
def tw12991404481463374550:=()
def tw4822158166220092129:=()
def tw9278355250704171341:=()
def tw10910584954293029699:=()
def tw17108707858079608492:=()
def tw15260810794846603950:=()
def tw6268975791505235744:=()
def tw8531093137498706792:=()
def tw2396043537546532808:=()
def tw4188976489276015486:=()
def tw18062911676011897331:=()
def tw17630377670388310193:=()
def tw11160489987466593772:=()
def tw7841756318558013263:=()
def tw1355332280235999892:=()
def tw14590291494629644529:=()
def tw7750491543691111462:=()
def tw14972238960974385258:=()
def tw991792072778670800:=()
def tw14338424428150579017:=()
def tw10128645382362979408:=()
def tw11361826338327755286:=()
def tw5801620882616448750:=()
def tw12800718510979546572:=()
def tw5278121606300728634:=()
def tw2260508577750343996:=()
def tw10361763345096831072:=()
def tw3729589350067319323:=()
def tw9447203001974396134:=()
def tw9336038179314342143:=()
def tw17316141746175834148:=()
def tw5719058084711697112:=()
def tw13499733439381543659:=()
def tw3462697977581508405:=()
def tw15207255532841933424:=()
def tw5769715422355283547:=()
def tw7670994368617268320:=()
def tw885868326230248132:=()
def tw8934145943952077149:=()
def tw2113364824491729365:=()
def tw15754662120102761455:=()
def tw8793365438986107740:=()
def tw4391484406922729579:=()
def tw10569653714313788934:=()
def tw1283665208138860474:=()
def tw9629236363408692382:=()
def tw6575761534035097402:=()
def tw15164720161278257702:=()
def tw3583113166504141803:=()
def tw6239955945367958392:=()
def tw8502467044220461090:=()
def tw11883688984774722452:=()
def tw13692088453617140600:=()
def tw9125407712732937715:=()
def tw3647462534869393050:=()
def tw15296939292618787307:=()
def tw5006499542247801989:=()
def tw1308982926643511219:=()
def tw12720773680275579897:=()
def tw6123576515099526793:=()
def tw12208667765537973391:=()
def tw17488896082159850621:=()
def tw8824302522390512317:=()
def tw9429795750688200259:=()
def tw15617718238813903662:=()
def tw11686125894652336599:=()
def tw4665581803172259024:=()
def tw1158997539400398800:=()
def tw14952858021803053411:=()
def tw14629539886377217086:=()
def tw4490102465426580053:=()
def tw4179925629060631534:=()
def tw8202187442591838909:=()
def tw5390717528867266407:=()
def tw16722915800865221855:=()
def tw3961298133955945630:=()
def tw7123418084361902377:=()
def tw998927873051986718:=()
def tw13603211072091645368:=()
def tw10556186067762000729:=()
def tw40189459632638291:=()
def tw5063624247855311921:=()
def tw2358719998813037290:=()
def tw9204135581965283349:=()
def tw4641792171285045386:=()
def tw4564939583074211483:=()
def tw16740774303288241158:=()
def tw6852717494099731880:=()
def tw14627995923023577796:=()
def tw283455300805801068:=()
def tw10164472780840771561:=()
def tw5225179644333479759:=()
def tw6407046634428751377:=()
def tw13497633136394400586:=()
def tw2229375512681242641:=()
def tw17628684938031170876:=()
def tw17350884924809109630:=()
def tw16203444901887899216:=()
def tw2344367486058772263:=()
def tw9084307954800740744:=()
def tw6780292475042939001:=()
def tw3374963808585236405:=()
def tw4857279877553554991:=()
def tw1093131986264926473:=()
def tw4658173124225161487:=()
def tw7598183006556448458:=()
def tw5920739567518790645:=()
def tw10332958566815492424:=()
def tw453029033119478672:=()
def tw17554247988256802874:=()
def tw7636774885388220098:=()
def tw12989025256242878995:=()
def tw2059782069121674183:=()
def tw15401681879327289207:=()
def tw12662077166835414388:=()
def tw4872446563060453173:=()
def tw4517864775547626861:=()
def tw5132089170671672339:=()
def tw6787002155246085821:=()
def tw10934507275619712432:=()
def tw9987485482024872566:=()
def tw6814420002707166169:=()
def tw7069463042851549248:=()
def tw16555840919002155092:=()
def tw4024296822839664301:=()
def tw3950729578377593337:=()
def tw5106628663958334441:=()
def tw15881403369283942160:=()
def tw13083873270691930578:=()
def tw4664992859856377137:=()
def tw2867228484966496617:=()
def tw6411448081627524557:=()
def tw14847556825920189063:=()
def tw6817467106587860749:=()
def tw4366008112942275252:=()
def tw7167367404621302220:=()
def tw14812555353605982580:=()
def tw3958940981108477372:=()
def tw2808663807894970636:=()
def tw4722515802454359355:=()
def tw4743457108986345665:=()
def tw9610740966324376297:=()
def tw2486806513717520979:=()
def tw16319704436383397129:=()
def tw2642258856406178807:=()
def tw11009429352271447807:=()
def tw1416569563232528618:=()
def tw4474076131543814535:=()
def tw16892098383806875745:=()
def tw7627734601729893155:=()
def tw8895236708500356427:=()
def tw8955645745798176353:=()
def tw16924076573969491842:=()
def tw4787941778395467794:=()
def tw11577754040812913109:=()
def tw10732011607631361816:=()
def tw4943159752553825232:=()
def tw3030355426399867289:=()
def tw16302371431988012068:=()
def tw5602304235949237897:=()
def tw12574836335563879476:=()
def tw11134730107614534633:=()
def tw5550735746918302340:=()
def tw13685299849240558605:=()
def tw16686838440773285827:=()
def tw8857378655365196767:=()
def tw14586452727142605590:=()
def tw4023019371354693362:=()
def tw10736225271639740295:=()
def tw3342112458305416049:=()
def tw16298796138437656747:=()
def tw15301923999957343467:=()
def tw16352680366945559839:=()
def tw10897760825975623071:=()
def tw2836731845858329575:=()
def tw6523922676445134002:=()
def tw15334456337522891792:=()
def tw7249710896783178965:=()
def tw12368920631477800720:=()
def tw4289367252126442805:=()
def tw11567531877454425648:=()
def tw2308061786238090280:=()
def tw9399695541467311328:=()
def tw15975230665502535022:=()
def tw57018186003682920:=()
def tw2482983483859498179:=()
def tw17257797965659902549:=()
def tw4471015377824141665:=()
def tw2155078576216523508:=()
def tw12526078809401286680:=()
def tw9350084674944390984:=()
def tw1120073123444720413:=()
def tw2060382845612080725:=()
def tw4995022494330472337:=()
def tw2954997227650142774:=()
def tw14332565061528976059:=()
def tw400251795667648741:=()
def tw5901929681498050843:=()
def tw11005307953516983995:=()
def tw10736034995569688990:=()
def tw3167249252103032588:=()
def tw17801989664659733071:=()
def tw11228326037271564452:=()
def tw6142336040097298198:=()
def tw13089165989155038697:=()
def tw2831826474833392873:=()
def tw1789112013601950998:=()
def tw6992255899924523327:=()
def tw9630453253646689639:=()
def tw17312376542941278504:=()
def tw2036318470939903214:=()
def tw1513169808482132273:=()
def tw11917643691750968655:=()
def tw8347551046097156596:=()
def tw8338911569397247955:=()
def tw7569684779844955990:=()
def tw11081948902466248563:=()
def tw4004170396303236432:=()
def tw15890566708168360698:=()
def tw9851094433265527180:=()
end PySem.W.Fast
open PySem PySem.W PyProof.Rows
set_option maxRecDepth 100000 in
set_option maxHeartbeats 0 in
theorem PySem.Challenge.cw_creelway_k43_whole_late_walks_are_walks_holds : PySem.Challenge.rw_creelway_k43_whole_late_walks_are_walks.Holds := by
 w_on;o_law;k_head;(case hw=>w_witness2)
 k_fill
 refine CW.walk (l:=PySem.Challenge.rw_creelway_k43_whole_late_walks_are_walks) rfl rfl (fun w h Y=>PySem.W.kIn_of Y) ?F
 case F =>
  intro w mg fa h KX G hmg;refine' CW.all_mk KX G hmg ?hG ?h0 ?h1 ?h2 ?h3 ?h4 ?h5 ?h6 ?h7 ?h8 ?h9 ?h10 ?h11 ?h12 ?h13 ?h14 ?h15 ?h16 ?h17 ?h18 ?h19 ?h20 ?h21 ?h22 ?h23 ?h24 ?h25 ?h26 ?h27 ?h28 ?h29 ?h30 ?h31 ?h32 ?h33 ?h34 ?h35 ?h36 ?h37 ?h38 ?h39 ?h40 ?h41 ?h42 ?h43 ?h44 ?h45 ?hi_Road ?hi_Course ?hi_House ?hm_do ?hm_build ?hm_put ?hm_walk ?hm_late ?hm_strike ?hm_row ?hm_log ?z_len ?z_range ?z_list ?z_tuple ?z_bool ?z_str ?z_int ?z_isinstance ?z_all ?z_sorted ?z_max ?z_min ?z_set ?z_reversed ?z_sum ?z_enumerate ?z_zip ?z_any ?z_abs ?z_dict ?y_MOST_STONES ?y_FEW_WALKS ?y_REST_APART ?y_MOST_ROADS ?y_LETTERS ?y_MOST_LETTERS ?aD ?lD ?sysD
  (case hG=>exact⟨by k_is,by k_is,by k_is,by k_is,by k_is,by k_is,by k_is,by k_is,by k_is,by k_is,by k_is,by k_is,by k_is,by k_is,by k_is,by k_is,by k_is,by k_is,by k_is,by k_is,by k_is,by k_is,by k_is,by k_is,by kernel_rfl,by kernel_rfl⟩)
  (case h0=>exact L2.defIn (by k_is) (by k_is) (by k_is) (by k_is))
  (case h1=>exact L2.defIn (by k_is) (by k_is) (by k_is) (by k_is))
  (case h2=>exact L2.defIn (by k_is) (by k_is) (by k_is) (by k_is))
  (case h3=>exact L2.defIn (by k_is) (by k_is) (by k_is) (by k_is))
  (case h4=>exact L2.defIn (by k_is) (by k_is) (by k_is) (by k_is))
  (case h5=>exact L2.defIn (by k_is) (by k_is) (by k_is) (by k_is))
  (case h6=>exact L2.defIn (by k_is) (by k_is) (by k_is) (by k_is))
  (case h7=>exact L2.defIn (by k_is) (by k_is) (by k_is) (by k_is))
  (case h8=>exact L2.defIn (by k_is) (by k_is) (by k_is) (by k_is))
  (case h9=>exact L2.defIn (by k_is) (by k_is) (by k_is) (by k_is))
  (case h10=>exact L2.defIn (by k_is) (by k_is) (by k_is) (by k_is))
  (case h11=>exact L2.defIn (by k_is) (by k_is) (by k_is) (by k_is))
  (case h12=>exact L2.defIn (by k_is) (by k_is) (by k_is) (by k_is))
  (case h13=>exact L2.defIn (by k_is) (by k_is) (by k_is) (by k_is))
  (case h14=>exact L2.defIn (by k_is) (by k_is) (by k_is) (by k_is))
  (case h15=>exact L2.defIn (by k_is) (by k_is) (by k_is) (by k_is))
  (case h16=>exact L2.defIn (by k_is) (by k_is) (by k_is) (by k_is))
  (case h17=>exact L2.defIn (by k_is) (by k_is) (by k_is) (by k_is))
  (case h18=>exact L2.defIn (by k_is) (by k_is) (by k_is) (by k_is))
  (case h19=>exact L2.defIn (by k_is) (by k_is) (by k_is) (by k_is))
  (case h20=>exact L2.defIn (by k_is) (by k_is) (by k_is) (by k_is))
  (case h21=>exact L2.defIn (by k_is) (by k_is) (by k_is) (by k_is))
  (case h22=>exact L2.defIn (by k_is) (by k_is) (by k_is) (by k_is))
  (case h23=>exact L2.defIn (by k_is) (by k_is) (by k_is) (by k_is))
  (case h24=>exact L2.defIn (by k_is) (by k_is) (by k_is) (by k_is))
  (case h25=>exact L2.defIn (by k_is) (by k_is) (by k_is) (by k_is))
  (case h26=>exact L2.defIn (by k_is) (by k_is) (by k_is) (by k_is))
  (case h27=>exact L2.defIn (by k_is) (by k_is) (by k_is) (by k_is))
  (case h28=>exact L2.defIn (by k_is) (by k_is) (by k_is) (by k_is))
  (case h29=>exact L2.defIn (by k_is) (by k_is) (by k_is) (by k_is))
  (case h30=>exact L2.defIn (by k_is) (by k_is) (by k_is) (by k_is))
  (case h31=>exact L2.defIn (by k_is) (by k_is) (by k_is) (by k_is))
  (case h32=>exact L2.defIn (by k_is) (by k_is) (by k_is) (by k_is))
  (case h33=>exact L2.defIn (by k_is) (by k_is) (by k_is) (by k_is))
  (case h34=>exact L2.defIn (by k_is) (by k_is) (by k_is) (by k_is))
  (case h35=>exact L2.defIn (by k_is) (by k_is) (by k_is) (by k_is))
  (case h36=>exact L2.defIn (by k_is) (by k_is) (by k_is) (by k_is))
  (case h37=>exact L2.defIn (by k_is) (by k_is) (by k_is) (by k_is))
  (case h38=>exact L2.defIn (by k_is) (by k_is) (by k_is) (by k_is))
  (case h39=>exact L2.defIn (by k_is) (by k_is) (by k_is) (by k_is))
  (case h40=>exact L2.defIn (by k_is) (by k_is) (by k_is) (by k_is))
  (case h41=>exact L2.defIn (by k_is) (by k_is) (by k_is) (by k_is))
  (case h42=>exact L2.defIn (by k_is) (by k_is) (by k_is) (by k_is))
  (case h43=>exact L2.defIn (by k_is) (by k_is) (by k_is) (by k_is))
  (case h44=>exact L2.defIn (by k_is) (by k_is) (by k_is) (by k_is))
  (case h45=>exact L2.defIn (by k_is) (by k_is) (by k_is) (by k_is))
  (case hi_Road=>exact L2.initIn (by k_is) (by k_is) (by k_is) (by k_is) (by k_is) (by k_is) (by k_is))
  (case hi_Course=>exact L2.initIn (by k_is) (by k_is) (by k_is) (by k_is) (by k_is) (by k_is) (by k_is))
  (case hi_House=>exact L2.initIn (by k_is) (by k_is) (by k_is) (by k_is) (by k_is) (by k_is) (by k_is))
  (case hm_do=>exact L2.methIn (by k_is) (by k_is) (by k_is) (by k_is) (by k_is))
  (case hm_build=>exact L2.methIn (by k_is) (by k_is) (by k_is) (by k_is) (by k_is))
  (case hm_put=>exact L2.methIn (by k_is) (by k_is) (by k_is) (by k_is) (by k_is))
  (case hm_walk=>exact L2.methIn (by k_is) (by k_is) (by k_is) (by k_is) (by k_is))
  (case hm_late=>exact L2.methIn (by k_is) (by k_is) (by k_is) (by k_is) (by k_is))
  (case hm_strike=>exact L2.methIn (by k_is) (by k_is) (by k_is) (by k_is) (by k_is))
  (case hm_row=>exact L2.methIn (by k_is) (by k_is) (by k_is) (by k_is) (by k_is))
  (case hm_log=>exact L2.methIn (by k_is) (by k_is) (by k_is) (by k_is) (by k_is))
  (case z_len=>k_is)
  (case z_range=>k_is)
  (case z_list=>k_is)
  (case z_tuple=>k_is)
  (case z_bool=>k_is)
  (case z_str=>k_is)
  (case z_int=>k_is)
  (case z_isinstance=>k_is)
  (case z_all=>k_is)
  (case z_sorted=>k_is)
  (case z_max=>k_is)
  (case z_min=>k_is)
  (case z_set=>k_is)
  (case z_reversed=>k_is)
  (case z_sum=>k_is)
  (case z_enumerate=>k_is)
  (case z_zip=>k_is)
  (case z_any=>k_is)
  (case z_abs=>k_is)
  (case z_dict=>k_is)
  (case y_MOST_STONES=>k_is)
  (case y_FEW_WALKS=>k_is)
  (case y_REST_APART=>k_is)
  (case y_MOST_ROADS=>k_is)
  (case y_LETTERS=>k_is)
  (case y_MOST_LETTERS=>k_is)
  (case aD=>k_is)
  (case lD=>k_is)
  (case sysD=>kernel_rfl)
