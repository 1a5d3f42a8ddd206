import PyProof.Rows.All
import Wide.All
import OpenK.AllK
import Wide.FinOn
import Lean
import PyProof.EqAt
import PyProof.EqKinds
import PyProof.TupleCall
import PySem.Challenge.RW_creelway_k46_nothing_handed_in_or_told_i
set_option Elab.async false
set_option linter.all false
set_option maxRecDepth 100000
set_option maxHeartbeats 4000000
section
open PySem PySem.Spec PyProof.Rows
def aE7:=@wpAny_bind
def aE8:=@wpAny_pure
def aE9:=@List.length_map
def aEa:=@Heap.get?_push_of_some
def aEb:=@List.mem_cons_self
def aEc:=@List.mem_cons_of_mem
def aEd:=@List.mem_append_right
def aEe:=@Heap.get?_update_other
def aEf:=@Heap.lt_size
def aEg:=@Heap.get?_push_size
def aEh:=@List.size_toArray
def aEi:=@List.length_append
def aEj:=@List.getElem?_eq_getElem
def aEk:=@List.mem_of_getElem?
def aEl:=@Around.under_plainId
def aEm:=@Bool.false_ne_true
def aEn:=@List.take_length
def aEo:=@List.map_append
def aEp:=@List.length_take
def aEq:=@Nat.lt_of_lt_of_le
def aEr:=@Heap.get?_update_self
def aEs:=@List.mem_append_left
def aEt:=@List.length_replicate
def aEu:=@decide_eq_false
def aEv:=@decide_eq_true
def aEw:=@Nat.ne_of_lt
def aEx:=@List.getElem?_map
def aEy:=@List.map_cons
def aEz:=@Nat.ne_of_gt
def aFA:=@List.foldl_cons
def aFB:=@List.sum_cons
def aFC:=@List.length_cons
def aFD:=@List.map_map
def aFE:=@List.take_succ
def aFF:=@List.mem_singleton
def aFG:=@PySem.F.plainAttrs_list
def aFH:=@PySem.F.slot_list_append
def aFI:=@PySem.F.type_list_append
def aFJ:=@Option.map_eq_some_iff
def aFK:=@List.getElem?_eq_some_iff
def aFL:=@List.mem_cons
def aFM:=@List.mem_append
def aFN:=@List.mem_map
def aFO:=@List.mem_filter
end
namespace L2
open PySem PySem.Spec PyProof.Rows
abbrev Key:=Sum Int Str
def rP:Key->Value->Bool
 | .inl k,v=>Value.isInt k v
 | .inr x,v=>Value.isStrOf x v
def aEA (w:World):Key->Int
 | .inl k=>hashInt k
 | .inr x=>hashStr w x
def cD:∀ {k:Key} {v:Value},rP k v=true->(∃ i t,k=Sum.inl i/\v=Value.int i t)\/(∃ x t,k=Sum.inr x/\v=Value.str x t)
 | .inl i,v,h=>by
  obtain⟨t,e⟩:=Value.isInt_shape (k:=i) (v:=v) h;exact .inl ⟨i,t,rfl,e⟩
 | .inr x,v,h=>by
  obtain⟨t,e⟩:=Value.isStrOf_shape (x:=x) (v:=v) h;exact .inr ⟨x,t,rfl,e⟩
def Y3 (i:Int) (t:Tok):rP (.inl i) (.int i t)=true:=by simp[rP,Value.isInt]
def Y4 (x:Str) (t:Tok):rP (.inr x) (.str x t)=true:=by simp[rP,Value.isStrOf]
def aCY (a b:Int):decide ((Sum.inl a:Key)=Sum.inl b)=(a == b):=by
 by_cases e:a=b
 .subst e;simp
 .have h:¬ (Sum.inl a:Key)=Sum.inl b:=λq=>e (Sum.inl.inj q);rw[aEu h];exact(beq_eq_false_iff_ne.mpr e).symm
def aCZ (a b:Str):decide ((Sum.inr a:Key)=Sum.inr b)=decide (a=b):=by
 by_cases e:a=b
 .subst e;simp
 .have h:¬ (Sum.inr a:Key)=Sum.inr b:=λq=>e (Sum.inr.inj q);rw[aEu h,aEu e]
def aC0 (a:Int) (b:Str):decide ((Sum.inl a:Key)=Sum.inr b)=false:=aEu (λq=>nomatch q)
def aC1 (a:Str) (b:Int):decide ((Sum.inr a:Key)=Sum.inl b)=false:=aEu (λq=>nomatch q)
def bA (prog:Program) (w:World):PySem.KeyKind prog w Key where
 is:=rP
 hash:=aEA w
 inj:=λv a b ha hb=>by
  rcases cD ha with ⟨i,t,rfl,rfl⟩ | ⟨x,t,rfl,rfl⟩
  .rcases cD hb with ⟨j,u,rfl,e⟩ | ⟨y,u,rfl,e⟩
   .injection e with e1 _;rw[e1]
   .exact nomatch e
  .rcases cD hb with ⟨j,u,rfl,e⟩ | ⟨y,u,rfl,e⟩
   .exact nomatch e
   .injection e with e1 _;rw[e1]
 byValue:=λk v h=>by
  rcases cD h with ⟨i,t,rfl,rfl⟩ | ⟨x,t,rfl,rfl⟩ <;> rfl
 pyHash:=λhv h=>by
  rcases cD hv with ⟨i,t,rfl,rfl⟩ | ⟨x,t,rfl,rfl⟩
  .exact wpAny_pyHash_int h
  .exact wpAny_pyHash_str h
 eqBool:=λhu hv h=>by
  rcases cD hu with ⟨i,t,rfl,rfl⟩ | ⟨x,t,rfl,rfl⟩
  .rcases cD hv with ⟨j,u,rfl,rfl⟩ | ⟨y,u,rfl,rfl⟩
   .rw[aCY]at h;exact wpAny_eqBool_int h
   .rw[aC0]at h;exact SeqAt.EqAt.int_str i t y u _ _ _ _ h
  .rcases cD hv with ⟨j,u,rfl,rfl⟩ | ⟨y,u,rfl,rfl⟩
   .rw[aC1]at h;exact SeqAt.EqAt.str_int x t j u _ _ _ _ h
   .rw[aCZ]at h;exact wpAny_eqBool_str h
 «strs»:=λk x t v h=>by
  rcases cD h with ⟨i,u,rfl,e⟩ | ⟨y,u,rfl,e⟩
  .exact nomatch e
  .injection e with e1 _
   subst e1;cases v <;> rfl
def tT (prog:Program) (w:World) (k:Key) (v:Value):(bA prog w).is k v=rP k v:=rfl
def E1 (prog:Program) (w:World) (i:Int) (t:Tok):(bA prog w).is (.inl i) (.int i t)=true:=Y3 i t
def E2 (prog:Program) (w:World) (x:Str) (t:Tok):(bA prog w).is (.inr x) (.str x t)=true:=Y4 x t
inductive V where
 | non | bl (b:Bool) | int (i:Int) | str (x:Str) | byt (b:Array UInt8) | flt (b:UInt64) | ref (a:Addr) | ty (n:String)
 deriving DecidableEq
def RelV:V->Value->Prop
 | .non,u=>u=Value.none
 | .bl b,u=>u=Value.bool b
 | .int i,u=>∃ t,u=Value.int i t
 | .str x,u=>∃ t,u=Value.str x t
 | .byt b,u=>∃ t,u=Value.bytes b t
 | .flt b,u=>∃ t,u=Value.float b t
 | .ref a,u=>u=Value.ref a
 | .ty n,u=>u=Value.type n
abbrev Vals:List V->List Value->Prop:=Paired RelV
def Vals.length {xs:List V} {us:List Value} (r:Vals xs us):xs.length=us.length:=Paired.length r
def Vals.get:∀ {xs:List V} {us:List Value} {i:Nat} {x:V},Vals xs us->xs[i]?=some x->∃ u,us[i]?=some u/\RelV x u
 | _,_,_,_,.nil,e=>by simp at e
 | _,_,0,_,.cons r _,e=>by simp at e;subst e;exact⟨_,rfl,r⟩
 | _,_,i+1,x,.cons _ t,e=>by
  obtain⟨u,h1,h2⟩:=Vals.get (i:=i) (x:=x) t (by simpa using e);exact⟨u,by simpa using h1,h2⟩
def Vals.append:∀ {xs ys:List V} {us ws:List Value},Vals xs us->Vals ys ws->Vals (xs++ys) (us++ws)
 | _,_,_,_,.nil,s=>s
 | _,_,_,_,.cons r t,s=>.cons r (Vals.append t s)
def Vals.take:∀ {xs:List V} {us:List Value} (n:Nat),Vals xs us->Vals (xs.take n) (us.take n)
 | _,_,0,_=>.nil
 | _,_,_+1,.nil=>.nil
 | _,_,n+1,.cons r t=>.cons r (Vals.take n t)
def Vals.drop:∀ {xs:List V} {us:List Value} (n:Nat),Vals xs us->Vals (xs.drop n) (us.drop n)
 | _,_,0,r=>r
 | _,_,_+1,.nil=>.nil
 | _,_,n+1,.cons _ t=>Vals.drop n t
def RelO:Option V->Option Value->Prop
 | some v,some u=>RelV v u
 | none,none=>True
 | _,_=>False
def KV {κ:Type}:List (κ×V)->List (κ×Value)->Prop:=Paired λ(p:κ×V) (q:κ×Value)=>p.1=q.1/\RelV p.2 q.2
def kV:Key->V
 | .inl i=>.int i
 | .inr x=>.str x
inductive HO where
 | lst (xs:List V)
 | tup (xs:List V)
 | dK (kvs:List (Key×V)) | dT (kvs:List (List Key×V))
 | set (S:Int->Bool) (n:Nat)
 | ins (C dx:Addr) (fs:List (Str×V))
 | own (x:Addr)
 | xd (fs:List (Str×V))
 | met (f x:Addr)
 | rng (lo hi:Int)
 | frz (o:Obj) (u:HO)
 | tbl (ps:Array Value)
 | ext (φ:Heap->Prop)
abbrev Hp:=Addr->Option HO
def upd (H:Hp) (a:Addr) (o:HO):Hp:=λb=>if b=a then some o else H b
def aB {H:Hp} {a:Addr} {o:HO}:upd H a o a=some o:=by unfold upd;rw[if_pos rfl]
def aF {H:Hp} {a b:Addr} {o:HO} (h:b≠a):upd H a o b=H b:=by unfold upd;rw[if_neg h]
def iH {H:Hp} {a:Addr} {o u:HO}:upd (upd H a o) a u=upd H a u:=by
 funext b;unfold upd;split <;> rfl
def bO {H:Hp} {a b:Addr} {o u:HO} (h:H a=some o) (h':H b=some u) (d:o≠u):a≠b:=by
 intro e;subst e;rw[h]at h';exact d (Option.some.inj h')
def aM {H:Hp} {a b:Addr} {o:HO} (h:H a=some o) (h':H b=none):a≠b:=by
 intro e;subst e;rw[h]at h';cases h'
section
variable (P:Program) (w:World)
def ObjOk (H:Hp) (h:Heap) (a:Addr):HO->Prop
 | .lst xs=>xs.length<=sizeLine/\∃ (its:List Value) (n:Nat),Vals xs its/\h.get? a=some { cls:=.type "list",data:=.seq its.toArray n }
 | .tup xs=>xs.length<=sizeLine/\∃ its:List Value,Vals xs its/\IsTup h a its.toArray
 | .dK kvs=>kvs.length<=sizeLine/\(a == sysModules)=false/\∃ vs,KV kvs vs/\h.DictOf (bA P w) a vs
 | .dT kvs=>kvs.length<=sizeLine/\(a == sysModules)=false/\∃ xs:List (List Key×Addr×Value),
  Paired (λ(p:List Key×V) (q:List Key×Addr×Value)=>p.1=q.1/\H q.2.1=some (.tup (p.1.map kV))/\RelV p.2 q.2.2) kvs xs /\
  ∃ o es ep,h.get? a=some o/\o.ExactDict/\o.data=.dict es ep/\es.toList=xs.map (entryOfKey (tupleKind (bA P w)))/\(xs.map (·.1)).Nodup
 | .set S n=>h.SetOf (intKind P w) a S n
 | .ins C dx fs=>H dx=some (.own a)/\fs.length<=1000/\dx≠a/\h.get? a=some (PySem.W.instObj C dx) /\
  ∃ mA,h.Ns1 dx mA/\(∀ f,RelO (fs.lookup f) (mA f))/\PySem.Within mA (fs.map (·.1))
 | .own _=>∃ o,h.get? a=some o
 | .xd fs=>∃ mA,h.Ns1 a mA/\∀ f,RelO (fs.lookup f) (mA f)
 | .rng lo hi=>∃ t u v,h.get? a=some { cls:=.type "range",data:=.fields #[.int lo t,.int hi u,.int 1 v] }
 | .frz o u=>h.get? a=some o/\ObjOk H h a u
 | .tbl ps=>h.get? a=some { cls:=.none,data:=.fields ps }
 | .met f x=>h.get? a=some (PySem.W.methodObj (.ref f) (.ref x))
 | .ext z=>z h/\(∃ o,h.get? a=some o)/\∀ h1 h2:Heap,z h1->(∀ o,h1.get? a=some o->h2.get? a=some o)->z h2
def HOk (H:Hp) (h:Heap):Prop:=∀ a o,H a=some o->ObjOk P w H h a o
end
section
variable {P:Program} {w:World} {H H':Hp} {h h':Heap} {a:Addr} {o:HO}
def ObjOk.lt (x:ObjOk P w H h a o):a<h.objs.size:=by
 cases o with
 | lst xs=>obtain⟨_,_,_,_,e⟩:=x;exact aEf e
 | tup xs=>obtain⟨_,_,_,p⟩:=x;exact p.lt
 | dK kvs=>obtain⟨_,_,_,_,o,_,_,e,_⟩:=x;exact aEf e
 | dT kvs=>obtain⟨_,_,_,_,o,_,_,e,_⟩:=x;exact aEf e
 | set S n=>obtain⟨o,_,_,_,e,_⟩:=x;exact aEf e
 | ins C dx fs=>obtain⟨_,_,_,e,_⟩:=x;exact aEf e
 | own y=>obtain⟨_,e⟩:=x;exact aEf e
 | xd fs=>obtain⟨_,⟨_,_,_,e,_⟩,_⟩:=x;exact aEf e
 | rng lo hi=>obtain⟨_,_,_,e⟩:=x;exact aEf e
 | frz z u=>obtain⟨e,_⟩:=x;exact aEf e
 | tbl ps=>exact aEf (show h.get? a=some _ from x)
 | met f y=>exact aEf (show h.get? a=some _ from x)
 | ext B=>obtain⟨_,⟨_,e⟩,_⟩:=x;exact aEf e
def Paired.mapP {z B:Type} {F G:z->B->Prop}:∀ {l₁:List z} {l₂:List B},Paired F l₁ l₂->(∀ a b,F a b->G a b)->Paired G l₁ l₂
 | _,_,.nil,_=>.nil
 | _,_,.cons r t,f=>.cons (f _ _ r) (Paired.mapP t f)
def ObjOk.stay (x:ObjOk P w H h a o) (k:∀ b u,(b=a\/H b=some (.own a))->h.get? b=some u->h'.get? b=some u)
 (D:∀ b,H b=some (.own a)->H' b=some (.own a)) (ht:∀ b xs,H b=some (.tup xs)->H' b=some (.tup xs)):ObjOk P w H' h' a o:=by
 induction o with
 | lst xs=>obtain⟨z,its,n,r,e⟩:=x;exact⟨z,its,n,r,k _ _ (.inl rfl) e⟩
 | tup xs=>obtain⟨z,its,r,B,e,c⟩:=x;exact⟨z,its,r,B,k _ _ (.inl rfl) e,c⟩
 | dK kvs=>obtain⟨z,y,vs,r,B,es,ep,e,c⟩:=x;exact⟨z,y,vs,r,B,es,ep,k _ _ (.inl rfl) e,c⟩
 | dT kvs =>
  obtain⟨z,y,xs,r,B,es,ep,e,c⟩:=x;exact⟨z,y,xs,Paired.mapP r λp q z=>⟨z.1,ht _ _ z.2.1,z.2.2⟩,B,es,ep,k _ _ (.inl rfl) e,c⟩
 | set S n=>obtain⟨B,es,ep,t,e,c⟩:=x;exact⟨B,es,ep,t,k _ _ (.inl rfl) e,c⟩
 | ins C dx fs =>
  obtain⟨d,z,ne,e,mA,⟨od,es,ep,e2,c⟩,r⟩:=x;exact⟨D _ d,z,ne,k _ _ (.inl rfl) e,mA,⟨od,es,ep,k _ _ (.inr d) e2,c⟩,r⟩
 | own y=>obtain⟨B,e⟩:=x;exact⟨B,k _ _ (.inl rfl) e⟩
 | xd fs=>obtain⟨mA,⟨od,es,ep,e,c⟩,r⟩:=x;exact⟨mA,⟨od,es,ep,k _ _ (.inl rfl) e,c⟩,r⟩
 | rng lo hi=>obtain⟨t,u,v,e⟩:=x;exact⟨t,u,v,k _ _ (.inl rfl) e⟩
 | frz B u I=>obtain⟨e,q⟩:=x;exact⟨k _ _ (.inl rfl) e,I q⟩
 | tbl ps =>
  have e:h.get? a=some { cls:=.none,data:=.fields ps }:=x;show h'.get? a=some { cls:=.none,data:=.fields ps };exact k a _ (.inl rfl) e
 | met f y =>
  have e:h.get? a=some (PySem.W.methodObj (.ref f) (.ref y)):=x;show h'.get? a=some (PySem.W.methodObj (.ref f) (.ref y));exact k a _ (.inl rfl) e
 | ext J=>obtain⟨p,⟨o,e⟩,st⟩:=x;exact⟨st _ _ p λo q=>k _ _ (.inl rfl) q,⟨o,k _ _ (.inl rfl) e⟩,st⟩
def HOk.lt (x:HOk P w H h) (e:H a=some o):a<h.objs.size:=(x a o e).lt
def HOk.fresh (x:HOk P w H h) (e:h.objs.size<=a):H a=none:=by
 cases q:H a with
 | none=>rfl
 | some u=>exact absurd (aEq (x.lt q) e) (Nat.lt_irrefl _)
def HOk.kept (x:HOk P w H h) (k:∀ b u,h.get? b=some u->h'.get? b=some u):HOk P w H h':=λa o e =>
 (x a o e).stay (λb u _ q=>k b u q) (λ_ q=>q) λ_ _ q=>q
def HOk.laid (x:HOk P w H h) (k:∀ b u,h.get? b=some u->h'.get? b=some u) (D:h.objs.size<=a) (new:ObjOk P w (upd H a o) h' a o):HOk P w (upd H a o) h':=λb u e=>by
 have z:=x.fresh D
 by_cases B:b=a
 .subst B;rw[aB]at e;cases e;exact new
 .rw[aF B]at e;exact(x b u e).stay (λc v _ q=>k c v q) (λc q=>by rw[aF (aM q z)];exact q) λc xs q=>by rw[aF (aM q z)];exact q
end
def Rd (H:Hp) (a:Addr) (u:HO):Prop:=H a=some u\/∃ o,H a=some (.frz o u)
def Rd.of {H:Hp} {a:Addr} {u:HO} (h:H a=some u):Rd H a u:=.inl h
def Rd.ok {P:Program} {w:World} {H:Hp} {h:Heap} {a:Addr} {u:HO} (r:Rd H a u) (x:HOk P w H h):ObjOk P w H h a u:=by
 rcases r with r | ⟨o,r⟩
 .exact x a u r
 .obtain⟨_,q⟩:=x a _ r;exact q
def Mut:Option HO->Prop
 | some (.lst _)=>True
 | some (.dK _)=>True
 | some (.dT _)=>True
 | some (.set _ _)=>True
 | some (.ins _ _ _)=>True
 | some (.ext _)=>True
 | _=>False
section
variable {P:Program} {w:World} {H:Hp} {h h':Heap} {x e:Addr} {o':HO}
def HOk.write (ok:HOk P w H h) (J:Mut (H x)) (he:e=x\/H e=some (.own x)) (k:∀ b u,b≠e->h.get? b=some u->h'.get? b=some u) (M:∃ u,h'.get? e=some u)
 (new:ObjOk P w (upd H x o') h' x o'):HOk P w (upd H x o') h':=λb u q=>by
 have D:∀ c y,H c=some (.own y)->c≠x:=λc y r z=>by subst z;rw[r]at J;exact J
 have I:∀ c xs,H c=some (.tup xs)->c≠x:=λc xs r z=>by subst z;rw[r]at J;exact J
 by_cases L:b=x
 .subst L;rw[aB]at q;cases q;exact new
 .rw[aF L]at q
  by_cases B:b=e
  .have U:H b=some (.own x):=by
    rcases he with z | z
    .exact absurd (B.trans z) L
    .rw[B];exact z
   rw[q]at U;cases U;obtain⟨v,Y⟩:=M;exact⟨v,by rw[B];exact Y⟩
  .refine(ok b u q).stay (λc v hc r=>k c v ?_ r) (λc r=>by rw[aF (D c b r)];exact r) λc xs r=>by rw[aF (I c xs r)];exact r
   rcases hc with rfl | hc
   .exact B
   .rintro rfl;rcases he with z | z
    .exact D c b hc z
    .rw[hc]at z;cases z;exact L rfl
end
structure Un (fs ex:List Addr) (H H':Hp) (h h':Heap):Prop where
 keep:∀ b o,h.get? b=some o->H b=none->b∉fs->b∉ex->h'.get? b=some o
 slot:∀ b o,h.get? b=some o->H b=none->b∈fs->b∉ex->∃ sl,h'.get? b=some { o with slots:=sl }
 free:∀ b o,h.get? b=some o->H b=none->b∉ex->H' b=none
 there:∀ b o,h.get? b=some o->b∉ex->∃ o',h'.get? b=some o'
 tups:∀ b xs,H b=some (.tup xs)->H' b=some (.tup xs)
 frzs:∀ b o u,H b=some (.frz o u)->H' b=some (.frz o u)
 tbls:∀ b ps,H b=some (.tbl ps)->∃ more,H' b=some (.tbl (ps++more))
section
variable {fs fs' ex ex':List Addr} {H H1 H2:Hp} {h h1 h2 h':Heap} {a x e:Addr} {o:HO}
def Un.any (u:Un fs ex H H1 h h1) {b:Addr} {z:Obj} (q:h.get? b=some z) (n:H b=none) (B:b∉ex):∃ I,h1.get? b=some { z with slots:=I }:=by
 by_cases D:b∈fs
 .exact u.slot b z q n D B
 .exact⟨z.slots,u.keep b z q n D B⟩
def Un.kept (k:∀ b u,h.get? b=some u->h'.get? b=some u):Un fs ex H H h h' :=
 ⟨λb z q _ _ _=>k b z q,λb z q _ _ _=>⟨z.slots,k b z q⟩,λ_ _ _ n _=>n,λb z q _=>⟨z,k b z q⟩,λ_ _ q=>q,λ_ _ _ q=>q,λ_ ps q=>⟨#[],by rw[q];simp⟩⟩
def Un.refl:Un fs ex H H h h:=Un.kept λ_ _ q=>q
def Un.laid (k:∀ b u,h.get? b=some u->h'.get? b=some u) (hp:h.objs.size<=a) (hn:H a=none):Un fs ex H (upd H a o) h h' where
 keep:=λb u q _ _ _=>k b u q
 slot:=λb u q _ _ _=>⟨u.slots,k b u q⟩
 free:=λb u q n _=>by rw[aF (aEw (aEq (aEf q) hp))];exact n
 there:=λb u q _=>⟨u,k b u q⟩
 tups:=λb xs q=>by rw[aF (aM q hn)];exact q
 frzs:=λb u xs q=>by rw[aF (aM q hn)];exact q
 tbls:=λb ps q=>⟨#[],by rw[aF (aM q hn),q];simp⟩
def Un.write (D:Mut (H x)) (he:e=x\/H e=some (.own x)) (k:∀ b u,b≠e->h.get? b=some u->h'.get? b=some u) (I:∃ u,h'.get? e=some u):Un fs ex H (upd H x o) h h':=by
 have L:∀ b,H b=none->b≠x:=λb n z=>by subst z;rw[n]at D;exact D
 have M:∀ b,H b=none->b≠e:=λb n z=>by
  subst z;rcases he with r | r
  .exact L b n r
  .rw[n]at r;cases r
 have J:∀ b u,H b=some u->¬ Mut (some u)->b≠x:=λb u q nm z=>by subst z;rw[q]at D;exact nm D
 refine⟨λb u q n _ _=>k b u (M b n) q,λb u q n _ _=>⟨u.slots,k b u (M b n) q⟩,λb u q n _=>by rw[aF (L b n)];exact n,λb u q _=>?_,
  λb xs q=>by rw[aF (J b _ q λz=>z)];exact q,λb u xs q=>by rw[aF (J b _ q λz=>z)];exact q,λb ps q=>⟨#[],by rw[aF (J b _ q λz=>z),q];simp⟩⟩
 by_cases B:b=e
 .subst B;exact I
 .exact⟨u,k b u B q⟩
end
def trk (h:Heap) (H:Hp):List Addr:=(List.range h.objs.size).filter λa=>(H a).isSome
def yZ (h:Heap) (H:Hp):Heap:=PySem.W.hideAll h (trk h H)
def Y5 (h:Heap) (H:Hp):(yZ h H).objs.size=h.objs.size:=PySem.W.hideAll_size _ _
def o4 {h:Heap} {H:Hp} {b:Addr} {o:Obj} (e:h.get? b=some o) (n:H b=none):(yZ h H).get? b=some o :=
 PySem.W.hideAll_get _ e λz=>by
  have q:(H b).isSome=true:=(aFO.mp z).2;rw[n]at q;simp at q
def aBT {h:Heap} {H:Hp} {b:Addr} {o:Obj} (e:(yZ h H).get? b=some o):h.get? b=some o/\H b=none:=by
 have B:h.get? b=some o:=PySem.W.of_hideAll (trk h H) e;refine⟨B,?_⟩;cases q:H b with
 | none=>rfl
 | some x =>
  have D:b∈trk h H:=aFO.mpr ⟨List.mem_range.mpr (aEf B),by simp[q]⟩;have z:(yZ h H).get? b=none:=PySem.W.hideAll_none (trk h H) D;rw[z]at e;cases e
structure Mod (K:PySem.W.Frag) (mg:Str->Option Value) (base:Heap):Prop where
 kin:K.In base
 glob:base.Ns mainGlobals mg
 blt:∃ mb,base.Ns builtinsNs mb/\∀ x:Str,x≠"__name__"->mb x=bootBuiltins x
 nolimit:base.NoLimit
structure Cx where
 prog:Program
 w:World
 K:PySem.W.Frag
 mg:Str->Option Value
 base:Heap
 A:Around
 N:List Str
 s₀:Shared
 H₀:Hp
 env:Env
 outer:List Env
 stack:List Env
 ex:List Addr
 fn:Str->Bool
 calm:Bool
 pn:List (Addr×Obj)
 xe:Value->Shared->Prop
def frs (l:List Env):List Addr:=l.filterMap (·.frame)
abbrev Cx.fs (X:Cx):List Addr:=frs X.outer
def Vis (z:Scope) (x:Str):Prop:=z.names.lookup x=some .local\/z.names.lookup x=some .cell\/z.names.lookup x=some .free
def Loc (z:Scope) (x:Str):Prop:=z.names.lookup x=some .local\/z.names.lookup x=some .cell
def aEB (env:Env) (h:Heap) (m:Str->Option Value) (x:Str) (u:Value):Prop :=
 (env.kindOf x=some .local/\m x=some u)\/((env.kindOf x=some .cell\/env.kindOf x=some .free)/\∃ c,env.cells.lookup x=some c/\h.IsCell c (some u))
structure Cx.Ok (X:Cx):Prop where
 mod:Mod X.K X.mg X.base
 kind:X.env.scope.kind=.function
 glob:X.env.globals=mainGlobals
 blt:X.env.builtins=builtinsNs
 above:X.s₀.heap.objs.size<=X.env.locals
 inj:∀ x y c,X.env.cells.lookup x=some c->X.env.cells.lookup y=some c->x=y
 has:∀ x,(X.env.kindOf x=some .cell\/X.env.kindOf x=some .free)->∃ c,X.env.cells.lookup x=some c
 cab:∀ x c,X.fn x=true->X.env.cells.lookup x=some c->X.s₀.heap.objs.size<=c
 hd:X.calm=true->X.A.handled=none
 frames:X.A.frames=some X.stack
 stk:X.stack=X.outer\/(X.stack=X.env :: X.outer/\X.env.frame=some X.env.locals)
 exf:∀ b∈X.ex,b≠X.env.locals/\∀ x c,X.env.cells.lookup x=some c->c≠b
 bs:∀ b o,X.base.get? b=some o->X.s₀.heap.get? b=some o/\X.H₀ b=none
 bsz:X.base.objs.size<=X.s₀.heap.objs.size
 noex:∀ b o,X.base.get? b=some o->b∉X.ex
 exfs:∀ b∈X.ex,b∉X.fs
 funs:X.s₀.heap.FunFrames X.base X.outer
 frf:∀ b∈X.fs,X.H₀ b=none
structure Inv (X:Cx) (pins:List (Addr×Obj)) (σ:List (Option V)) (H:Hp) (s:Shared):Prop where
 ok:X.Ok
 os:s.os=X.s₀.os
 bare:AllBare s.gens
 base:Un X.fs X.ex X.H₀ H X.s₀.heap s.heap
 loc:∃ m,s.heap.Ns X.env.locals m/\∀ (i:Nat) (x:Str) (v:V),X.N[i]?=some x->σ[i]?=some (some v)->Vis X.env.scope x->∃ u,RelV v u/\aEB X.env s.heap m x u
 cell:∀ x c,X.env.cells.lookup x=some c->∃ v,s.heap.IsCell c v
 free:H X.env.locals=none
 freeC:∀ x c,X.env.cells.lookup x=some c->H c=none
 pin:∀ p∈X.pn++pins,s.heap.get? p.1=some p.2/\H p.1=none/\p.1≠X.env.locals/\p.1∉X.fs/\∀ v,p.2.data≠.cell v
 hok:HOk X.prog X.w H s.heap
 len:σ.length=X.N.length
section
variable {X:Cx} {pins:List (Addr×Obj)} {σ:List (Option V)} {H H':Hp} {s:Shared} {h':Heap}
def Cx.Ok.nofr (ok:X.Ok) {b:Addr} {o:Obj} (e:X.base.get? b=some o):b∉X.fs:=λz=>by
 have:=(ok.funs.mem z).1;rw[e]at this;cases this
def Inv.bs (I:Inv X pins σ H s):∀ b o,X.base.get? b=some o->s.heap.get? b=some o/\H b=none:=λb o e =>
 ⟨I.base.keep b o (I.ok.bs b o e).1 (I.ok.bs b o e).2 (I.ok.nofr e) (I.ok.noex b o e),I.base.free b o (I.ok.bs b o e).1 (I.ok.bs b o e).2 (I.ok.noex b o e)⟩
def Inv.bk (I:Inv X pins σ H s):∀ b o,X.base.get? b=some o->s.heap.get? b=some o:=λb o e=>(I.bs b o e).1
def Inv.mod (I:Inv X pins σ H s):Mod X.K X.mg X.base:=I.ok.mod
def Inv.kIn (I:Inv X pins σ H s):X.K.In s.heap:=I.ok.mod.kin.keeps I.bk
def Inv.lt (I:Inv X pins σ H s):X.env.locals<s.heap.objs.size:=let ⟨_,z,_⟩:=I.loc;z.lt
def Inv.sz (I:Inv X pins σ H s):X.s₀.heap.objs.size<=s.heap.objs.size:=Nat.le_trans I.ok.above (Nat.le_of_lt I.lt)
def Inv.nofs (I:Inv X pins σ H s) {a:Addr} (h:s.heap.objs.size<=a):a∉X.fs:=λz=>by
 obtain⟨_,o,B,_⟩:=I.ok.funs.mem z;exact absurd (aEq (aEf B) (Nat.le_trans I.sz h)) (Nat.lt_irrefl _)
def Inv.cne (I:Inv X pins σ H s):∀ x c,X.env.cells.lookup x=some c->c≠X.env.locals:=λx c e z=>by
 obtain⟨v,o,J,hd⟩:=I.cell x c e;obtain⟨m,⟨o',es,ep,B,D,_⟩,_⟩:=I.loc;rw[z,B]at J;cases J;rw[D]at hd;cases hd
def Inv.funs (I:Inv X pins σ H s):s.heap.FunFrames X.base X.outer:=by
 have all:∀ (l:List Env),(∀ b∈frs l,b∈X.fs)->X.s₀.heap.FunFrames X.base l->s.heap.FunFrames X.base l:=by
  intro l
  induction l with
  | nil=>intro _ _;trivial
  | cons env r M =>
   intro hs U;obtain⟨Y,⟨L,o,B,hn,ho,hd⟩,hr⟩:=U;have D:L∈X.fs:=hs L (by unfold frs;rw[List.filterMap_cons,B];exact aEb);obtain⟨sl,e⟩:=I.base.slot L o ho (I.ok.frf L D) D λz=>I.ok.exfs L z D;exact⟨Y,⟨L,_,B,hn,e,hd⟩,M (λb J=>hs b (by unfold frs;rw[List.filterMap_cons,B];exact aEc _ J)) hr⟩
 exact all X.outer (λ_ J=>J) I.ok.funs
def Inv.stack (I:Inv X pins σ H s):s.heap.FunFrames X.base X.stack:=by
 rcases I.ok.stk with e | ⟨e,z⟩
 .rw[e];exact I.funs
 .rw[e];obtain⟨m,B,_⟩:=I.loc;refine .cons (by rw[I.ok.kind];decide) z B ?_ I.funs;exact Heap.get?_none_of_le (Nat.le_trans I.ok.bsz I.ok.above)
def Inv.stkSub (I:Inv X pins σ H s):∀ b∈frs X.stack,b∈X.env.locals :: X.fs:=λb z=>by
 rcases I.ok.stk with e | ⟨e,B⟩
 .rw[e]at z;exact aEc _ z
 .rw[e]at z;unfold frs at z;rw[List.filterMap_cons,B]at z;exact z
def Inv.stkFree (I:Inv X pins σ H s):∀ b∈frs X.stack,H b=none:=λb hb=>by
 rcases aFL.mp (I.stkSub b hb)with e | hb
 .rw[e];exact I.free
 .obtain⟨_,o,B,_⟩:=I.ok.funs.mem hb;exact I.base.free b o B (I.ok.frf b hb) λz=>I.ok.exfs b z hb
def Inv.step {g':Array GenState} {t':Nat} {d':Drawn} {ch:List Addr} (I:Inv X pins σ H s)
 (D:∀ b∈ch,(b∈X.ex\/X.s₀.heap.objs.size<=b)/\b≠X.env.locals/\(∀ x c,X.env.cells.lookup x=some c->c≠b)/\∀ p∈X.pn++pins,p.1≠b)
 (keep:∀ b o,b≠X.env.locals->b∉X.fs->b∉ch->s.heap.get? b=some o->H b=none->h'.get? b=some o)
 (slot:∀ b o,b≠X.env.locals->b∈X.fs->b∉ch->s.heap.get? b=some o->H b=none->∃ sl,h'.get? b=some { o with slots:=sl }) (free:∀ b o,b∉ch->s.heap.get? b=some o->H b=none->H' b=none)
 (there:∀ b o,b∉ch->s.heap.get? b=some o->∃ o',h'.get? b=some o')
 (tups:∀ b xs,H b=some (.tup xs)->H' b=some (.tup xs)) (frzs:∀ b o u,H b=some (.frz o u)->H' b=some (.frz o u)) (tbls:∀ b ps,H b=some (.tbl ps)->∃ more,H' b=some (.tbl (ps++more)))
 (ns:∀ m,s.heap.Ns X.env.locals m->h'.Ns X.env.locals m) (hok:HOk X.prog X.w H' h') (hg:AllBare g') :
 Inv X pins σ H' { s with heap:=h',gens:=g',drawn:=d',toks:=t' }:=by
 have Y:∀ b o,X.s₀.heap.get? b=some o->b≠X.env.locals:=λb o e=>aEw (aEq (aEf e) I.ok.above);have L:∀ b o,X.s₀.heap.get? b=some o->b∉X.ex->b∉ch:=λb o e B M=>by
  rcases (D b M).1 with z | z
  .exact B z
  .exact absurd (aEq (aEf e) z) (Nat.lt_irrefl _)
 have cellK:∀ x c,X.env.cells.lookup x=some c->∀ v,s.heap.IsCell c v->h'.IsCell c v:=λx c e v ⟨o,U,hd⟩=>by
  have J:c∉ch:=λz=>(D c z).2.2.1 x c e rfl
  by_cases hc:c∈X.fs
  .obtain⟨sl,q⟩:=slot c o (I.cne x c e) hc J U (I.freeC x c e);exact⟨_,q,hd⟩
  .exact⟨o,keep c o (I.cne x c e) hc J U (I.freeC x c e),hd⟩
 refine⟨I.ok,I.os,hg,⟨λb o e n M B=>?_,λb o e n M B=>?_,λb o e n B=>?_,λb o e B=>?_,λb xs e=>tups b xs (I.base.tups b xs e),λb o xs e=>frzs b o xs (I.base.frzs b o xs e),λb ps e=>?_⟩,?_,λx c e=>?_,?_,λx c e=>?_,λp hp=>?_,hok,I.len⟩
 .exact keep b o (Y b o e) M (L b o e B) (I.base.keep b o e n M B) (I.base.free b o e n B)
 .obtain⟨sl,e1⟩:=I.base.slot b o e n M B;obtain⟨al,e2⟩:=slot b _ (Y b o e) M (L b o e B) e1 (I.base.free b o e n B);exact⟨al,e2⟩
 .obtain⟨o',e1⟩:=I.base.there b o e B;exact free b o' (L b o e B) e1 (I.base.free b o e n B)
 .obtain⟨o',e1⟩:=I.base.there b o e B;exact there b o' (L b o e B) e1
 .obtain⟨m1,e1⟩:=I.base.tbls b ps e;obtain⟨m2,e2⟩:=tbls b _ e1;exact⟨m1++m2,by rw[e2,Array.append_assoc]⟩
 .obtain⟨m,hn,hl⟩:=I.loc;refine⟨m,ns m hn,λi x v e1 e2 e3=>?_⟩;obtain⟨u,r,l⟩:=hl i x v e1 e2 e3;refine⟨u,r,?_⟩;rcases l with l | ⟨k,c,e,z⟩
  .exact .inl l
  .exact .inr ⟨k,c,e,cellK x c e _ z⟩
 .obtain⟨v,z⟩:=I.cell x c e;exact⟨v,cellK x c e v z⟩
 .obtain⟨m,⟨o,_,_,U,_⟩,_⟩:=I.loc;exact free _ o (λz=>(D _ z).2.1 rfl) U I.free
 .obtain⟨v,o,U,hd⟩:=I.cell x c e;exact free c o (λz=>(D c z).2.2.1 x c e rfl) U (I.freeC x c e)
 .obtain⟨e,n,ne,nf,d⟩:=I.pin p hp;have J:p.1∉ch:=λz=>(D p.1 z).2.2.2 p hp rfl;exact⟨keep p.1 p.2 ne nf J e n,free p.1 p.2 J e n,ne,nf,d⟩
def Inv.un {t':Nat} (I:Inv X pins σ H s) (u:Un X.fs [] H H' s.heap h') (hok:HOk X.prog X.w H' h'):Inv X pins σ H' { s with heap:=h',toks:=t' }:=by
 obtain⟨m,⟨o,es,ep,M,r⟩,_⟩:=id I.loc;obtain⟨sl,U⟩:=u.any M I.free (by simp);exact I.step (g':=s.gens) (d':=s.drawn) (ch:=[]) (λ_ z=>nomatch z) (λb o _ D _ e n=>u.keep b o e n D (by simp)) (λb o _ D _ e n=>u.slot b o e n D (by simp)) (λb o _ e n=>u.free b o e n (by simp)) (λb o _ e=>u.there b o e (by simp)) u.tups u.frzs u.tbls (λm' Y=>by
  obtain⟨o',J,L,B,r'⟩:=Y;rw[M]at B;cases B;exact⟨_,J,L,U,r'⟩) hok I.bare
def Inv.call {g':Array GenState} {t':Nat} {d':Drawn} {ch:List Addr} (I:Inv X pins σ H s) (u:Un (frs X.stack) ch H H' s.heap h') (hok:HOk X.prog X.w H' h') (hg:AllBare g')
 (D:∀ b∈ch,(b∈X.ex\/X.s₀.heap.objs.size<=b)/\b≠X.env.locals/\(∀ x c,X.env.cells.lookup x=some c->c≠b)/\∀ p∈X.pn++pins,p.1≠b) :
 Inv X pins σ H' { s with heap:=h',gens:=g',drawn:=d',toks:=t' }:=by
 obtain⟨m,⟨o,es,ep,Y,r⟩,_⟩:=id I.loc;obtain⟨sl,L⟩:=u.any Y I.free λz=>(D _ z).2.1 rfl;exact I.step (ch:=ch) D (λb o L hb B e n=>u.keep b o e n (λz=>(aFL.mp (I.stkSub b z)).elim L hb) B) (λb o _ _ B e n=>u.any e n B) (λb o B e n=>u.free b o e n B) (λb o B e=>u.there b o e B) u.tups u.frzs u.tbls (λm' hm=>by
  obtain⟨o',M,U,J,r'⟩:=hm;rw[Y]at J;cases J;exact⟨_,M,U,L,r'⟩) hok hg
def Inv.turned {t':Nat} {it:Addr} (I:Inv X pins σ H s) (k:∀ b o,b≠it->s.heap.get? b=some o->h'.get? b=some o) (L:H it=none) (J:it≠X.env.locals)
 (h1:it∈X.ex\/X.s₀.heap.objs.size<=it) (h2:∀ x c,X.env.cells.lookup x=some c->c≠it) (h3:∀ p∈X.pn++pins,p.1≠it):Inv X pins σ H { s with heap:=h',toks:=t' }:=by
 have D:∀ b u,H b=some u->b≠it:=λb u e z=>by rw[z,L]at e;cases e
 refine I.step (g':=s.gens) (d':=s.drawn) (ch:=[it]) (λb M=>?_) (λb o _ _ B e _=>k b o (λz=>B (by simp[z])) e) (λb o _ _ B e _=>⟨o.slots,k b o (λz=>B (by simp[z])) e⟩) (λ_ _ _ _ n=>n)
  (λb o B e=>⟨o,k b o (λz=>B (by simp[z])) e⟩) (λ_ _ e=>e) (λ_ _ _ e=>e) (λb ps e=>⟨#[],by rw[e];simp⟩) (λm U=>?_) (λb u e=>?_) I.bare
 .have e:b=it:=by simpa using M
  subst e;exact⟨h1,J,h2,h3⟩
 .obtain⟨o,es,ep,Y,r⟩:=U;exact⟨o,es,ep,k _ o (Ne.symm J) Y,r⟩
 .refine(I.hok b u e).stay (λc v B q=>k c v ?_ q) (λ_ q=>q) λ_ _ q=>q;rcases B with z | z
  .rw[z];exact D b u e
  .exact D c _ z
def Inv.tok (I:Inv X pins σ H s) (t:Nat):Inv X pins σ H { s with toks:=t }:=I.un (h':=s.heap) (t':=t) Un.refl I.hok
def Inv.kept {t':Nat} (I:Inv X pins σ H s) (k:∀ b u,s.heap.get? b=some u->h'.get? b=some u):Inv X pins σ H { s with heap:=h',toks:=t' }:=I.un (Un.kept k) (I.hok.kept k)
def Inv.laid {a:Addr} {o:HO} {t':Nat} (I:Inv X pins σ H s) (k:∀ b u,s.heap.get? b=some u->h'.get? b=some u) (z:s.heap.objs.size<=a) (new:ObjOk X.prog X.w (upd H a o) h' a o) :
 Inv X pins σ (upd H a o) { s with heap:=h',toks:=t' }:=I.un (Un.laid k z (I.hok.fresh z)) (I.hok.laid k z new)
def Inv.write {x e:Addr} {o:HO} {t':Nat} (I:Inv X pins σ H s) (B:Mut (H x)) (he:e=x\/H e=some (.own x)) (k:∀ b u,b≠e->s.heap.get? b=some u->h'.get? b=some u) (z:∃ u,h'.get? e=some u)
 (new:ObjOk X.prog X.w (upd H x o) h' x o):Inv X pins σ (upd H x o) { s with heap:=h',toks:=t' }:=I.un (Un.write B he k z) (I.hok.write B he k z new)
def Inv.weak {z:List (Option V)} (I:Inv X pins σ H s) (D:z.length=σ.length) (w:∀ (i:Nat) v,z[i]?=some (some v)->σ[i]?=some (some v)):Inv X pins z H s :=
 ⟨I.ok,I.os,I.bare,I.base,let ⟨m,J,B⟩:=I.loc;⟨m,J,λi x v e1 e2 L=>B i x v e1 (w i v e2) L⟩,I.cell,I.free,I.freeC,I.pin,I.hok,D.trans I.len⟩
def Inv.pins_of {B:List (Addr×Obj)} (I:Inv X pins σ H s) (h:∀ p∈B,s.heap.get? p.1=some p.2/\H p.1=none/\p.1≠X.env.locals/\p.1∉X.fs/\∀ v,p.2.data≠.cell v):Inv X B σ H s :=
 ⟨I.ok,I.os,I.bare,I.base,I.loc,I.cell,I.free,I.freeC,λp D=>(aFM.mp D).elim (λz=>I.pin p (aEs _ z)) (h p),I.hok,I.len⟩
def E3 {N:List Str} (z:N.Nodup) {i j:Nat} {x:Str} (a:N[i]?=some x) (b:N[j]?=some x):i=j:=by
 obtain⟨h1,e1⟩:=aFK.mp a;obtain⟨h2,e2⟩:=aFK.mp b;exact(List.getElem_inj z).mp (e1.trans e2.symm)
def xF {M:Model} {A:Around} {E:Value->Shared->Prop} {i:Nat} {x:Str} {v:V} {u:Value} {Q:Unit->Shared->Prop} (I:Inv X pins σ H s) (hN:X.N.Nodup) (hi:X.N[i]?=some x) (B:Loc X.env.scope x) (r:RelV v u)
 (h:∀ s',Inv X pins (σ.set i (some v)) H s'->(∃ a,Heap.SameBut a s.heap s'.heap/\(a=X.env.locals\/X.env.cells.lookup x=some a))->Q () s') (hf:X.fn x=true\/X.env.scope.names.lookup x=some .local:=by first | exact .inl rfl | exact .inr rfl | assumption):wpAny M A (storeName X.env x u) Q E s:=by
 obtain⟨m,hn,hl⟩:=id I.loc;have Y:(X.env.scope.kind == .class || (X.env.scope.kind == .module && X.env.locals != X.env.globals))=false:=by rw[I.ok.kind];rfl
 have J:i<σ.length:=by rw[I.len];exact(aFK.mp hi).1
 have cne:=I.cne;have tracked:∀ {a:Addr} {h':Heap},(∃ o,s.heap.get? a=some o/\H a=none)->Heap.SameBut a s.heap h'->HOk X.prog X.w H h':=λ{a h'} ha hs b ob e=>by
  obtain⟨_,_,D⟩:=ha;refine(I.hok b ob e).stay (λc w' hc q=>(hs.2 c ?_).trans q) (λ_ q=>q) λ_ _ q=>q;rintro rfl;rcases hc with rfl | hc
  .rw[D]at e;cases e
  .rw[D]at hc;cases hc
 rcases B with hk | hk
 .refine wpAny_storeName_local hk hn (λh' aq hs=>?_) Y;obtain⟨oL,_,_,ar,_⟩:=id hn;refine h _ ⟨I.ok,I.os,I.bare,⟨λb o e n L B=>?_,λb o e n L B=>?_,I.base.free,λb o e B=>?_,I.base.tups,I.base.frzs,I.base.tbls⟩,⟨_,aq,λj y v' e1 e2 e3=>?_⟩,λy c e=>?_,I.free,I.freeC,λp hp=>?_,tracked ⟨oL,ar,I.free⟩ hs,by simpa using I.len⟩ ⟨_,hs,.inl rfl⟩
  .exact(hs.2 b (aEw (aEq (aEf e) I.ok.above))).trans (I.base.keep b o e n L B)
  .obtain⟨sl,e1⟩:=I.base.slot b o e n L B;exact⟨sl,(hs.2 b (aEw (aEq (aEf e) I.ok.above))).trans e1⟩
  .obtain⟨o',e1⟩:=I.base.there b o e B;exact⟨o',(hs.2 b (aEw (aEq (aEf e) I.ok.above))).trans e1⟩
  .by_cases hj:j=i
   .subst hj;rw[hi]at e1;cases e1;rw[List.getElem?_set_self J]at e2;cases e2;exact⟨u,r,.inl ⟨hk,by simp⟩⟩
   .rw[List.getElem?_set_ne (Ne.symm hj)]at e2;obtain⟨u',r',q⟩:=hl j y v' e1 e2 e3;refine⟨u',r',?_⟩;rcases q with ⟨k,e⟩ | ⟨k,c,e,z⟩
    .refine .inl ⟨k,?_⟩;have:y≠x:=λe=>hj (E3 hN e1 (e ▸ hi));simp[this,e]
    .exact .inr ⟨k,c,e,z.sameBut hs (cne y c e)⟩
  .obtain⟨w',z⟩:=I.cell y c e;exact⟨w',z.sameBut hs (cne y c e)⟩
  .obtain⟨e,n,ne,nf,d⟩:=I.pin p hp;exact⟨(hs.2 p.1 ne).trans e,n,ne,nf,d⟩
 .have U:X.fn x=true:=by
   rcases hf with z | z
   .exact z
   .rw[z]at hk;cases hk
  obtain⟨c,hc⟩:=I.ok.has x (.inl hk);obtain⟨w',z⟩:=I.cell x c hc;refine wpAny_storeName_cell I.ok.kind hk hc z (λh' al hs=>?_);obtain⟨oc,am,ao⟩:=id z;refine h { s with heap:=h' } ⟨I.ok,I.os,I.bare,⟨λb o e n L B=>?_,λb o e n L B=>?_,I.base.free,λb o e B=>?_,I.base.tups,I.base.frzs,I.base.tbls⟩,⟨m,hn.sameBut hs (Ne.symm (cne x c hc)),λj y v' e1 e2 e3=>?_⟩,λy c' e=>?_,I.free,I.freeC,λp hp=>?_,tracked ⟨oc,am,I.freeC x c hc⟩ hs,by simpa using I.len⟩ ⟨c,hs,.inr hc⟩
  .exact(hs.2 b (aEw (aEq (aEf e) (I.ok.cab x c U hc)))).trans (I.base.keep b o e n L B)
  .obtain⟨sl,e1⟩:=I.base.slot b o e n L B;exact⟨sl,(hs.2 b (aEw (aEq (aEf e) (I.ok.cab x c U hc)))).trans e1⟩
  .obtain⟨o',e1⟩:=I.base.there b o e B;exact⟨o',(hs.2 b (aEw (aEq (aEf e) (I.ok.cab x c U hc)))).trans e1⟩
  .by_cases hj:j=i
   .subst hj;rw[hi]at e1;cases e1;rw[List.getElem?_set_self J]at e2;cases e2;exact⟨u,r,.inr ⟨.inl hk,c,hc,al⟩⟩
   .rw[List.getElem?_set_ne (Ne.symm hj)]at e2;obtain⟨u',r',q⟩:=hl j y v' e1 e2 e3;refine⟨u',r',?_⟩;rcases q with q | ⟨k,c',e,z'⟩
    .exact .inl q
    .refine .inr ⟨k,c',e,z'.sameBut hs ?_⟩;rintro rfl;exact hj (E3 hN e1 (I.ok.inj _ _ _ e hc ▸ hi))
  .by_cases ap:c'=c
   .subst ap;exact⟨_,al⟩
   .obtain⟨w2,z2⟩:=I.cell y c' e;exact⟨w2,z2.sameBut hs ap⟩
  .obtain⟨e,n,ne,nf,d⟩:=I.pin p hp;refine⟨(hs.2 p.1 ?_).trans e,n,ne,nf,d⟩;intro q;rw[q,am]at e;have q':oc=p.2:=Option.some.inj e;exact d w' (by rw[<- q'];exact ao)
def tU {M:Model} {A:Around} {E:Value->Shared->Prop} {i:Nat} {x:Str} {v:V} {u:Value} {Q:Unit->Shared->Prop} (I:Inv X pins σ H s) (z:X.N.Nodup) (hi:X.N[i]?=some x) (B:Loc X.env.scope x) (r:RelV v u)
 (h:∀ s',Inv X pins (σ.set i (some v)) H s'->Q () s') (D:X.fn x=true\/X.env.scope.names.lookup x=some .local:=by first | exact .inl rfl | exact .inr rfl | assumption):wpAny M A (storeName X.env x u) Q E s :=
 xF I z hi B r (λs' J _=>h s' J) D
def Inv.call' {s':Shared} {ch:List Addr} (I:Inv X pins σ H s) (B:s'.os=s.os) (u:Un (frs X.stack) ch H H' s.heap s'.heap) (hok:HOk X.prog X.w H' s'.heap) (D:AllBare s'.gens)
 (z:∀ b∈ch,(b∈X.ex\/X.s₀.heap.objs.size<=b)/\b≠X.env.locals/\(∀ x c,X.env.cells.lookup x=some c->c≠b)/\∀ p∈X.pn++pins,p.1≠b):Inv X pins σ H' s':=by
 obtain⟨h',g',d',t',o'⟩:=s';have e:o'=s.os:=B;subst e;exact I.call (g':=g') (t':=t') (d':=d') u hok D z
end
abbrev XK:=Value->Option Addr->Hp->Prop
abbrev St:=List (Option V)
abbrev VK:=V->Hp->Prop
abbrev TE:=St->Hp->VK->Prop
abbrev TT:=St->Hp->(Bool->Hp->Prop)->Prop
abbrev TA:=St->Hp->(List V->Hp->Prop)->Prop
structure sO where
 nx:St->Hp->Prop
 rt:VK
 bk:St->Hp->Prop:=λ_ _=>False
 ct:St->Hp->Prop:=λ_ _=>False
abbrev TS:=sO->St->Hp->Prop
def EP (X:Cx) (pins:List (Addr×Obj)) (σ:St) (Q:VK) (u:Value) (s':Shared):Prop:=∃ v H',Inv X pins σ H' s'/\RelV v u/\Q v H'
def TP (X:Cx) (pins:List (Addr×Obj)) (σ:St) (Q:Bool->Hp->Prop) (b:Bool) (s':Shared):Prop:=∃ H',Inv X pins σ H' s'/\Q b H'
def AP (X:Cx) (pins:List (Addr×Obj)) (σ:St) (Q:List V->Hp->Prop) (us:List Value) (s':Shared):Prop:=∃ vs H',Inv X pins σ H' s'/\Vals vs us/\Q vs H'
def SP (X:Cx) (pins:List (Addr×Obj)) (D:sO) (f:Flow) (s':Shared):Prop :=
 match f with
 | .next=>∃ z H',Inv X pins z H' s'/\D.nx z H'
 | .brk=>∃ z H',Inv X pins z H' s'/\D.bk z H'
 | .cont=>∃ z H',Inv X pins z H' s'/\D.ct z H'
 | .ret u=>∃ v z H',Inv X pins z H' s'/\RelV v u/\D.rt v H'
def PE (X:Cx) (e:Expr) (t:TE):Prop :=
 ∀ (pins:List (Addr×Obj)) (s:Shared) (σ:St) (H:Hp) (Q:VK),Inv X pins σ H s->t σ H Q->wpAny (model X.prog X.w) X.A (eval e X.env) (EP X pins σ Q) X.xe s
def PT (X:Cx) (e:Expr) (t:TT):Prop :=
 ∀ (pins:List (Addr×Obj)) (s:Shared) (σ:St) (H:Hp) (Q:Bool->Hp->Prop),Inv X pins σ H s->t σ H Q->wpAny (model X.prog X.w) X.A (isTrue e X.env (eval e X.env)) (TP X pins σ Q) X.xe s
def PW (X:Cx) (e:Expr) (t:TT):Prop :=
 ∀ (whole:Sem Value) (pins:List (Addr×Obj)) (s:Shared) (σ:St) (H:Hp) (Q:Bool->Hp->Prop),Inv X pins σ H s->t σ H Q->wpAny (model X.prog X.w) X.A (isTrue e X.env whole) (TP X pins σ Q) X.xe s
def PW.pt {X:Cx} {e:Expr} {t:TT} (h:PW X e t):PT X e t:=h _
def PA (X:Cx) (es:List Expr) (t:TA):Prop :=
 ∀ (pos:Pos) (pins:List (Addr×Obj)) (s:Shared) (σ:St) (H:Hp) (Q:List V->Hp->Prop),Inv X pins σ H s->t σ H Q->wpAny (model X.prog X.w) X.A (spliced (backTo pos (starEach es X.env))) (AP X pins σ Q) X.xe s
def PS (X:Cx) (st:Stmt) (t:TS):Prop :=
 ∀ (pins:List (Addr×Obj)) (s:Shared) (σ:St) (H:Hp) (D:sO),Inv X pins σ H s->t D σ H->wpAny (model X.prog X.w) X.A (exec st X.env) (SP X pins D) X.xe s
def PSs (X:Cx) (st:List Stmt) (t:TS):Prop :=
 ∀ (pins:List (Addr×Obj)) (s:Shared) (σ:St) (H:Hp) (D:sO),Inv X pins σ H s->t D σ H->wpAny (model X.prog X.w) X.A (execs st X.env) (SP X pins D) X.xe s
def thn {z:Type} {t:Sem z} {Q B:z->Shared->Prop} {M:Model} {A:Around} {E:Value->Shared->Prop} {s:Shared} (h:wpAny M A t Q E s) (D:∀ a s,Q a s->B a s):wpAny M A t B E s:=wpAny_mono h D λ_ _ x=>x
section
variable {X:Cx}
def aC2 (i:Nat):TE:=fun σ H Q=>∃ v,σ[i]?=some (some v)/\Q v H
def tC (v:V):TE:=λ_ H Q=>Q v H
def aC3 {i:Nat} {x:Str} {pos:Pos} (J:X.N[i]?=some x) (L:Vis X.env.scope x) (hd:(x == ("__debug__":Str))=false:=by decide) (B:(x == ("__classdict__":Str))=false:=by decide):PE X (.Name x pos) (aC2 i):=by
 intro pins s σ H Q I h;obtain⟨v,e,h⟩:=h;obtain⟨m,M,U⟩:=I.loc;obtain⟨u,r,l⟩:=U i x v J e L;have fin:EP X pins σ Q u s:=⟨v,H,I,r,h⟩;rcases l with ⟨hk,Y⟩ | ⟨hk,c,D,z⟩
 .exact wpAny_Name (wpAny_loadName_local I.ok.kind hk M Y fin) hd
 .rcases hk with hk | hk
  .exact wpAny_Name (wpAny_loadName_cell I.ok.kind hk D z fin) hd
  .exact wpAny_Name (wpAny_loadName_free I.ok.kind hk D z fin B) hd
def aK {i j pos}:PE X (.Constant (.int i) j pos) (tC (.int i)):=λ_ _ _ H _ I h=>wpAny_Constant_int ⟨.int i,H,I.tok _,⟨_,rfl⟩,h⟩
def rQ {b j pos}:PE X (.Constant (.bool b) j pos) (tC (.bl b)):=λ_ _ _ H _ I h=>Constant_bool ⟨.bl b,H,I,rfl,h⟩
def o5 {j pos}:PE X (.Constant .none j pos) (tC .non):=λ_ _ _ H _ I h=>Constant_none ⟨.non,H,I,rfl,h⟩
def bP {x j pos}:PE X (.Constant (.str x) j pos) (tC (.str x)):=λ_ _ _ H _ I h=>Calls.Constant_str ⟨.str x,H,I.tok _,⟨_,rfl⟩,h⟩
def Gl (X:Cx) (x:Str):Prop:=X.env.kindOf x=some .globalImplicit
def oQ {E:Value->Shared->Prop} {pins:List (Addr×Obj)} {s:Shared} {σ:St} {H:Hp} {x:Str} {u:Value} {pos:Pos} {Q:Value->Shared->Prop} (I:Inv X pins σ H s) (z:Gl X x) (B:X.mg x=some u) (h:Q u s)
 (hd:(x == ("__debug__":Str))=false:=by decide):wpAny (model X.prog X.w) X.A (eval (.Name x pos) X.env) Q E s :=
 Calls.Name_function_global I.ok.kind z (Calls.loadGlobal_global (by rw[I.ok.glob];exact I.mod.glob.keeps I.bk) B h) hd
def jU {E:Value->Shared->Prop} {pins:List (Addr×Obj)} {s:Shared} {σ:St} {H:Hp} {x:Str} {u:Value} {pos:Pos} {Q:Value->Shared->Prop} (I:Inv X pins σ H s) (z:Gl X x) (B:X.mg x=none) (D:bootBuiltins x=some u) (h:Q u s)
 (J:x≠"__name__":=by decide) (hd:(x == ("__debug__":Str))=false:=by decide):wpAny (model X.prog X.w) X.A (eval (.Name x pos) X.env) Q E s:=by
 obtain⟨L,h1,h2⟩:=I.mod.blt;exact Calls.Name_function_global I.ok.kind z (Calls.loadGlobal_builtin (by rw[I.ok.glob];exact I.mod.glob.keeps I.bk) B (by rw[I.ok.blt];exact h1.keeps I.bk) ((h2 x J).trans D) h) hd
def fP {x:Str} {v:V} {u:Value} {pos:Pos} (z:Gl X x) (B:X.mg x=some u) (r:RelV v u) (hd:(x == ("__debug__":Str))=false:=by decide):PE X (.Name x pos) (tC v) :=
 λ_ _ _ H _ I h=>oQ I z B ⟨v,H,I,r,h⟩ hd
def eF {x:Str} {v:V} {u:Value} {pos:Pos} (z:Gl X x) (B:X.mg x=none) (D:bootBuiltins x=some u) (r:RelV v u) (J:x≠"__name__":=by decide) (hd:(x == ("__debug__":Str))=false:=by decide):PE X (.Name x pos) (tC v) :=
 λ_ _ _ H _ I h=>jU I z B D ⟨v,H,I,r,h⟩ J hd
variable {a b:Expr} {ta tb:TE} {pos:Pos}
def PC (X:Cx) (op:CmpOp) (a b:Expr) (t:TE):Prop :=
 ∀ (pins:List (Addr×Obj)) (s:Shared) (σ:St) (H:Hp) (Q:VK),Inv X pins σ H s->t σ H Q ->
  wpAny (model X.prog X.w) X.A (eval a X.env) (λv z=>wpAny (model X.prog X.w) X.A (eval b X.env) (λu B=>wpAny (model X.prog X.w) X.A (compareOp op v u) (EP X pins σ Q) X.xe B) X.xe z) X.xe s
def tB (t:TE):TT:=fun σ H Q=>t σ H λx H1=>∃ c,x=.bl c/\Q c H1
def o6 {op:CmpOp} {t:TE} (h:PC X op a b t) (h1:behindInMarks op b=false:=by first | exact nobehind _ (by decide) (by decide) | rfl):PT X (.Compare a [op] [b] pos) (tB t):=by
 intro pins s σ H Q I hw;refine wpAny_isTrue_Compare1 (thn (h pins s σ H _ I hw) λv D h1=>thn h1 λu J h2=>thn h2 λc L ⟨x,H1,z,r1,B⟩=>?_) h1;obtain⟨d,rfl,q⟩:=B;cases r1;exact wpAny_truthy_bool ⟨H1,z,q⟩
variable {tA aj:TT} {rest:List Expr}
def aEC (t u:TT):TT:=fun σ H Q=>t σ H λc H1=>if c=true then u σ H1 Q else Q false H1
def tOr (t u:TT):TT:=fun σ H Q=>t σ H λc H1=>if c=true then Q true H1 else u σ H1 Q
def aED (t:TT):TT:=fun σ H Q=>t σ H λc H1=>Q (!c) H1
def aBU (z:PT X a tA):PW X (.BoolOp .And [a] pos) tA:=by
 intro B pins s σ H Q I h;refine isTrue_and (thn (z pins s σ H Q I h) λc D e=>?_);cases c with
 | true=>exact isTrue_and_nil e
 | false=>exact e
def tV (z:PT X a tA):PW X (.BoolOp .Or [a] pos) tA:=by
 intro B pins s σ H Q I h;refine isTrue_or (thn (z pins s σ H Q I h) λc D e=>?_);cases c with
 | false=>exact isTrue_or_nil e
 | true=>exact e
def aC4 (D:PT X a tA) (J:PW X (.BoolOp .And (b :: rest) pos) aj):PW X (.BoolOp .And (a :: b :: rest) pos) (aEC tA aj):=by
 intro L pins s σ H Q I h;refine isTrue_and (thn (D pins s σ H _ I h) λc M ⟨H1,z,B⟩=>?_);cases c with
 | true=>exact J L pins M σ H1 Q z B
 | false=>exact⟨H1,z,B⟩
def E4 (D:PT X a tA) (J:PW X (.BoolOp .Or (b :: rest) pos) aj):PW X (.BoolOp .Or (a :: b :: rest) pos) (tOr tA aj):=by
 intro L pins s σ H Q I h;refine isTrue_or (thn (D pins s σ H _ I h) λc M ⟨H1,z,B⟩=>?_);cases c with
 | true=>exact⟨H1,z,B⟩
 | false=>exact J L pins M σ H1 Q z B
def nX (z:PT X a tA):PT X (.UnaryOp .Not a pos) (aED tA):=by
 intro pins s σ H Q I h;exact isTrue_not (z pins s σ H (λc H1=>Q (!c) H1) I h)
def aDU (ta tb:TE):TE:=fun σ H Q=>ta σ H λx H1=>∃ c,x=.bl c/\if c=true then tb σ H1 Q else Q (.bl false) H1
def aDV (ta:TE):TE:=fun σ H Q=>ta σ H λx H1=>∃ c,x=.bl c/\Q (.bl (!c)) H1
def tW {op} {t:TE} (h:PE X a t):PE X (.BoolOp op [a] pos) t:=λpins s σ H Q I hw=>BoolOp_one (h pins s σ H Q I hw)
def qI (D:PE X a ta) (J:PE X (.BoolOp .And (b :: rest) pos) tb):PE X (.BoolOp .And (a :: b :: rest) pos) (aDU ta tb):=by
 intro pins s σ H Q I h;refine BoolOp_and (thn (D pins s σ H _ I h) λv L ⟨x,H1,B,r1,z⟩=>?_);obtain⟨c,rfl,z⟩:=z;cases r1;refine wpAny_truthy_bool ?_;cases c with
 | true=>exact J pins L σ H1 Q B z
 | false=>exact⟨.bl false,H1,B,rfl,z⟩
def aC5 (B:PE X a ta):PE X (.UnaryOp .Not a pos) (aDV ta):=by
 intro pins s σ H Q I h;refine UnaryOp_ (thn (B pins s σ H _ I h) λv J ⟨x,H1,D,r1,z⟩=>?_);obtain⟨c,rfl,z⟩:=z;cases r1;exact not_of (wpAny_truthy_bool ⟨.bl (!c),H1,D,rfl,z⟩)
def tIf (t:TT) (ta tb:TE):TE:=fun σ H Q=>t σ H λc H1=>if c=true then ta σ H1 Q else tb σ H1 Q
def oS {c:Expr} (J:PT X c tA) (L:PE X a ta) (M:PE X b tb):PE X (.IfExp c a b pos) (tIf tA ta tb):=by
 intro pins s σ H Q I h;refine wpAny_IfExp (thn (J pins s σ H _ I h) λd z ⟨H1,B,D⟩=>?_);cases d with
 | true=>exact L pins z σ H1 Q B D
 | false=>exact M pins z σ H1 Q B D
end
def SqL (K:PySem.W.Frag) (H:Hp) (a:Addr) (xs:List V):Prop :=
 Rd H a (.lst xs) \/
  ∃ (o:Obj) (its:Array Value) (n:Nat),K.lookup a=some o/\o.cls=.type "list"/\o.dict=none/\o.data=.seq its n/\its.size<=sizeLine/\Vals xs its.toList
def SqT (K:PySem.W.Frag) (H:Hp) (a:Addr) (xs:List V):Prop :=
 Rd H a (.tup xs) \/
  ∃ (o:Obj) (its:Array Value) (n:Nat),K.lookup a=some o/\o.cls=.type "tuple"/\o.data=.seq its n/\its.size<=sizeLine/\Vals xs its.toList
def aEE:Value->Option V
 | .none=>some .non
 | .bool b=>some (.bl b)
 | .int i _=>some (.int i)
 | .str x _=>some (.str x)
 | .bytes b _=>some (.byt b)
 | .float b _=>some (.flt b)
 | .ref a=>some (.ref a)
 | .type n=>some (.ty n)
 | _=>none
def RelV.abs {x:V} {u:Value} (r:RelV x u):aEE u=some x:=by
 cases x with
 | non=>cases r;rfl
 | bl _=>cases r;rfl
 | int _=>obtain⟨t,rfl⟩:=r;rfl
 | str _=>obtain⟨t,rfl⟩:=r;rfl
 | byt _=>obtain⟨t,rfl⟩:=r;rfl
 | flt _=>obtain⟨t,rfl⟩:=r;rfl
 | ref _=>cases r;rfl
 | ty _=>cases r;rfl
def RelV.inj {x y:V} {u:Value} (r:RelV x u) (q:RelV y u):x=y:=Option.some.inj (r.abs.symm.trans q.abs)
def Vals.inj:∀ {xs ys:List V} {us:List Value},Vals xs us->Vals ys us->xs=ys
 | _,_,_,.nil,.nil=>rfl
 | _,_,_,.cons r t,.cons z t'=>by rw[r.inj z,Vals.inj t t']
section
variable {X:Cx} {pins:List (Addr×Obj)} {σ:St} {H:Hp} {s:Shared} {a:Addr} {xs ys:List V}
def SqL.of {K:PySem.W.Frag} (h:H a=some (.lst xs)):SqL K H a xs:=.inl (.inl h)
def SqT.of {K:PySem.W.Frag} (h:H a=some (.tup xs)):SqT K H a xs:=.inl (.inl h)
def Inv.list (I:Inv X pins σ H s) (h:SqL X.K H a xs):∃ its:List Value,Vals xs its/\PlainL s.heap a its.toArray/\xs.length<=sizeLine:=by
 rcases h with h | ⟨o,its,n,B,D,hd,hs,J,r⟩
 .obtain⟨z,its,n,r,e⟩:=h.ok I.hok;exact⟨its,r,⟨_,n,e,rfl,rfl,rfl⟩,z⟩
 .refine⟨its.toList,r,⟨o,n,I.kIn a o B,D,hd,by simpa using hs⟩,?_⟩;have e:=r.length;simp only[Array.length_toList]at e;omega
def Inv.tuple (I:Inv X pins σ H s) (h:SqT X.K H a xs):∃ its:List Value,Vals xs its/\IsTup s.heap a its.toArray/\xs.length<=sizeLine:=by
 rcases h with h | ⟨o,its,n,B,D,hs,J,r⟩
 .obtain⟨z,its,r,p⟩:=h.ok I.hok;exact⟨its,r,p,z⟩
 .refine⟨its.toList,r,⟨o,I.kIn a o B,D,n,by simpa using hs⟩,?_⟩;have e:=r.length;simp only[Array.length_toList]at e;omega
def Inv.list_inj (I:Inv X pins σ H s) (h:SqL X.K H a xs) (h':SqL X.K H a ys):xs=ys:=by
 obtain⟨its,r,⟨o,n,e,_,_,d⟩,_⟩:=I.list h;obtain⟨its',B,⟨o',J,z,_,_,d'⟩,_⟩:=I.list h';rw[e]at z;cases z;rw[d]at d'
 injection d' with D _
 have:its=its':=by simpa using congrArg Array.toList D
 subst this;exact r.inj B
def Inv.tuple_inj (I:Inv X pins σ H s) (h:SqT X.K H a xs) (h':SqT X.K H a ys):xs=ys:=by
 obtain⟨its,r,⟨o,e,_,n,d⟩,_⟩:=I.tuple h;obtain⟨its',B,⟨o',z,_,J,d'⟩,_⟩:=I.tuple h';rw[e]at z;cases z;rw[d]at d'
 injection d' with D _
 have:its=its':=by simpa using congrArg Array.toList D
 subst this;exact r.inj B
end
abbrev Cx.wish (X:Cx) (E:Value->Shared->Prop):Cx:={ X with xe:=E }
abbrev Cx.nox (X:Cx):Cx:=X.wish λ_ _=>False
def Cx.Ok.wish {X:Cx} (ok:X.Ok) (E:Value->Shared->Prop):(X.wish E).Ok :=
 ⟨ok.mod,ok.kind,ok.glob,ok.blt,ok.above,ok.inj,ok.has,ok.cab,ok.hd,ok.frames,ok.stk,ok.exf,ok.bs,ok.bsz,ok.noex,ok.exfs,ok.funs,ok.frf⟩
def Cx.Ok.unwish {X:Cx} {E:Value->Shared->Prop} (ok:(X.wish E).Ok):X.Ok :=
 ⟨ok.mod,ok.kind,ok.glob,ok.blt,ok.above,ok.inj,ok.has,ok.cab,ok.hd,ok.frames,ok.stk,ok.exf,ok.bs,ok.bsz,ok.noex,ok.exfs,ok.funs,ok.frf⟩
section
variable {X:Cx} {pins:List (Addr×Obj)} {σ:St} {H:Hp} {s:Shared} {E:Value->Shared->Prop}
def Inv.wish (I:Inv X pins σ H s) (E:Value->Shared->Prop):Inv (X.wish E) pins σ H s:=⟨I.ok.wish E,I.os,I.bare,I.base,I.loc,I.cell,I.free,I.freeC,I.pin,I.hok,I.len⟩
def Inv.unwish (I:Inv (X.wish E) pins σ H s):Inv X pins σ H s:=⟨I.ok.unwish,I.os,I.bare,I.base,I.loc,I.cell,I.free,I.freeC,I.pin,I.hok,I.len⟩
def SP.unwish {D:sO} {f:Flow} {s':Shared} (h:SP (X.wish E) pins D f s'):SP X pins D f s':=by
 cases f with
 | next=>obtain⟨z,H',I,q⟩:=h;exact⟨z,H',I.unwish,q⟩
 | brk=>obtain⟨z,H',I,q⟩:=h;exact⟨z,H',I.unwish,q⟩
 | cont=>obtain⟨z,H',I,q⟩:=h;exact⟨z,H',I.unwish,q⟩
 | ret u=>obtain⟨v,z,H',I,r,q⟩:=h;exact⟨v,z,H',I.unwish,r,q⟩
def PSs.nox {st:List Stmt} {t:TS} (h:PSs X.nox st t):PSs X st t:=λpins s σ H D I hw =>
 wpAny_mono (h pins s σ H D (I.wish _) hw) (λ_ _ q=>q.unwish) λ_ _ z=>False.elim z
end
section
variable {X:Cx} {st:Stmt} {rest:List Stmt} {t u:TS} {e:Expr} {te:TE} {pos:Pos}
def aDW:TS:=λD σ H=>D.nx σ H
def aEF (t u:TS):TS:=λD σ H=>t { D with nx:=u D } σ H
def bG:PSs X [] aDW:=λ_ _ σ H _ I h=>wpAny_execs_nil ⟨σ,H,I,h⟩
def aG (h1:PS X st t) (h2:PSs X rest u):PSs X (st :: rest) (aEF t u):=by
 intro pins s σ H D I h;refine wpAny_execs_cons (thn (h1 pins s σ H { D with nx:=u D } I h) λf B q=>?_);cases f with
 | next =>
  obtain⟨z,H',J,q⟩:=q;exact h2 pins B z H' D J q
 | ret v=>exact q
 | brk=>exact q
 | cont=>exact q
def aJ (h1:PS X st t):PSs X [st] t:=by
 intro pins s σ H D I h;refine wpAny_execs_cons (thn (h1 pins s σ H D I h) λf z q=>?_);cases f with
 | next=>exact wpAny_execs_nil q
 | ret v=>exact q
 | brk=>exact q
 | cont=>exact q
def Inv.quiet {pins:List (Addr×Obj)} {σ:St} {H:Hp} {s:Shared} (I:Inv X pins σ H s):interactive X.env=false:=by simp[interactive,I.ok.kind]
def aCR (te:TE):TS:=λD σ H=>te σ H λ_ H1=>D.nx σ H1
def aS (he:PE X e te) (hs:swapsWith e none pos.line X.env=pure false:=by rfl):PS X (.Expr e pos) (aCR te):=by
 intro pins s σ H D I h;exact wpAny_Expr_any (thn (he pins s σ H _ I h) λv J ⟨x,H1,z,r1,B⟩=>⟨σ,H1,z,B⟩) I.quiet hs
def aEG (te:TE):TS:=λD σ H=>te σ H D.rt
def aY (he:PE X e te):PS X (.Return (some e) pos) (aEG te):=by
 intro pins s σ H D I h;exact wpAny_Return_some (thn (he pins s σ H _ I h) λv J ⟨x,H1,z,r1,B⟩=>⟨x,σ,H1,z,r1,B⟩)
def aEH (c:TT) (t u:TS):TS:=λD σ H=>c σ H λb H1=>if b=true then t D σ H1 else u D σ H1
def cB {c:Expr} {a b:List Stmt} {tc:TT} (L:PT X c tc) (M:PSs X a t) (U:PSs X b u):PS X (.If c a b pos) (aEH tc t u):=by
 intro pins s σ H D I h;refine wpAny_If (thn (L pins s σ H _ I h) λd z ⟨H1,B,J⟩=>?_);cases d with
 | true=>exact M pins z σ H1 D B J
 | false=>exact U pins z σ H1 D B J
def aC6:TS:=λ_ _ _=>False
def cE:PS X st aC6:=λ_ _ _ _ _ _ h=>h.elim
end
abbrev TG:=V->St->Hp->(St->Hp->Prop)->Prop
abbrev TGs:=List V->St->Hp->(St->Hp->Prop)->Prop
def PG (X:Cx) (target:Expr) (t:TG):Prop :=
 ∀ (pins:List (Addr×Obj)) (s:Shared) (σ:St) (H:Hp) (v:V) (u:Value) (Q:St->Hp->Prop),Inv X pins σ H s->RelV v u->t v σ H Q ->
  wpAny (model X.prog X.w) X.A (assign target X.env u) (λ_ s'=>∃ z H',Inv X pins z H' s'/\Q z H') X.xe s
def PGs (X:Cx) (ts:List Expr) (t:TGs):Prop :=
 ∀ (pins:List (Addr×Obj)) (s:Shared) (σ:St) (H:Hp) (vs:List V) (us:List Value) (Q:St->Hp->Prop),Inv X pins σ H s->Vals vs us->t vs σ H Q ->
  wpAny (model X.prog X.w) X.A (assignInOrder ((assignEach ts X.env).map (·.2)) us) (λ_ s'=>∃ z H',Inv X pins z H' s'/\Q z H') X.xe s
abbrev TIp:=V->V->Hp->VK->Prop
def PIp (X:Cx) (op:Operator) (t:TIp):Prop :=
 ∀ (pins:List (Addr×Obj)) (s:Shared) (σ:St) (H:Hp) (x y:V) (v u:Value) (Q:VK),Inv X pins σ H s->RelV x v->RelV y u->t x y H Q ->
  wpAny (model X.prog X.w) X.A (inplaceOp op v u) (EP X pins σ Q) X.xe s
section
variable {X:Cx} {pos:Pos}
def xG (i:Nat):TG:=λv σ H Q=>Q (σ.set i (some v)) H
def aL {i:Nat} {x:Str} (z:X.N.Nodup) (hi:X.N[i]?=some x) (B:Loc X.env.scope x) (D:X.fn x=true\/X.env.scope.names.lookup x=some .local:=by first | exact .inl rfl | exact .inr rfl | assumption):PG X (.Name x pos) (xG i):=by
 intro pins s σ H v u Q I r h;exact wpAny_assign_Name (tU I z hi B r (λs' J=>⟨_,H,J,h⟩) D)
def aDX:TGs:=λvs σ H Q=>vs=[]/\Q σ H
def o7 (t:TG) (u:TGs):TGs:=λvs σ H Q=>∃ v r,vs=v :: r/\t v σ H λz H'=>u r z H' Q
def bV:PGs X [] aDX:=by
 intro pins s σ H vs us Q I r h;obtain⟨e,h⟩:=h;subst e;cases r;exact assignInOrder_nil ⟨σ,H,I,h⟩
def aP {e:Expr} {es:List Expr} {t:TG} {u:TGs} (h1:PG X e t) (h2:PGs X es u)
 (hs:(assignEach (e :: es) X.env).map (·.2)=assign e X.env :: (assignEach es X.env).map (·.2):=by rfl):PGs X (e :: es) (o7 t u):=by
 intro pins s σ H vs us Q I r h;obtain⟨v,M,e1,h⟩:=h;subst e1;cases r with
 | cons r B =>
  rw[hs];refine assignInOrder_cons (thn (h1 pins s σ H _ _ _ I r h) λ_ D ⟨z,H1,J,L⟩=>?_);exact h2 pins D z H1 _ _ Q J B L
def aBV (K:PySem.W.Frag) (n:Nat) (t:TGs):TG:=λv σ H Q=>∃ a xs,v=.ref a/\SqT K H a xs/\xs.length=n/\t xs σ H Q
def fJ {es:List Expr} {k:Nat} {t:TGs} {n:Nat} (B:X.calm=true) (h:PGs X es t)
 (D:(assignEach es X.env).length=n:=by rfl) (hst:(assignEach es X.env).findIdx? (·.1)=none:=by rfl):PG X (.Tuple es k pos) (aBV X.K n t):=by
 intro pins s σ H v u Q I r hw;obtain⟨a,xs,e1,J,L,hw⟩:=hw;subst e1;cases r;obtain⟨its,z,ht,Y⟩:=I.tuple J;refine assign_Tuple_tuple (I.ok.hd B) ht (by simp[D,<- L,z.length]) hst λh' M=>?_;have U:Inv X pins σ H { s with heap:=h' }:=I.kept (t':=s.toks) λb o e=>M b o (aEw (aEf e)) e;exact h pins _ σ H xs _ Q U (by simpa using z) hw
def aC7 (te:TE) (g:TG):TS:=λD σ H=>te σ H λx H1=>g x σ H1 D.nx
def kY {tg e:Expr} {te:TE} {g:TG} (he:PE X e te) (z:PG X tg g) (hs:swapsWithSole [tg] e pos.line X.env=pure false:=by rfl) (hw:swappedStores [tg] e X.env=pure none:=by rfl)
 (h1:(assignEach [tg] X.env).map (·.2)=[assign tg X.env]:=by rfl):PS X (.Assign [tg] e pos) (aC7 te g):=by
 intro pins s σ H D I h;refine wpAny_Assign_stores (thn (he pins s σ H _ I h) λv B ⟨x,H1,J,r1,L⟩=>?_) hs hw;rw[h1];exact thn (z pins B σ H1 x v _ J r1 L) λ_ M q=>q
def aW {i:Nat} {x:Str} {e:Expr} {te:TE} {pos':Pos} (z:X.N.Nodup) (hi:X.N[i]?=some x) (B:Loc X.env.scope x) (he:PE X e te) (hs:swapsWith e (some (.Name x pos')) pos.line X.env=pure false:=by rfl) (J:X.fn x=true\/X.env.scope.names.lookup x=some .local:=by first | exact .inl rfl | exact .inr rfl | assumption) :
 PS X (.Assign [.Name x pos'] e pos) (aC7 te (xG i)):=by
 intro pins s σ H D I h;refine wpAny_Assign_Name (thn (he pins s σ H _ I h) λv Y ⟨y,H1,L,r1,M⟩=>?_) hs;exact tU L z hi B r1 (λs2 U=>⟨_,H1,U,M⟩) J
def aEI (i:Nat) (te:TE) (B:TIp):TS:=λD σ H=>∃ x,σ[i]?=some (some x)/\te σ H λy H1=>B x y H1 λz H2=>D.nx (σ.set i (some z)) H2
def tX {i:Nat} {x:Str} {e:Expr} {te:TE} {op:Operator} {Y:TIp} {pos':Pos} (hN:X.N.Nodup) (hi:X.N[i]?=some x) (M:Loc X.env.scope x) (he:PE X e te) (ho:PIp X op Y) (hf:X.fn x=true\/X.env.scope.names.lookup x=some .local:=by first | exact .inl rfl | exact .inr rfl | assumption) :
 PS X (.AugAssign (.Name x pos') op e pos) (aEI i te Y):=by
 intro pins s σ H D I h;obtain⟨v,e1,h⟩:=h;obtain⟨m,hn,hl⟩:=I.loc;have U:Vis X.env.scope x:=by rcases M with k | k;exact .inl k;exact .inr (.inl k)
 obtain⟨u,r,l⟩:=hl i x v hi e1 U;refine wpAny_AugAssign_Name ?_;have go:wpAny (model X.prog X.w) X.A (eval e X.env) (λw J=>wpAny (model X.prog X.w) X.A (inplaceOp op u w) (λr L=>wpAny (model X.prog X.w) X.A (storeName X.env x r) (λ_=>SP X pins D .next) X.xe L) X.xe J) X.xe s:=by
  refine thn (he pins s σ H _ I h) λw s1 ⟨y,H1,I1,r1,q1⟩=>?_;refine thn (ho pins s1 σ H1 v y u w _ I1 r r1 q1) λz s2 ⟨zv,H2,I2,r2,q2⟩=>?_;exact tU I2 hN hi M r2 (λs3 I3=>⟨_,H2,I3,q2⟩) hf
 rcases l with ⟨hk,hm⟩ | ⟨hk,c,hc,B⟩
 .exact wpAny_loadName_local I.ok.kind hk hn hm go
 .rcases hk with hk | hk
  .exact wpAny_loadName_cell I.ok.kind hk hc B go
  .rcases M with k | k
   .have:X.env.scope.names.lookup x=some .free:=hk;rw[k]at this;cases this
   .have:X.env.scope.names.lookup x=some .free:=hk;rw[k]at this;cases this
def ipI (f:Int->Int->Int):TIp:=λx y H Q=>∃ i j,x=.int i/\y=.int j/\Q (.int (f i j)) H
def N7:PIp X .Add (ipI λi j=>i+j):=by
 intro pins s σ H x y v u Q I r1 r2 h;obtain⟨i,j,e1,e2,q⟩:=h;subst e1;subst e2;obtain⟨t,rfl⟩:=r1;obtain⟨t',rfl⟩:=r2;exact iadd_int ⟨.int _,H,I.tok _,⟨_,rfl⟩,q⟩
def o8:PIp X .Sub (ipI λi j=>i - j):=by
 intro pins s σ H x y v u Q I r1 r2 h;obtain⟨i,j,e1,e2,q⟩:=h;subst e1;subst e2;obtain⟨t,rfl⟩:=r1;obtain⟨t',rfl⟩:=r2;exact isub_int ⟨.int _,H,I.tok _,⟨_,rfl⟩,q⟩
def o9 (c:TT) (tb:TS):TS:=λD σ H=>∃ W:Nat->St->Hp->Prop,(∃ m,W m σ H)/\∀ m σ H,W m σ H ->
 c σ H λb H1=>if b=true then ∃ N:St->Hp->Prop,(∀ z H',N z H'->∃ B,B<m/\W B z H')/\tb { D with nx:=N,ct:=N,bk:=D.nx } σ H1 else D.nx σ H1
def tY {c:Expr} {body:List Stmt} {tc:TT} {tb:TS} (hp:PassesOwn (model X.prog X.w) X.A X.env X.xe) (hc:PT X c tc) (hb:PSs X body tb):PS X (.While c body [] pos) (o9 tc tb):=by
 intro pins s σ H D I h;obtain⟨W,⟨m0,w0⟩,turn⟩:=h;refine wpAny_While (codeAny_whileLoop (λn s'=>∃ J H',Inv X pins J H' s'/\W n J H') ?_ m0 ⟨σ,H,I,w0⟩);rintro n s1 ⟨B,H1,I1,w1⟩;refine wpAny_passesOwn hp (thn (hc pins s1 B H1 _ I1 (turn n B H1 w1)) λb s2 ⟨H2,I2,M⟩=>?_);cases b with
 | true =>
  obtain⟨N,hN,M⟩:=M;rw[if_pos rfl];refine wpAny_passesOwn hp (thn (hb pins s2 B H2 _ I2 M) λf s3 U=>?_);cases f with
  | next =>
   obtain⟨z,L,Y,n3⟩:=U;obtain⟨m',hm,w3⟩:=hN z L n3;exact⟨m',hm,z,L,Y,w3⟩
  | cont =>
   obtain⟨z,L,Y,n3⟩:=U;obtain⟨m',hm,w3⟩:=hN z L n3;exact⟨m',hm,z,L,Y,w3⟩
  | brk=>exact U
  | ret v=>exact U
 | false =>
  rw[if_neg aEm];exact wpAny_execs_nil ⟨B,H2,I2,M⟩
end
structure It where
 go:Nat->Hp->Prop
 yld:Nat->Hp->V->Hp->Prop
 stop:Nat->Hp->Prop
def iE (X:Cx) (pins:List (Addr×Obj)) (H:Hp) (b:Addr):Prop :=
 H b=none/\b≠X.env.locals/\b∉X.fs/\(b∈X.ex\/X.s₀.heap.objs.size<=b)/\(∀ x c,X.env.cells.lookup x=some c->c≠b)/\∀ p∈X.pn++pins,p.1≠b
def Inv.fpOk {X:Cx} {pins:List (Addr×Obj)} {σ:St} {H H':Hp} {s:Shared} {b:Addr} (I:Inv X pins σ H s) (B:s.heap.objs.size<=b) (D:H' b=none):iE X pins H' b:=by
 refine⟨D,aEz (aEq I.lt B),I.nofs B,.inr (Nat.le_trans I.sz B),λx c e z=>?_,λp J z=>?_⟩
 .obtain⟨v,q⟩:=I.cell x c e;exact absurd (aEq q.lt (by rw[z];exact B)) (Nat.lt_irrefl _)
 .exact absurd (aEq (aEf (I.pin p J).1) (by rw[z];exact B)) (Nat.lt_irrefl _)
structure qJ (P:Program) (w:World) (K:PySem.W.Frag) (tg:Expr) (J:It) (fp:List Addr) (it:Addr) (tn:Nat->Heap->Prop):Prop where
 mem:it∈fp
 obj:∀ i h,tn i h->∀ b∈fp,∃ o,h.get? b=some o/\∀ v,o.data≠.cell v
 keep:∀ i h h',tn i h->(∀ b∈fp,∀ o,h.get? b=some o->h'.get? b=some o)->tn i h'
 item:∀ (X:Cx),X.prog=P->X.w=w->X.K=K->X.calm=true->∀ (i:Nat) (pins:List (Addr×Obj)) (s:Shared) (σ:St) (H:Hp) (E:Value->Shared->Prop),Inv X pins σ H s->(∀ b∈fp,iE X pins H b)->tn i s.heap->J.go i H ->
  wpAny (model P w) X.A (pyNext (.ref it)) (λr s1=>∃ u,r=some u /\
   wpAny (model P w) X.A (letOwnedTupleGo tg (.ref it) u) (λ_ s2=>∃ x H',Inv X pins σ H' s2/\RelV x u/\J.yld i H x H'/\tn (i+1) s2.heap/\∀ b∈fp,H' b=none) E s1) E s
 done:∀ (X:Cx),X.prog=P->X.w=w->X.K=K->X.calm=true->∀ (i:Nat) (pins:List (Addr×Obj)) (s:Shared) (σ:St) (H:Hp) (E:Value->Shared->Prop),Inv X pins σ H s->(∀ b∈fp,iE X pins H b)->tn i s.heap->J.stop i H ->
  wpAny (model P w) X.A (pyNext (.ref it)) (λr s1=>r=none/\Inv X pins σ H s1) E s
 self:∀ (A:Around) (i:Nat) (s:Shared) (Q:Value->Shared->Prop) (E:Value->Shared->Prop),tn i s.heap->Q (.ref it) s->wpAny (model P w) A (pyIter (.ref it)) Q E s
abbrev TI:=St->Hp->(It->Hp->Prop)->Prop
def PIE (X:Cx) (pins:List (Addr×Obj)) (σ:St) (tg:Expr) (R:It->Hp->Prop) (z:Value) (B:Shared):Prop :=
 ∃ (it:Addr) (fp:List Addr) (D:Nat->Heap->Prop) (J:It) (H':Hp),z=.ref it/\Inv X pins σ H' B/\qJ X.prog X.w X.K tg J fp it D/\D 0 B.heap/\(∀ b∈fp,iE X pins H' b)/\R J H'
def PI (X:Cx) (tg iter:Expr) (wi:TI):Prop :=
 ∀ (pins:List (Addr×Obj)) (s:Shared) (σ:St) (H:Hp) (R:It->Hp->Prop),Inv X pins σ H s->wi σ H R ->
  wpAny (model X.prog X.w) X.A (eval iter X.env) (λv z=>wpAny (model X.prog X.w) X.A (pyIter v) (PIE X pins σ tg R) X.xe z) X.xe s
def xH {M:Model} {A:Around} {E:Value->Shared->Prop} {s:Shared} {tg:Expr} {it:Addr} {u:Value} {o:Obj} {n:String} {vs:Array Value} {Q:Unit->Shared->Prop} (B:s.heap.get? it=some o) (D:o.cls=.type n) (hd:o.data=.fields vs)
 (I:["enumerate","zip","dict_itemiterator","dict_reverseitemiterator","odict_iterator","itertools.zip_longest","itertools.pairwise"].contains n=false) (z:Q () s):wpAny M A (letOwnedTupleGo tg (.ref it) u) Q E s:=by
 unfold letOwnedTupleGo;cases tg <;> first
  | exact aE8 z
  | (cases u <;> first
   | exact aE8 z
   | (refine aE7 (wpAny_load B ?_)
      rw[D,hd];show wpAny M A (if (["enumerate","zip","dict_itemiterator","dict_reverseitemiterator","odict_iterator","itertools.zip_longest","itertools.pairwise"].contains n && vs[0]? == some (rawInt _))=true then _ else _) Q E s;rw[if_neg (by intro h;rw[I,Bool.false_and]at h;cases h)];exact aE8 z))
def Itl (K:PySem.W.Frag) (a:Addr):It :=
 ⟨λi H=>∃ xs x,SqL K H a xs/\xs[i]?=some x,λi H x H'=>H'=H/\∀ xs,SqL K H a xs->xs[i]?=some x,λi H=>∃ xs,SqL K H a xs/\xs.length<=i⟩
def Itt (K:PySem.W.Frag) (a:Addr):It :=
 ⟨λi H=>∃ xs x,SqT K H a xs/\xs[i]?=some x,λi H x H'=>H'=H/\∀ xs,SqT K H a xs->xs[i]?=some x,λi H=>∃ xs,SqT K H a xs/\xs.length<=i⟩
def Itr (lo:Int) (n:Nat):It:=⟨λi _=>i<n,λi H x H'=>H'=H/\x=.int (lo+i),λi _=>n<=i⟩
def Y6 {P:Program} {w:World} {K:PySem.W.Frag} {tg:Expr} (a it:Addr):qJ P w K tg (Itl K a) [it] it (λi h=>h.IsListIter it a i) where
 mem:=by simp
 obj:=λi h st b hb=>by
  have e:b=it:=by simpa using hb
  subst e;obtain⟨o,e,c,d⟩:=st;exact⟨o,e,λv z=>by rw[d]at z;cases z⟩
 keep:=λi h h' st k=>st.at λo e=>k it (by simp) o e
 item:=by
  intro X hP hw hK hc i pins s σ H E I hf st hg;subst hP hw hK;obtain⟨xs,x,hq,hx⟩:=hg;obtain⟨its,rv,p,hz⟩:=I.list hq;obtain⟨u,hu,ru⟩:=rv.get hx;obtain⟨f0,f1,f2,f3,f4,f5⟩:=hf it (by simp);refine wpAny_pyNext_list_item st p.isList (x:=u) (by simpa using hu) λh' st' sb=>?_;have I1:Inv X pins σ H { s with heap:=h' }:=I.turned (t':=s.toks) (λb o hb e=>(sb.2 b hb).trans e) f0 f1 f3 f4 f5;obtain⟨o,e,c,d⟩:=id st';exact⟨u,rfl,xH (s:={ s with heap:=h' }) e c d (by decide) ⟨x,H,I1,ru,⟨rfl,λys hy=>by rw[I.list_inj hy hq];exact hx⟩,st',λb hb=>(hf b hb).1⟩⟩
 done:=by
  intro X hP hw hK hc i pins s σ H E I hf st hg;subst hP hw hK;obtain⟨xs,hq,hx⟩:=hg;obtain⟨its,rv,p,hz⟩:=I.list hq;obtain⟨f0,f1,f2,f3,f4,f5⟩:=hf it (by simp);have hl:=rv.length;exact wpAny_pyNext_list_end (I.ok.hd hc) st p.isList (by simp;omega) λh' eb=>⟨rfl,I.turned (t':=s.toks) (λb o hb e=>eb b o hb e) f0 f1 f3 f4 f5⟩
 self:=λ_ _ _ _ _ st h=>wpAny_pyIter_listiter st h
def N8 {P:Program} {w:World} {K:PySem.W.Frag} {tg:Expr} (a it:Addr):qJ P w K tg (Itt K a) [it] it (λi h=>h.IsTupleIter it a i) where
 mem:=by simp
 obj:=λi h st b hb=>by
  have e:b=it:=by simpa using hb
  subst e;obtain⟨o,e,c,d⟩:=st;exact⟨o,e,λv z=>by rw[d]at z;cases z⟩
 keep:=λi h h' st k=>st.at λo e=>k it (by simp) o e
 item:=by
  intro X hP hw hK hc i pins s σ H E I hf st hg;subst hP hw hK;obtain⟨xs,x,hq,hx⟩:=hg;obtain⟨its,rv,p,hz⟩:=I.tuple hq;obtain⟨u,hu,ru⟩:=rv.get hx;obtain⟨f0,f1,f2,f3,f4,f5⟩:=hf it (by simp);refine wpAny_pyNext_tuple_item st (show s.heap.IsTuple a its.toArray from p) (x:=u) (by simpa using hu) λh' st' sb=>?_;have I1:Inv X pins σ H { s with heap:=h' }:=I.turned (t':=s.toks) (λb o hb e=>(sb.2 b hb).trans e) f0 f1 f3 f4 f5;obtain⟨o,e,c,d⟩:=id st';exact⟨u,rfl,xH (s:={ s with heap:=h' }) e c d (by decide) ⟨x,H,I1,ru,⟨rfl,λys hy=>by rw[I.tuple_inj hy hq];exact hx⟩,st',λb hb=>(hf b hb).1⟩⟩
 done:=by
  intro X hP hw hK hc i pins s σ H E I hf st hg;subst hP hw hK;obtain⟨xs,hq,hx⟩:=hg;obtain⟨its,rv,p,hz⟩:=I.tuple hq;obtain⟨f0,f1,f2,f3,f4,f5⟩:=hf it (by simp);have hl:=rv.length;exact wpAny_pyNext_tuple_end (I.ok.hd hc) st (show s.heap.IsTuple a its.toArray from p) (by simp;omega) λh' eb=>⟨rfl,I.turned (t':=s.toks) (λb o hb e=>eb b o hb e) f0 f1 f3 f4 f5⟩
 self:=λ_ _ _ _ _ st h=>wpAny_pyIter_tupleiter st h
def N9 {P:Program} {w:World} {K:PySem.W.Frag} {tg:Expr} (it:Addr) (lo:Int) (n:Nat):qJ P w K tg (Itr lo n) [it] it (λi h=>IsRangeIter h it (lo+(i:Nat) * 1) ((n:Int) - (i:Nat)) 1) where
 mem:=by simp
 obj:=λi h st b hb=>by
  have e:b=it:=by simpa using hb
  subst e;exact⟨_,st,λv z=>by
   have z':Data.fields _=Data.cell v:=z;cases z'⟩
 keep:=λi h h' st k=>k it (by simp) _ st
 item:=by
  intro X hP hw hK hc i pins s σ H E I hf st hg;subst hP hw hK;obtain⟨f0,f1,f2,f3,f4,f5⟩:=hf it (by simp);have W:=Walks.range (prog:=X.prog) (w:=X.w) (I.ok.hd hc) it lo 1 n;refine W.item i s _ _ hg st λv h' tk hv st' kk=>?_;obtain⟨t,rfl⟩:=hv;have I1:Inv X pins σ H { s with heap:=h',toks:=tk }:=I.turned (λb o hb e=>kk b o (by simpa using hb) e) f0 f1 f3 f4 f5;refine⟨_,rfl,xH (s:={ s with heap:=h',toks:=tk }) (n:="range_iterator") st' rfl rfl (by decide) ⟨.int (lo+i),H,I1,⟨t,?_⟩,⟨rfl,rfl⟩,st',λb hb=>(hf b hb).1⟩⟩;rw[Int.mul_one]
 done:=by
  intro X hP hw hK hc i pins s σ H E I hf st hg;subst hP hw hK;obtain⟨f0,f1,f2,f3,f4,f5⟩:=hf it (by simp);exact wpAny_pyNext_range_end (I.ok.hd hc) st (by have:n<=i:=hg;omega) λh' eb=>⟨rfl,I.turned (t':=s.toks) (λb o hb e=>eb b o hb e) f0 f1 f3 f4 f5⟩
 self:=λ_ _ _ _ _ st h=>wpAny_pyIter_rangeiter st h
section
variable {X:Cx} {tg:Expr}
def p0 (K:PySem.W.Frag) (tl:TE):TI:=fun σ H R=>tl σ H λx H1=>∃ a,x=.ref a/\(∃ xs,SqL K H1 a xs)/\R (Itl K a) H1
def aDY (K:PySem.W.Frag) (tl:TE):TI:=fun σ H R=>tl σ H λx H1=>∃ a,x=.ref a/\(∃ xs,SqT K H1 a xs)/\R (Itt K a) H1
def cI {l:Expr} {tl:TE} (D:PE X l tl):PI X tg l (p0 X.K tl):=by
 intro pins s σ H R I h;refine thn (D pins s σ H _ I h) λv z ⟨x,H1,B,r1,J⟩=>?_;obtain⟨a,e,⟨xs,L⟩,q⟩:=J;subst e;cases r1;obtain⟨its,U,p,Y⟩:=B.list L;refine wpAny_pyIter_list p.isList ?_;refine⟨z.heap.objs.size,[z.heap.objs.size],_,_,H1,rfl,B.kept (t':=z.toks) λb o e=>aEa _ e,Y6 a _,⟨_,aEg _ rfl,rfl,rfl⟩,λb M=>?_,q⟩;have e:b=z.heap.objs.size:=by simpa using M
 subst e;exact B.fpOk (Nat.le_refl _) (B.hok.fresh (Nat.le_refl _))
def O0 {l:Expr} {tl:TE} (D:PE X l tl):PI X tg l (aDY X.K tl):=by
 intro pins s σ H R I h;refine thn (D pins s σ H _ I h) λv z ⟨x,H1,B,r1,J⟩=>?_;obtain⟨a,e,⟨xs,L⟩,q⟩:=J;subst e;cases r1;obtain⟨its,U,p,Y⟩:=B.tuple L;refine wpAny_pyIter_tuple (show z.heap.IsTuple a its.toArray from p) ?_;refine⟨z.heap.objs.size,[z.heap.objs.size],_,_,H1,rfl,B.kept (t':=z.toks) λb o e=>aEa _ e,N8 a _,⟨_,aEg _ rfl,rfl,rfl⟩,λb M=>?_,q⟩;have e:b=z.heap.objs.size:=by simpa using M
 subst e;exact B.fpOk (Nat.le_refl _) (B.hok.fresh (Nat.le_refl _))
def E5 {pins:List (Addr×Obj)} {σ:St} {H:Hp} {s:Shared} {R:It->Hp->Prop} {E:Value->Shared->Prop} {lo hi:Int} {t u v:Tok} {tk:Nat} (I:Inv X pins σ H s) (h1:-(2 ^ 62)<=lo) (h2:lo<2 ^ 62) (h3:-(2 ^ 62)<=hi) (h4:hi<2 ^ 62)
 (q:R (Itr lo (hi - lo).toNat) H):wpAny (model X.prog X.w) X.A (pyIter (.ref s.heap.objs.size)) (PIE X pins σ tg R) E { s with heap:=s.heap.push { cls:=.type "range",data:=.fields #[.int lo t,.int hi u,.int 1 v] },toks:=tk }:=by
 refine wpAny_pyIter_range (IsRange.new ..) (small_one h1 h2 h3 h4) ?_;have z:Inv X pins σ H { s with heap:=s.heap.push { cls:=.type "range",data:=.fields #[.int lo t,.int hi u,.int 1 v] },toks:=tk }:=I.kept λb o e=>aEa _ e;refine⟨(s.heap.push { cls:=.type "range",data:=.fields #[.int lo t,.int hi u,.int 1 v] }).objs.size,[(s.heap.push { cls:=.type "range",data:=.fields #[.int lo t,.int hi u,.int 1 v] }).objs.size],_,_,H,rfl,
  z.kept (t':=tk) λb o e=>aEa _ e,N9 _ lo (hi - lo).toNat,?_,λb B=>?_,q⟩
 .have e1:lo+((0:Nat):Int) * 1=lo:=by simp
  have e2:(((hi - lo).toNat:Nat):Int) - ((0:Nat):Int)=Builtin.Range.rangeSize lo hi 1:=by rw[rangeSize_one];split <;> omega
  show IsRangeIter _ _ (lo+((0:Nat):Int) * 1) ((((hi - lo).toNat:Nat):Int) - ((0:Nat):Int)) 1;rw[e1,e2];exact aEg _ rfl
 .have e:b=(s.heap.push { cls:=.type "range",data:=.fields #[.int lo t,.int hi u,.int 1 v] }).objs.size:=by simpa using B
  subst e;exact z.fpOk (Nat.le_refl _) (z.hok.fresh (Nat.le_refl _))
def aDZ (ta:TA):TI:=fun σ H R=>ta σ H λvs H1=>∃ j:Int,vs=[.int j]/\-(2 ^ 62)<=j/\j<2 ^ 62/\R (Itr 0 j.toNat) H1
def aD0 (ta:TA):TI:=fun σ H R=>ta σ H λvs H1=>∃ i j:Int,vs=[.int i,.int j]/\(-(2 ^ 62)<=i/\i<2 ^ 62/\-(2 ^ 62)<=j/\j<2 ^ 62)/\R (Itr i (j - i).toNat) H1
def jK {a:Expr} {ta:TA} {p pos:Pos} (B:Gl X "range") (D:X.mg "range"=none) (J:PA X [a] ta) (hs:starEach [a] X.env=[(false,eval a X.env)]:=by rfl):PI X tg (.Call (.Name "range" p) [a] [] pos) (aDZ ta):=by
 intro pins s σ H R I h;refine Call_ (jU I B D boot_range (PyProof.Rows.callWith_type1 (thn (J pos pins s σ H _ I h) λus Y ⟨vs,H1,L,r1,z⟩=>?_) hs rfl));obtain⟨j,e,z,M,q⟩:=z;subst e;cases r1 with
 | cons r U =>
  cases U;obtain⟨t,rfl⟩:=r;exact call_range_1 (E5 L (by omega) (by omega) z M (by simpa using q))
def xI {a b:Expr} {ta:TA} {p pos:Pos} (J:Gl X "range") (L:X.mg "range"=none) (M:PA X [a,b] ta) (hs:starEach [a,b] X.env=[(false,eval a X.env),(false,eval b X.env)]:=by rfl) (z:starEach [b] X.env=[(false,eval b X.env)]:=by rfl) :
 PI X tg (.Call (.Name "range" p) [a,b] [] pos) (aD0 ta):=by
 intro pins s σ H R I h;refine Call_ (jU I J L boot_range (PyProof.Rows.callWith_type1 (thn (M pos pins s σ H _ I h) λus s1 ⟨vs,H1,U,r1,B⟩=>?_) (by rw[hs,z]) (by rw[z];rfl)));obtain⟨i,j,e,⟨B,Y,q3,q4⟩,q⟩:=B;subst e;cases r1 with
 | cons r D =>
  cases D with
  | cons r' D =>
   cases D;obtain⟨t,rfl⟩:=r;obtain⟨t',rfl⟩:=r';exact call_range_2 (E5 U B Y q3 q4 q)
def aD1 (wi:TI) (g:TG) (tb:TS):TS:=λD σ H=>wi σ H λJ H1=>∃ W:Nat->Nat->St->Hp->Prop,(∃ m,W 0 m σ H1)/\∀ i m σ H,W i m σ H ->
 (J.stop i H/\D.nx σ H)\/(J.go i H/\∃ N:St->Hp->Prop,(∀ z H',N z H'->∃ I,I<m/\W (i+1) I z H')/\∀ x H',J.yld i H x H'->g x σ H' λB H2=>tb { D with nx:=N,ct:=N,bk:=D.nx } B H2)
def cA (fp:List Addr) (h:Heap):List (Addr×Obj):=fp.filterMap λb=>(h.get? b).map λo=>(b,o)
def bR {fp:List Addr} {h:Heap} {b:Addr} {o:Obj} (z:b∈fp) (e:h.get? b=some o):(b,o)∈cA fp h:=List.mem_filterMap.mpr ⟨b,z,by rw[e];rfl⟩
def gR {fp:List Addr} {h:Heap} {p:Addr×Obj} (z:p∈cA fp h):p.1∈fp/\h.get? p.1=some p.2:=by
 obtain⟨b,B,e⟩:=List.mem_filterMap.mp z;cases q:h.get? b with
 | none=>rw[q]at e;cases e
 | some o =>
  rw[q]at e;have D:(b,o)=p:=Option.some.inj e;subst D;exact⟨B,q⟩
def Inv.pinned {pins:List (Addr×Obj)} {σ:St} {H:Hp} {s:Shared} {fp:List Addr} (I:Inv X pins σ H s) (J:∀ b∈fp,iE X pins H b) (L:∀ b∈fp,∃ o,s.heap.get? b=some o/\∀ v,o.data≠.cell v):Inv X (pins++cA fp s.heap) σ H s :=
 I.pins_of λp M=>(aFM.mp M).elim (λz=>I.pin p (aEd _ z)) λz=>by
  obtain⟨B,e⟩:=gR z;obtain⟨U,f1,f2,_⟩:=J p.1 B;obtain⟨o,D,d⟩:=L p.1 B;rw[e]at D;cases D;exact⟨e,U,f1,f2,d⟩
def Inv.unpinned {pins pl:List (Addr×Obj)} {σ:St} {H:Hp} {s:Shared} (I:Inv X (pins++pl) σ H s):Inv X pins σ H s:=I.pins_of λp z=>I.pin p (aEd _ (aEs _ z))
def dU {iter:Expr} {body:List Stmt} {wi:TI} {g:TG} {tb:TS} {pos:Pos} (hp:PassesOwn (model X.prog X.w) X.A X.env X.xe) (hc:X.calm=true) (hi:PI X tg iter wi) (hg:PG X tg g) (B:PSs X body tb)
 (hs:∀ x,foldedSetIterable iter X.env x=pure x:=by intro _;rfl):PS X (.For tg iter body [] pos) (aD1 wi g tb):=by
 intro pins s σ H D I h;refine wpAny_For (thn (hi pins s σ H _ I h) λv s1 h1=>thn h1 λav s2 h2=>?_) hs;obtain⟨it,fp,tn,J,H2,e,I2,T,ap,f2,W,⟨m0,w0⟩,turn⟩:=h2;subst e;have L:∀ {H':Hp},(∀ b∈fp,H' b=none)->∀ b∈fp,iE X pins H' b:=λhn b B=>⟨hn b B,(f2 b B).2⟩;refine codeAny_forLoop_any (λn s'=>∃ i M H',Inv X pins M H' s'/\tn i s'.heap/\(∀ b∈fp,H' b=none)/\W i n M H') ?_ m0 ⟨0,σ,H2,I2,ap,λb B=>(f2 b B).1,w0⟩;rintro n s3 ⟨i,U,H3,I3,am,ao,w3⟩;rcases turn i n U H3 w3 with ⟨stop,qn⟩ | ⟨go,N,hN,step⟩
 .refine wpAny_passesOwn hp (thn (T.done X rfl rfl rfl hc i pins s3 U H3 X.xe I3 (L ao) am stop) λr s4 ⟨hr,I4⟩=>?_);subst hr;exact wpAny_execs_nil ⟨U,H3,I4,qn⟩
 .refine wpAny_passesOwn hp (thn (T.item X rfl rfl rfl hc i pins s3 U H3 X.xe I3 (L ao) am go) λr s4 ⟨u,hr,h4⟩=>?_);subst hr;refine wpAny_passesOwn hp (thn h4 λ_ s5 ⟨x,H5,I5,r5,y5,al,aq⟩=>?_);have ar:=I5.pinned (L aq) (T.obj _ _ al);refine wpAny_passesOwn hp (thn (hg _ s5 U H5 x u _ ar r5 (step x H5 y5)) λ_ s6 ⟨au,H6,I6,q6⟩=>?_);refine wpAny_passesOwn hp (thn (B _ s6 au H6 _ I6 q6) λf s7 q7=>?_);have again:∀ {z:St} {Y:Hp},Inv X (pins++cA fp s5.heap) z Y s7->N z Y->∃ m,m<n/\∃ i M H',Inv X pins M H' s7/\tn i s7.heap/\(∀ b∈fp,H' b=none)/\W i m M H':=λ{z Y} I7 n7=>by
   obtain⟨m',hm,w7⟩:=hN z Y n7;refine⟨m',hm,i+1,z,Y,I7.unpinned,T.keep _ _ _ al λb B o e=>(I7.pin (b,o) (aEd _ (aEd _ (bR B e)))).1,λb B=>?_,w7⟩;obtain⟨o,e,d⟩:=T.obj _ _ al b B;exact(I7.pin (b,o) (aEd _ (aEd _ (bR B e)))).2.1
  cases f with
  | next=>obtain⟨z,Y,I7,n7⟩:=q7;exact again I7 n7
  | cont=>obtain⟨z,Y,I7,n7⟩:=q7;exact again I7 n7
  | brk=>obtain⟨z,Y,I7,q7⟩:=q7;exact⟨z,Y,I7.unpinned,q7⟩
  | ret v=>obtain⟨x7,z,Y,I7,r7,q7⟩:=q7;exact⟨x7,z,Y,I7.unpinned,r7,q7⟩
end
def eU {K:PySem.W.Frag} {a:Addr} {xs:List V} {g:TG} {tb:TS} {D:sO} {σ:St} {H:Hp} (Pv:Nat->St->Hp->Prop) (h0:Pv 0 σ H) (L:∀ i σ H,i<=xs.length->Pv i σ H->SqL K H a xs)
 (hs:∀ i x σ H,xs[i]?=some x->Pv i σ H->g x σ H λz H2=>tb { D with nx:=Pv (i+1),ct:=Pv (i+1),bk:=D.nx } z H2) (hd:∀ σ H,Pv xs.length σ H->D.nx σ H) :
 ∃ W:Nat->Nat->St->Hp->Prop,(∃ m,W 0 m σ H)/\∀ i m σ H,W i m σ H ->
  ((Itl K a).stop i H/\D.nx σ H)\/((Itl K a).go i H/\∃ N:St->Hp->Prop,(∀ B H',N B H'->∃ J,J<m/\W (i+1) J B H')/\∀ x H',(Itl K a).yld i H x H'->g x σ H' λz H2=>tb { D with nx:=N,ct:=N,bk:=D.nx } z H2):=by
 refine⟨λi m σ H=>m=xs.length - i/\i<=xs.length/\Pv i σ H,⟨xs.length,by simp,Nat.zero_le _,h0⟩,?_⟩;rintro i m σ H ⟨rfl,hi,p⟩;have q:=L i σ H hi p
 by_cases I:i<xs.length
 .refine .inr ⟨⟨xs,xs[i],q,by simp[I]⟩,Pv (i+1),λB H' M=>⟨xs.length - (i+1),by omega,rfl,I,M⟩,λx H' y=>?_⟩;obtain⟨e,y⟩:=y;subst e;exact hs i x σ _ (y xs q) p
 .have e:i=xs.length:=by omega
  subst e;exact .inl ⟨⟨xs,q,Nat.le_refl _⟩,hd σ H p⟩
def aBW {K:PySem.W.Frag} {a:Addr} {xs:List V} {g:TG} {tb:TS} {D:sO} {σ:St} {H:Hp} (Pv:Nat->St->Hp->Prop) (h0:Pv 0 σ H) (L:∀ i σ H,i<=xs.length->Pv i σ H->SqT K H a xs)
 (hs:∀ i x σ H,xs[i]?=some x->Pv i σ H->g x σ H λz H2=>tb { D with nx:=Pv (i+1),ct:=Pv (i+1),bk:=D.nx } z H2) (hd:∀ σ H,Pv xs.length σ H->D.nx σ H) :
 ∃ W:Nat->Nat->St->Hp->Prop,(∃ m,W 0 m σ H)/\∀ i m σ H,W i m σ H ->
  ((Itt K a).stop i H/\D.nx σ H)\/((Itt K a).go i H/\∃ N:St->Hp->Prop,(∀ B H',N B H'->∃ J,J<m/\W (i+1) J B H')/\∀ x H',(Itt K a).yld i H x H'->g x σ H' λz H2=>tb { D with nx:=N,ct:=N,bk:=D.nx } z H2):=by
 refine⟨λi m σ H=>m=xs.length - i/\i<=xs.length/\Pv i σ H,⟨xs.length,by simp,Nat.zero_le _,h0⟩,?_⟩;rintro i m σ H ⟨rfl,hi,p⟩;have q:=L i σ H hi p
 by_cases I:i<xs.length
 .refine .inr ⟨⟨xs,xs[i],q,by simp[I]⟩,Pv (i+1),λB H' M=>⟨xs.length - (i+1),by omega,rfl,I,M⟩,λx H' y=>?_⟩;obtain⟨e,y⟩:=y;subst e;exact hs i x σ _ (y xs q) p
 .have e:i=xs.length:=by omega
  subst e;exact .inl ⟨⟨xs,q,Nat.le_refl _⟩,hd σ H p⟩
def jL {lo:Int} {n:Nat} {g:TG} {tb:TS} {D:sO} {σ:St} {H:Hp} (Pv:Nat->St->Hp->Prop) (h0:Pv 0 σ H)
 (hs:∀ i σ H,i<n->Pv i σ H->g (.int (lo+i)) σ H λz H2=>tb { D with nx:=Pv (i+1),ct:=Pv (i+1),bk:=D.nx } z H2) (hd:∀ σ H,Pv n σ H->D.nx σ H) :
 ∃ W:Nat->Nat->St->Hp->Prop,(∃ m,W 0 m σ H)/\∀ i m σ H,W i m σ H ->
  ((Itr lo n).stop i H/\D.nx σ H)\/((Itr lo n).go i H/\∃ N:St->Hp->Prop,(∀ B H',N B H'->∃ J,J<m/\W (i+1) J B H')/\∀ x H',(Itr lo n).yld i H x H'->g x σ H' λz H2=>tb { D with nx:=N,ct:=N,bk:=D.nx } z H2):=by
 refine⟨λi m σ H=>m=n - i/\i<=n/\Pv i σ H,⟨n,by simp,Nat.zero_le _,h0⟩,?_⟩;rintro i m σ H ⟨rfl,hi,p⟩
 by_cases I:i<n
 .refine .inr ⟨I,Pv (i+1),λB H' L=>⟨n - (i+1),by omega,rfl,I,L⟩,λx H' y=>?_⟩;obtain⟨e,y⟩:=y;subst e y;exact hs i σ _ I p
 .have e:i=n:=by omega
  subst e;exact .inl ⟨Nat.le_refl _,hd σ H p⟩
def E6 {c:TT} {tb:TS} {D:sO} {σ:St} {H:Hp} (Pv:St->Hp->Prop) (B:St->Hp->Nat) (h0:Pv σ H)
 (hs:∀ σ H,Pv σ H->c σ H λb H1=>if b=true then tb { D with nx:=λz H'=>Pv z H'/\B z H'<B σ H,ct:=λz H'=>Pv z H'/\B z H'<B σ H,bk:=D.nx } σ H1 else D.nx σ H1)
 (mono:∀ σ H Q I,(∀ b H1,Q b H1->I b H1)->c σ H Q->c σ H I):o9 c tb D σ H:=by
 refine⟨λm σ H=>m=B σ H/\Pv σ H,⟨_,rfl,h0⟩,?_⟩;rintro m σ H ⟨rfl,p⟩;refine mono σ H _ _ (λb H1 q=>?_) (hs σ H p);cases b with
 | true=>exact⟨_,λz H' ⟨J,l⟩=>⟨_,l,rfl,J⟩,q⟩
 | false=>exact q
abbrev R2:=V->V->Hp->VK->Prop
def OpR (X:Cx) (f:Value->Value->Sem Value) (r:R2):Prop :=
 ∀ (pins:List (Addr×Obj)) (s:Shared) (σ:St) (H:Hp) (x y:V) (v u:Value) (Q:VK),Inv X pins σ H s->RelV x v->RelV y u->r x y H Q ->
  wpAny (model X.prog X.w) X.A (f v u) (EP X pins σ Q) X.xe s
def UnR (X:Cx) (f:Value->Sem Value) (r:V->Hp->VK->Prop):Prop :=
 ∀ (pins:List (Addr×Obj)) (s:Shared) (σ:St) (H:Hp) (x:V) (v:Value) (Q:VK),Inv X pins σ H s->RelV x v->r x H Q ->
  wpAny (model X.prog X.w) X.A (f v) (EP X pins σ Q) X.xe s
def dY (X:Cx) (f:Value) (r:List V->Hp->VK->Prop):Prop :=
 ∀ (pins:List (Addr×Obj)) (s:Shared) (σ:St) (H:Hp) (xs:List V) (us:List Value) (Q:VK),Inv X pins σ H s->Vals xs us->r xs H Q ->
  wpAny (model X.prog X.w) X.A (call f us) (EP X pins σ Q) X.xe s
def aEJ (X:Cx) (r:V->Hp->(Bool->Hp->Prop)->Prop):Prop :=
 ∀ (pins:List (Addr×Obj)) (s:Shared) (σ:St) (H:Hp) (x:V) (v:Value) (Q:Bool->Hp->Prop),Inv X pins σ H s->RelV x v->r x H Q ->
  wpAny (model X.prog X.w) X.A (truthy v) (TP X pins σ Q) X.xe s
def tOp (r:R2) (ta tb:TE):TE:=fun σ H Q=>ta σ H λx H1=>tb σ H1 λy H2=>r x y H2 Q
def tUn (r:V->Hp->VK->Prop) (ta:TE):TE:=fun σ H Q=>ta σ H λx H1=>r x H1 Q
def rI (C:Int->Int->Prop) (g:Int->Int->V):R2:=λx y H Q=>∃ i j,x=.int i/\y=.int j/\C i j/\Q (g i j) H
def rI0 (g:Int->Int->V):R2:=λx y H Q=>∃ i j,x=.int i/\y=.int j/\Q (g i j) H
def rU (g:Int->V):V->Hp->VK->Prop:=λx H Q=>∃ i,x=.int i/\Q (g i) H
section
variable {X:Cx} {a b c:Expr} {ta tb tc:TE} {pos:Pos}
def aC8 (J:PE X a ta) (L:PE X b tb) {pins:List (Addr×Obj)} {s:Shared} {σ:St} {H:Hp} {R:V->V->Hp->Prop} (I:Inv X pins σ H s)
 (h:ta σ H λx H1=>tb σ H1 λy H2=>R x y H2) {Q:Value->Shared->Prop} {f:Value->Value->Sem Value}
 (M:∀ v u D x y H2,Inv X pins σ H2 D->RelV x v->RelV y u->R x y H2->wpAny (model X.prog X.w) X.A (f v u) Q X.xe D) :
 wpAny (model X.prog X.w) X.A (eval a X.env) (λv z=>wpAny (model X.prog X.w) X.A (eval b X.env) (λu B=>wpAny (model X.prog X.w) X.A (f v u) Q X.xe B) X.xe z) X.xe s:=by
 refine thn (J pins s σ H _ I h) λv U ⟨x,H1,Y,r1,q1⟩=>?_;refine thn (L pins U σ H1 _ Y q1) λu D ⟨y,H2,I2,r2,q2⟩=>?_;exact M v u D x y H2 I2 r1 r2 q2
def aQ {op:Operator} {r:R2} (z:OpR X (binaryOp op) r) (B:PE X a ta) (D:PE X b tb):PE X (.BinOp a op b pos) (tOp r ta tb):=by
 intro pins s σ H Q I h;exact wpAny_BinOp (aC8 B D I h λv u J x y H2 L M U q=>z pins J σ H2 x y v u Q L M U q)
def kZ {op:UnaryOp} {r:V->Hp->VK->Prop} (z:UnR X (unaryOp op) r) (B:PE X a ta):PE X (.UnaryOp op a pos) (tUn r ta):=by
 intro pins s σ H Q I h;exact UnaryOp_ (thn (B pins s σ H _ I h) λv D ⟨x,H1,J,r1,L⟩=>z pins D σ H1 x v Q J r1 L)
def opI {f:Value->Value->Sem Value} {C:Int->Int->Prop} {g:Int->Int->Int}
 (rule:∀ (i j:Int) (t u:Tok) (s:Shared) (Q:Value->Shared->Prop) (E:Value->Shared->Prop),C i j->Q (.int (g i j) s.toks) { s with toks:=s.toks+1 }->wpAny (model X.prog X.w) X.A (f (.int i t) (.int j u)) Q E s) :
 OpR X f (rI C λi j=>.int (g i j)):=by
 intro pins s σ H x y v u Q I z B h;obtain⟨i,j,rfl,rfl,D,q⟩:=h;obtain⟨t,rfl⟩:=z;obtain⟨t',rfl⟩:=B;exact rule i j t t' s _ _ D ⟨.int (g i j),H,I.tok _,⟨_,rfl⟩,q⟩
def aD2 {f:Value->Value->Sem Value} {g:Int->Int->Int}
 (rule:∀ (i j:Int) (t u:Tok) (s:Shared) (Q:Value->Shared->Prop) (E:Value->Shared->Prop),Q (.int (g i j) s.toks) { s with toks:=s.toks+1 }->wpAny (model X.prog X.w) X.A (f (.int i t) (.int j u)) Q E s) :
 OpR X f (rI0 λi j=>.int (g i j)):=by
 intro pins s σ H x y v u Q I z B h;obtain⟨i,j,rfl,rfl,q⟩:=h;obtain⟨t,rfl⟩:=z;obtain⟨t',rfl⟩:=B;exact rule i j t t' s _ _ ⟨.int (g i j),H,I.tok _,⟨_,rfl⟩,q⟩
def Y7 {f:Value->Value->Sem Value} {g:Int->Int->Bool}
 (rule:∀ (i j:Int) (t u:Tok) (s:Shared) (Q:Value->Shared->Prop) (E:Value->Shared->Prop),Q (.bool (g i j)) s->wpAny (model X.prog X.w) X.A (f (.int i t) (.int j u)) Q E s) :
 OpR X f (rI0 λi j=>.bl (g i j)):=by
 intro pins s σ H x y v u Q I z B h;obtain⟨i,j,rfl,rfl,q⟩:=h;obtain⟨t,rfl⟩:=z;obtain⟨t',rfl⟩:=B;exact rule i j t t' s _ _ ⟨.bl (g i j),H,I,rfl,q⟩
def aEK (i j:Int):Prop:=0<j/\j<1073741824
def aEL (i j:Int):Prop:=0<=j/\j<=1000000/\i.natAbs<2 ^ 64
def CMul (i j:Int):Prop:=(-(2 ^ 64)<i/\i<2 ^ 64)\/(-(2 ^ 64)<j/\j<2 ^ 64)
def CMul.ok {i j:Int} (h:CMul i j):IntMulOk i j:=by
 rcases h with ⟨h1,h2⟩ | ⟨h1,h2⟩
 .exact .of_left (intBits_le_64 h1 h2)
 .exact .of_right (intBits_le_64 h1 h2)
def bS:OpR X (binaryOp .Add) (rI0 λi j=>.int (i+j)):=aD2 λ_ _ _ _ _ _ _ q=>add_int q
def gE:OpR X (binaryOp .Sub) (rI0 λi j=>.int (i - j)):=aD2 λ_ _ _ _ _ _ _ q=>sub_int q
def jA:OpR X (binaryOp .Mult) (rI CMul λi j=>.int (i * j)):=opI λ_ _ _ _ _ _ _ z q=>mul_int q z.ok
def oT:OpR X (binaryOp .FloorDiv) (rI aEK λi j=>.int (i / j)):=opI λi j _ _ _ _ _ z q=>by
 have h1:(0:Int)<j:=z.1;have h2:j<1073741824:=z.2;exact floordiv_int (by omega) (by rw[Int.fdiv_eq_ediv_of_nonneg i (by omega)];exact q) (.inl (PyProof.noPylong_small (by omega)))
def cQ:OpR X (binaryOp .Mod) (rI (λ_ j=>0<j) λi j=>.int (i % j)):=opI λi j _ _ _ _ _ z q=>by
 have h1:(0:Int)<j:=z;exact mod_int' (by omega) (by rw[Int.fmod_eq_emod_of_nonneg i (by omega)];exact q)
def tZ:OpR X (binaryOp .Pow) (rI aEL λi j=>.int (i ^ j.toNat)):=opI λ_ _ _ _ _ _ _ z q=>pow_int_small z.1 z.2.1 z.2.2 q
def unI {f:Value->Sem Value} {g:Int->Int}
 (rule:∀ (i:Int) (t:Tok) (s:Shared) (Q:Value->Shared->Prop) (E:Value->Shared->Prop),Q (.int (g i) s.toks) { s with toks:=s.toks+1 }->wpAny (model X.prog X.w) X.A (f (.int i t)) Q E s) :
 UnR X f (rU λi=>.int (g i)):=by
 intro pins s σ H x v Q I z h;obtain⟨i,rfl,q⟩:=h;obtain⟨t,rfl⟩:=z;exact rule i t s _ _ ⟨.int (g i),H,I.tok _,⟨_,rfl⟩,q⟩
def gX:UnR X (unaryOp .USub) (rU λi=>.int (-i)):=unI λ_ _ _ _ _ q=>neg_int q
end
def aD3:V->V->Bool
 | .non,.non=>true | .non,.int _=>true | .int _,.non=>true | .non,.bl _=>true | .bl _,.non=>true | .non,.str _=>true | .str _,.non=>true
 | .int _,.int _=>true | .bl _,.bl _=>true | .str _,.str _=>true | .byt _,.byt _=>true
 | .int _,.str _=>true | .str _,.int _=>true | .bl _,.str _=>true | .str _,.bl _=>true
 | _,_=>false
def rEq:R2:=λx y H Q=>aD3 x y=true/\Q (.bl (decide (x=y))) H
def rNe:R2:=λx y H Q=>aD3 x y=true/\Q (.bl (!decide (x=y))) H
def U5 {i j:Int}:decide (V.int i=V.int j)=(i == j):=by
 rw[Bool.eq_iff_iff];simp
def p8 {i j:Bool}:decide (V.bl i=V.bl j)=(i == j):=by
 rw[Bool.eq_iff_iff];simp
def U6 {i j:Str}:decide (V.str i=V.str j)=(i == j):=by
 rw[Bool.eq_iff_iff];simp
def U7 {i j:Array UInt8}:decide (V.byt i=V.byt j)=(i.toList == j.toList):=by
 rw[Bool.eq_iff_iff];cases i;cases j;simp
section
variable {X:Cx} {a b c:Expr} {ta tb tc:TE} {pos:Pos}
def bT {pins:List (Addr×Obj)} {σ:St} {H:Hp} {s:Shared} {Q:VK} {k z:Bool} (I:Inv X pins σ H s) (q:Q (.bl k) H) (e:k=z):EP X pins σ Q (.bool z) s:=by
 subst e;exact⟨.bl k,H,I,rfl,q⟩
def E7:OpR X (compareOp .Eq) rEq:=by
 intro pins s σ H x y v u Q I B z h;obtain⟨hs,q⟩:=h;cases x with
 | non =>
  cases B;cases y with
  | non=>cases z;exact PySem.EqNone.eq_none_none (bT I q (by simp))
  | bl j=>cases z;exact PySem.EqNone.eq_none_bool (bT I q (by simp))
  | int j=>obtain⟨t',rfl⟩:=z;exact PySem.EqNone.eq_none_int (bT I q (by simp))
  | str j=>obtain⟨t',rfl⟩:=z;exact PySem.EqNone.eq_none_str (bT I q (by simp))
  | _=>exact absurd (show false=true from hs) aEm
 | bl i =>
  cases B;cases y with
  | non=>cases z;exact PySem.EqNone.eq_bool_none (bT I q (by simp))
  | bl j=>cases z;exact eq_bool (bT I q p8)
  | str j=>obtain⟨t',rfl⟩:=z;exact PySem.EqMixed.eq_bool_str (bT I q (by simp))
  | _=>exact absurd (show false=true from hs) aEm
 | int i =>
  obtain⟨t,rfl⟩:=B;cases y with
  | non=>cases z;exact PySem.EqNone.eq_int_none (bT I q (by simp))
  | int j=>obtain⟨t',rfl⟩:=z;exact eq_int (bT I q U5)
  | str j=>obtain⟨t',rfl⟩:=z;exact PySem.EqMixed.eq_int_str (bT I q (by simp))
  | _=>exact absurd (show false=true from hs) aEm
 | str i =>
  obtain⟨t,rfl⟩:=B;cases y with
  | non=>cases z;exact PySem.EqNone.eq_str_none (bT I q (by simp))
  | bl j=>cases z;exact PySem.EqMixed.eq_str_bool (bT I q (by simp))
  | int j=>obtain⟨t',rfl⟩:=z;exact PySem.EqMixed.eq_str_int (bT I q (by simp))
  | str j=>obtain⟨t',rfl⟩:=z;exact eq_str (bT I q U6)
  | _=>exact absurd (show false=true from hs) aEm
 | byt i =>
  obtain⟨t,rfl⟩:=B;cases y with
  | byt j=>obtain⟨t',rfl⟩:=z;exact PySem.W.eq_bytes (bT I q U7)
  | _=>exact absurd (show false=true from hs) aEm
 | _=>cases y <;> exact absurd (show false=true from hs) aEm
def E8:OpR X (compareOp .NotEq) rNe:=by
 intro pins s σ H x y v u Q I B z h;obtain⟨hs,q⟩:=h;cases x with
 | non =>
  cases B;cases y with
  | non=>cases z;exact PySem.EqNone.ne_none_none (bT I q (by simp))
  | bl j=>cases z;exact PySem.EqNone.ne_none_bool (bT I q (by simp))
  | int j=>obtain⟨t',rfl⟩:=z;exact PySem.EqNone.ne_none_int (bT I q (by simp))
  | str j=>obtain⟨t',rfl⟩:=z;exact PySem.EqNone.ne_none_str (bT I q (by simp))
  | _=>exact absurd (show false=true from hs) aEm
 | bl i =>
  cases B;cases y with
  | non=>cases z;exact PySem.EqNone.ne_bool_none (bT I q (by simp))
  | bl j=>cases z;exact ne_bool (bT I q (congrArg not p8))
  | str j=>obtain⟨t',rfl⟩:=z;exact PySem.EqMixed.ne_bool_str (bT I q (by simp))
  | _=>exact absurd (show false=true from hs) aEm
 | int i =>
  obtain⟨t,rfl⟩:=B;cases y with
  | non=>cases z;exact PySem.EqNone.ne_int_none (bT I q (by simp))
  | int j=>obtain⟨t',rfl⟩:=z;exact ne_int (bT I q (congrArg not U5))
  | str j=>obtain⟨t',rfl⟩:=z;exact PySem.EqMixed.ne_int_str (bT I q (by simp))
  | _=>exact absurd (show false=true from hs) aEm
 | str i =>
  obtain⟨t,rfl⟩:=B;cases y with
  | non=>cases z;exact PySem.EqNone.ne_str_none (bT I q (by simp))
  | bl j=>cases z;exact PySem.EqMixed.ne_str_bool (bT I q (by simp))
  | int j=>obtain⟨t',rfl⟩:=z;exact PySem.EqMixed.ne_str_int (bT I q (by simp))
  | str j=>obtain⟨t',rfl⟩:=z;exact ne_str (bT I q (congrArg not U6))
  | _=>exact absurd (show false=true from hs) aEm
 | byt i =>
  obtain⟨t,rfl⟩:=B;cases y with
  | byt j=>obtain⟨t',rfl⟩:=z;exact PySem.W.ne_bytes (bT I q (congrArg not U7))
  | _=>exact absurd (show false=true from hs) aEm
 | _=>cases y <;> exact absurd (show false=true from hs) aEm
def rR:OpR X (compareOp .Lt) (rI0 λi j=>.bl (decide (i<j))):=Y7 λ_ _ _ _ _ _ _ q=>lt_int q
def p9:OpR X (compareOp .LtE) (rI0 λi j=>.bl (decide (i<=j))):=Y7 λ_ _ _ _ _ _ _ q=>le_int q
def nL:OpR X (compareOp .Gt) (rI0 λi j=>.bl (decide (j<i))):=Y7 λ_ _ _ _ _ _ _ q=>gt_int q
def r9:OpR X (compareOp .GtE) (rI0 λi j=>.bl (decide (j<=i))):=Y7 λ_ _ _ _ _ _ _ q=>ge_int q
def Y8:OpR X (compareOp .In) (λx y H Q=>∃ i j,x=.str i/\y=.str j/\Q (.bl (!(Builtin.Str.occurrences j i 0 j.length 1).isEmpty)) H):=by
 intro pins s σ H x y v u Q I z B h;obtain⟨i,j,rfl,rfl,q⟩:=h;obtain⟨t,rfl⟩:=z;obtain⟨t',rfl⟩:=B;exact in_str (bT I q rfl)
def u0:OpR X (compareOp .Is) (λx y H Q=>y=.non/\Q (.bl (decide (x=.non))) H):=by
 intro pins s σ H x y v u Q I z B h;obtain⟨rfl,q⟩:=h;cases B;refine is_none_gen (bT I q ?_);cases x <;> first
  | (cases z;rfl)
  | (obtain⟨t,rfl⟩:=z;rfl)
def bF (b:Expr) {op:CmpOp} (h:op≠.In:=by decide) (h2:op≠.NotIn:=by decide):behindInMarks op b=false:=by
 have e1:(op == CmpOp.In)=false:=by cases op <;> first | rfl | exact absurd rfl h
 have e2:(op == CmpOp.NotIn)=false:=by cases op <;> first | rfl | exact absurd rfl h2
 cases b <;> simp[behindInMarks,e1,e2]
def eV {op:CmpOp} {r:R2} (z:OpR X (compareOp op) r) (B:PE X a ta) (D:PE X b tb) (J:behindInMarks op b=false):PE X (.Compare a [op] [b] pos) (tOp r ta tb):=by
 intro pins s σ H Q I h;exact wpAny_Compare1 (aC8 B D I h λv u L x y H2 M U Y q=>z pins L σ H2 x y v u Q M U Y q) J
def aD4 (t:TE):TT:=fun σ H Q=>t σ H λx H'=>∃ k,x=.bl k/\Q k H'
def bD {op:CmpOp} {r:R2} (B:OpR X (compareOp op) r) (D:PE X a ta) (J:PE X b tb) (L:behindInMarks op b=false):PT X (.Compare a [op] [b] pos) (aD4 (tOp r ta tb)):=by
 intro pins s σ H Q I h;refine wpAny_isTrue_Compare1 (thn (D pins s σ H _ I h) λv M ⟨x,H1,U,r1,Y⟩=>thn (J pins M σ H1 _ U Y) λu s2 ⟨y,H2,I2,r2,q2⟩ =>
  thn (B pins s2 σ H2 x y v u _ I2 r1 r2 q2) λc s3 ⟨z,H3,I3,r3,k,e,q3⟩=>?_) L
 subst e;cases r3;exact wpAny_truthy_bool ⟨H3,I3,q3⟩
def aD5 (K:PySem.W.Frag) (x:V) (H:Hp) (k:Bool):Prop :=
 match x with
 | .non=>k=false
 | .bl b=>k=b
 | .int i=>k=(i != 0)
 | .str y=>y.length<=sizeLine/\k=((y.length:Int) != 0)
 | .byt y=>y.size<=sizeLine/\k=((y.size:Int) != 0)
 | .ref p=>(∃ xs,SqL K H p xs/\k=!xs.isEmpty)\/(∃ xs,SqT K H p xs/\k=!xs.isEmpty)\/∃ kvs,H p=some (.dK kvs)/\k=!kvs.isEmpty
 | _=>False
def O1 {κ:Type} {kvs:List (κ×V)} {vs:List (κ×Value)} (r:KV kvs vs):(!vs.isEmpty)=!kvs.isEmpty:=by
 cases r <;> rfl
def uA {xs:List V} {its:List Value} (r:Vals xs its):(!its.toArray.isEmpty)=!xs.isEmpty:=by
 cases r <;> simp
def qK:(sizeLine:Nat)<2 ^ 63:=by rw[sizeLine_eq];decide
def aC9:aEJ X (λx H Q=>∃ k,aD5 X.K x H k/\Q k H):=by
 intro pins s σ H x v Q I B h;obtain⟨k,e,q⟩:=h;have U:=qK;have hs:sizeLine=16777216:=sizeLine_eq;cases x with
 | non =>
  cases B;have z:k=false:=e;subst z;exact truthy_none ⟨H,I,q⟩
 | bl b =>
  cases B;have z:k=b:=e;subst z;exact wpAny_truthy_bool ⟨H,I,q⟩
 | int i =>
  obtain⟨t,rfl⟩:=B;have z:k=(i != 0):=e;subst z;exact PySem.P.truthy_int ⟨H,I,q⟩
 | str y =>
  obtain⟨t,rfl⟩:=B;obtain⟨L,z⟩:y.length<=sizeLine/\k=((y.length:Int) != 0):=e;subst z;exact PySem.P.truthy_str (by omega) ⟨H,I.tok _,q⟩
 | byt y =>
  obtain⟨t,rfl⟩:=B;obtain⟨L,z⟩:y.size<=sizeLine/\k=((y.size:Int) != 0):=e;subst z;exact PySem.W.truthy_bytes (by omega) ⟨H,I.tok _,q⟩
 | ref p =>
  cases B;have z:(∃ xs,SqL X.K H p xs/\k=!xs.isEmpty)\/(∃ xs,SqT X.K H p xs/\k=!xs.isEmpty)\/∃ kvs,H p=some (.dK kvs)/\k=!kvs.isEmpty:=e;rcases z with ⟨xs,D,z⟩ | ⟨xs,D,z⟩ | ⟨kvs,D,z⟩
  .subst z;obtain⟨its,r,pl,J⟩:=I.list D;have hlen:=r.length;exact wpAny_truthy_list pl.isList (by simp only[aEh];omega) ⟨H,I.tok _,by rw[uA r];exact q⟩
  .subst z;obtain⟨its,r,pl,J⟩:=I.tuple D;have hlen:=r.length;exact truthy_tuple pl (by simp only[aEh];omega) ⟨H,I.tok _,by rw[uA r];exact q⟩
  .subst z;obtain⟨J,M,vs,r,m⟩:kvs.length<=sizeLine/\(p == sysModules)=false/\∃ vs,KV kvs vs/\s.heap.DictOf (bA X.prog X.w) p vs:=I.hok p _ D;have hlen:kvs.length=vs.length:=Paired.length r;exact wpAny_truthy_dict M m (by omega) ⟨H,I.tok _,by rw[O1 r];exact q⟩
 | _=>exact(show False from e).elim
def dG (z:PE X a ta) (he:∀ whole,isTrue a X.env whole=(do let v <- whole;standAt a.pos;holding [v] (truthy v))) :
 PT X a (fun σ H Q=>ta σ H λx H'=>∃ k,aD5 X.K x H' k/\Q k H'):=by
 intro pins s σ H Q I h;exact isTrue_plain (thn (z pins s σ H _ I h) λv B ⟨x,H1,D,r1,J⟩=>aC9 pins B σ H1 x v Q D r1 J) (he _)
def gG {x:V} {us:List Value} (r:Vals [x] us):∃ u,us=[u]/\RelV x u:=by
 cases r with
 | cons r1 r2=>cases r2;exact⟨_,rfl,r1⟩
def aD6 {x y:V} {us:List Value} (r:Vals [x,y] us):∃ u z,us=[u,z]/\RelV x u/\RelV y z:=by
 cases r with
 | cons r1 r2 =>
  cases r2 with
  | cons r3 r4=>cases r4;exact⟨_,_,rfl,r1,r3⟩
def qL (z:X.calm=true):dY X (.builtin "min") (λxs H Q=>∃ i j,xs=[.int i,.int j]/\Q (.int (if j<i then j else i)) H):=by
 intro pins s σ H xs us Q I r h;obtain⟨i,j,rfl,q⟩:=h;obtain⟨u,B,rfl,⟨t,rfl⟩,⟨t',rfl⟩⟩:=aD6 r;refine min_two_ints (I.ok.hd z) λh' tk k=>⟨_,H,I.kept k,?_,q⟩
 by_cases hj:j<i
 .rw[if_pos hj,if_pos hj];exact⟨_,rfl⟩
 .rw[if_neg hj,if_neg hj];exact⟨_,rfl⟩
end
structure ObjM (h:Heap) (x dx C:Addr) (mA:Str->Option Value):Prop where
 obj:h.get? x=some (PySem.W.instObj C dx)
 ns:h.Ns1 dx mA
 ne:dx≠x
def Y9 {h:Heap} {dx:Addr} {mA:Str->Option Value} (n:h.Ns1 dx mA):∃ od,h.get? dx=some od/\∀ name,PySem.W.lookIn name od=some (mA name):=by
 obtain⟨o,es,ep,D,hd,I,_,J⟩:=n;refine⟨o,D,λname=>?_⟩;have e:=J name;unfold nsFind findBy at e;rw[<- Array.find?_toList]at e;unfold PySem.W.lookIn;rw[hd];dsimp only;split
 .rename_i y q
  rw[q]at e;exact congrArg some e
 .rename_i q
  rw[q]at e;have a:es.toList.any (·.refKey)=false:=by
   rw[List.any_eq_false];intro y L;obtain⟨z,t,B⟩:=I y (Array.mem_toList_iff.mp L);simp[DictEntry.refKey,B]
  have M:¬ es.toList.any (·.refKey)=true:=by rw[a];exact aEm
  rw[if_neg M];exact congrArg some e
def ObjM.look {h:Heap} {x dx C:Addr} {mA:Str->Option Value} (I:ObjM h x dx C mA):∃ od,PySem.W.InstAt h x (PySem.W.instObj C dx) C (some od)/\∀ name,PySem.W.lookIn name od=some (mA name) :=
 let ⟨od,z,B⟩:=Y9 I.ns
 ⟨od,⟨I.obj,rfl,rfl,z⟩,B⟩
section
variable {prog:Program} {w:World} {A:Around} {E:Value->Shared->Prop} {s:Shared} {K:PySem.W.Frag} {x dx C f:Addr} {mA:Str->Option Value} {name:Str} {v:Value}
def aBX {expr:Bool} {Q:Value->Shared->Prop} (X:K.In s.heap) (I:ObjM s.heap x dx C mA) (B:PySem.W.plainGet K C name=true) (D:PySem.W.hasDictIn K C=true)
 (L:PySem.W.findIn K (.ref C) name=some none) (M:mA name=some v) (z:PySem.W.handedIn v=true) (h:Q v { s with toks:=s.toks+1 }) :
 wpAny (model prog w) A (getAttr (.ref x) name expr) Q E s:=by
 obtain⟨od,J,U⟩:=I.look;exact PySem.W.get_value X J (PySem.W.plainGet_of B).1 (PySem.W.findObj_own D L rfl (by rw[U,M])) z h
def u4 {pl:Sem Bool} {Q:Value×List Value->Shared->Prop} (X:K.In s.heap) (I:ObjM s.heap x dx C mA) (z:PySem.W.plainGet K C name=true)
 (B:PySem.W.findIn K (.ref C) name=some (some (.ref f))) (ht:PySem.W.isFn K (.ref f)=true) (D:mA name=none) (h:Q (.ref f,[.ref x]) s) :
 wpAny (model prog w) A (getMethod (.ref x) name pl) Q E s:=by
 obtain⟨od,J,L⟩:=I.look;exact PySem.W.method_fn X J (PySem.W.plainGet_of z).1 (PySem.W.plainGet_of z).2 B (beq_iff_eq.mp ht) (by show (PySem.W.lookIn name od).map (·.isSome)=some false;rw[L,D];rfl) h
def aBY {ns:List Str} {Q:Unit->Shared->Prop} (X:K.In s.heap) (I:ObjM s.heap x dx C mA)
 (hs:PySem.W.findIn K (.ref C) "__setattr__"=some (some (.builtin "object.__setattr__"))) (Y:PySem.W.plainOver K C=true) (ht:PySem.W.takerIn K C name=some none) (hh:PySem.W.hasDictIn K C=true)
 (hw:PySem.Within mA ns) (hsz:ns.length<=sizeLine)
 (h:∀ h',ObjM h' x dx C (λy=>if y=name then some v else mA y)->Heap.SameBut dx s.heap h'->Q () { s with heap:=h',toks:=s.toks+2 }) :
 wpAny (model prog w) A (setAttr (.ref x) name v) Q E s:=by
 obtain⟨od,J,hl⟩:=I.look;refine PySem.W.set_plain X J hs (PySem.W.osa_open (s:={ s with toks:=s.toks+1 }) (r:=none) X J Y ht λb=>?_);obtain⟨cd,hc,D⟩:=PySem.W.any_some hh;have hx:s.heap.get? x=some ⟨.ref C,some dx,.plain,#[]⟩:=I.obj;refine aE7 (aE8 (aE7 (aE7 (wpAny_loadPart hx (aE7 (PySem.W.Looks.here (s:={ s with toks:=s.toks+1 }) (PySem.W.looks_clsIn X hc) ?_))))));rw[D];refine aE8 (a:=some dx) (aE7 (aE8 (aE7 ?_)));refine wpAny_nsSet1 (s:={ s with toks:=s.toks+1 }) I.ns λh' z B=>?_;obtain⟨oD,al,am,L,M,U⟩:=z.count (PySem.Within.cons name v hw);refine aE7 (wpAny_lookBehind L (by rw[M];exact pastItsLine_dict (Nat.le_trans U (by rw[aFC];omega))) ?_);exact aE8 (h _ ⟨(B.2 _ (Ne.symm I.ne)).trans I.obj,z,I.ne⟩ B)
def u5 {R:Result->Shared->Prop} {vs:List Value} {z:List (Str×Value)} (X:K.In s.heap) (B:PySem.W.makesIn K C=true)
 (hi:PySem.W.findIn K (.ref C) "__init__"=some (some (.ref f))) (D:PySem.W.typeIn K (.ref f)=some (.type "function"))
 (h:codeAny (model prog w) (A.under (.builtin "type.__call__" ⟨.ref C :: vs,z⟩)) (.call (.ref f) ⟨.ref (s.heap.objs.size+1) :: vs,z⟩) (PySem.W.InitBack (s.heap.objs.size+1) R)
  { s with heap:=(s.heap.push PySem.W.emptyDict).push (PySem.W.instObj C s.heap.objs.size) }) :
 codeAny (model prog w) A (.call (.ref C) ⟨vs,z⟩) R s:=by
 obtain⟨I,g,d,t,os⟩:=s;exact PySem.W.make_core (PySem.W.makes_of X B) (PySem.W.looks_findIn X hi) (λself=>PySem.W.bind_fn X self D) (.inl rfl) h
end
def nI (f:Str) (v:V):List (Str×V)->List (Str×V)
 | []=>[(f,v)]
 | (g,x) :: r=>if g=f then (g,v) :: r else (g,x) :: nI f v r
def rS (f g:Str) (v:V):∀ fs:List (Str×V),(nI f v fs).lookup g=if g=f then some v else fs.lookup g
 | []=>by
  show List.lookup g [(f,v)]=_
  by_cases h:g=f
  .have z:(g == f)=true:=beq_iff_eq.mpr h;simp only[List.lookup,z,if_pos h]
  .have z:(g == f)=false:=beq_eq_false_iff_ne.mpr h;simp only[List.lookup,z,if_neg h]
 | (k,x) :: r=>by
  have D:=rS f g v r;rw[show nI f v ((k,x) :: r)=(if k=f then (k,v) :: r else (k,x) :: nI f v r) from rfl]
  by_cases B:k=f
  .rw[if_pos B]
   by_cases h:g=k
   .have z:(g == k)=true:=beq_iff_eq.mpr h;simp only[List.lookup,z,if_pos (h.trans B)]
   .have z:(g == k)=false:=beq_eq_false_iff_ne.mpr h;simp only[List.lookup,z,if_neg (λe:g=f=>h (e.trans B.symm))]
  .rw[if_neg B]
   by_cases h:g=k
   .have z:(g == k)=true:=beq_iff_eq.mpr h;simp only[List.lookup,z,if_neg (λe:g=f=>B (h.symm.trans e))]
   .have z:(g == k)=false:=beq_eq_false_iff_ne.mpr h;simp only[List.lookup,z];exact D
def qM (f:Str) (v:V):∀ fs:List (Str×V),f∈(nI f v fs).map (·.1)/\∀ g,g∈fs.map (·.1)->g∈(nI f v fs).map (·.1)
 | []=>⟨by simp[nI],λg h=>by simp at h⟩
 | (k,x) :: r=>by
  obtain⟨i1,i2⟩:=qM f v r;rw[show nI f v ((k,x) :: r)=(if k=f then (k,v) :: r else (k,x) :: nI f v r) from rfl]
  by_cases z:k=f
  .rw[if_pos z];subst z;exact⟨by simp,λg h=>by simpa using h⟩
  .rw[if_neg z];refine⟨?_,λg h=>?_⟩
   .rw[aEy];exact aEc _ i1
   .rw[aEy]at h ⊢;rcases aFL.mp h with e | e
    .exact aFL.mpr (.inl e)
    .exact aEc _ (i2 g e)
def rV (f:Str) (v:V):∀ fs:List (Str×V),(nI f v fs).length<=fs.length+1
 | []=>by simp[nI]
 | (k,x) :: r=>by
  have B:=rV f v r;rw[show nI f v ((k,x) :: r)=(if k=f then (k,v) :: r else (k,x) :: nI f v r) from rfl]
  by_cases z:k=f
  .rw[if_pos z,aFC,aFC];omega
  .rw[if_neg z,aFC,aFC];omega
def RelO.some_of {v:V} {o:Option Value} (r:RelO (some v) o):∃ u,o=some u/\RelV v u:=by
 cases o with
 | none=>exact(show False from r).elim
 | some u=>exact⟨u,rfl,r⟩
def RelO.none_of {o:Option Value} (r:RelO none o):o=none:=by
 cases o with
 | none=>rfl
 | some u=>exact(show False from r).elim
def Z0 {v:V} {u:Value} (r:RelV v u):PySem.W.handedIn u=true:=by
 cases v with
 | non=>cases (show u=Value.none from r);rfl
 | bl b=>cases (show u=Value.bool b from r);rfl
 | int i=>obtain⟨t,e⟩:=(show ∃ t,u=Value.int i t from r);cases e;rfl
 | str x=>obtain⟨t,e⟩:=(show ∃ t,u=Value.str x t from r);cases e;rfl
 | byt b=>obtain⟨t,e⟩:=(show ∃ t,u=Value.bytes b t from r);cases e;rfl
 | flt b=>obtain⟨t,e⟩:=(show ∃ t,u=Value.float b t from r);cases e;rfl
 | ref a=>cases (show u=Value.ref a from r);rfl
 | ty n=>cases (show u=Value.type n from r);rfl
section
variable {P:Program} {w:World} {H H':Hp} {h h':Heap} {a C dx:Addr} {fs fs':List (Str×V)}
def sV (hok:HOk P w H h) (e:H a=some (.ins C dx fs)):∃ mA,ObjM h a dx C mA/\(∀ f,RelO (fs.lookup f) (mA f))/\PySem.Within mA (fs.map (·.1))/\fs.length<=1000/\H dx=some (.own a):=by
 obtain⟨d,z,ne,B,mA,n,r,q⟩:=(show ObjOk P w H h a (.ins C dx fs) from hok a _ e);exact⟨mA,⟨B,n,ne⟩,r,q,z,d⟩
end
structure Cls (K:PySem.W.Frag) (C:Addr):Prop where
 pg:PySem.W.plainGet K C Str.empty=true
 hd:PySem.W.hasDictIn K C=true
 po:PySem.W.plainOver K C=true
 sa:PySem.W.findIn K (.ref C) "__setattr__"=some (some (.builtin "object.__setattr__"))
def Cls.get {K:PySem.W.Frag} {C:Addr} (c:Cls K C) (f:Str):PySem.W.plainGet K C f=true:=c.pg
def NoAttr (K:PySem.W.Frag) (C:Addr) (f:Str):Prop:=PySem.W.findIn K (.ref C) f=some none
def NoAttr.taker {K:PySem.W.Frag} {C:Addr} {f:Str} (n:NoAttr K C f):PySem.W.takerIn K C f=some none:=by
 unfold PySem.W.takerIn;rw[show PySem.W.findIn K (.ref C) f=some none from n];rfl
structure u6 (K:PySem.W.Frag) (C:Addr) (m:Str) (f:Addr):Prop where
 at_:PySem.W.findIn K (.ref C) m=some (some (.ref f))
 fn:PySem.W.isFn K (.ref f)=true
 kp:PySem.W.keepIn K (.ref f)=true
section
variable {X:Cx} {pins:List (Addr×Obj)} {σ:St} {H:Hp} {s:Shared} {a C dx:Addr} {fs:List (Str×V)} {f:Str} {v:V} {A:Around} {E:Value->Shared->Prop}
def O2 {b:Bool} {Q:Value->Shared->Prop} (I:Inv X pins σ H s) (e:H a=some (.ins C dx fs)) (c:Cls X.K C) (n:NoAttr X.K C f) (l:fs.lookup f=some v)
 (h:∀ u s',Inv X pins σ H s'->RelV v u->Q u s'):wpAny (model X.prog X.w) A (getAttr (.ref a) f b) Q E s:=by
 obtain⟨mA,O,r,_,_,_⟩:=sV I.hok e;obtain⟨u,B,z⟩:=RelO.some_of (v:=v) (o:=mA f) (by rw[<- l];exact r f);exact aBX I.kIn O (c.get f) c.hd n B (Z0 z) (h u _ (I.tok _) z)
def uB {m:Str} {g:Addr} {pl:Sem Bool} {Q:Value×List Value->Shared->Prop} (I:Inv X pins σ H s) (e:H a=some (.ins C dx fs)) (c:Cls X.K C) (k:u6 X.K C m g) (l:fs.lookup m=none)
 (h:Q (.ref g,[.ref a]) s):wpAny (model X.prog X.w) A (getMethod (.ref a) m pl) Q E s:=by
 obtain⟨mA,O,r,_,_,_⟩:=sV I.hok e;have z:mA m=none:=RelO.none_of (by rw[<- l];exact r m);exact u4 I.kIn O (c.get m) k.at_ k.fn z h
def O3 {y:V} {u:Value} {Q:Unit->Shared->Prop} (I:Inv X pins σ H s) (e:H a=some (.ins C dx fs)) (c:Cls X.K C) (n:NoAttr X.K C f) (hl:fs.length<1000) (J:RelV y u)
 (h:∀ s',Inv X pins σ (upd H a (.ins C dx (nI f y fs))) s'->Q () s'):wpAny (model X.prog X.w) A (setAttr (.ref a) f u) Q E s:=by
 obtain⟨mA,O,r,wi,_,D⟩:=sV I.hok e;have L:(fs.map (·.1)).length<=sizeLine:=by rw[aE9,sizeLine_eq];omega
 refine aBY I.kIn O c.sa c.po n.taker c.hd wi L λh' B M=>h _ ?_;have hd:∃ o,h'.get? dx=some o:=let ⟨o,_,_,U,_⟩:=B.ns;⟨o,U⟩;refine I.write (x:=a) (e:=dx) (by rw[e];exact True.intro) (.inr D) (λb q Y z=>(M.2 b Y).trans z) hd ?_;refine⟨by rw[aF O.ne];exact D,?_,O.ne,B.obj,_,B.ns,λg=>?_,λg hg=>?_⟩
 .have:=rV f y fs;omega
 .show RelO ((nI f y fs).lookup g) (if g=f then some u else mA g);rw[rS]
  by_cases q:g=f
  .rw[if_pos q,if_pos q];exact J
  .rw[if_neg q,if_neg q];exact r g
 .by_cases q:g=f
  .rw[q];exact(qM f y fs).1
  .refine(qM f y fs).2 g (wi g λz=>hg ?_);show (if g=f then some u else mA g)=none;rw[if_neg q];exact z
def Inv.made (I:Inv X pins σ H s):Inv X pins σ (upd (upd H s.heap.objs.size (.own (s.heap.objs.size+1))) (s.heap.objs.size+1) (.ins C s.heap.objs.size []))
 { s with heap:=(s.heap.push PySem.W.emptyDict).push (PySem.W.instObj C s.heap.objs.size) }:=by
 have e1:(s.heap.push PySem.W.emptyDict).get? s.heap.objs.size=some PySem.W.emptyDict:=aEg s.heap rfl;have e2:((s.heap.push PySem.W.emptyDict).push (PySem.W.instObj C s.heap.objs.size)).get? (s.heap.objs.size+1)=some (PySem.W.instObj C s.heap.objs.size):=by
  have:=aEg (s.heap.push PySem.W.emptyDict) (o:=PySem.W.instObj C s.heap.objs.size) rfl
  rwa [Heap.size_push]at this
 have z:(s.heap.push PySem.W.emptyDict).Ns s.heap.objs.size (λ_=>none):=⟨PySem.W.emptyDict,#[],_,e1,rfl,(λe he=>absurd he (by simp)),λ_=>rfl⟩;have B:=I.laid (a:=s.heap.objs.size) (o:=.own (s.heap.objs.size+1)) (h':=s.heap.push PySem.W.emptyDict) (t':=s.toks) (λb u q=>aEa _ q) (Nat.le_refl _) ⟨_,e1⟩;refine B.laid (a:=s.heap.objs.size+1) (o:=.ins C s.heap.objs.size []) (t':=s.toks) (λb u q=>aEa _ q) (Nat.le_of_eq (Heap.size_push _ _)) ?_;have ne:s.heap.objs.size≠s.heap.objs.size+1:=aEw (Nat.lt_succ_self _);refine⟨by rw[aF ne,aB],Nat.zero_le _,ne,e2,λ_=>none,(Heap.Ns1.of_empty z).at λo q=>aEa _ q,λ_=>True.intro,λy D=>absurd rfl D⟩
def aBZ {prog:Program} {w:World} {env:Env} {e:Expr} {f:Str} {pos:Pos} {s:Shared} {Q:Value->Shared->Prop} (B:attributeBase e f env (eval e env)=eval e env)
 (h:wpAny (model prog w) A (eval e env) (λo z=>wpAny (model prog w) A (getAttr o f true) Q E z) E s):wpAny (model prog w) A (eval (.Attribute e f pos) env) Q E s :=
 Attribute_any_ h (by rw[arm_eval_Attribute,B])
end
def aEM (K:PySem.W.Frag) (ta:TE) (f:Str):TE:=fun σ H Q=>ta σ H λx H1=>∃ a C dx fs v,x=.ref a/\H1 a=some (.ins C dx fs)/\Cls K C/\NoAttr K C f/\fs.lookup f=some v/\Q v H1
def aEN (K:PySem.W.Frag) (ta tv:TE) (f:Str):TS:=λD σ H=>tv σ H λy H1=>ta σ H1 λx H2=>∃ a C dx fs,x=.ref a/\H2 a=some (.ins C dx fs)/\Cls K C/\NoAttr K C f/\fs.length<1000 /\
 D.nx σ (upd H2 a (.ins C dx (nI f y fs)))
section
variable {X:Cx} {o e value:Expr} {f:Str} {pos pos' ag:Pos} {ta tv:TE}
def bJ (he:PE X e ta) (z:attributeBase e f X.env (eval e X.env)=eval e X.env):PE X (.Attribute e f pos) (aEM X.K ta f):=by
 intro pins s σ H Q I h;refine aBZ z (thn (he pins s σ H _ I h) λu U ⟨x,H1,B,D,a,C,dx,fs,v,ex,J,c,n,l,q⟩=>?_);subst ex;obtain rfl:u=Value.ref a:=D;exact O2 B J c n l λY s2 L M=>⟨v,H1,L,M,q⟩
def dW (z:PE X o ta) (B:PE X value tv) (hs:swapsWith value (some (.Attribute o f pos')) pos.line X.env=pure false):PS X (.Assign [.Attribute o f pos'] value pos) (aEN X.K ta tv f):=by
 intro pins s σ H D I h;refine plainObj_wpAny_Assign_Attribute (thn (B pins s σ H _ I h) λu J ⟨y,H1,L,M,q⟩=>thn (z pins J σ H1 _ L q) λU s2 ⟨x,H2,Y,rx,a,C,dx,fs,ex,ea,c,n,l,q2⟩=>?_) hs;subst ex;obtain rfl:U=Value.ref a:=rx;exact O3 Y ea c n l M λs3 I3=>⟨σ,_,I3,q2⟩
end
section
variable {X:Cx} {pins:List (Addr×Obj)} {σ:St} {H:Hp} {s:Shared} {A:Around} {E:Value->Shared->Prop} {Q:Value->Shared->Prop} {c:Value} {b:Bool}
inductive qO (K:PySem.W.Frag) (H:Hp):V->Value->Prop where
 | non:qO K H .non (.type "NoneType")
 | bl (x:Bool):qO K H (.bl x) (.type "bool")
 | int (i:Int):qO K H (.int i) (.type "int")
 | str (x:Str):qO K H (.str x) (.type "str")
 | flt (x:UInt64):qO K H (.flt x) (.type "float")
 | lst {a:Addr} {xs:List V} (e:H a=some (.lst xs)):qO K H (.ref a) (.type "list")
 | frz {a:Addr} {o:Obj} {xs:List V} (e:H a=some (.frz o (.lst xs))):qO K H (.ref a) (.type "list")
 | tup {a:Addr} {xs:List V} (e:H a=some (.tup xs)):qO K H (.ref a) (.type "tuple")
 | dK {a:Addr} {kvs:List (Key×V)} (e:H a=some (.dK kvs)):qO K H (.ref a) (.type "dict")
 | dT {a:Addr} {kvs:List (List Key×V)} (e:H a=some (.dT kvs)):qO K H (.ref a) (.type "dict")
 | ins {a C dx:Addr} {fs:List (Str×V)} (e:H a=some (.ins C dx fs)) (cl:Cls K C) (ha:PySem.W.findIn K (.ref C) "__class__"=some (some (.builtin "object.__class__")))
  (hn:PySem.W.specialIn K (.builtin "object.__class__") "__get__"=some (some (.builtin "getset_descriptor.__get__"))) (htk:PySem.W.takesIn K (.builtin "object.__class__")=some true)
  (hm:PySem.W.mroIn K C (.type "object")=some true):qO K H (.ref a) (.ref C)
def Z1 {x:V} {u t:Value} (I:Inv X pins σ H s) (B:RelV x u) (ty:qO X.K H x t) (e:PySem.W.kitOne X.K t c=some b) (h:∀ tk,Q (.bool b) { s with toks:=tk }) :
 wpAny (model X.prog X.w) A (call (.builtin "isinstance") [u,c]) Q E s:=by
 cases ty with
 | non=>cases (show u=Value.none from B);exact PySem.W.kia_one PySem.W.kitx_none I.kIn True.intro e (λz=>nomatch z) h
 | bl y=>cases (show u=Value.bool y from B);exact PySem.W.kia_one PySem.W.kitx_bool I.kIn True.intro e (λz=>nomatch z) h
 | int i=>obtain⟨t,q⟩:=(show ∃ t,u=Value.int i t from B);cases q;exact PySem.W.kia_one PySem.W.kitx_int I.kIn True.intro e (λz=>nomatch z) h
 | str y=>obtain⟨t,q⟩:=(show ∃ t,u=Value.str y t from B);cases q;exact PySem.W.kia_one PySem.W.kitx_str I.kIn True.intro e (λz=>nomatch z) h
 | flt y=>obtain⟨t,q⟩:=(show ∃ t,u=Value.float y t from B);cases q;exact PySem.W.kia_one PySem.W.kitx_float I.kIn True.intro e (λz=>nomatch z) h
 | @lst a xs D =>
  cases (show u=Value.ref a from B);obtain⟨_,_,n,_,h1⟩:=(show ObjOk X.prog X.w H s.heap a (.lst xs) from I.hok a _ D);exact PySem.W.kia_one PySem.W.kitx_list I.kIn ⟨_,h1,rfl⟩ e (λz=>nomatch z) h
 | @frz a U xs D =>
  cases (show u=Value.ref a from B);obtain⟨_,_,_,n,_,h1⟩:=(show ObjOk X.prog X.w H s.heap a (.frz U (.lst xs)) from I.hok a _ D);exact PySem.W.kia_one PySem.W.kitx_list I.kIn ⟨_,h1,rfl⟩ e (λz=>nomatch z) h
 | @tup a xs D =>
  cases (show u=Value.ref a from B);obtain⟨_,_,_,p⟩:=(show ObjOk X.prog X.w H s.heap a (.tup xs) from I.hok a _ D);obtain⟨o,h1,h2,_⟩:=p;exact PySem.W.kia_one PySem.W.kitx_tuple I.kIn ⟨o,h1,h2⟩ e (λz=>nomatch z) h
 | @dK a kvs D =>
  cases (show u=Value.ref a from B);obtain⟨_,_,vs,_,p⟩:=(show ObjOk X.prog X.w H s.heap a (.dK kvs) from I.hok a _ D);obtain⟨o,es,ep,h1,h2,_⟩:=p;exact PySem.W.kia_one PySem.W.kitx_dict I.kIn ⟨o,h1,h2.1⟩ e (λz=>nomatch z) h
 | @dT a kvs D =>
  cases (show u=Value.ref a from B);obtain⟨_,_,xs,_,o,es,ep,h1,h2,_⟩:=(show ObjOk X.prog X.w H s.heap a (.dT kvs) from I.hok a _ D);exact PySem.W.kia_one PySem.W.kitx_dict I.kIn ⟨o,h1,h2.1⟩ e (λz=>nomatch z) h
 | @ins a C dx fs D M Y hn L hm =>
  cases (show u=Value.ref a from B);obtain⟨mA,O,_⟩:=sV I.hok D;obtain⟨od,J,_⟩:=O.look;exact PySem.W.kia_one (PySem.W.kitx_own (M.get _) M.hd Y hn L hm) I.kIn J e (λz=>nomatch z) h
end
structure Room (k:Nat) (A:Around):Prop where
 hd:A.handled=none
 dp:A.depth+3 * k+5<recursionLimit
 un:A.units+16 * k+200<cLine
def Room.mono {j k:Nat} {A:Around} (r:Room k A) (h:j<=k):Room j A:=⟨r.hd,by have:=r.dp;omega,by have:=r.un;omega⟩
def Room.deeper {k:Nat} {A:Around} (r:Room (k+1) A) (env:Env):Room k (A.deeper env) :=
 ⟨r.hd,by have:=r.dp;show A.depth+1+3 * k+5<_;omega,by have:=r.un;show A.units+3+16 * k+200<_;omega⟩
def O4 {A:Around} {C:Addr} {us:List Value} {z:List (Str×Value)}:(A.under (.builtin "type.__call__" ⟨.ref C :: us,z⟩)).depth=A.depth+1:=by
 first | rfl | simp[Around.under,Code.weight,Code.isCreation,Code.isGuard,Code.isCaller,Code.frames,Code.isFrame,guardIds]
def O5 {A:Around} {C:Addr} {us:List Value} {z:List (Str×Value)}:(A.under (.builtin "type.__call__" ⟨.ref C :: us,z⟩)).units=A.units+1:=by
 first | rfl | simp[Around.under,Code.cUnits,Code.frames,Code.isFrame]
def Room.make {k:Nat} {A:Around} (r:Room (k+1) A) (C:Addr) (us:List Value) (z:List (Str×Value)):Room k (A.under (.builtin "type.__call__" ⟨.ref C :: us,z⟩)) :=
 ⟨r.hd,by have:=r.dp;rw[O4];omega,by have:=r.un;rw[O5];omega⟩
def Room.depth {k:Nat} {A:Around} (r:Room k A):A.depth<recursionLimit:=by have:=r.dp;omega
def Room.units {k:Nat} {A:Around} (r:Room k A):A.units+64<cLine:=by have:=r.un;omega
def Z2:TA:=λ_ H Q=>Q [] H
def aCS (ta:TE) (tr:TA):TA:=fun σ H Q=>ta σ H λx H1=>tr σ H1 λxs H2=>Q (x :: xs) H2
section
variable {X:Cx} {e:Expr} {es:List Expr} {te:TE} {t:TA} {pos:Pos}
def aE:PA X [] Z2:=λ_ _ _ _ H Q I h=>Calls.spliced_nil ⟨[],H,I,.nil,h⟩
def aA (z:PE X e te) (B:PA X es t) (hs:starEach (e :: es) X.env=(false,eval e X.env) :: starEach es X.env:=by rfl):PA X (e :: es) (aCS te t):=by
 intro pos pins s σ H Q I h;rw[hs];show wpAny _ _ (spliced ((false,eval e X.env) :: backTo pos (starEach es X.env))) _ _ s;refine Calls.spliced_cons (thn (z pins s σ H _ I h) λu D ⟨x,H1,J,r1,L⟩=>?_);exact thn (B pos pins D σ H1 _ J L) λus Y ⟨xs,H2,M,r2,U⟩=>⟨x :: xs,H2,M,.cons r1 r2,U⟩
def aEO (t:TA):TE:=fun σ H Q=>t σ H λxs H1=>xs.length<=sizeLine/\∀ p,H1 p=none->Q (.ref p) (upd H1 p (.tup xs))
def aEP (t:TA):TE:=fun σ H Q=>t σ H λxs H1=>xs.length<=sizeLine/\∀ p,H1 p=none->Q (.ref p) (upd H1 p (.lst xs))
def bW {J} (h:PA X es t):PE X (.Tuple es J pos) (aEO t):=by
 intro pins s σ H Q I L;refine wpAny_Tuple_spliced (thn (h pos pins s σ H _ I L) λus B ⟨xs,H1,D,r,z,q⟩=>⟨by rw[<- r.length];exact z,?_⟩);have M:H1 B.heap.objs.size=none:=D.hok.fresh (Nat.le_refl _);refine⟨.ref B.heap.objs.size,upd H1 B.heap.objs.size (.tup xs),D.laid (t':=B.toks) (λb u e=>aEa _ e) (Nat.le_refl _) ?_,rfl,q _ M⟩;exact⟨z,us,r,⟨_,aEg _ rfl,rfl,_,rfl⟩⟩
def cZ (h:PA X es t):PE X (.List es pos) (aEP t):=by
 intro pins s σ H Q I J;refine wpAny_List_spliced (thn (h pos pins s σ H _ I J) λus B ⟨xs,H1,D,r,z,q⟩=>⟨by rw[<- r.length];exact z,?_⟩);have L:H1 B.heap.objs.size=none:=D.hok.fresh (Nat.le_refl _);refine⟨.ref B.heap.objs.size,upd H1 B.heap.objs.size (.lst xs),D.laid (t':=B.toks) (λb u e=>aEa _ e) (Nat.le_refl _) ?_,rfl,q _ L⟩;exact⟨z,us,0,r,aEg _ rfl⟩
end
abbrev Sp:=List V->Hp->VK->XK->Prop
abbrev CXT:=List Env->Hp->Shared->XK->Value->Shared->Prop
structure Env0 (P:Program) (w:World) (K:PySem.W.Frag) (mg:Str->Option Value) (base:Heap) (A:Around) (outer:List Env) (s:Shared) (H:Hp):Prop where
 frames:A.frames=some outer
 mod:Mod K mg base
 bs:∀ b o,base.get? b=some o->s.heap.get? b=some o/\H b=none
 bsz:base.objs.size<=s.heap.objs.size
 funs:s.heap.FunFrames base outer
 frf:∀ b∈frs outer,H b=none
 hok:HOk P w H s.heap
 bare:AllBare s.gens
def CE (outer:List Env) (P:Program) (w:World) (H:Hp) (s:Shared) (Q:VK) (u:Value) (s':Shared):Prop :=
 ∃ v H',s'.os=s.os/\AllBare s'.gens/\Un (frs outer) [] H H' s.heap s'.heap/\HOk P w H' s'.heap/\RelV v u/\Q v H'
def CR (CX:CXT) (outer:List Env) (P:Program) (w:World) (H:Hp) (s:Shared) (Q:VK) (E:XK) (r:Result) (s':Shared):Prop :=
 match r with
 | .ok (.ret u)=>CE outer P w H s Q u s'
 | .ok _=>False
 | .error e=>CX outer H s E e s'
structure FnOk (P:Program) (w:World) (K:PySem.W.Frag) (mg:Str->Option Value) (base:Heap) (CX:CXT) (k:Nat) (f:Addr) (fd:FuncData) (ps:List Str) (sp:Sp):Prop where
 len:∀ vs H Q E,sp vs H Q E->vs.length=ps.length
 run:∀ (A:Around) (outer:List Env) (s:Shared) (H:Hp) (args:Args) (us:List Value) (vs:List V) (Q:VK) (E:XK),Room k A->Env0 P w K mg base A outer s H->BindsTo s fd args (ps.zip us)->Vals vs us->sp vs H Q E ->
  codeAny (model P w) A (.call (.ref f) args) (CR CX outer P w H s Q E) s
def FnOk.imp {P:Program} {w:World} {K:PySem.W.Frag} {mg:Str->Option Value} {base:Heap} {CX:CXT} {k:Nat} {f:Addr} {fd:FuncData} {ps:List Str} {sp z:Sp} (F:FnOk P w K mg base CX k f fd ps sp)
 (h:∀ vs H Q E,z vs H Q E->sp vs H Q E):FnOk P w K mg base CX k f fd ps z :=
 ⟨λvs H Q E q=>F.len vs H Q E (h _ _ _ _ q),λA outer s H args us vs Q E B he D I hs=>F.run A outer s H args us vs Q E B he D I (h _ _ _ _ hs)⟩
def Env0.make {P:Program} {w:World} {K:PySem.W.Frag} {mg:Str->Option Value} {base:Heap} {A:Around} {outer:List Env} {s:Shared} {H:Hp} (e:Env0 P w K mg base A outer s H) (C:Addr) (us:List Value) (z:List (Str×Value)) :
 Env0 P w K mg base (A.under (.builtin "type.__call__" ⟨.ref C :: us,z⟩)) outer s H:=⟨by first | exact e.frames | (simpa[Around.under,Code.envs,Code.isFrame,pushEnvs]using e.frames),e.mod,e.bs,e.bsz,e.funs,e.frf,e.hok,e.bare⟩
section
variable {X:Cx} {pins:List (Addr×Obj)} {σ:St} {H:Hp} {s s':Shared}
def Inv.env0 (I:Inv X pins σ H s):Env0 X.prog X.w X.K X.mg X.base X.A X.stack s H :=
 ⟨I.ok.frames,I.ok.mod,I.bs,Nat.le_trans I.ok.bsz I.sz,I.stack,I.stkFree,I.hok,I.bare⟩
def Inv.after {Q:VK} {u:Value} (I:Inv X pins σ H s) (h:CE X.stack X.prog X.w H s Q u s'):EP X pins σ Q u s':=by
 obtain⟨v,H',os,bare,un,hok,r,q⟩:=h;obtain⟨D,g,d,t,B⟩:=s';obtain rfl:B=s.os:=os;exact⟨v,H',I.call (h':=D) (g':=g) (d':=d) (t':=t) (ch:=[]) un hok bare (λb z=>absurd z (by simp)),r,q⟩
end
def aCT (sp:Sp) (ae:List V) (E:XK) (t:TA):TE:=fun σ H Q=>t σ H λvs H1=>sp (vs++ae) H1 Q E
def U8 (C:Addr) (m:Str) (sp:Sp) (ae:List V) (E:XK) (ta:TE) (t:TA):TE:=fun σ H Q=>ta σ H λx H1=>∃ a dx fs,x=.ref a/\H1 a=some (.ins C dx fs)/\fs.lookup m=none /\
 t σ H1 λvs H2=>sp (x :: (vs++ae)) H2 Q E
def U9 (C:Addr) (sp:Sp) (ae:List V) (E:XK) (t:TA):TE:=fun σ H Q=>t σ H λvs H1=>∀ x dx,H1 x=none->H1 dx=none->dx≠x ->
 sp (.ref x :: (vs++ae)) (upd (upd H1 dx (.own x)) x (.ins C dx [])) (λv H2=>v=.non/\Q (.ref x) H2) E
def Binds (K:PySem.W.Frag) (fd:FuncData) (ps:List Str) (ds:List Value):Prop :=
 ∀ (s:Shared) (us:List Value),K.In s.heap->(us++ds).length=ps.length->BindsTo s fd ⟨us,[]⟩ (ps.zip (us++ds))
def Binds.all {K:PySem.W.Frag} {fd:FuncData} {ps:List Str} (h:∀ us:List Value,us.length=ps.length->bindArgs fd ⟨us,[]⟩=pure (ps.zip us)):Binds K fd ps []:=λs us _ z=>by
 rw[List.append_nil]at z ⊢;exact .of_eq (h us z)
def lE (CX:CXT) (X:Cx) (E:XK):Prop:=∀ (pins:List (Addr×Obj)) (σ:St) (H:Hp) (s:Shared) (e:Value) (s':Shared),Inv X pins σ H s->CX X.stack H s E e s'->X.xe e s'
section
variable {X:Cx} {CX:CXT} {k:Nat} {f C:Addr} {fd:FuncData} {ps:List Str} {sp:Sp} {ae:List V} {ds:List Value} {E:XK} {x m:Str} {p pos apos:Pos} {e o:Expr} {es:List Expr} {ta:TE} {t:TA}
def zA {pins:List (Addr×Obj)} {σ:St} {H:Hp} {s:Shared} {Q:VK} {us:List Value} {vs:List V} (F:FnOk X.prog X.w X.K X.mg X.base CX k f fd ps sp) (B:Room k X.A) (D:Binds X.K fd ps ds) (hd:Vals ae ds) (J:lE CX X E)
 (I:Inv X pins σ H s) (r:Vals vs us) (h:sp (vs++ae) H Q E):wpAny (model X.prog X.w) X.A (call (.ref f) us) (EP X pins σ Q) X.xe s:=by
 have r2:Vals (vs++ae) (us++ds):=r.append hd;have L:(us++ds).length=ps.length:=by rw[<- r2.length];exact F.len _ _ _ _ h
 refine wpAny_call (codeAny_mono (F.run X.A X.stack s H ⟨us,[]⟩ (us++ds) (vs++ae) Q E B I.env0 (D s us I.kIn L) r2 h) λr s' z=>?_);cases r with
 | error e=>exact J pins σ H s e s' I z
 | ok M =>
  cases M with
  | ret u=>exact I.after z
  | next=>exact False.elim z
  | brk=>exact False.elim z
  | cont=>exact False.elim z
def aB0 (F:FnOk X.prog X.w X.K X.mg X.base CX k f fd ps sp) (B:Room k X.A) (D:Gl X x) (J:X.mg x=some (.ref f)) (L:PySem.W.keepIn X.K (.ref f)=true) (M:Binds X.K fd ps ds) (hd:Vals ae ds) (U:lE CX X E)
 (Y:PA X (e :: es) t) (hdb:(x == ("__debug__":Str))=false:=by decide) (he:starEach (e :: es) X.env=(false,eval e X.env) :: starEach es X.env:=by rfl) (hpl:(backTo pos (starEach es X.env)).any (·.1)=false:=by rfl) :
 PE X (.Call (.Name x p) (e :: es) [] pos) (aCT sp ae E t):=by
 intro pins s σ H Q I h;refine wpAny_Call_Name_kw (oQ I D J ?_ hdb);refine PySem.W.callWith_K (h₀:=X.base) I.ok.mod.kin L (thn (Y pos pins s σ H _ I h) λus s1 ⟨vs,H1,z,r,q⟩=>⟨z.kIn,?_⟩) he hpl;exact zA F B M hd U z r q
def aB1 {pl:Sem Bool} (he:PE X o ta) (c:Cls X.K C) (z:u6 X.K C m f) (F:FnOk X.prog X.w X.K X.mg X.base CX k f fd ps sp) (L:Room k X.A) (M:Binds X.K fd ps ds) (hd:Vals ae ds) (U:lE CX X E) (Y:PA X (e :: es) t)
 (hst:starEach (e :: es) X.env=(false,eval e X.env) :: starEach es X.env:=by rfl) (hpl:(backTo pos (starEach es X.env)).any (·.1)=false:=by rfl)
 (ht:eval (.Call (.Attribute o m apos) (e :: es) [] pos) X.env=(do
  let B <- eval o X.env
  standAt apos.atName
  let (f,first) <- holding [B] (getMethod B m pl)
  callWith pos f first (backTo pos (starEach (e :: es) X.env)) (backToKw pos (keywordEach [] X.env))):=by rfl) :
 PE X (.Call (.Attribute o m apos) (e :: es) [] pos) (U8 C m sp ae E ta t):=by
 intro pins s σ H Q I h;refine PySem.W.methodCall_KW (pl:=pl) (thn (he pins s σ H _ I h) λu s1 ⟨x,H1,D,rx,a,dx,fs,ex,ea,l,q⟩=>?_) ht;subst ex;obtain rfl:u=Value.ref a:=rx;refine uB D ea c z l ?_;refine PySem.W.callWith_K (first:=[.ref a]) (h₀:=X.base) I.ok.mod.kin z.kp (thn (Y pos pins s1 σ H1 _ D q) λus s2 ⟨vs,H2,J,r,q2⟩=>⟨J.kIn,?_⟩) hst hpl;exact zA (us:=.ref a :: us) (vs:=.ref a :: vs) F L M hd U J (.cons rfl r) q2
def u7 {pl:Sem Bool} (he:PE X o ta) (c:Cls X.K C) (B:u6 X.K C m f) (F:FnOk X.prog X.w X.K X.mg X.base CX k f fd ps sp) (J:Room k X.A) (L:Binds X.K fd ps ds) (hd:Vals ae ds) (M:lE CX X E)
 (ht:eval (.Call (.Attribute o m apos) [] [] pos) X.env=(do
  let D <- eval o X.env
  standAt apos.atName
  let (f,first) <- holding [D] (getMethod D m pl)
  callWith pos f first (backTo pos (starEach [] X.env)) (backToKw pos (keywordEach [] X.env))):=by rfl) :
 PE X (.Call (.Attribute o m apos) [] [] pos) (U8 C m sp ae E ta Z2):=by
 intro pins s σ H Q I h;refine PySem.W.methodCall_KW (pl:=pl) (thn (he pins s σ H _ I h) λu s1 ⟨x,H1,z,U,a,dx,fs,ex,Y,l,q⟩=>?_) ht;subst ex;obtain rfl:u=Value.ref a:=U;refine uB z Y c B l ?_;exact PySem.W.callWith_K0 (first:=[.ref a]) z.kIn B.kp (zA (us:=[.ref a]) (vs:=[.ref a]) F J L hd M z (.cons rfl .nil) q)
structure Mk (K:PySem.W.Frag) (C f:Addr):Prop where
 makes:PySem.W.makesIn K C=true
 init:PySem.W.findIn K (.ref C) "__init__"=some (some (.ref f))
 fn:PySem.W.isFn K (.ref f)=true
 kp:PySem.W.keepIn K (.ref C)=true
def E9 {pins:List (Addr×Obj)} {σ:St} {H:Hp} {s:Shared} {Q:VK} {us:List Value} {vs:List V} (M:Mk X.K C f) (F:FnOk X.prog X.w X.K X.mg X.base CX k f fd ps sp) (J:Room (k+1) X.A) (L:Binds X.K fd ps ds) (hd:Vals ae ds)
 (U:lE CX X E) (I:Inv X pins σ H s) (r:Vals vs us)
 (h:∀ x dx,H x=none->H dx=none->dx≠x->sp (.ref x :: (vs++ae)) (upd (upd H dx (.own x)) x (.ins C dx [])) (λv H2=>v=.non/\Q (.ref x) H2) E) :
 wpAny (model X.prog X.w) X.A (call (.ref C) us) (EP X pins σ Q) X.xe s:=by
 have D:=h (s.heap.objs.size+1) s.heap.objs.size (I.hok.fresh (Nat.le_succ _)) (I.hok.fresh (Nat.le_refl _)) (aEw (Nat.lt_succ_self _));have B:=Inv.made (C:=C) I;have r2:Vals (V.ref (s.heap.objs.size+1) :: (vs++ae)) (Value.ref (s.heap.objs.size+1) :: (us++ds)):=.cons rfl (r.append hd);have Y:(Value.ref (s.heap.objs.size+1) :: us++ds).length=ps.length:=by
  have e:=r2.length;rw[F.len _ _ _ _ D]at e;exact e.symm
 refine wpAny_call (u5 (f:=f) I.kIn M.makes M.init (beq_iff_eq.mp M.fn) (codeAny_mono (F.run _ X.stack _ _ ⟨Value.ref (s.heap.objs.size+1) :: us,[]⟩ (Value.ref (s.heap.objs.size+1) :: (us++ds)) _ _ E (J.make C us [])
  (B.env0.make C us []) (L _ (Value.ref (s.heap.objs.size+1) :: us) B.kIn Y) r2 D) λr s' z=>?_))
 cases r with
 | error e=>exact U pins σ _ _ e s' B z
 | ok fl =>
  cases fl with
  | ret u =>
   obtain⟨v,H',I3,rv,ev,q3⟩:=B.after z;subst ev;exact⟨rv,⟨V.ref (s.heap.objs.size+1),H',I3,rfl,q3⟩⟩
  | next=>exact False.elim z
  | brk=>exact False.elim z
  | cont=>exact False.elim z
def aB2 (M:Mk X.K C f) (F:FnOk X.prog X.w X.K X.mg X.base CX k f fd ps sp) (B:Room (k+1) X.A) (D:Gl X x) (J:X.mg x=some (.ref C)) (L:Binds X.K fd ps ds) (hd:Vals ae ds) (U:lE CX X E)
 (Y:PA X (e :: es) t) (hdb:(x == ("__debug__":Str))=false:=by decide) (he:starEach (e :: es) X.env=(false,eval e X.env) :: starEach es X.env:=by rfl) (hpl:(backTo pos (starEach es X.env)).any (·.1)=false:=by rfl) :
 PE X (.Call (.Name x p) (e :: es) [] pos) (U9 C sp ae E t):=by
 intro pins s σ H Q I h;refine wpAny_Call_Name_kw (oQ I D J ?_ hdb);refine PySem.W.callWith_K (h₀:=X.base) I.ok.mod.kin M.kp (thn (Y pos pins s σ H _ I h) λus s1 ⟨vs,H1,z,r,q⟩=>⟨z.kIn,?_⟩) he hpl;exact E9 M F B L hd U z r q
def u8 (M:Mk X.K C f) (F:FnOk X.prog X.w X.K X.mg X.base CX k f fd ps sp) (z:Room (k+1) X.A) (B:Gl X x) (D:X.mg x=some (.ref C)) (J:Binds X.K fd ps ds) (hd:Vals ae ds) (L:lE CX X E)
 (hdb:(x == ("__debug__":Str))=false:=by decide):PE X (.Call (.Name x p) [] [] pos) (U9 C sp ae E Z2):=by
 intro pins s σ H Q I h;refine wpAny_Call_Name_kw (oQ I B D ?_ hdb);exact PySem.W.callWith_K0 I.kIn M.kp (E9 (us:=[]) M F z J hd L I .nil h)
end
def PK (X:Cx) (ai:List Keyword) (t:TA):Prop :=
 ∀ (pos:Pos) (pins:List (Addr×Obj)) (s:Shared) (σ:St) (H:Hp) (Q:List V->Hp->Prop),Inv X pins σ H s->t σ H Q->wpAny (model X.prog X.w) X.A (evalAll ((backToKw pos (keywordEach ai X.env)).map (·.2))) (AP X pins σ Q) X.xe s
section
variable {X:Cx} {CX:CXT} {k:Nat} {f C:Addr} {fd:FuncData} {ps ks:List Str} {sp:Sp} {E:XK} {x m:Str} {p pos apos ak:Pos} {e o:Expr} {es:List Expr} {ai:List Keyword} {te ta:TE} {t tk:TA} {nm:Option Str}
def aCa:PK X [] Z2:=λ_ _ _ _ H Q I h=>wpAny_evalAll_nil ⟨[],H,I,.nil,h⟩
def aB3 (z:PE X e te) (B:PK X ai t):PK X (⟨nm,e,ak⟩ :: ai) (aCS te t):=by
 intro pos pins s σ H Q I h;show wpAny _ _ (evalAll ((do let v <- eval e X.env;standAt pos;pure v) :: (backToKw pos (keywordEach ai X.env)).map (·.2))) _ _ s;refine wpAny_evalAll_cons (aE7 (thn (z pins s σ H _ I h) λu D ⟨x,H1,J,r1,L⟩=>aE7 (wpAny_standAt (aE8 ?_))));exact thn (B pos pins D σ H1 _ J L) λus Y ⟨xs,H2,M,r2,U⟩=>⟨x :: xs,H2,M,.cons r1 r2,U⟩
variable {g:List Value->List Value->List Value} {gV:List V->List V->List V}
end
structure aN (N P:List Str) (sc:Scope):Prop where
 kind:sc.kind=.function
 co:sc.isCoroutine=false
 gen:sc.isGenerator=false
 nd:N.Nodup
 pre:N.take P.length=P
 par:∀ x∈P,sc.names.lookup x=some .local\/sc.names.lookup x=some .cell
 nofree:∀ y∈sc.names,y.2≠.free
def xJ {kindOf:Str->Option NameKind} {x:Str}:∀ {binds:List (Str×Value)} {m:Str->Option Value},(∀ v,(x,v)∉binds)->bindL kindOf binds m x=m x
 | [],_,_=>rfl
 | (n,v) :: r,m,h=>by
  unfold bindL;rw[xJ λw hw=>h w (aEc _ hw)];split
  .have:x≠n:=by rintro rfl;exact h v aEb
   simp[this]
  .rfl
def xL {kindOf:Str->Option NameKind} {x:Str}:∀ {binds:List (Str×Value)} {m:Str->Option Value},(∀ v,(x,v)∉binds)->bindC kindOf binds m x=m x
 | [],_,_=>rfl
 | (n,v) :: r,m,h=>by
  unfold bindC;rw[xL λw hw=>h w (aEc _ hw)];split
  .rfl
  .have:x≠n:=by rintro rfl;exact h v aEb
   simp[this]
def xM {kindOf:Str->Option NameKind} {x:Str} {v:Value}:∀ {P:List Str} {vs:List Value} {i:Nat} {m:Str->Option Value},P.Nodup->P[i]?=some x->vs[i]?=some v->kindOf x=some .local ->
 bindL kindOf (P.zip vs) m x=some v
 | [],_,_,_,_,h,_,_=>by simp at h
 | _ :: _,[],_,_,_,_,h,_=>by simp at h
 | p :: P,w :: vs,0,m,nd,h1,h2,z=>by
  simp at h1 h2;subst h1;subst h2;show bindL kindOf ((p,w) :: P.zip vs) m p=_;unfold bindL;rw[xJ λv B=>(List.nodup_cons.mp nd).1 (List.of_mem_zip B).1,if_pos z];simp
 | p :: P,w :: vs,i+1,m,nd,h1,h2,z=>by
  show bindL kindOf ((p,w) :: P.zip vs) m x=_;unfold bindL;exact xM (i:=i) (List.nodup_cons.mp nd).2 (by simpa using h1) (by simpa using h2) z
def xN {kindOf:Str->Option NameKind} {x:Str} {v:Value}:∀ {P:List Str} {vs:List Value} {i:Nat} {m:Str->Option Value},P.Nodup->P[i]?=some x->vs[i]?=some v->kindOf x≠some .local ->
 bindC kindOf (P.zip vs) m x=some v
 | [],_,_,_,_,h,_,_=>by simp at h
 | _ :: _,[],_,_,_,_,h,_=>by simp at h
 | p :: P,w :: vs,0,m,nd,h1,h2,z=>by
  simp at h1 h2;subst h1;subst h2;show bindC kindOf ((p,w) :: P.zip vs) m p=_;unfold bindC;rw[xL λv B=>(List.nodup_cons.mp nd).1 (List.of_mem_zip B).1,if_neg z];simp
 | p :: P,w :: vs,i+1,m,nd,h1,h2,z=>by
  show bindC kindOf ((p,w) :: P.zip vs) m x=_;unfold bindC;exact xN (i:=i) (List.nodup_cons.mp nd).2 (by simpa using h1) (by simpa using h2) z
def rX (N:List Str) (vs:List V):St:=vs.map some++List.replicate (N.length - vs.length) none
def Z3 (CX:CXT) (P:Program) (w:World) (K:PySem.W.Frag) (mg:Str->Option Value) (base:Heap) (N:List Str) (qual:Str) (scope:Scope) (f:Addr) (cd:Value) (A:Around) (outer:List Env) (s:Shared) (H:Hp) (E:XK):Cx where
 prog:=P
 w:=w
 K:=K
 mg:=mg
 base:=base
 A:=A.deeper (envOfC qual scope s.heap.objs.size f cd)
 N:=N
 s₀:=s
 H₀:=H
 env:=envOfC qual scope s.heap.objs.size f cd
 outer:=outer
 stack:=envOfC qual scope s.heap.objs.size f cd :: outer
 ex:=[]
 calm:=true
 fn:=λ_=>true
 pn:=[]
 xe:=λe s'=>wpAny (model P w) (A.deeper (envOfC qual scope s.heap.objs.size f cd)) (leaving (envOfC qual scope s.heap.objs.size f cd) e) (λ_ s''=>CX outer H s E e s'') (λe' s''=>CX outer H s E e' s'') s'
def F0 {z:Scope} {n:Nat} {x:Str} (h:z.names.lookup x=some .cell):∃ c,(cellsFrom n z.names []).lookup x=some c:=by
 have q:=PySem.W.cellsFrom_some z.names n [] (.inl h);exact Option.isSome_iff_exists.mp q
def Z4 {CX:CXT} {P:Program} {w:World} {K:PySem.W.Frag} {mg:Str->Option Value} {base:Heap} {N ps:List Str} {qual:Str} {scope:Scope} {f:Addr} {L:Value} {A:Around} {outer:List Env} {s M:Shared} {H:Hp} {E:XK} {us:List Value} {vs:List V}
 (S:aN N ps scope) (hd:A.handled=none) (B:Env0 P w K mg base A outer s H) (hl:vs.length=ps.length) (r:Vals vs us)
 (x:InCallC s s.heap.objs.size (bindL (envOfC qual scope s.heap.objs.size f L).kindOf (ps.zip us) λ_=>none) (cellsFrom (s.heap.objs.size+1) scope.names []) (bindC (envOfC qual scope s.heap.objs.size f L).kindOf (ps.zip us) λ_=>none) M) :
 Inv (Z3 CX P w K mg base N qual scope f L A outer s H E) [] (rX N vs) H M:=by
 have hpl:ps.length<=N.length:=by have:=congrArg List.length S.pre;rw[aEp]at this;omega
 obtain⟨h1,tk,rfl,U⟩:=x.done;have D:∀ b:Addr,b∉(Z3 CX P w K mg base N qual scope f L A outer s H E).ex:=λb z=>absurd (show b∈([]:List Addr) from z) (by simp);refine⟨⟨B.mod,S.kind,rfl,rfl,Nat.le_refl _,λy z c h1 h2=>?_,λy hy=>?_,λy c _ h=>?_,λ_=>hd,Around.frames_deeper B.frames,.inr ⟨rfl,rfl⟩,λb z=>absurd z (D b),B.bs,B.bsz,λb _ _=>D b,λb z=>absurd z (D b),B.funs,B.frf⟩,
  rfl,B.bare,Un.kept U,⟨_,x.toInCall.ns,λi y v h1 h2 h3=>?_⟩,λy c h=>⟨_,x.cell y c h⟩,B.hok.fresh (Nat.le_refl _),λy c h=>?_,λp I=>absurd (show p∈([]:List (Addr×Obj)) from I) (by simp),B.hok.kept U,?_⟩
 .exact name_of_addr x.apart (PySem.mem_of_lookup h1) (PySem.mem_of_lookup h2)
 .have hy:scope.names.lookup y=some .cell\/scope.names.lookup y=some .free:=hy;rcases hy with hy | hy
  .exact F0 hy
  .exact absurd rfl (S.nofree _ (PySem.mem_of_lookup hy))
 .exact Nat.le_of_lt (x.above y c (PySem.mem_of_lookup h))
 .have hi:i<vs.length:=by
   unfold rX at h2
   by_cases hi:i<vs.length
   .exact hi
   .rw[List.getElem?_append_right (by simpa using hi)]at h2;rw[List.getElem?_replicate]at h2;split at h2 <;> cases h2
  have ha:vs[i]?=some v:=by
   unfold rX at h2;rw[List.getElem?_append_left (by simpa using hi),aEx]at h2;cases e:vs[i]? with
   | none=>rw[e]at h2;cases h2
   | some a=>rw[e]at h2;cases h2;rfl
  obtain⟨u,Y,rv⟩:=r.get ha;have I:ps[i]?=some y:=by
   rw[<- S.pre,List.getElem?_take_of_lt (by omega)];exact h1
  have J:ps.Nodup:=by rw[<- S.pre];exact S.nd.sublist (List.take_sublist _ _)
  refine⟨u,rv,?_⟩;rcases S.par y (aEk I)with k | k
  .exact .inl ⟨k,xM J I Y k⟩
  .obtain⟨c,e⟩:=F0 (n:=s.heap.objs.size+1) k;refine .inr ⟨.inl k,c,e,?_⟩;have q:=x.cell y c e;rw[xN J I Y (by show scope.names.lookup y≠_;rw[k];decide)]at q;exact q
 .exact B.hok.fresh (Nat.le_of_lt (x.above y c (PySem.mem_of_lookup h)))
 .unfold rX;show _=N.length;rw[aEi,aE9,aEt];omega
def aD7 {CX:CXT} {P:Program} {w:World} {K:PySem.W.Frag} {mg:Str->Option Value} {base:Heap} {k:Nat} {f:Addr} {name qual:Str} {params:Arguments} {body:List Stmt} {scope:Scope} {dV kV M pm z ct oc:Value} {an od:Option Addr}
 {al:Array (Option Value)} {N ps:List Str} {sp:Sp} (lk:K.lookup f=some ⟨oc,od,.func (PySem.W.fnOf name qual params body scope dV kV M pm an z ct),al⟩) (am:PySem.W.codeIn K z qual=true) (S:aN N ps scope)
 (len:∀ vs H Q E,sp vs H Q E->vs.length=ps.length)
 (D:∀ (A:Around) (outer:List Env) (s:Shared) (H:Hp) (vs:List V) (Q:VK) (E:XK),Room k (A.deeper (envOfC qual scope s.heap.objs.size f z))->sp vs H Q E ->
  ∃ t,PSs (Z3 CX P w K mg base N qual scope f z A outer s H E) body t/\t { nx:=λ_ H'=>Q .non H',rt:=Q } (rX N vs) H) :
 FnOk P w K mg base CX (k+1) f (PySem.W.fnOf name qual params body scope dV kV M pm an z ct) ps sp:=by
 refine⟨len,λA outer s H args us vs Q E hr U hb r Y=>?_⟩;have hl:=len _ _ _ _ Y;have KX:K.In s.heap:=U.mod.kin.keeps λb o e=>(U.bs b o e).1;have lim:s.heap.NoLimit:=U.mod.nolimit.keeps λb o e=>(U.bs b o e).1;have L:∀ y∈ps.zip us,scope.names.lookup y.1=some .local\/(scope.names.lookup y.1=some .cell/\((cellsFrom (s.heap.objs.size+1) scope.names []).lookup y.1).isSome=true):=λ⟨n,v⟩ hy=>by
  rcases S.par n (List.of_mem_zip hy).1 with q | q
  .exact .inl q
  .exact .inr ⟨q,PySem.W.cellsFrom_some _ _ _ (.inl q)⟩
 refine codeAny_call_function hr.depth (KX _ _ lk) rfl S.co S.gen rfl (PySem.W.codeRec_of KX am) (hb _ _ _ _ ?_);refine wpAny_newFunctionEnv_cells S.kind L λenv he s1 x=>?_;subst he;refine⟨lim.keeps x.toInCall.keep,codeAny_func ?_⟩;obtain⟨t,ht,hq⟩:=D A outer s H vs Q E (hr.deeper _) Y;have I:Inv (Z3 CX P w K mg base N qual scope f z A outer s H E) [] (rX N vs) H s1:=Z4 S hr.hd U hl r x;refine wpAny_mono (ht [] s1 (rX N vs) H _ I hq) (λfl s' hs=>?_) λe s' hs=>hs;have fin:∀ {B:St} {H':Hp} {v:V} {u:Value},Inv (Z3 CX P w K mg base N qual scope f z A outer s H E) [] B H' s'->RelV v u->Q v H'->CE outer P w H s Q u s' :=
  λ{B H' v u} J rv q=>⟨v,H',J.os,J.bare,J.base,J.hok,rv,q⟩
 cases fl with
 | ret u =>
  obtain⟨v,B,H',J,rv,q⟩:=hs;exact fin J rv q
 | next =>
  obtain⟨B,H',J,q⟩:=hs;exact fin (v:=V.non) (u:=Value.none) J rfl q
 | brk =>
  obtain⟨_,_,_,q⟩:=hs;exact False.elim q
 | cont =>
  obtain⟨_,_,_,q⟩:=hs;exact False.elim q
section
variable {X:Cx} {x:Str} {p pos:Pos} {e:Expr} {es:List Expr} {t:TA} {id T:String} {r:List V->Hp->VK->Prop}
def tCB (r:List V->Hp->VK->Prop) (t:TA):TE:=fun σ H Q=>t σ H λvs H1=>r vs H1 Q
def aO (z:dY X (.builtin id) r) (B:Gl X x) (D:X.mg x=none) (J:bootBuiltins x=some (.builtin id)) (L:PA X (e :: es) t) (M:x≠"__name__":=by decide) (hdb:(x == ("__debug__":Str))=false:=by decide)
 (he:starEach (e :: es) X.env=(false,eval e X.env) :: starEach es X.env:=by rfl) (hpl:(backTo pos (starEach es X.env)).any (·.1)=false:=by rfl):PE X (.Call (.Name x p) (e :: es) [] pos) (tCB r t):=by
 intro pins s σ H Q I h;refine wpAny_Call_Name_kw (jU I B D J ?_ M hdb);exact PyProof.Rows.callWith_builtin1 (thn (L pos pins s σ H _ I h) λus U ⟨vs,H1,Y,r1,q1⟩=>z pins U σ H1 vs us Q Y r1 q1) he hpl
def cC (z:dY X (.type T) r) (B:Gl X x) (D:X.mg x=none) (J:bootBuiltins x=some (.type T)) (L:PA X (e :: es) t) (M:x≠"__name__":=by decide) (hdb:(x == ("__debug__":Str))=false:=by decide)
 (he:starEach (e :: es) X.env=(false,eval e X.env) :: starEach es X.env:=by rfl) (hpl:(backTo pos (starEach es X.env)).any (·.1)=false:=by rfl):PE X (.Call (.Name x p) (e :: es) [] pos) (tCB r t):=by
 intro pins s σ H Q I h;refine wpAny_Call_Name_kw (jU I B D J ?_ M hdb);exact PyProof.Rows.callWith_type1 (thn (L pos pins s σ H _ I h) λus U ⟨vs,H1,Y,r1,q1⟩=>z pins U σ H1 vs us Q Y r1 q1) he hpl
end
end L2
namespace HT
open PySem PyProof.Rows
def eqAt_int (A:Around) (s:Shared) (a:Int) (t:Tok) (c:Int) (u:Tok):∃ e,SeqAt.EqAt A s (.int a t) (.int c u) e/\(e=true↔a=c) :=
 ⟨(a == c),SeqAt.EqAt.int_int a t c u,by simp⟩
section
variable {prog:Program} {w:World} {A:Around} {E:Value->Shared->Prop} {s:Shared}
def cat_tup {t b:Addr} {vs ws:List Value} {Q:Value->Shared->Prop} (ht:IsTup s.heap t vs.toArray) (hb:IsTup s.heap b ws.toArray) (M:vs≠[])
 (h1:ws=[]->Q (.ref t) s) (h2:ws≠[]->Q (.ref s.heap.objs.size) { s with heap:=s.heap.push { cls:=.type "tuple",data:=.seq (vs++ws).toArray } })
 (hsz:vs.length+ws.length<=sizeLine):wpAny (model prog w) A (binaryOp .Add (.ref t) (.ref b)) Q E s:=by
 obtain⟨⟨cls,U,data,Y⟩,L,hc,n,hd⟩:=id ht;obtain⟨⟨al,B,data2,D⟩,z,I,n2,J⟩:=id hb;simp only at hc hd I J;subst hc hd I J;have e:vs.toArray++ws.toArray=(vs++ws).toArray:=by simp
 by_cases hw:ws=[]
 .exact concat_meets ⟨_,L,rfl⟩ ⟨_,z,rfl⟩ noFill_tuple_add seq_tuple_add PySem.F.slot_tuple_add PySem.F.entry_tuple_add (PySem.F.args_tuple_add_2 _ _)
   (tuple_addW1 t b vs.toArray ws.toArray n n2 U B Y D (by simpa using M) (by simp[hw])) ⟨L,z,h1 hw⟩
 .refine concat_meets ⟨_,L,rfl⟩ ⟨_,z,rfl⟩ noFill_tuple_add seq_tuple_add PySem.F.slot_tuple_add PySem.F.entry_tuple_add (PySem.F.args_tuple_add_2 _ _)
   (tuple_addW2 t b vs.toArray ws.toArray n n2 U B Y D (by simpa using M) (by simpa using hw) (by rw[aEh,aEh];exact hsz)) ⟨L,z,?_⟩
  rw[e];exact h2 hw
def sIx (n d:Nat):Option Int->Nat
 | none=>d
 | some v=>if v<0 then (v+(n:Int)).toNat else min v.toNat n
def sIx_none (n d:Nat):sIx n d none=d:=rfl
def sIx_nat (n d k:Nat):sIx n d (some (k:Int))=min k n:=by
 show (if (k:Int)<0 then ((k:Int)+(n:Int)).toNat else min (k:Int).toNat n)=min k n;rw[if_neg (by omega),Int.toNat_natCast]
def aCb (n d:Nat) (hd:d<=n) (o:Option Int):sIx n d o<=n:=by
 cases o with
 | none=>exact hd
 | some v =>
  show (if v<0 then (v+(n:Int)).toNat else min v.toNat n)<=n
  by_cases z:v<0
  .rw[if_pos z];omega
  .rw[if_neg z];exact Nat.min_le_right _ _
def V0 (v:Int) (n d:Nat):(if v<0 then max (v+(n:Int)) 0 else min v (n:Int))=((sIx n d (some v):Nat):Int):=by
 show (if v<0 then max (v+(n:Int)) 0 else min v (n:Int))=(((if v<0 then (v+(n:Int)).toNat else min v.toNat n):Nat):Int)
 by_cases z:v<0
 .simp only[if_pos z];omega
 .simp only[if_neg z];omega
def O6 (lo hi:Option Int) (n:Nat):Builtin.Slice.sliceAdjust lo hi 1 (n:Int)=(((sIx n 0 lo:Nat):Int),((sIx n n hi:Nat):Int)):=by
 have h1:¬ ((1:Int)<0):=by omega
 unfold Builtin.Slice.sliceAdjust;simp only[h1,if_false];refine Prod.ext ?_ ?_
 .cases lo with
  | none=>rfl
  | some v=>exact V0 v n 0
 .cases hi with
  | none=>rfl
  | some v=>exact V0 v n n
def O7 (i j:Nat):Builtin.Slice.slicePlaces (i:Int) (j:Int) 1=j - i:=by
 unfold Builtin.Slice.slicePlaces;have h1:(1:Int) > 0:=by omega
 simp only[h1,if_true,Int.ediv_one];split <;> omega
def uC {v:Value} {o:Option Int} {Q:Option Int->Shared->Prop} (p:IsPart v o) (h:Q o s):wpAny (model prog w) A (Builtin.Slice.slicePartIndex v) Q E s:=by
 cases p with
 | none=>exact slicePart_none h
 | int i t=>exact slicePart_int h
def sliceApplied_gen {J:Addr} {D I:Value} {lo hi:Option Int} {n:Nat} {Q:Int×Int×Nat->Shared->Prop} (hs:s.heap.IsSliceOf J D I .none) (pl:IsPart D lo) (L:IsPart I hi)
 (h:Q (((sIx n 0 lo:Nat):Int),1,sIx n n hi - sIx n 0 lo) s):wpAny (model prog w) A (Builtin.Slice.sliceApplied (.ref J) (pure (n:Int))) Q E s:=by
 obtain⟨os,z,M,B⟩:=id hs;unfold Builtin.Slice.sliceApplied Builtin.Slice.sliceFields;refine aE7 (aE7 (wpAny_field z B (x:=D) rfl (aE7 (wpAny_field z B (x:=I) rfl (aE7 (wpAny_field z B (x:=.none) rfl (aE8 ?_)))))));refine aE7 (slicePart_none ?_);show wpAny _ _ (if ((1:Int) == 0)=true then _ else _) _ _ s;rw[if_neg (by decide)];refine aE7 (uC pl (aE7 (uC L (aE7 (aE8 ?_)))));show wpAny _ _ (match Builtin.Slice.sliceAdjust lo hi 1 (n:Int)with | (lo,hi)=>pure (lo,(1:Int),Builtin.Slice.slicePlaces lo hi 1)) _ _ s;rw[O6 lo hi n];show wpAny _ _ (pure (((sIx n 0 lo:Nat):Int),(1:Int),Builtin.Slice.slicePlaces ((sIx n 0 lo:Nat):Int) ((sIx n n hi:Nat):Int) 1)) _ _ s;rw[O7];exact aE8 h
def u9 (xs:Array Value) (i k:Nat):((List.range k).filterMap λ(m:Nat)=>xs[((i:Int)+(m:Int) * 1).toNat]?).toArray=((xs.toList.drop i).take k).toArray:=by
 have e:(λ(m:Nat)=>xs[((i:Int)+(m:Int) * 1).toNat]?)=λm=>xs[i+m]?:=by
  funext m
  have:((i:Int)+(m:Int) * 1).toNat=i+m:=by omega
  rw[this]
 rw[e];have:=pick_run xs i k;rw[List.filterMap_map]at this;have e2:((λx=>xs[x]?)∘λx=>i+x)=λm=>xs[i+m]?:=rfl;rw[e2]at this;rw[this]
def getItem_tuple_cut {t B:Addr} {items:Array Value} {M U:Value} {lo hi:Option Int} {Q:Value->Shared->Prop} (ht:IsTup s.heap t items) (hs:s.heap.IsSliceOf B M U .none) (pl:IsPart M lo) (Y:IsPart U hi)
 (hw:¬ (sIx items.size 0 lo=0/\sIx items.size items.size hi=items.size))
 (h:Q (.ref s.heap.objs.size) { s with heap:=s.heap.push { cls:=.type "tuple",data:=.seq ((items.toList.drop (sIx items.size 0 lo)).take (sIx items.size items.size hi - sIx items.size 0 lo)).toArray } })
 (hsz:items.size<=sizeLine):wpAny (model prog w) A (getItem (.ref t) (.ref B)) Q E s:=by
 have z:sizeOk (.seq ((items.toList.drop (sIx items.size 0 lo)).take (sIx items.size items.size hi - sIx items.size 0 lo)).toArray):=by
  show ((items.toList.drop (sIx items.size 0 lo)).take (sIx items.size items.size hi - sIx items.size 0 lo)).toArray.size<=sizeLine;rw[aEh,aEp,List.length_drop,Array.length_toList];omega
 have hj:sIx items.size items.size hi<=items.size:=aCb _ _ (Nat.le_refl _) hi;obtain⟨os,D,I,al⟩:=id hs;have J:s.TypeIs (.ref B) "slice":=⟨os,D,I⟩;unfold getItem
 try with_reducible refine wpAny_holding ?_
 first | refine aE7 (aE8 ?_) | skip
 refine aE7 (wpAny_sequenceKey ht.typeIs (by decide) ?_);refine aE7 (wpAny_callSpecial?_slot (name:=Str.ofString "__getitem__") ht.typeIs PyProof.Rows.slot_tuple_getitem
  (wpAny_call_entry PyProof.Rows.slot_tuple_getitem ht.typeIs entry_tuple_getitem ?_ (args_tuple_getitem _ _)))
 show wpAny _ _ (Builtin.Tuple.tupleItemsOf (.ref t) >>= _) _ _ s;refine aE7 (tupleItemsOf_ ht ?_);refine aE7 (wpAny_typeOf J ?_);rw[if_pos (by decide)];refine aE7 (sliceApplied_gen hs pl Y ?_);have L:¬ ((((sIx items.size 0 lo:Nat):Int) == 0 && (1:Int) == 1 && (sIx items.size items.size hi - sIx items.size 0 lo) == items.size)=true):=by
  intro q;rw[Bool.and_eq_true,Bool.and_eq_true]at q;have q1:((sIx items.size 0 lo:Nat):Int)=0:=eq_of_beq q.1.1;have q2:sIx items.size items.size hi - sIx items.size 0 lo=items.size:=eq_of_beq q.2;exact hw ⟨by omega,by omega⟩
 show wpAny _ _ (if (((sIx items.size 0 lo:Nat):Int) == 0 && (1:Int) == 1 && (sIx items.size items.size hi - sIx items.size 0 lo) == items.size)=true then _ else _) _ _ s;rw[if_neg L,u9]
 first
  | exact aE7 (m:=Builtin.Tuple.tupleExact _) (wpAny_newObj_type (aE8 ⟨_,rfl,aE8 h⟩) z)
  | exact aE7 (m:=Builtin.Tuple.tupleExact _) (wpAny_newObj_type (aE7 (aE8 (aE8 ⟨_,rfl,aE8 h⟩))) z)
  | exact aE7 (aE7 (m:=Builtin.Tuple.tupleExact _) (wpAny_newObj_type (aE8 (aE8 ⟨_,rfl,aE8 h⟩)) z))
  | exact aE7 (aE7 (m:=Builtin.Tuple.tupleExact _) (wpAny_newObj_type (aE8 ⟨_,rfl,aE8 h⟩) z))
end
end HT
namespace L2
open PySem PySem.Spec PyProof.Rows
abbrev TO:=St->Hp->(Option Int->Hp->Prop)->Prop
def PO (X:Cx) (e:Option Expr) (t:TO):Prop :=
 ∀ (pins:List (Addr×Obj)) (s:Shared) (σ:St) (H:Hp) (Q:Option Int->Hp->Prop),Inv X pins σ H s->t σ H Q ->
  wpAny (model X.prog X.w) X.A (evalPart e X.env) (λu s'=>∃ o H',Inv X pins σ H' s'/\IsPart u o/\Q o H') X.xe s
def aB4:TO:=λ_ H Q=>Q none H
def aD8 (t:TE):TO:=fun σ H Q=>t σ H λx H1=>∃ i,x=.int i/\Q (some i) H1
def O8 {ns:List Int}:∀ {us:List Value},Vals (ns.map V.int) us->IntsAre us ns:=by
 induction ns with
 | nil=>intro us r;rw[List.map_nil]at r;cases r;exact .nil
 | cons n ns z =>
  intro us r;rw[aEy]at r;cases r with
  | cons r1 r2 =>
   obtain⟨t,e⟩:=r1;subst e;exact .cons n t (z r2)
section
variable {X:Cx} {e:Expr} {te:TE} {lo hi:Option Expr} {tl th:TO} {pos p2:Pos}
def iI:PO X none aB4:=by
 intro pins s σ H Q I h;rw[evalPart_none];exact aE8 ⟨none,H,I,.none,h⟩
def iJ (h:PE X e te):PO X (some e) (aD8 te):=by
 intro pins s σ H Q I hw;rw[evalPart_some];refine thn (h pins s σ H _ I hw) λu D ⟨x,H1,z,r1,B⟩=>?_;obtain⟨i,rfl,q⟩:=B;obtain⟨t,rfl⟩:=r1;exact⟨some i,H1,z,.int i t,q⟩
def SlR (X:Cx) (r:V->Option Int->Option Int->Hp->VK->Prop):Prop :=
 ∀ (pins:List (Addr×Obj)) (s:Shared) (σ:St) (H:Hp) (x:V) (v z B:Value) (lo hi:Option Int) (D:Addr) (Q:VK),Inv X pins σ H s->RelV x v->s.heap.IsSliceOf D z B .none->IsPart z lo->IsPart B hi->r x lo hi H Q ->
  ∃ T id,typeLookup (.type T) "__getitem__"=pure (some (.builtin id))/\s.TypeIs v T/\wpAny (model X.prog X.w) X.A (getItem v (.ref D)) (EP X pins σ Q) X.xe s
def tSl (r:V->Option Int->Option Int->Hp->VK->Prop) (te:TE) (tl th:TO):TE:=fun σ H Q=>te σ H λx H1=>tl σ H1 λl H2=>th σ H2 λu z=>r x l u z Q
def fV {r:V->Option Int->Option Int->Hp->VK->Prop} (L:SlR X r) (he:PE X e te) (M:PO X lo tl) (U:PO X hi th):PE X (.Subscript e (.Slice lo hi none p2) pos) (tSl r te tl th):=by
 intro pins s σ H Q I h;refine Subscript_ (thn (he pins s σ H _ I h) λv Y ⟨x,H1,I1,r1,q1⟩=>?_);refine wpAny_Slice (thn (M pins Y σ H1 _ I1 q1) λB s2 ⟨l,H2,I2,pl,q2⟩=>thn (U pins s2 σ H2 _ I2 q2) λD z ⟨u,J,I3,pu,q3⟩=>?_);rw[evalPart_none];refine aE8 ?_;have I4:Inv X pins σ J { z with heap:=z.heap.push { cls:=.type "slice",data:=.fields #[B,D,.none] } }:=I3.kept (t':=z.toks) λb ob q=>aEa _ q;obtain⟨T,id,hT,ht,hg⟩:=L pins { z with heap:=z.heap.push { cls:=.type "slice",data:=.fields #[B,D,.none] } } σ J x v B D l u z.heap.objs.size Q I4 r1 (Heap.IsSliceOf.new ..) pl pu q3;show wpAny (model X.prog X.w) X.A (subscriptTail e (.Slice lo hi none p2) v (.ref z.heap.objs.size)) (EP X pins σ Q) X.xe { z with heap:=z.heap.push { cls:=.type "slice",data:=.fields #[B,D,.none] } };exact tail_any (ops:=[.ref z.heap.objs.size,v]) ht hT hg (by with_unfolding_all rfl)
def gI (xs:List V) (lo hi:Option Int):List V:=(xs.drop (HT.sIx xs.length 0 lo)).take (HT.sIx xs.length xs.length hi - HT.sIx xs.length 0 lo)
def rY (xs:List V) (lo hi:Option Int):(gI xs lo hi).length<=xs.length:=by
 unfold gI;rw[aEp,List.length_drop];omega
def aEQ (K:PySem.W.Frag):V->Option Int->Option Int->Hp->VK->Prop:=λx lo hi H Q=>∃ a xs,x=.ref a/\SqT K H a xs /\
 ¬ (HT.sIx xs.length 0 lo=0/\HT.sIx xs.length xs.length hi=xs.length)/\∀ p,H p=none->Q (.ref p) (upd H p (.tup (gI xs lo hi)))
def aCc:SlR X (aEQ X.K):=by
 intro pins s σ H x v L M lo hi U Q I B hs pl D h;obtain⟨a,xs,rfl,J,hw,q⟩:=h;cases B;obtain⟨its,r,ht,z⟩:=I.tuple J;have hlen:its.toArray.size=xs.length:=by rw[aEh];exact r.length.symm
 refine⟨"tuple",_,PyProof.Rows.slot_tuple_getitem.lookup,ht.typeIs,?_⟩;refine HT.getItem_tuple_cut ht hs pl D (by rw[hlen];exact hw) ?_ (by rw[hlen];exact z);rw[hlen];refine⟨.ref s.heap.objs.size,_,I.laid (t':=s.toks) (o:=.tup (gI xs lo hi)) (λb Y q=>aEa _ q) (Nat.le_refl _) ?_,rfl,q _ (I.hok.fresh (Nat.le_refl _))⟩;exact⟨Nat.le_trans (rY xs lo hi) z,_,(r.drop (HT.sIx xs.length 0 lo)).take (HT.sIx xs.length xs.length hi - HT.sIx xs.length 0 lo),IsTup.new _ _⟩
def aD9 (K:PySem.W.Frag):R2:=λx y H Q=>∃ a b xs ys,x=.ref a/\y=.ref b/\SqT K H a xs/\SqT K H b ys/\xs≠[]/\xs.length+ys.length<=sizeLine /\
 (ys=[]->Q (.ref a) H)/\(ys≠[]->∀ p,H p=none->Q (.ref p) (upd H p (.tup (xs++ys))))
def Vals.nil_iff {xs:List V} {us:List Value} (r:Vals xs us):us=[]↔xs=[]:=by
 cases r with
 | nil=>simp
 | cons _ _=>simp
def aB5:OpR X (binaryOp .Add) (aD9 X.K):=by
 intro pins s σ H x y v u Q I J L h;obtain⟨a,b,xs,ys,rfl,rfl,M,U,Y,B,q1,q2⟩:=h;cases J;cases L;obtain⟨its,r1,p1,_⟩:=I.tuple M;obtain⟨D,r2,p2,_⟩:=I.tuple U;refine HT.cat_tup p1 p2 (λz=>Y (r1.nil_iff.mp z)) (λz=>⟨.ref a,H,I,rfl,q1 (r2.nil_iff.mp z)⟩) (λz=>?_) (by rw[<- r1.length,<- r2.length];exact B);refine⟨.ref s.heap.objs.size,_,I.laid (t':=s.toks) (o:=.tup (xs++ys)) (λb ob q=>aEa _ q) (Nat.le_refl _) ?_,rfl,q2 (λw=>z (r2.nil_iff.mpr w)) _ (I.hok.fresh (Nat.le_refl _))⟩;exact⟨by rw[aEi];exact B,_,r1.append r2,IsTup.new _ _⟩
end
def ixN (n:Nat) (i:Int):Option Nat:=if 0<=i then (if i<n then some i.toNat else none)else if -(n:Int)<=i then some (i+n).toNat else none
def atI {z:Type} (xs:List z) (i:Int):Option z:=(ixN xs.length i).bind λj=>xs[j]?
def aB6 {n:Nat} {i:Int} {j:Nat} (h:ixN n i=some j):seqIndex? i n=some j/\j<n/\-(n:Int)<=i/\i<n:=by
 unfold ixN at h
 by_cases h0:0<=i
 .rw[if_pos h0]at h
  by_cases h1:i<n
  .rw[if_pos h1]at h;have e:i.toNat=j:=Option.some.inj h;exact⟨by rw[seqIndex_of h0 h1,e],by omega,by omega,h1⟩
  .rw[if_neg h1]at h;cases h
 .rw[if_neg h0]at h
  by_cases h1:-(n:Int)<=i
  .rw[if_pos h1]at h;have e:(i+n).toNat=j:=Option.some.inj h;exact⟨by rw[seqIndex_neg (by omega) h1,e],by omega,h1,by omega⟩
  .rw[if_neg h1]at h;cases h
def zB {z:Type} {xs:List z} {i:Int} {v:z} (h:atI xs i=some v):∃ j,seqIndex? i xs.length=some j/\xs[j]?=some v/\j<xs.length/\-(xs.length:Int)<=i/\i<xs.length:=by
 unfold atI at h;cases e:ixN xs.length i with
 | none=>rw[e]at h;cases h
 | some j =>
  rw[e]at h;obtain⟨h1,h2,h3,h4⟩:=aB6 e;exact⟨j,h1,h,h2,h3,h4⟩
def jV {z:Type} {xs:List z} {j:Nat} {v:z} (h:xs[j]?=some v):atI xs (j:Int)=some v:=by
 have hj:j<xs.length:=(aFK.mp h).1;have e:ixN xs.length (j:Int)=some j:=by
  unfold ixN;rw[if_pos (by omega),if_pos (by omega)];simp
 unfold atI;rw[e];exact h
def F1 {z:Type} (xs:List z) (v:z):atI (xs++[v]) (-1)=some v:=by
 have B:(xs++[v]).length=xs.length+1:=by simp
 have e:ixN (xs++[v]).length (-1)=some xs.length:=by
  unfold ixN;rw[B,if_neg (by decide),if_pos (by omega)]
  congr 1
  omega
 unfold atI;rw[e];show (xs++[v])[xs.length]?=some v;simp
def aB7 (b:Expr):Prop:=∀ o i,subscripted b false o i=operate [o,i] (getItem o i)
def IxR (X:Cx) (r:R2):Prop :=
 ∀ (value slice:Expr) (pins:List (Addr×Obj)) (s:Shared) (σ:St) (H:Hp) (x y:V) (v u:Value) (Q:VK),Inv X pins σ H s->RelV x v->RelV y u->r x y H Q ->
  subscripted slice false v u=operate [v,u] (getItem v u)->wpAny (model X.prog X.w) X.A (subscriptTail value slice v u) (EP X pins σ Q) X.xe s
def MtR (X:Cx) (id:String) (r:V->List V->Hp->VK->Prop):Prop :=
 ∀ (pins:List (Addr×Obj)) (s:Shared) (σ:St) (H:Hp) (x:V) (xs:List V) (v:Value) (us:List Value) (Q:VK),Inv X pins σ H s->RelV x v->Vals xs us->r x xs H Q ->
  wpAny (model X.prog X.w) X.A (call (.builtin id) (v :: us)) (EP X pins σ Q) X.xe s
section
variable {X:Cx} {a b:Expr} {ta tb:TE} {pos:Pos}
def IxR.or {r z:R2} (h:IxR X r) (h':IxR X z):IxR X (λx y H Q=>r x y H Q\/z x y H Q):=by
 intro value slice pins s σ H x y v u Q I B D q hs;rcases q with q | q
 .exact h value slice pins s σ H x y v u Q I B D q hs
 .exact h' value slice pins s σ H x y v u Q I B D q hs
def bH {r:R2} (z:IxR X r) (B:PE X a ta) (D:PE X b tb) (hs:aB7 b):PE X (.Subscript a b pos) (tOp r ta tb):=by
 intro pins s σ H Q I h;exact Subscript_ (aC8 B D I h λv u J x y H2 L M U q=>z a b pins J σ H2 x y v u Q L M U q (hs _ _))
def aCd (K:PySem.W.Frag):R2:=λx y H Q=>∃ p xs i v,x=.ref p/\y=.int i/\SqL K H p xs/\atI xs i=some v/\Q v H
def aDa (K:PySem.W.Frag):R2:=λx y H Q=>∃ p xs i v,x=.ref p/\y=.int i/\SqT K H p xs/\atI xs i=some v/\Q v H
def aDb:R2:=λx y H Q=>∃ z i c,x=.str z/\y=.int i/\z.length<=sizeLine/\atI z.cps.toList i=some c/\Q (.str ⟨#[c]⟩) H
def bE:IxR X (aCd X.K):=by
 intro value slice pins s σ H x y v u Q I J L h hs;obtain⟨p,xs,i,z,rfl,rfl,M,he,q⟩:=h;cases J;obtain⟨t,rfl⟩:=L;obtain⟨its,r,pl,Y⟩:=I.list M;obtain⟨j,h1,h2,h3,h4,h5⟩:=zB he;obtain⟨w,D,B⟩:=r.get h2;have U:=r.length;have hn:=qK;have fin:EP X pins σ Q w s:=⟨z,H,I,B,q⟩
 by_cases h0:0<=i
 .have hj:i.toNat=j:=by
   rw[seqIndex_of h0 h5]at h1;exact Option.some.inj h1
  exact item_listR pl.isList h0 (by omega) (by rw[hj];simpa using D) fin hs
 .have hj:(i+(its.toArray.size:Int)).toNat=j:=by
   rw[seqIndex_neg (by omega) h4]at h1;rw[aEh,<- U];exact Option.some.inj h1
  exact subscriptTail_builtinR (x:=w) pl.isList.typeIs slot_list_getitem.lookup
   (wpAny_getItem_list_neg (Q:=λr s'=>r=w/\EP X pins σ Q r s') pl.isList (by omega) (by rw[aEh] <;> omega) (by omega) (by rw[hj];simpa using D) ⟨rfl,fin⟩) hs
def eK:IxR X (aDa X.K):=by
 intro value slice pins s σ H x y v u Q I D J h hs;obtain⟨p,xs,i,z,rfl,rfl,L,he,q⟩:=h;cases D;obtain⟨t,rfl⟩:=J;obtain⟨its,r,pl,Y⟩:=I.tuple L;obtain⟨j,h1,h2,h3,h4,h5⟩:=zB he;obtain⟨w,M,B⟩:=r.get h2;have U:=r.length;have hn:=qK;have fin:EP X pins σ Q w s:=⟨z,H,I,B,q⟩;exact subscriptTail_builtinR (x:=w) pl.typeIs slot_tuple_getitem.lookup
  (getItem_tuple (j:=j) (Q:=λr s'=>r=w/\EP X pins σ Q r s') pl (by omega) (by omega) (by rw[aEh,<- U];exact h1) (by simpa using M) ⟨rfl,fin⟩) hs
def aCe:IxR X aDb:=by
 intro value slice pins s σ H x y v u Q I B D h hs;obtain⟨z,i,c,rfl,rfl,L,he,q⟩:=h;obtain⟨t,rfl⟩:=B;obtain⟨t',rfl⟩:=D;obtain⟨j,h1,h2,h3,h4,h5⟩:=zB he;have J:z.cps.toList.length=z.length:=by simp[Str.length]
 rw[J]at h1 h4 h5;have M:=qK;exact tail_any (typeIs_str s z t) slot_str_getitem.lookup (getItem_str (c:=c) (by
  have e1:decide (i < -(2 ^ 63:Int))=false:=aEu (by omega);have e2:decide (i≥2 ^ 63)=false:=aEu (by omega);rw[e1,e2,Bool.or_false]) (by rw[h1];simpa using h2) ⟨.str ⟨#[c]⟩,H,I.tok _,⟨_,rfl⟩,q⟩) hs
def rIx (K:PySem.W.Frag):R2:=λx y H Q=>aCd K x y H Q\/aDa K x y H Q\/aDb x y H Q
def zC:IxR X (rIx X.K):=bE.or (eK.or aCe)
def zD (lo hi:Option Int) (n:Nat):(sliceBounds lo hi none n).1=((HT.sIx n 0 lo:Nat):Int)/\(sliceBounds lo hi none n).2.1=((HT.sIx n n hi:Nat):Int)/\(sliceBounds lo hi none n).2.2=1:=by
 refine⟨?_,?_,rfl⟩
 .cases lo with
  | none=>simp[sliceBounds,HT.sIx]
  | some i =>
   simp only[sliceBounds,HT.sIx,Option.getD_none,show (1:Int) > 0 by decide,if_true]
   by_cases h:i<0
   .simp only[h,if_true] <;> omega
   .simp only[h,if_false] <;> omega
 .cases hi with
  | none=>simp[sliceBounds,HT.sIx]
  | some i =>
   simp only[sliceBounds,HT.sIx,Option.getD_none,show (1:Int) > 0 by decide,if_true]
   by_cases h:i<0
   .simp only[h,if_true] <;> omega
   .simp only[h,if_false] <;> omega
def wH (its:List Value) (lo hi:Option Int):slicePick its.toArray lo hi none=((its.drop (HT.sIx its.length 0 lo)).take (HT.sIx its.length its.length hi - HT.sIx its.length 0 lo)).toArray:=by
 obtain⟨h1,h2,h3⟩:=zD lo hi its.toArray.size;unfold slicePick;rw[h1,h2,h3];simp only[sliceRange_one,pick_run,aEh] <;> rfl
def aER (K:PySem.W.Frag):V->Option Int->Option Int->Hp->VK->Prop:=λx lo hi H Q=>∃ a xs,x=.ref a/\SqL K H a xs/\∀ p,H p=none->Q (.ref p) (upd H p (.lst (gI xs lo hi)))
def mO:SlR X (aER X.K):=by
 intro pins s σ H x v L M lo hi U Q I z hs pl B h;obtain⟨a,xs,rfl,D,q⟩:=h;cases z;obtain⟨its,r,ht,J⟩:=I.list D;have hlen:=r.length;refine⟨"list",_,slot_list_getitem.lookup,ht.isList.typeIs,?_⟩;refine wpAny_getItem_list_slice ht.isList hs pl B .none (by simp) ?_ (by rw[aEh] <;> omega);rw[wH,<- hlen];refine⟨.ref s.heap.objs.size,_,I.laid (t':=s.toks) (o:=.lst (gI xs lo hi)) (λb Y q=>aEa _ q) (Nat.le_refl _) ?_,rfl,q _ (I.hok.fresh (Nat.le_refl _))⟩;exact⟨Nat.le_trans (rY xs lo hi) J,_,0,(r.drop (HT.sIx xs.length 0 lo)).take (HT.sIx xs.length xs.length hi - HT.sIx xs.length 0 lo),aEg _ rfl⟩
def nM:V->Bool
 | .non=>true
 | .bl _=>true
 | .int _=>true
 | .str _=>true
 | _=>false
def eqV:V->V->Bool
 | .non,.non=>true
 | .bl a,.bl b=>a == b
 | .bl a,.int b=>(if a then 1 else 0) == b
 | .int a,.bl b=>a == (if b then 1 else 0)
 | .int a,.int b=>a == b
 | .str a,.str b=>a == b
 | _,_=>false
def aCf {A:Around} {s:Shared} {y x:V} {u v:Value} (B:RelV y u) (z:RelV x v) (I:nM y=true) (D:nM x=true):SeqAt.EqAt A s u v (eqV y x):=by
 cases y with
 | non =>
  cases B;cases x with
  | non=>cases z;exact SeqAt.EqAt.same _
  | bl b=>cases z;exact SeqAt.EqAt.none_bool b
  | int b=>obtain⟨t,rfl⟩:=z;exact SeqAt.EqAt.none_int b t
  | str b=>obtain⟨t,rfl⟩:=z;exact SeqAt.EqAt.none_str b t
  | _=>exact absurd (show false=true from D) aEm
 | bl a =>
  cases B;cases x with
  | non=>cases z;exact SeqAt.EqAt.bool_none a
  | bl b=>cases z;exact SeqAt.EqAt.bool_bool a b
  | int b=>obtain⟨t,rfl⟩:=z;exact SeqAt.EqAt.bool_int a b t
  | str b=>obtain⟨t,rfl⟩:=z;exact SeqAt.EqAt.bool_str a b t
  | _=>exact absurd (show false=true from D) aEm
 | int a =>
  obtain⟨t',rfl⟩:=B;cases x with
  | non=>cases z;exact SeqAt.EqAt.int_none a t'
  | bl b=>cases z;exact SeqAt.EqAt.int_bool a t' b
  | int b=>obtain⟨t,rfl⟩:=z;exact SeqAt.EqAt.int_int a t' b t
  | str b=>obtain⟨t,rfl⟩:=z;exact SeqAt.EqAt.int_str a t' b t
  | _=>exact absurd (show false=true from D) aEm
 | str a =>
  obtain⟨t',rfl⟩:=B;cases x with
  | non=>cases z;exact SeqAt.EqAt.str_none a t'
  | bl b=>cases z;exact SeqAt.EqAt.str_bool a t' b
  | int b=>obtain⟨t,rfl⟩:=z;exact SeqAt.EqAt.str_int a t' b t
  | str b=>obtain⟨t,rfl⟩:=z;exact SeqAt.EqAt.str_str a t' b t
  | _=>exact absurd (show false=true from D) aEm
 | _=>exact absurd (show false=true from I) aEm
def eqU (x:V) (u:Value):Bool:=match u with
 | .none=>eqV .non x
 | .bool b=>eqV (.bl b) x
 | .int i _=>eqV (.int i) x
 | .str z _=>eqV (.str z) x
 | _=>false
def v8 {x y:V} {u:Value} (r:RelV y u) (f:nM y=true):eqU x u=eqV y x:=by
 cases y with
 | non=>cases r;rfl
 | bl b=>cases r;rfl
 | int i=>obtain⟨t,rfl⟩:=r;rfl
 | str z=>obtain⟨t,rfl⟩:=r;rfl
 | _=>exact absurd (show false=true from f) aEm
def oU {x:V}:∀ {xs:List V} {us:List Value},Vals xs us->xs.all nM=true->us.any (eqU x)=xs.any λy=>eqV y x
 | _,_,.nil,_=>rfl
 | y :: xs,u :: us,.cons r t,f=>by
  rw[List.all_cons,Bool.and_eq_true]at f;rw[List.any_cons,List.any_cons,v8 r f.1,oU t f.2]
def lF {A:Around} {s:Shared} {x:V} {v:Value} (z:RelV x v) (B:nM x=true):∀ {xs:List V} {us:List Value},Vals xs us->xs.all nM=true->∀ u∈us,SeqAt.EqAt A s u v (eqU x u)
 | _,_,.nil,_=>λu hu=>by cases hu
 | y :: xs,u :: us,.cons r t,f=>λD hu=>by
  rw[List.all_cons,Bool.and_eq_true]at f;rcases aFL.mp hu with rfl | hu
  .rw[v8 r f.1];exact aCf r z f.1 B
  .exact lF z B t f.2 D hu
def inV (x:V) (xs:List V):Bool:=xs.any λy=>eqV y x
def rIn (K:PySem.W.Frag) (z:Bool):R2:=λx y H Q=>∃ p xs,y=.ref p/\(SqL K H p xs\/SqT K H p xs)/\nM x=true/\xs.all nM=true/\Q (.bl (if z then !inV x xs else inV x xs)) H
def Z5:OpR X (compareOp .In) (rIn X.K false):=by
 intro pins s σ H x y v u Q I z D h;obtain⟨p,xs,rfl,hq,B,fs,q⟩:=h;cases D;rcases hq with hq | hq
 .obtain⟨its,r,pl,J⟩:=I.list hq;refine SeqAt.in_listAt (eqU x) pl.isList (λw hw=>lF z B r fs w (by simpa using hw)) ⟨.bl _,H,I,rfl,?_⟩;rw[show its.toArray.any (eqU x)=its.any (eqU x)by simp,oU r fs];exact q
 .obtain⟨its,r,pl,J⟩:=I.tuple hq;refine SeqAt.in_tupleAt (eqU x) pl (λw hw=>lF z B r fs w (by simpa using hw)) ⟨.bl _,H,I,rfl,?_⟩;rw[show its.toArray.any (eqU x)=its.any (eqU x)by simp,oU r fs];exact q
def oV:OpR X (compareOp .NotIn) (rIn X.K true):=by
 intro pins s σ H x y v u Q I z D h;obtain⟨p,xs,rfl,hq,B,fs,q⟩:=h;cases D;rcases hq with hq | hq
 .obtain⟨its,r,pl,J⟩:=I.list hq;refine SeqAt.notIn_listAt (eqU x) pl.isList (λw hw=>lF z B r fs w (by simpa using hw)) ⟨.bl _,H,I,rfl,?_⟩;rw[show its.toArray.any (eqU x)=its.any (eqU x)by simp,oU r fs];exact q
 .obtain⟨its,r,pl,J⟩:=I.tuple hq;refine SeqAt.notIn_tupleAt (eqU x) pl (λw hw=>lF z B r fs w (by simpa using hw)) ⟨.bl _,H,I,rfl,?_⟩;rw[show its.toArray.any (eqU x)=its.any (eqU x)by simp,oU r fs];exact q
def aX:dY X (.builtin "len") (λxs H Q=>∃ p ys,xs=[.ref p]/\(SqL X.K H p ys\/SqT X.K H p ys)/\Q (.int ys.length) H):=by
 intro pins s σ H xs us Q I r h;obtain⟨p,ys,rfl,hq,q⟩:=h;obtain⟨u,rfl,B⟩:=gG r;cases B;have J:=qK;rcases hq with hq | hq
 .obtain⟨its,z,pl,D⟩:=I.list hq;have hlen:=z.length;exact Calls.call_len_list pl.isList (by simp only[aEh] <;> omega) ⟨.int ys.length,H,I.tok _,⟨s.toks+1,by rw[aEh,hlen]⟩,q⟩
 .obtain⟨its,z,pl,D⟩:=I.tuple hq;have hlen:=z.length;exact len_tuple pl (by simp only[aEh] <;> omega) ⟨.int ys.length,H,I.tok _,⟨s.toks+1,by rw[aEh,hlen]⟩,q⟩
def zE:dY X (.builtin "len") (λxs H Q=>∃ z,xs=[.str z]/\z.length<=sizeLine/\Q (.int z.length) H):=by
 intro pins s σ H xs us Q I r h;obtain⟨z,rfl,B,q⟩:=h;obtain⟨u,rfl,t,rfl⟩:=gG r;have D:=qK;exact len_str (by omega) ⟨.int z.length,H,I.tok _,⟨_,rfl⟩,q⟩
def eW:dY X (.type "list") (λxs H Q=>∃ p ys,xs=[.ref p]/\(SqL X.K H p ys\/SqT X.K H p ys)/\∀ l,H l=none->Q (.ref l) (upd H l (.lst ys))):=by
 intro pins s σ H xs us Q I r h;obtain⟨p,ys,rfl,hq,q⟩:=h;obtain⟨u,rfl,M⟩:=gG r;cases M;have fin:∀ (its:List Value),Vals ys its->ys.length<=sizeLine->∀ (h':Heap) (z:Nat),(∀ b o',s.heap.get? b=some o'->h'.get? b=some o') ->
  h'.get? s.heap.objs.size=some { cls:=.type "list",dict:=none,data:=.seq its.toArray z,slots:=#[] }->EP X pins σ Q (.ref s.heap.objs.size) { s with heap:=h' }:=λits B D h' z kp e =>
  ⟨.ref s.heap.objs.size,_,I.laid (t':=s.toks) kp (Nat.le_refl _) (show ObjOk X.prog X.w _ h' _ (.lst ys) from ⟨D,its,z,B,e⟩),rfl,q _ (I.hok.fresh (Nat.le_refl _))⟩
 rcases hq with hq | hq
 .obtain⟨its,B,pl,D⟩:=I.list hq;have hlen:=B.length;obtain⟨o,J,L,n,hd⟩:=pl.isList;exact call_list_seq p (.inl rfl) J L hd (λh' z kp e=>fin its B D h' z kp e) (by simp only[aEh] <;> omega)
 .obtain⟨its,B,pl,D⟩:=I.tuple hq;have hlen:=B.length;obtain⟨o,J,L,n,hd⟩:=pl;exact call_list_seq p (.inr rfl) J L hd (λh' z kp e=>fin its B D h' z kp e) (by simp only[aEh] <;> omega)
def cW:dY X (.type "tuple") (λxs H Q=>∃ p ys,xs=[.ref p]/\((SqL X.K H p ys/\∀ l,H l=none->Q (.ref l) (upd H l (.tup ys)))\/(SqT X.K H p ys/\Q (.ref p) H))):=by
 intro pins s σ H xs us Q I r h;obtain⟨p,ys,rfl,h⟩:=h;obtain⟨u,rfl,L⟩:=gG r;cases L;rcases h with ⟨z,q⟩ | ⟨z,q⟩
 .obtain⟨its,B,pl,D⟩:=I.list z;have hlen:=B.length;refine call_tuple_list pl.isList (λh' kp=>?_) (by simp only[aEh] <;> omega);have J:Inv X pins σ H { s with heap:=h' }:=I.kept (t':=s.toks) kp;have M:Inv X pins σ (upd H h'.objs.size (.tup ys)) { s with heap:=h'.push { cls:=.type "tuple",data:=.seq its.toArray } } :=
   J.laid (t':=s.toks) (λb o e=>aEa _ e) (Nat.le_refl _) (show ObjOk X.prog X.w _ _ _ (.tup ys) from ⟨D,its,B,IsTup.new _ _⟩)
  exact⟨.ref h'.objs.size,_,M,rfl,q _ (J.hok.fresh (Nat.le_refl _))⟩
 .obtain⟨its,B,pl,D⟩:=I.tuple z;exact call_tuple_same pl ⟨.ref p,H,I,rfl,q⟩
def tyV (K:PySem.W.Frag) (T:String) (x:V) (H:Hp):Prop:=match x with
 | .str _=>T="str"
 | .int _=>T="int"
 | .ref p=>(T="list"/\∃ xs,SqL K H p xs)\/(T="tuple"/\∃ o,K.lookup p=some o/\o.cls=.type "tuple"/\o.dict=none) \/
  (T="dict"/\((∃ kvs,H p=some (.dK kvs))\/∃ kvs,H p=some (.dT kvs)))\/(T="set"/\∃ S n,H p=some (.set S n))
 | _=>False
def v9 {pins:List (Addr×Obj)} {σ:St} {H:Hp} {s:Shared} {T:String} {x:V} {v:Value} (I:Inv X pins σ H s) (r:RelV x v) (ty:tyV X.K T x H) :
 s.TypeIs v T/\∀ a,v=.ref a->∃ D,s.heap.get? a=some D/\D.dict=none:=by
 cases x with
 | str z =>
  obtain⟨t,rfl⟩:=r;cases (show T="str" from ty);exact⟨typeIs_str s z t,λ_ e=>nomatch e⟩
 | int i =>
  obtain⟨t,rfl⟩:=r;cases (show T="int" from ty);exact⟨typeIs_int s i t,λ_ e=>nomatch e⟩
 | ref p =>
  cases r;rcases ty with ⟨rfl,xs,J⟩ | ⟨rfl,o,B,L,hd⟩ | ⟨rfl,B⟩ | ⟨rfl,S,n,B⟩
  .obtain⟨its,_,pl,_⟩:=I.list J;refine⟨pl.isList.typeIs,λa e=>?_⟩;cases e;obtain⟨o,n,e,c,hd,_⟩:=pl;exact⟨o,e,hd⟩
  .refine⟨⟨o,I.kIn p o B,L⟩,λa e=>?_⟩;cases e;exact⟨o,I.kIn _ o B,hd⟩
  .have z:∃ o,s.heap.get? p=some o/\o.ExactDict:=by
    rcases B with ⟨kvs,B⟩ | ⟨kvs,B⟩
    .obtain⟨_,_,_,_,o,_,_,e,ex,_⟩:=I.hok p _ B;exact⟨o,e,ex⟩
    .obtain⟨_,_,_,_,o,_,_,e,ex,_⟩:=I.hok p _ B;exact⟨o,e,ex⟩
   obtain⟨o,e,ex⟩:=z;refine⟨⟨o,e,ex.1⟩,λa e2=>?_⟩;cases e2;exact⟨o,e,ex.2.1⟩
  .obtain⟨o,_,_,_,e,ex,_⟩:=I.hok p _ B;refine⟨⟨o,e,ex.1⟩,λa e2=>?_⟩;cases e2;exact⟨o,e,ex.2.1⟩
 | _=>exact False.elim ty
def aES (K:PySem.W.Frag) (T:String) (r:V->List V->Hp->VK->Prop) (to:TE):TE:=fun σ H Q=>to σ H λx H1=>tyV K T x H1/\r x [] H1 Q
def tBM (K:PySem.W.Frag) (T:String) (r:V->List V->Hp->VK->Prop) (to:TE) (t:TA):TE:=fun σ H Q=>to σ H λx H1=>tyV K T x H1/\t σ H1 λxs H2=>r x xs H2 Q
variable {o e:Expr} {es:List Expr} {to:TE} {t:TA} {name:Str} {apos ab:Pos} {T id:String} {r:V->List V->Hp->VK->Prop}
def zF (L:PlainAttrs T) (slot:Slot T name id) (D:typeOf (.builtin id)=pure (.type "method_descriptor")) (M:MtR X id r) (U:PE X o to)
 (z:attributeBase o name X.env (eval o X.env)=eval o X.env:=by rfl) (B:(apos.endLine == ab.line)=true:=by rfl):PE X (.Call (.Attribute o name apos) [] [] ab) (aES X.K T r to):=by
 intro pins s σ H Q I h;refine wpAny_Call_method0_late z B (thn (U pins s σ H _ I h) λv Y ⟨x,H1,J,r1,ty,q1⟩=>?_);obtain⟨h1,h2⟩:=v9 J r1 ty;exact⟨T,id,L,slot,D,h1,h2,Calls.callWith_builtin rfl (PySem.evalArgs_none (M pins Y σ H1 x [] v [] Q J r1 .nil q1))⟩
def iK (Y:PlainAttrs T) (slot:Slot T name id) (L:typeOf (.builtin id)=pure (.type "method_descriptor")) (hm:MtR X id r) (ho:PE X o to) (ha:PA X (e :: es) t)
 (B:attributeBase o name X.env (eval o X.env)=eval o X.env:=by rfl)
 (J:((backTo ab (starEach (e :: es) X.env)).all (λx=>!x.1) && (backToKw ab (keywordEach [] X.env)).all (λx=>x.1.isSome)
  && decide ((e :: es).length+([]:List Keyword).length+(if ([]:List Keyword).isEmpty then 0 else 1)<30))=true:=by rfl)
 (D:(apos.endLine == ab.line)=true:=by rfl) (hs:starEach (e :: es) X.env=(false,eval e X.env) :: starEach es X.env:=by rfl) (z:(backTo ab (starEach es X.env)).any (·.1)=false:=by rfl) :
 PE X (.Call (.Attribute o name apos) (e :: es) [] ab) (tBM X.K T r to t):=by
 intro pins s σ H Q I h;refine wpAny_Call_method_late B J D rfl (thn (ho pins s σ H _ I h) λv s1 ⟨x,H1,M,r1,ty,q1⟩=>?_);obtain⟨h1,h2⟩:=v9 M r1 ty;refine⟨T,id,Y,slot,L,h1,h2,?_⟩;have U:=ha ab pins s1 σ H1 _ M q1;rw[hs]at U ⊢;refine Calls.callWith_builtin (by show (false || (backTo ab (starEach es X.env)).any (·.1))=false;rw[z] <;> rfl) (Calls.evalArgs_plain ?_);exact thn U λus s2 ⟨vs,H2,I2,r2,q2⟩=>hm pins s2 σ H2 x vs v us Q I2 r1 r2 q2
/- xs.append(e),list.index on a module's tuple .. are MtR facts of 06m -/
end
def MtM (X:Cx) (id:String) (r:V->List V->Hp->VK->Prop):Prop :=
 ∀ (pins:List (Addr×Obj)) (s:Shared) (σ:St) (H:Hp) (x:V) (xs:List V) (v:Value) (us:List Value) (Q:VK),Inv X pins σ H s->RelV x v->Vals xs us->r x xs H Q ->
  wpAny (model X.prog X.w) X.A (call (.builtin id) (v :: us)) (EP X pins σ Q) X.xe s
def Vals.one:∀ {x:V} {us:List Value},Vals [x] us->∃ u,us=[u]/\RelV x u
 | _,_,.cons r .nil=>⟨_,rfl,r⟩
def Vals.two {x y:V} {us:List Value} (h:Vals [x,y] us):∃ u v,us=[u,v]/\RelV x u/\RelV y v:=by
 cases h with
 | cons r h =>
  obtain⟨u,e,q⟩:=Vals.one h;exact⟨_,u,by rw[e],r,q⟩
def Vals.zero:∀ {us:List Value},Vals [] us->us=[]
 | _,.nil=>rfl
def Vals.dropLast {xs:List V} {us:List Value} (h:Vals xs us):Vals xs.dropLast us.dropLast:=by
 induction h with
 | nil=>exact .nil
 | cons r t z =>
  cases t with
  | nil=>exact .nil
  | cons q t'=>exact .cons r z
def Vals.reverse {xs:List V} {us:List Value} (h:Vals xs us):Vals xs.reverse us.reverse:=by
 induction h with
 | nil=>exact .nil
 | cons r t z=>rw[List.reverse_cons,List.reverse_cons];exact Vals.append z (.cons r .nil)
def O9 {z:Type} (l:List z):l.eraseIdx (l.length - 1)=l.dropLast:=by
 induction l with
 | nil=>rfl
 | cons a r B =>
  cases r with
  | nil=>rfl
  | cons b r =>
   have e:(a :: b :: r).length - 1=((b :: r).length - 1)+1:=by
    have h1:(a :: b :: r).length=r.length+2:=rfl;have h2:(b :: r).length=r.length+1:=rfl;omega
   rw[e,List.eraseIdx_cons_succ,B]
   all_goals rfl
section
variable {X:Cx} {pins:List (Addr×Obj)} {σ:St} {H:Hp} {s:Shared} {l b:Addr} {xs ys zs:List V}
def Inv.lset {its its':List Value} {n:Nat} {f:Array Value->Array Value} {t':Nat} (I:Inv X pins σ H s) (z:H l=some (.lst xs))
 (e:s.heap.get? l=some { cls:=.type "list",data:=.seq its.toArray n }) (B:f its.toArray=its'.toArray) (D:Vals ys its') (J:ys.length<=sizeLine) :
 Inv X pins σ (upd H l (.lst ys)) { s with heap:=s.heap.update l (Obj.mapSeq f),toks:=t' }:=by
 have q:=PySem.IsL.update e f;rw[B]at q;refine I.write (x:=l) (e:=l) (by rw[z];exact trivial) (.inl rfl) (λU u L M=>(aEe s.heap (Obj.mapSeq f) (Ne.symm L)).trans M) ⟨_,q⟩ ?_;exact⟨J,its',_,D,q⟩
def Inv.lnew {its:List Value} {t':Nat} (I:Inv X pins σ H s) (z:Vals ys its) (B:ys.length<=sizeLine) :
 Inv X pins σ (upd H s.heap.objs.size (.lst ys)) { s with heap:=s.heap.push { cls:=.type "list",data:=.seq its.toArray },toks:=t' } :=
 I.laid (λ_ _ q=>aEa _ q) (Nat.le_refl _) ⟨B,its,0,z,aEg _ rfl⟩
def Inv.fresh (I:Inv X pins σ H s):H s.heap.objs.size=none:=I.hok.fresh (Nat.le_refl _)
def Inv.lstM (I:Inv X pins σ H s) (B:H l=some (.lst xs)):xs.length<=sizeLine/\∃ (its:List Value) (n:Nat),Vals xs its/\xs.length=its.length/\s.heap.get? l=some { cls:=.type "list",data:=.seq its.toArray n }:=by
 obtain⟨z,its,n,r,e⟩:=I.hok l _ B;exact⟨z,its,n,r,r.length,e⟩
end
section
variable {X:Cx}
def aB8:V->List V->Hp->VK->Prop:=λx vs H Q=>∃ l xs y,x=.ref l/\vs=[y]/\H l=some (.lst xs)/\xs.length<sizeLine/\Q .non (upd H l (.lst (xs++[y])))
def cF:MtM X "list.append" aB8:=by
 intro pins s σ H x vs v us Q I D J h;obtain⟨l,xs,y,rfl,rfl,B,M,q⟩:=h;cases D;obtain⟨u,rfl,L⟩:=J.one;obtain⟨z,its,n,r,U,e⟩:=I.lstM B;refine call_meets F.slot_list_append ⟨_,e,rfl⟩ F.entry_list_append (F.args_list_append_2 _ _) (PySem.list_append l its.toArray n u (by rw[aEh];omega)) ⟨e,?_⟩;refine⟨.non,_,I.lset (its':=its++[u]) B e (by simp) (r.append (.cons L .nil)) ?_,rfl,q⟩;rw[aEi,List.length_singleton];omega
def aET:V->List V->Hp->VK->Prop:=λx vs H Q=>∃ l xs y,x=.ref l/\vs=[]/\H l=some (.lst xs)/\xs[xs.length - 1]?=some y/\Q y (upd H l (.lst xs.dropLast))
def w4:MtM X "list.pop" aET:=by
 intro pins s σ H x vs v us Q I L M h;obtain⟨l,xs,y,rfl,rfl,J,U,q⟩:=h;cases L;have B:=M.zero;subst B;obtain⟨z,its,n,r,Y,e⟩:=I.lstM J;obtain⟨u,hu,ru⟩:=r.get U;have D:its.toArray[its.toArray.size - 1]?=some u:=by
  show its.toArray[its.length - 1]?=some u;rw[<- Array.getElem?_toList,<- Y];exact hu
 refine call_meets F.slot_list_pop ⟨_,e,rfl⟩ F.entry_list_pop (F.args_list_pop_1 _) (MeetsSeq.list_pop_last l its.toArray n u D (by rw[aEh];omega)) ⟨e,?_⟩;refine⟨y,_,I.lset (its':=its.dropLast) J e ?_ r.dropLast ?_,ru,q⟩
 .show its.toArray.eraseIdxIfInBounds (its.toArray.size - 1)=its.dropLast.toArray;rw[aEh,List.eraseIdxIfInBounds_toArray,O9]
 .rw[List.length_dropLast];omega
def w6:V->List V->Hp->VK->Prop:=λx vs H Q=>∃ l xs,x=.ref l/\vs=[]/\H l=some (.lst xs)/\Q .non (upd H l (.lst xs.reverse))
def uD:MtM X "list.reverse" w6:=by
 intro pins s σ H x vs v us Q I J L h;obtain⟨l,xs,rfl,rfl,D,q⟩:=h;cases J;have B:=L.zero;subst B;obtain⟨z,its,n,r,M,e⟩:=I.lstM D;refine call_meets F.slot_list_reverse ⟨_,e,rfl⟩ F.entry_list_reverse (F.args_list_reverse_1 _) (AutoSeq1.list_reverse_list_0 l its.toArray n (by rw[aEh];omega)) ⟨e,?_⟩;refine⟨.non,_,I.lset (its':=its.reverse) D e (by simp) r.reverse ?_,rfl,q⟩;rw[List.length_reverse];omega
def aEU:R2:=λx y H Q=>∃ l b xs zs,x=.ref l/\y=.ref b/\H l=some (.lst xs)/\H b=some (.lst zs)/\xs.length+zs.length<=sizeLine/\∀ p,H p=none->Q (.ref p) (upd H p (.lst (xs++zs)))
def lG:OpR X (binaryOp .Add) aEU:=by
 intro pins s σ H x y v u Q I D J h;obtain⟨l,b,xs,zs,rfl,rfl,L,M,hz,q⟩:=h;cases D;cases J;obtain⟨z,its,n,r,hl,e⟩:=I.lstM L;obtain⟨z2,B,n2,r2,U,e2⟩:=I.lstM M;refine PySem.P.add_list e e2 ?_ (by rw[aEh,aEh];omega);have Y:its.toArray++B.toArray=(its++B).toArray:=by simp
 rw[Y];exact⟨.ref _,_,I.lnew (t':=s.toks) (r.append r2) (by rw[aEi];omega),rfl,q _ I.fresh⟩
end
end L2
namespace Att
open PySem PySem.W PySem.Calls PyProof.Rows
def sP {P:Params} {h:Heap}:∀ (ns:List Int) (vs:List Value),WellAll P h vs (ns.map WData.int)->IntsAre vs ns:=by
 intro ns
 induction ns with
 | nil =>
  intro vs w;rw[List.map_nil]at w;cases w;exact .nil
 | cons n ns z =>
  intro vs w;rw[aEy]at w;cases w with
  | cons a b =>
   cases a;exact .cons _ _ (z _ b)
def Z6 {l:OpenLaw} {n:Nat} (L:l.most=some n) {P:Params} {h:Heap} {args:List WData} {vals:List Value}
 (z:l.row.toRowW.claim.pre args=true) (D:WellAll P h vals args) :
 ∃ a vs ns,vals=[Value.ref a]/\args=[WData.list (ns.map WData.int)]/\h.get? a=some { cls:=.type "list",data:=.seq vs.toArray }/\IntsAre vs ns/\ns.length<=n:=by
 have I:WShape.hasAll [] args [.list .int]=true:=(pre_splitW z).1;have J:l.pre.holds [] { args:=args }=true:=(pre_splitW z).2;obtain⟨d,r,rfl,h1,h2⟩:=hasAllW_cons I;obtain rfl:=hasAllW_nil h2;obtain⟨xs,rfl,h3⟩:=hasW_list h1;obtain⟨ns,rfl⟩:=items_int h3;have hlen:ns.length<=n:=by
  unfold OpenLaw.pre at J;have h4:(WTm.not (.lt (.lit (.int (n:Int))) (.len (.arg 0)))).holds [] { args:=[.list (ns.map .int)] }=true:=by
   have h4:=(holds_andW J).1;rw[L]at h4;exact h4
  have h5:=condW_of h4 (w_not (w_lt w_lit (w_len_list (w_arg rfl))));rw[aE9]at h5;refine Nat.le_of_not_lt λq=>?_;have M:(n:Int)<((ns.length:Nat):Int):=by omega
  first
   | (rw[aEv M]at h5;exact absurd h5 (by decide))
   | (simp at h5;omega)
 cases D with
 | cons U Y =>
  cases Y;cases U with
  | list ho B=>exact⟨_,_,ns,rfl,rfl,ho,sP ns _ B,hlen⟩
def Z7 (l:OpenLaw) (args:List WData):l.row.toRowW.claim.post args (.bool true) args=true :=
 postW_of (r:=l.row.toRowW) (X:=(true == true))
  (show WShape.has [] (.bool true) .bool=true by first | rfl | decide | simp[WShape.has,WShape.arms,WShape.armsAll])
  (show (WTm.eq .res (.lit (.bool true))).value [] { args:=args,res:=some (.bool true),after:=args }=some (.bool (true == true)) from w_eq_bool (w_res rfl) w_lit) rfl
def attach_call {l:OpenLaw} {n:Nat} {q:Program} {loose:List Str} {XP:(Str->Option Value)->Heap->Prop} {YP:World->Heap->Prop} {d:DefRec}
 (hn:l.most=some n) (U:d.params.defaults=[])
 (call:∀ (w:World) (B z:Shared) (mg mb:Str->Option Value) (I:Addr) (o:Obj) (pm M D:Value) (a:Addr) (vs:List Value) (ns:List Int),
  Ground q loose [] XP w B mg mb z.heap->YP w z.heap ->
  z.heap.get? I=some o->o.data=.func (docDef d.name d.params d.body d.scope pm M D)->z.heap.CodeRec M d.name->mg d.name=some (.ref I) ->
  z.heap.get? a=some { cls:=.type "list",data:=.seq vs.toArray }->IntsAre vs ns->ns.length<=n->z.gens=#[] ->
  codeAny (model l.prog w) callerA (.call (.ref I) ⟨[.ref a],[]⟩) (λr s'=>r=.ok (.ret (.bool true))/\OldK z.heap s'.heap/\s'.os=z.os/\AllBare s'.gens) z) :
 WalkO q loose XP YP l.row.toRowW d [] (λf vs=>PySem.call f vs):=by
 intro w B z mg mb G Y I o pm M D dV kV ho hd al hD am hg args vals as J ap aq ao ar;obtain rfl:dV=.none:=Dflts.none hD U;obtain rfl:kV=.none:=Dflts.noKw hD;obtain⟨a,vs,ns,rfl,rfl,L,hints,hlen⟩:=Z6 hn J ao;refine enter_call (codeAny_mono (call w B z mg mb I o pm M D a vs ns G Y ho (fd_plain hd) al am L hints hlen hg) λr s' hq=>?_);obtain⟨rfl,h2,h3,h4⟩:=hq;exact⟨.inl ⟨.bool true,.bool true,[],rfl,λ_=>rfl,.bool true,Z7 l _,λ_=>⟨List.Pairwise.nil,λ_ hm=>(nomatch hm)⟩⟩,h2,h3,h4⟩
end Att
namespace L2
open PySem PySem.Spec PyProof.Rows
def mP:∀ {vs:List Value} {ns:List Int},IntsAre vs ns->Vals (ns.map V.int) vs
 | _,_,.nil=>.nil
 | _,_,.cons n t h=>.cons ⟨t,rfl⟩ (mP h)
def aCg (H:Hp):Prop:=∀ b,H b=none\/∃ o xs,H b=some (.frz o (.lst xs))
def w8 {P:Program} {w:World} {K:PySem.W.Frag} {mg mb:Str->Option Value} {CX:CXT} {k:Nat} {fa a:Addr} {fd:FuncData} {x:Str} {sp:Sp} {B:Shared} {vs:List Value} {ns:List Int}
 (KX:K.In B.heap) (M:B.heap.Ns mainGlobals mg) (I:B.heap.Ns builtinsNs mb) (ao:∀ x:Str,x≠"__name__"->mb x=bootBuiltins x) (U:B.heap.NoLimit) (hg:B.gens=#[])
 (ha:B.heap.get? a=some { cls:=.type "list",data:=.seq vs.toArray }) (hi:IntsAre vs ns) (hl:ns.length<=sizeLine) (hr:Room k callerA)
 (F:∀ base:Heap,K.In base->base.Ns mainGlobals mg->FnOk P w K mg base CX k fa fd [x] sp) (L:∀ (s:Shared) (u:Value),BindsTo s fd ⟨[u],[]⟩ [(x,u)])
 (ap:∀ H:Hp,aCg H->SqL K H a (ns.map V.int)->sp [.ref a] H (λv _=>v=.bl true) λ_ _ _=>False)
 (aq:∀ H e s',CX [] H B (λ_ _ _=>False) e s'->False) :
 codeAny (model P w) callerA (.call (.ref fa) ⟨[.ref a],[]⟩) (λr s'=>r=.ok (.ret (.bool true))/\OldK B.heap s'.heap/\s'.os=B.os/\AllBare s'.gens) B:=by
 have rv:=mP hi;have Y:=hi.length;have core:∀ H:Hp,aCg H->SqL K H a (ns.map V.int)->HOk P w H B.heap->(∀ b,H b≠none->b=a)->(H a≠none->K.lookup a=none) ->
  codeAny (model P w) callerA (.call (.ref fa) ⟨[.ref a],[]⟩) (λr s'=>r=.ok (.ret (.bool true))/\OldK B.heap s'.heap/\s'.os=B.os/\AllBare s'.gens) B:=by
  intro H hO hS hok hA hK;have D:∀ {b:Addr} {o:Obj},B.heap.get? b=some o->H b=none->(yZ B.heap H).get? b=some o:=λe n=>o4 e n;have ar:∀ {b:Addr} {o:Obj} {es:Array DictEntry} {ep:Nat},B.heap.get? b=some o->o.data=.dict es ep->H b=none:=λ{b o es ep} e d=>by
   cases q:H b with
   | none=>rfl
   | some u =>
    have e':b=a:=hA b (by rw[q];simp);subst e';rw[ha]at e;cases e;have d':Data.seq vs.toArray _=Data.dict es ep:=d;cases d'
  have J:∀ {b:Addr} {m:Str->Option Value},B.heap.Ns b m->(yZ B.heap H).Ns b m:=λ{b m} ⟨o,es,ep,e,d,r⟩=>⟨o,es,ep,D e (ar e d),d,r⟩;have al:K.In (yZ B.heap H):=λb o e=>D (KX b o e) (by
   cases q:H b with
   | none=>rfl
   | some u =>
    have e':b=a:=hA b (by rw[q];simp);subst e';rw[hK (by rw[q];simp)]at e;cases e)
  have hM:Mod K mg (yZ B.heap H):=⟨al,J M,⟨mb,J I,ao⟩,let ⟨mc,h1,h2⟩:=U;⟨mc,J h1,h2⟩⟩;have e0:Env0 P w K mg (yZ B.heap H) callerA [] B H:=⟨rfl,hM,λb o e=>aBT e,Nat.le_of_eq (Y5 _ _),trivial,λb I=>absurd (show b∈([]:List Addr) from I) (by simp),hok,.of_eq hg⟩;refine codeAny_mono ((F _ al (J M)).run callerA [] B H ⟨[.ref a],[]⟩ [.ref a] [.ref a] _ _ hr e0 (L B (.ref a)) (.cons rfl .nil) (ap H hO hS)) λr s' h=>?_;cases r with
  | error e=>exact(aq H e s' h).elim
  | ok fl =>
   cases fl with
   | next=>exact False.elim h
   | brk=>exact False.elim h
   | cont=>exact False.elim h
   | ret u =>
    obtain⟨v,H',os,bare,un,am,r',q⟩:=h;have q':v=.bl true:=q;subst q';obtain rfl:u=Value.bool true:=r';refine⟨rfl,OldK.of_keep λb o e=>?_,os,bare⟩;cases q:H b with
    | none=>exact un.keep b o e q (by intro z;exact absurd (show b∈([]:List Addr) from z) (by simp)) (by simp)
    | some u =>
     rcases hO b with z | ⟨ob,xs,z⟩
     .rw[q]at z;cases z
     .have z2:=un.frzs b ob _ z;obtain⟨e1,_⟩:=hok b _ z;obtain⟨e2,_⟩:=am b _ z2;rw[e]at e1;cases e1;exact e2
 cases hk:K.lookup a with
 | some o =>
  have e:=KX a o hk;rw[ha]at e;cases e;refine core (λ_=>none) (λ_=>.inl rfl) (.inr ⟨_,vs.toArray,_,hk,rfl,rfl,rfl,by rw[aEh,Y];exact hl,by simpa using rv⟩) (λb u z=>by have z':(none:Option HO)=some u:=z;cases z') (λb z=>absurd rfl z) λz=>absurd rfl z
 | none =>
  refine core (λb=>if b=a then some (.frz { cls:=.type "list",data:=.seq vs.toArray } (.lst (ns.map V.int)))else none) (λb=>?_) (.inl (.inr ⟨{ cls:=.type "list",data:=.seq vs.toArray },if_pos rfl⟩)) (λb u z=>?_) (λb z=>?_) λ_=>hk
  .by_cases I:b=a
   .exact .inr ⟨_,_,if_pos I⟩
   .exact .inl (if_neg I)
  .by_cases I:b=a
   .have z':=(if_pos I).symm.trans z;cases z';subst I;exact⟨ha,by rw[aE9];exact hl,vs,_,rv,ha⟩
   .have z':=(if_neg I).symm.trans z;cases z'
  .by_cases I:b=a
   .exact I
   .exact absurd (if_neg I) z
def walk_of {l:PySem.W.OpenLaw} {n k:Nat} {q:Program} {loose:List Str} {XP:(Str->Option Value)->Heap->Prop} {YP:World->Heap->Prop} {d:DefRec} {K:Params->PySem.W.Frag} {CX:World->CXT} {sp:World->Sp} {x:Str}
 (hn:l.most=some n) (hn2:n<=sizeLine) (hdf:d.params.defaults=[]) (hr:Room k callerA)
 (hY:∀ (w:World) (h:Heap),YP w h->(K w.params).In h)
 (F:∀ (w:World) (mg:Str->Option Value) (fa:Addr) (h:Heap),(K w.params).In h->h.Ns mainGlobals mg->mg d.name=some (.ref fa) ->
  ∃ fd:FuncData,(∀ (s:Shared) (u:Value),BindsTo s fd ⟨[u],[]⟩ [(x,u)]) /\
   ∀ base:Heap,(K w.params).In base->base.Ns mainGlobals mg->FnOk l.prog w (K w.params) mg base (CX w) k fa fd [x] (sp w))
 (hsp:∀ (w:World) (H:Hp) (a:Addr) (ns:List Int),ns.length<=n->aCg H->SqL (K w.params) H a (ns.map V.int)->sp w [.ref a] H (λv _=>v=.bl true) λ_ _ _=>False)
 (hCX:∀ (w:World) (H:Hp) (s:Shared) (e:Value) (s':Shared),CX w [] H s (λ_ _ _=>False) e s'->False) :
 PySem.W.WalkO q loose XP YP l.row.toRowW d [] (λf vs=>PySem.call f vs):=by
 refine Att.attach_call hn hdf λw s₀ s₁ mg mb fa o pm cd doc a vs ns G Y ho hd hcd hmg hobj hints hlen hg=>?_;have KX:=hY w _ Y;obtain⟨fd,hb,hF⟩:=F w mg fa _ KX G.T.g hmg;exact w8 KX G.T.g G.T.b G.T.builtins G.T.nolimit hg hobj hints (Nat.le_trans hlen hn2) hr hF hb (λH hO hS=>hsp w H a ns hlen hO hS) λH e s'=>hCX w H s₁ e s'
def cY (s:Stmt) (j:Nat):Stmt:=match s with
 | .ClassDef _ _ _ body _ _ _ _ _ _ _=>body.getD j (.Pass ⟨0,0,0,0⟩)
 | _=>.Pass ⟨0,0,0,0⟩
def dI (s:Stmt):Arguments:=match s with
 | .FunctionDef _ a _ _ _ _ _ _ _ _=>a
 | _=>{ posonlyargs:=[],args:=[],vararg:=none,kwonlyargs:=[],kw_defaults:=[],kwarg:=none,defaults:=[] }
def dC (s:Stmt):List Stmt:=match s with
 | .FunctionDef _ _ b _ _ _ _ _ _ _=>b
 | _=>[]
def aI (s:Stmt):Scope:=match s with
 | .FunctionDef _ _ _ _ _ _ z _ _ _=>z
 | _=>{ kind:=.function,names:=[],isGenerator:=false,isCoroutine:=false }
abbrev CX0:CXT:=λ_ _ _ _ _ _=>False
abbrev E0:XK:=λ_ _ _=>False
def xO {X:Cx}:lE CX0 X E0:=λ_ _ _ _ _ _ _ h=>h.elim
structure Fun (K:PySem.W.Frag) (x qual:Str) (st:Stmt) (f:Addr) (fd:FuncData):Prop where
 ex:∃ (oc:Value) (od:Option Addr) (kV doc pm:Value) (an:Option Addr) (cdv ct:Value) (osl:Array (Option Value)),
  fd=PySem.W.fnOf x qual (dI st) (dC st) (aI st) .none kV doc pm an cdv ct/\K.lookup f=some ⟨oc,od,.func fd,osl⟩/\PySem.W.codeIn K cdv qual=true
 kp:PySem.W.keepIn K (.ref f)=true
section
variable {P:Program} {w:World} {K:PySem.W.Frag} {mg:Str->Option Value} {base:Heap}
def Fun.ok {x qual:Str} {st:Stmt} {f:Addr} {fd:FuncData} {N ps:List Str} {k:Nat} {sp:Sp} (F:Fun K x qual st f fd) (S:aN N ps (aI st)) (len:∀ vs H Q E,sp vs H Q E->vs.length=ps.length)
 (B:∀ (z:Value) (A:Around) (outer:List Env) (s:Shared) (H:Hp) (vs:List V) (Q:VK) (E:XK),Room k (A.deeper (envOfC qual (aI st) s.heap.objs.size f z))->sp vs H Q E ->
  ∃ t,PSs (Z3 CX0 P w K mg base N qual (aI st) f z A outer s H E).nox (dC st) t/\t { nx:=λ_ H'=>Q .non H',rt:=Q } (rX N vs) H):FnOk P w K mg base CX0 (k+1) f fd ps sp:=by
 obtain⟨U,od,kV,J,Y,an,z,ct,L,rfl,lk,D⟩:=F.ex;refine aD7 lk D S len λA outer s H vs Q E M I=>?_;obtain⟨t,h,q⟩:=B z A outer s H vs Q E M I;exact⟨t,h.nox,q⟩
def Fun.binds {x qual:Str} {st:Stmt} {f:Addr} {fd:FuncData} {ps:List Str} (F:Fun K x qual st f fd)
 (h:∀ (kV z D:Value) (I:Option Addr) (B ct:Value) (us:List Value),us.length=ps.length->bindArgs (PySem.W.fnOf x qual (dI st) (dC st) (aI st) .none kV z D I B ct) ⟨us,[]⟩=pure (ps.zip us)):Binds K fd ps []:=by
 obtain⟨M,od,kV,z,D,I,B,ct,J,rfl,lk,L⟩:=F.ex;exact .all (h kV z D I B ct)
def P0 {x qual:Str} {st:Stmt} {f:Addr} {L:Value} {od I:Option Addr} {D:Array (Option Value)} {kV B J z ct:Value} (l:K.lookup f=some ⟨L,od,.func (PySem.W.fnOf x qual (dI st) (dC st) (aI st) .none kV B J I z ct),D⟩)
 (c:PySem.W.codeIn K z qual=true) (k:PySem.W.keepIn K (.ref f)=true):Fun K x qual st f (PySem.W.fnOf x qual (dI st) (dC st) (aI st) .none kV B J I z ct):=⟨⟨L,od,kV,B,J,I,z,ct,D,rfl,l,c⟩,k⟩
end
def oW {A:Around} {k:Nat} (z:Room k A):A.units+1<cLine:=Nat.lt_of_le_of_lt (Nat.add_le_add_left (by decide:1<=64) _) z.units
section
variable {X:Cx}
def pv (i:Nat) {x:Str} {pos:Pos} (B:X.N[i]?=some x:=by rfl) (D:Vis X.env.scope x:=by first | exact Or.inl rfl | exact Or.inr (Or.inl rfl) | exact Or.inr (Or.inr rfl)) (hd:(x == ("__debug__":Str))=false:=by decide)
 (z:(x == ("__classdict__":Str))=false:=by decide):PE X (.Name x pos) (aC2 i):=aC3 B D hd z
end
def zG {A B:Prop} (h:B):if false=true then A else B:=by
 rw[if_neg aEm];exact h
def x8 {A B:Prop} (h:A):if true=true then A else B:=by
 rw[if_pos rfl];exact h
def aDc {c A B:Prop} [Decidable c] (z:c) (h:B):if (!decide c)=true then A else B:=by
 rw[aEv z];exact zG h
def Same (H H':Hp):Prop:=∀ b o,H b=some o->H' b=some o
def Same.refl (H:Hp):Same H H:=λ_ _ h=>h
def Same.trans {H H1 H2:Hp} (a:Same H H1) (b:Same H1 H2):Same H H2:=λc o h=>b c o (a c o h)
def Same.free {H H':Hp} (e:Same H H') {l:Addr} (h:H' l=Option.none):H l=Option.none:=by
 cases q:H l with
 | none=>rfl
 | some o =>
  rw[e l o q]at h;cases h
def Same.seq {K:PySem.W.Frag} {H H':Hp} {a:Addr} {xs:List V} (e:Same H H') (h:SqL K H a xs):SqL K H' a xs:=by
 rcases h with (h | ⟨o,h⟩) | h
 .exact .inl (.inl (e _ _ h))
 .exact .inl (.inr ⟨o,e _ _ h⟩)
 .exact .inr h
def iL (scope:Scope) (env:Env):List (Str×Addr) :=
 scope.names.foldl (λz y=>if y.2 == .free then (match env.cells.lookup y.1 with | some c=>(y.1,c) :: z | none=>z)else z) []
def rZ {env:Env}:∀ (names:List (Str×NameKind)) (z:List (Str×Addr)),(∀ y∈names,y.2=.free->∃ c,env.cells.lookup y.1=some c) ->
 (forIn names z λ(y:Str×NameKind) (r:List (Str×Addr))=>(match y with | (name,kind)=>if (kind == NameKind.free)=true then (do let a <- cellOf env name;pure (ForInStep.yield ((name,a) :: r)))else pure (ForInStep.yield r):Sem (ForInStep (List (Str×Addr))))) =
  pure (names.foldl (λz y=>if y.2 == .free then (match env.cells.lookup y.1 with | some c=>(y.1,c) :: z | none=>z)else z) z)
 | [],z,_=>rfl
 | (n,k) :: r,z,h=>by
  rw[List.forIn_cons,aFA];have B:=λz=>rZ (env:=env) r z λy I=>h y (aEc _ I)
  by_cases D:k=.free
  .subst D;obtain⟨c,e⟩:=h (n,.free) aEb rfl;have J:env.cells.lookup n=some c:=e;simp only[cellOf,J,beq_self_eq_true,if_true];exact B _
  .have L:(k == NameKind.free)=false:=by simpa using D
   simp only[L,Bool.false_eq_true,if_false];exact B _
def sW {scope:Scope} {env:Env} (h:∀ y∈scope.names,y.2=.free->∃ c,env.cells.lookup y.1=some c):closureFor scope env=pure (iL scope env):=by
 have e:=rZ (env:=env) scope.names [] h;unfold closureFor iL;rw[<- e]
 first | rfl | simp
def xP {env:Env} {x:Str} {c:Addr}:∀ (names:List (Str×NameKind)) (B:List (Str×Addr)),(∀ z d,B.lookup z=some d->env.cells.lookup z=some d) ->
 (names.foldl (λB y=>if y.2 == .free then (match env.cells.lookup y.1 with | some c=>(y.1,c) :: B | none=>B)else B) B).lookup x=some c->env.cells.lookup x=some c
 | [],B,h,e=>h x c e
 | (n,k) :: r,B,h,e=>by
  rw[aFA]at e;refine xP r _ ?_ e;intro z d q
  by_cases L:(k == NameKind.free)=true
  .simp only[L,if_true]at q;cases D:env.cells.lookup n with
   | none=>simp only[D]at q;exact h z d q
   | some a =>
    simp only[D,List.lookup_cons]at q
    by_cases I:(z == n)=true
    .simp only[I]at q;have:z=n:=by simpa using I
     subst this;rw[D];exact q
    .have J:(z == n)=false:=by simpa using I
     simp only[J]at q;exact h z d q
  .simp only[L,if_false]at q;exact h z d q
def gS {scope:Scope} {env:Env} {x:Str} {c:Addr} (e:(iL scope env).lookup x=some c):env.cells.lookup x=some c:=xP _ _ (λ_ _ q=>by simp at q) e
def nN {env:Env} {x:Str}:∀ (names:List (Str×NameKind)) (z:List (Str×Addr)),(∀ y∈names,y.2=.free->∃ c,env.cells.lookup y.1=some c)->((x,NameKind.free)∈names\/(z.lookup x).isSome=true) ->
 ((names.foldl (λz y=>if y.2 == .free then (match env.cells.lookup y.1 with | some c=>(y.1,c) :: z | none=>z)else z) z).lookup x).isSome=true
 | [],z,_,h=>by
  rcases h with h | h
  .cases h
  .exact h
 | (n,k) :: r,z,D,h=>by
  rw[aFA];refine nN r _ (λy L=>D y (aEc _ L)) ?_;rcases h with h | h
  .rcases aFL.mp h with h | h
   .cases h;obtain⟨c,e⟩:=D (x,.free) aEb rfl;have M:env.cells.lookup x=some c:=e;right
    simp[M,List.lookup_cons]
   .exact .inl h
  .right
   by_cases I:(k == NameKind.free)=true
   .simp only[I,if_true];cases U:env.cells.lookup n with
    | none=>exact h
    | some a =>
     simp only[List.lookup_cons]
     by_cases J:(x == n)=true
     .simp[J]
     .have B:(x == n)=false:=by simpa using J
      simp only[B];exact h
   .simp only[I];exact h
def xQ {scope:Scope} {env:Env} {x:Str} (z:∀ y∈scope.names,y.2=.free->∃ c,env.cells.lookup y.1=some c) (h:(x,NameKind.free)∈scope.names):∃ c,(iL scope env).lookup x=some c :=
 Option.isSome_iff_exists.mp (nN _ _ z (.inl h))
def cJ (sc inn:Scope) (N:List Str) (js:List Nat) (cs:List Str):Bool :=
 (inn.kind == .function) && inn.names.all (λy=>y.2 != .cell && (y.2 != .local || inn.names.lookup y.1 == some .local) && (y.2 != .free || (sc.names.lookup y.1 == some .cell || sc.names.lookup y.1 == some .free))) &&
 (js.map λj=>N[j]?) == cs.map some && cs.all (λx=>inn.names.lookup x == some .free)
structure CompOk (sc inn:Scope) (N:List Str) (js:List Nat) (cs:List Str):Prop where
 kind:inn.kind=.function
 nocell:∀ y∈inn.names,y.2≠.cell
 names:∀ y∈inn.names,y.2=.local->inn.names.lookup y.1=some .local
 frees:∀ y∈inn.names,y.2=.free->sc.names.lookup y.1=some .cell\/sc.names.lookup y.1=some .free
 slots:(js.map λj=>N[j]?)=cs.map some
 caps:∀ x∈cs,inn.names.lookup x=some .free
def CompOk.of {B inn:Scope} {N:List Str} {js:List Nat} {cs:List Str} (h:cJ B inn N js cs=true):CompOk B inn N js cs:=by
 unfold cJ at h;simp only[Bool.and_eq_true]at h;obtain⟨⟨⟨h1,h2⟩,h3⟩,h4⟩:=h;rw[List.all_eq_true]at h2 h4;refine⟨by simpa using h1,λy z=>?_,λy z e=>?_,λy z e=>?_,by simpa using h3,λx D=>by simpa using h4 x D⟩
 .have:=h2 y z;simp only[Bool.and_eq_true]at this;simpa using this.1.1
 .have:=h2 y z;simp only[Bool.and_eq_true,e]at this;simpa using this.1.2
 .have:=h2 y z;simp only[Bool.and_eq_true,e]at this;simpa using this.2
def sIn (nt:Nat) (js:List Nat) (σ:St):St:=List.replicate nt none++js.map λj=>(σ[j]?).join
def dL (X:Cx) (inn:Scope) (N':List Str) (s₀:Shared) (H₀:Hp) (ex:List Addr):Cx where
 prog:=X.prog
 w:=X.w
 K:=X.K
 mg:=X.mg
 base:=X.base
 A:=X.A
 N:=N'
 s₀:=s₀
 H₀:=H₀
 env:=compEnvC inn (iL inn X.env) s₀.heap.objs.size X.env
 outer:=X.stack
 stack:=X.stack
 ex:=ex
 fn:=λ_=>false
 calm:=X.calm
 pn:=[]
 xe:=λ_ _=>False
def PIf (X:Cx) (ifs:List Expr) (t:TT):Prop :=
 ∀ (pins:List (Addr×Obj)) (s:Shared) (σ:St) (H:Hp) (Q:Bool->Hp->Prop),Inv X pins σ H s->t σ H Q ->
  wpAny (model X.prog X.w) X.A (forIn ifs true λc r=>if r=true then do let ok <- isTrue c X.env (eval c X.env);pure (ForInStep.yield ok)else pure (ForInStep.yield r)) (TP X pins σ Q) X.xe s
def aEV:TT:=λ_ H Q=>Q true H
def cK {X:Cx}:PIf X [] aEV:=λ_ _ _ H _ I h=>wpAny_tests_nil ⟨H,I,h⟩
def sX {X:Cx} {c:Expr} {t:TT} (h:PT X c t):PIf X [c] t:=λpins s σ H Q I hw=>wpAny_tests_one (h pins s σ H Q I hw)
def oX (J:It) (I:St) (g:TG) (tt:TT) (te:TE) (Q:VK) (H1:Hp):Prop:=∃ W:Nat->Nat->List V->Hp->Prop,(∃ m,W 0 m [] H1)/\∀ i m ys H,W i m ys H ->
 ys.length<sizeLine/\((J.stop i H/\∀ D,H D=none->Q (.ref D) (upd H D (.lst ys))) \/
  (J.go i H/\∃ N:List V->Hp->Prop,(∀ z H',N z H'->∃ L,L<m/\W (i+1) L z H')/\∀ x H',J.yld i H x H'->g x I H' λB H2=>tt B H2 λb M =>
   if b=true then te B M λy U=>N (ys++[y]) U else N ys M))
def aCU (wi:TI) (nt:Nat) (js:List Nat) (g:TG) (tt:TT) (te:TE):TE:=fun σ H Q=>wi σ H λJ H1=>oX J (sIn nt js σ) g tt te Q H1
def gH {env:Env}:∀ {names:List (Str×NameKind)} {x:Str},names.lookup x=some .free ->
 (names.map λ(n,k)=>if (k == NameKind.free && env.scope.kind == .function && env.kindOf n == some .cell)then (n,NameKind.cell)else (n,k)).lookup x=some .cell \/
 (names.map λ(n,k)=>if (k == NameKind.free && env.scope.kind == .function && env.kindOf n == some .cell)then (n,NameKind.cell)else (n,k)).lookup x=some .free
 | [],_,h=>by simp at h
 | (n,k) :: r,x,h=>by
  have D:=@gH env r x;show List.lookup x ((if (k == NameKind.free && env.scope.kind == .function && env.kindOf n == some .cell)=true then (n,NameKind.cell)else (n,k)) :: _)=_\/List.lookup x ((if (k == NameKind.free && env.scope.kind == .function && env.kindOf n == some .cell)=true then (n,NameKind.cell)else (n,k)) :: _)=_;cases z:x == n with
  | true =>
   simp only[List.lookup_cons,z]at h;cases h
   by_cases B:(NameKind.free == NameKind.free && env.scope.kind == .function && env.kindOf n == some .cell)=true
   .left;rw[if_pos B];simp[List.lookup_cons,z]
   .right;rw[if_neg B];simp[List.lookup_cons,z]
  | false =>
   simp only[List.lookup_cons,z]at h
   by_cases B:(k == NameKind.free && env.scope.kind == .function && env.kindOf n == some .cell)=true
   .rw[if_pos B];simp only[List.lookup_cons,z];exact D h
   .rw[if_neg B];simp only[List.lookup_cons,z];exact D h
def lH {env:Env}:∀ {names:List (Str×NameKind)} {x:Str},(∀ y∈names,y.2≠NameKind.cell) ->
 ((names.map λ(n,k)=>if (k == NameKind.free && env.scope.kind == .function && env.kindOf n == some .cell)then (n,NameKind.cell)else (n,k)).lookup x=some .cell \/
 (names.map λ(n,k)=>if (k == NameKind.free && env.scope.kind == .function && env.kindOf n == some .cell)then (n,NameKind.cell)else (n,k)).lookup x=some .free)->(x,NameKind.free)∈names
 | [],_,_,h=>by simp at h
 | (n,k) :: r,x,D,h=>by
  have I:=@lH env r x (λy J=>D y (aEc _ J));have L:=D (n,k) aEb;rw[aEy]at h;cases B:x == n with
  | true =>
   have e:x=n:=by simpa using B
   subst e
   by_cases z:(k == NameKind.free && env.scope.kind == .function && env.kindOf x == some .cell)=true
   .have:k=.free:=by simp only[Bool.and_eq_true]at z;simpa using z.1.1
    subst this;exact aEb
   .simp only[if_neg z,List.lookup_cons,B]at h;rcases h with h | h
    .cases h;exact absurd rfl L
    .cases h;exact aEb
  | false =>
   refine aEc _ (I ?_)
   by_cases z:(k == NameKind.free && env.scope.kind == .function && env.kindOf n == some .cell)=true
   .simp only[if_pos z,List.lookup_cons,B]at h;exact h
   .simp only[if_neg z,List.lookup_cons,B]at h;exact h
section
variable {X:Cx} {pins:List (Addr×Obj)} {σ:St} {H H':Hp} {s:Shared} {inn:Scope} {js:List Nat} {cs ts:List Str} {nt:Nat}
def oY {i:Nat} {v:V} (h:(sIn nt js σ)[i]?=some (some v)):nt<=i/\∃ j,js[i - nt]?=some j/\σ[j]?=some (some v):=by
 unfold sIn at h
 by_cases hi:i<nt
 .rw[List.getElem?_append_left (by simpa using hi),List.getElem?_replicate]at h;split at h <;> cases h
 .rw[List.getElem?_append_right (by simpa using hi),aEt,aEx]at h;refine⟨by omega,?_⟩;cases e:js[i - nt]? with
  | none=>rw[e]at h;cases h
  | some j =>
   rw[e]at h;have h':(σ[j]?).join=some v:=Option.some.inj h;refine⟨j,rfl,?_⟩;cases q:σ[j]? with
   | none=>rw[q]at h';cases h'
   | some o =>
    rw[q]at h';have z:o=some v:=h';rw[z]
def aDd {ex:List Addr} (I:Inv X pins σ H s) (O:CompOk X.env.scope inn X.N js cs) (hex:∀ b∈ex,b<s.heap.objs.size/\b≠X.env.locals/\b∉X.fs/\(∀ x c,X.env.cells.lookup x=some c->c≠b)/\∀ o,X.base.get? b≠some o) :
 (dL X inn (ts++cs) s H ex).Ok where
 mod:=I.ok.mod
 kind:=O.kind
 glob:=I.ok.glob
 blt:=I.ok.blt
 above:=Nat.le_refl _
 inj:=λx y c h1 h2=>I.ok.inj x y c (gS h1) (gS h2)
 has:=λx hx=>by
  have hm:(x,NameKind.free)∈inn.names:=lH O.nocell hx;exact xQ (λy hy e=>I.ok.has y.1 (O.frees y hy e)) hm
 cab:=λ_ _ h=>absurd h (by show ¬ (false=true);decide)
 hd:=I.ok.hd
 frames:=I.ok.frames
 stk:=.inl rfl
 exf:=λb hb=>⟨aEw (hex b hb).1,λx c e=>(hex b hb).2.2.2.1 x c (gS e)⟩
 bs:=I.bs
 bsz:=Nat.le_trans I.ok.bsz I.sz
 noex:=λb o e hb=>(hex b hb).2.2.2.2 o e
 exfs:=λb hb hs=>by
  rcases aFL.mp (I.stkSub b hs)with e | e
  .exact(hex b hb).2.1 e
  .exact(hex b hb).2.2.1 e
 funs:=I.stack
 frf:=I.stkFree
def P1 {ex:List Addr} {h':Heap} {tk:Nat} (M:ts.length=nt) (I:Inv X pins σ H s) (O:CompOk X.env.scope inn X.N js cs) (hex:∀ b∈ex,b<s.heap.objs.size/\b≠X.env.locals/\b∉X.fs/\(∀ x c,X.env.cells.lookup x=some c->c≠b)/\∀ o,X.base.get? b≠some o)
 (hn:∃ m,h'.Ns s.heap.objs.size m) (hk:∀ b o,s.heap.get? b=some o->h'.get? b=some o) :
 Inv (dL X inn (ts++cs) s H ex) [] (sIn nt js σ) H { s with heap:=h',toks:=tk }:=by
 have ok:(dL X inn (ts++cs) s H ex).Ok:=aDd I O hex;obtain⟨m,hn⟩:=hn;have cellK:∀ c v,s.heap.IsCell c v->h'.IsCell c v:=λc v ⟨o,ho,hd⟩=>⟨o,hk c o ho,hd⟩;have hlen:js.length=cs.length:=by have:=congrArg List.length O.slots;simpa using this
 refine⟨ok,rfl,I.bare,Un.kept hk,⟨m,hn,λi x v e1 e2 e3=>?_⟩,λx c e=>?_,I.hok.fresh (Nat.le_refl _),λx c e=>I.freeC x c (gS e),λp hp=>?_,I.hok.kept hk,?_⟩
 .obtain⟨hi,j,hj,hv⟩:=oY e2;have L:(ts++cs)[i]?=some x:=e1;rw[List.getElem?_append_right (by omega),M]at L;have hN:X.N[j]?=some x:=by
   have q:(js.map λj=>X.N[j]?)[i - nt]?=(cs.map some)[i - nt]?:=by rw[O.slots]
   rw[aEx,aEx,hj,L]at q;exact Option.some.inj q
  have B:=O.caps x (aEk L);have D:(x,NameKind.free)∈inn.names:=PySem.mem_of_lookup B;have J:=O.frees _ D rfl;obtain⟨mo,al,hl⟩:=I.loc;obtain⟨u,r,l⟩:=hl j x v hN hv (.inr J);refine⟨u,r,.inr ?_⟩;rcases l with ⟨l1,_⟩ | ⟨k,c,ec,z⟩
  .have U:X.env.scope.names.lookup x=some .local:=l1;rcases J with q | q <;> (rw[q]at U;cases U)
  .refine⟨?_,?_⟩
   .exact gH (env:=X.env) B
   .obtain⟨c',Y⟩:=xQ (env:=X.env) (λy hy e=>I.ok.has y.1 (O.frees y hy e)) D;have:=gS Y;rw[ec]at this;cases this;exact⟨c,Y,cellK _ _ z⟩
 .obtain⟨v,z⟩:=I.cell x c (gS e);exact⟨v,cellK _ _ z⟩
 .exact absurd (show p∈([]:List (Addr×Obj)) from hp) (by simp)
 .show (sIn nt js σ).length=(ts++cs).length;unfold sIn;simp[M,hlen]
def Inv.track {a:Addr} {o:HO} (I:Inv X pins σ H s) (L:H a=none) (h0:X.s₀.heap.objs.size<=a) (M:a≠X.env.locals) (U:∀ x c,X.env.cells.lookup x=some c->c≠a) (Y:∀ p∈X.pn++pins,p.1≠a)
 (new:ObjOk X.prog X.w (upd H a o) s.heap a o):Inv X pins σ (upd H a o) s:=by
 have D:∀ b z,X.s₀.heap.get? b=some z->b≠a:=λb z e=>aEw (aEq (aEf e) h0);have neT:∀ b u,H b=some u->b≠a:=λb u e=>aM e L;refine⟨I.ok,I.os,I.bare,⟨I.base.keep,I.base.slot,λb z e n hx=>?_,I.base.there,λb xs e=>?_,λb z u e=>?_,λb ps e=>?_⟩,I.loc,I.cell,?_,λx c e=>?_,λp B=>?_,λb u e=>?_,I.len⟩
 .rw[aF (D b z e)];exact I.base.free b z e n hx
 .have q:=I.base.tups b xs e;rw[aF (neT b _ q)];exact q
 .have q:=I.base.frzs b z u e;rw[aF (neT b _ q)];exact q
 .obtain⟨more,q⟩:=I.base.tbls b ps e;exact⟨more,by rw[aF (neT b _ q)];exact q⟩
 .rw[aF (Ne.symm M)];exact I.free
 .rw[aF (U x c e)];exact I.freeC x c e
 .obtain⟨q1,q2,q3,q4,q5⟩:=I.pin p B;exact⟨q1,by rw[aF (Y p B)];exact q2,q3,q4,q5⟩
 .by_cases J:b=a
  .subst J;rw[aB]at e;cases e;exact new
  .rw[aF J]at e;exact(I.hok b u e).stay (λ_ _ _ q=>q) (λc q=>by rw[aF (neT c _ q)];exact q) λc xs q=>by rw[aF (neT c _ q)];exact q
end
def GK (nt:Nat) (g:TG):Prop:=∀ v σ H Q,g v σ H Q->g v σ H λz H'=>((∀ i,nt<=i->z[i]?=σ[i]?)/\z.length=σ.length)/\Q z H'
def GKs (nt:Nat) (g:TGs):Prop:=∀ vs σ H Q,g vs σ H Q->g vs σ H λz H'=>((∀ i,nt<=i->z[i]?=σ[i]?)/\z.length=σ.length)/\Q z H'
def eG {nt i:Nat} (h:i<nt):GK nt (xG i):=λv σ H Q q=>⟨⟨λj hj=>by rw[List.getElem?_set_ne (by omega)],by simp⟩,q⟩
def fQ {nt:Nat}:GKs nt aDX:=λvs σ H Q ⟨e,q⟩=>⟨e,⟨λ_ _=>rfl,rfl⟩,q⟩
def bU {nt i:Nat} {u:TGs} (h:i<nt) (B:GKs nt u):GKs nt (o7 (xG i) u):=λvs σ H Q q=>by
 obtain⟨v,r,e,q⟩:=q;refine⟨v,r,e,?_⟩;have D:u r (σ.set i (some v)) H Q:=q;have w:=B r (σ.set i (some v)) H Q D;have e1:∀ j,nt<=j->(σ.set i (some v))[j]?=σ[j]?:=λj hj=>by rw[List.getElem?_set_ne (by omega)]
 have:(λ(z:St) (H':Hp)=>((∀ j,nt<=j->z[j]?=(σ.set i (some v))[j]?)/\z.length=(σ.set i (some v)).length)/\Q z H')=λz H'=>((∀ j,nt<=j->z[j]?=σ[j]?)/\z.length=σ.length)/\Q z H':=by
  funext z H'
  apply propext
  constructor
  .rintro ⟨⟨a,b⟩,c⟩;exact⟨⟨λj hj=>(a j hj).trans (e1 j hj),by simpa using b⟩,c⟩
  .rintro ⟨⟨a,b⟩,c⟩;exact⟨⟨λj hj=>(a j hj).trans (e1 j hj).symm,by simpa using b⟩,c⟩
 rw[this]at w;exact w
def jB {K:PySem.W.Frag} {nt n:Nat} {t:TGs} (h:GKs nt t):GK nt (aBV K n t):=λv σ H Q ⟨a,xs,e,z,B,q⟩=>⟨a,xs,e,z,B,h xs σ H Q q⟩
section
variable {X:Cx} {pins:List (Addr×Obj)} {σ:St} {inn:Scope} {js:List Nat} {cs ts:List Str} {nt:Nat} {elt tg iter:Expr} {ifs:List Expr} {pos:Pos} {g:TG} {tt:TT} {te:TE}
def xR {J:It} {fp:List Addr} {it:Addr} {tn:Nat->Heap->Prop} {H2:Hp} {s2:Shared} {E:Value->Shared->Prop} {Q:VK} {RR:Value->Addr->Result->Shared->Prop}
 (bc:X.calm=true) (O:CompOk X.env.scope inn X.N js cs) (cj:ts.length=nt)
 (hg:∀ Y al ex,PG (dL X inn (ts++cs) Y al ex) tg g) (hk:GK nt g) (ht:∀ Y al ex,PIf (dL X inn (ts++cs) Y al ex) ifs tt) (he:∀ Y al ex,PE (dL X inn (ts++cs) Y al ex) elt te)
 (I2:Inv X pins σ H2 s2) (T:qJ X.prog X.w X.K tg J fp it tn) (bf:tn 0 s2.heap) (f2:∀ b∈fp,iE X pins H2 b)
 (R:oX J (sIn nt js σ) g tt te Q H2)
 (ck:∀ D C s' H',Inv X pins σ H' s'->(∃ m,s'.heap.Ns C m)->H' C=none->C≠X.env.locals->X.s₀.heap.objs.size<=C->(∀ x c,X.env.cells.lookup x=some c->c≠C)->(∀ p∈X.pn++pins,p.1≠C)->Q (.ref D) H'->RR (.ref D) C (.ok .next) s') :
 wpAny (model X.prog X.w) X.A (newList []) (λbr bt=>wpAny (model X.prog X.w) X.A (newFunctionEnv inn X.env.globals (iL inn X.env) [] X.env.qual none .none (some X.env)) (λa_ bu =>
  codeAny (model X.prog X.w) X.A (.compStart (.ListComp elt [⟨tg,iter,ifs,0⟩] inn pos) 0 (.ref it) br { a_ with scope:=relabel inn X.env }) (RR br a_.locals) bu) E bt) E s2:=by
 refine wpAny_newObj_type (wpAny_newFunctionEnv O.nocell (by intro y hy;simp at hy) (λam M U=>?_) O.kind);dsimp only at M U ⊢;generalize hD:s2.heap.objs.size=D;have I3:Inv X pins σ H2 { s2 with heap:=s2.heap.push { cls:=.type "list",dict:=none,data:=.seq ([]:List Value).toArray } }:=I2.kept (t':=s2.toks) λb o e=>aEa _ e;generalize bv:({ s2 with heap:=s2.heap.push { cls:=.type "list",dict:=none,data:=.seq ([]:List Value).toArray } }:Shared)=L at I3;have e3:L.heap=s2.heap.push { cls:=.type "list",dict:=none,data:=.seq ([]:List Value).toArray }:=by rw[<- bv]
 have cm:L.heap.get? D=some { cls:=.type "list",dict:=none,data:=.seq ([]:List Value).toArray }:=by rw[e3,<- hD];exact aEg _ rfl
 have aq:L.heap.objs.size=D+1:=by rw[e3,Heap.size_push,hD]
 have cn:(s2.heap.push { cls:=.type "list",dict:=none,data:=.seq ([]:List Value).toArray })=L.heap:=e3.symm;rw[cn]at M U ⊢;have ba:H2 D=none:=I2.hok.fresh (by rw[hD];exact Nat.le_refl _);have up:∀ b o,L.heap.get? b=some o->am.get? b=some o:=λb o e=>U.extBut b o (aEw (aEf e)) (aEa _ e);have bg:∀ b∈fp,b<L.heap.objs.size/\b≠D:=λb hb=>by
  obtain⟨o,eo,_⟩:=T.obj 0 _ bf b hb;have h1:=aEf eo;rw[hD]at h1;exact⟨by rw[aq];exact Nat.lt_succ_of_lt h1,aEw h1⟩
 have nb:∀ b,X.s₀.heap.objs.size<=b->∀ o,X.base.get? b≠some o:=λb hb o e=>absurd (aEq (aEf e) (Nat.le_trans I2.ok.bsz hb)) (Nat.lt_irrefl _);have av:s2.heap.objs.size<=D:=by rw[hD];exact Nat.le_refl _
 have fD:iE X pins H2 D:=I2.fpOk av ba;have hex:∀ b∈D :: fp,b<L.heap.objs.size/\b≠X.env.locals/\b∉X.fs/\(∀ x c,X.env.cells.lookup x=some c->c≠b)/\∀ o,X.base.get? b≠some o:=λb hb=>by
  rcases aFL.mp hb with rfl | hb
  .exact⟨by rw[aq];exact Nat.lt_succ_self _,fD.2.1,fD.2.2.1,fD.2.2.2.2.1,nb _ (Nat.le_trans I2.sz av)⟩
  .obtain⟨f0,f1,bw,f3,f4,f5⟩:=f2 b hb;refine⟨(bg b hb).1,f1,bw,f4,λo e=>?_⟩;rcases f3 with z | z
   .exact I2.ok.noex b o e z
   .exact nb b z o e
 have hC:L.heap.objs.size=L.heap.objs.size:=rfl;generalize I:dL X inn (ts++cs) L H2 (D :: fp)=B;have I4:Inv B [] (sIn nt js σ) H2 { L with heap:=am,toks:=L.toks }:=by
  rw[<- I];exact P1 cj I3 O hex ⟨_,M⟩ up
 have xp:B.prog=X.prog:=by rw[<- I];rfl
 have xw:B.w=X.w:=by rw[<- I];rfl
 have xK:B.K=X.K:=by rw[<- I];rfl
 have xA:B.A=X.A:=by rw[<- I];rfl
 have xc:B.calm=true:=by rw[<- I];exact bc
 have xe:B.env=compEnvC inn (iL inn X.env) L.heap.objs.size X.env:=by rw[<- I];rfl
 have xx:B.xe=λ_ _=>False:=by rw[<- I];rfl
 have bi:B.ex=D :: fp:=by rw[<- I];rfl
 have bj:B.pn=[]:=by rw[<- I];rfl
 have bx:B.s₀=L:=by rw[<- I];rfl
 have cp:B.H₀=H2:=by rw[<- I];rfl
 have cq:B.fs=frs X.stack:=by rw[<- I];rfl
 have cr:PG B tg g:=by rw[<- I];exact hg _ _ _
 have cu:PIf B ifs tt:=by rw[<- I];exact ht _ _ _
 have cv:PE B elt te:=by rw[<- I];exact he _ _ _
 have ao:=I4.ok;have xl:B.env.locals=L.heap.objs.size:=by rw[xe];rfl
 have Dl:D≠B.env.locals:=by rw[xl,aq];exact aEw (Nat.lt_succ_self _)
 have ar:∀ {H':Hp} {pl:List (Addr×Obj)},(∀ b∈fp,H' b=none)->(∀ p∈pl,p.1=D)->∀ b∈fp,iE B pl H' b:=λ{H' pl} hn hpl b hb=>by
  have aw:b∈B.ex:=by rw[bi];exact aEc _ hb
  refine⟨hn b hb,(ao.exf b aw).1,λz=>ao.exfs b aw z,.inl aw,(ao.exf b aw).2,λp hp=>?_⟩;rw[bj,List.nil_append]at hp;rw[hpl p hp];exact Ne.symm (bg b hb).2
 have DX:D∈B.ex:=by rw[bi];exact aEb
 obtain⟨W,⟨m0,w0⟩,turn⟩:=R;have loop:codeAny (model X.prog X.w) X.A (.compLoop (.ListComp elt [⟨tg,iter,ifs,0⟩] inn pos) 0 (.ref it) (.ref D) B.env) (RR (.ref D) L.heap.objs.size) { L with heap:=am,toks:=L.toks }:=by
  refine codeAny_loop rfl (λn s'=>∃ i ys H',Inv B [] (sIn nt js σ) H' s'/\tn i s'.heap/\(∀ b∈fp,H' b=none)/\H' D=none/\(∃ (its:List Value) (c:Nat),Vals ys its/\s'.heap.get? D=some { cls:=.type "list",data:=.seq its.toArray c })/\W i n ys H') ?_ m0
   ⟨0,[],H2,I4,?_,λb hb=>(f2 b hb).1,ba,⟨[],0,.nil,up D _ cm⟩,w0⟩
  .rintro n s5 ⟨i,ys,H5,I5,b_,ca,bm,⟨its,c,rv,eD⟩,w5⟩;show wpAny _ X.A ((compTurn (.ListComp elt [⟨tg,iter,ifs,0⟩] inn pos) 0 (.ref it) (.ref D) B.env).onRaise (λx=>do noteFrame x B.env;theTreesLotGoes x)) _ _ s5;refine wpAny_noted ?_;rw[compTurn_list];refine aE7 (wpAny_standAt (aE7 ?_));have bb:Inv B (cA [D] s5.heap) (sIn nt js σ) H5 s5:=by
    have q:=I5.pinned (fp:=[D]) (λb hb=>?_) (λb hb=>?_)
    .simpa using q
    .have e:b=D:=by simpa using hb
     subst e;refine⟨bm,Dl,λz=>ao.exfs b DX z,.inl DX,(ao.exf b DX).2,λp hp=>?_⟩;rw[bj,List.nil_append]at hp;cases hp
    .have e:b=D:=by simpa using hb
     subst e;exact⟨_,eD,λv z=>by cases z⟩
   have bo:∀ p∈cA [D] s5.heap,p.1=D:=λp hp=>by simpa using (gR hp).1
   have memD:(D,({ cls:=.type "list",data:=.seq its.toArray c }:Obj))∈cA [D] s5.heap:=bR (by simp) eD;obtain⟨hz,cw⟩:=turn i n ys H5 w5;rcases cw with ⟨stop,fin⟩ | ⟨go,N,hN,step⟩
   .have q:=T.done B xp xw xK xc i _ s5 _ H5 (notedBy (model X.prog X.w) X.A B.env λe s'=>RR (.ref D) L.heap.objs.size (.error e) s') bb (ar ca bo) b_ stop;rw[xA]at q;refine wpAny_mono q (λr s6 ⟨hr,I6⟩=>?_) λ_ _ z=>z;subst hr;refine aE8 ?_;have cx:=(I6.pin (D,_) (aEd _ memD)).1;have un:Un (frs X.stack) (D :: fp) H2 H5 L.heap s6.heap:=by
     have z:=I6.base;rw[cq,bi,cp,bx]at z;exact z
    have cz:s6.os=L.os:=by have z:=I6.os;rw[bx]at z;exact z
    have cb:HOk X.prog X.w H5 s6.heap:=by have z:=I6.hok;rw[xp,xw]at z;exact z
    have I7:Inv X pins σ H5 s6:=I3.call' cz un cb I6.bare λb hb=>by
     rcases aFL.mp hb with e | hb
     .rw[e];exact⟨.inr (Nat.le_trans I2.sz av),fD.2.1,fD.2.2.2.2.1,fD.2.2.2.2.2⟩
     .obtain⟨f0,f1,bw,f3,f4,f5⟩:=f2 b hb;exact⟨f3,f1,f4,f5⟩
    have I8:Inv X pins σ (upd H5 D (.lst ys)) s6:=I7.track bm (Nat.le_trans I2.sz av) fD.2.1 fD.2.2.2.2.1 fD.2.2.2.2.2 ⟨Nat.le_of_lt hz,its,c,rv,cx⟩;have ce:L.heap.objs.size<=L.heap.objs.size:=Nat.le_refl _;have fC:iE X pins (upd H5 D (.lst ys)) L.heap.objs.size:=I3.fpOk ce (by
     rw[aF (by rw[<- xl];exact Ne.symm Dl)];have z:=I6.free;rw[xl]at z;exact z)
    obtain⟨mm,cf,_⟩:=I6.loc;rw[xl]at cf;exact ck D _ s6 _ I8 ⟨mm,cf⟩ fC.1 fC.2.1 (Nat.le_trans I3.sz ce) fC.2.2.2.2.1 fC.2.2.2.2.2 (fin D bm)
   .have q:=T.item B xp xw xK xc i _ s5 _ H5 (notedBy (model X.prog X.w) X.A B.env λe s'=>RR (.ref D) L.heap.objs.size (.error e) s') bb (ar ca bo) b_ go;rw[xA]at q;refine wpAny_mono q (λr s6 ⟨u,hr,h6⟩=>?_) λ_ _ z=>z;subst hr;refine aE7 (wpAny_mono h6 (λ_ s7 ⟨x,H7,I7,r7,y7,bq,c_⟩=>?_) λ_ _ z=>z);have da:=I7.pinned (fp:=fp) (λb hb=>ar c_ bo b hb) (T.obj _ _ bq);have q8:=cr _ s7 _ H7 x u _ da r7 (hk x _ H7 _ (step x H7 y7));rw[xp,xw,xA,xx]at q8;refine aE7 (wpAny_mono q8 (λ_ s8 ⟨ap,H8,I8,⟨k8,l8⟩,q8⟩=>?_) λ_ _ z=>z.elim);have q9:=cu _ s8 ap H8 _ I8 q8;rw[xp,xw,xA,xx]at q9;refine aE7 (wpAny_mono q9 (λok s9 ⟨H9,I9,q9⟩=>?_) λ_ _ z=>z.elim);have ax:∀ (j:Nat) v,(sIn nt js σ)[j]?=some (some v)->ap[j]?=some (some v):=λj v e=>by
     have hj:=(oY e).1;rw[k8 j hj];exact e
    have ends:∀ {H9:Hp} {s9:Shared} {au:List V},Inv B (cA [D] s5.heap++cA fp s7.heap) ap H9 s9->∀ {h':Heap} {its':List Value} {c':Nat},(∀ b o,b≠D->s9.heap.get? b=some o->h'.get? b=some o)->Vals au its'->h'.get? D=some { cls:=.type "list",data:=.seq its'.toArray c' }->N au H9 ->
     ∀ tk,∃ m,m<n/\∃ i ys H',Inv B [] (sIn nt js σ) H' { s9 with heap:=h',toks:=tk }/\tn i h'/\(∀ b∈fp,H' b=none)/\H' D=none/\(∃ (its:List Value) (c:Nat),Vals ys its/\h'.get? D=some { cls:=.type "list",data:=.seq its.toArray c })/\W i m ys H':=λ{H9 s9 au} I9 {h' its' c'} kp db de n9 tk=>by
     obtain⟨m',hm,w9⟩:=hN au H9 n9;have cg:H9 D=none:=(I9.pin (D,_) (aEd _ (aEs _ memD))).2.1;have df:∀ b∈fp,H9 b=none:=λb hb=>by
      obtain⟨o,e,d⟩:=T.obj _ _ bq b hb;exact(I9.pin (b,o) (aEd _ (aEd _ (bR hb e)))).2.1
     have ay:Inv B [] ap H9 s9:=I9.pins_of λp hp=>by cases hp
     have dh:Inv B [] ap H9 { s9 with heap:=h',toks:=tk }:=ay.turned (it:=D) kp cg Dl (.inl DX) (ao.exf D DX).2 (λp hp=>by rw[bj]at hp;cases hp);refine⟨m',hm,i+1,au,H9,dh.weak l8.symm ax,T.keep _ _ _ bq λb hb o e=>kp b o (bg b hb).2 (I9.pin (b,o) (aEd _ (aEd _ (bR hb e)))).1,df,cg,⟨its',c',db,de⟩,w9⟩
    cases ok with
    | false =>
     rw[if_neg aEm]at q9;have di:=(I9.pin (D,_) (aEd _ (aEs _ memD))).1;exact aE8 ⟨rfl,ends I9 (h':=s9.heap) (λ_ _ _ e=>e) rv di q9 s9.toks⟩
    | true =>
     rw[if_pos rfl]at q9;have az:=cv _ s9 ap H9 _ I9 q9;rw[xp,xw,xA,xx]at az;refine aE7 (aE7 (wpAny_mono az (λv dj ⟨y,dq,ay,dm,az⟩=>?_) λ_ _ z=>z.elim));have ci:=(ay.pin (D,_) (aEd _ (aEs _ memD))).1;have hlen:=rv.length;refine aE7 (wpAny_list_append_plain (items:=its.toArray) ⟨c,ci⟩ (λh' hl hs=>aE8 (aE8 ⟨rfl,?_⟩)) (by rw[aEh];omega));obtain⟨c',e'⟩:=hl;have dn:h'.get? D=some { cls:=.type "list",data:=.seq (its++[v]).toArray c' }:=by rw[e'];simp
     exact ends ay (h':=h') (λb o hb e=>hs.extBut b o hb e) (rv.append (.cons dm .nil)) dn az dj.toks
  .exact T.keep 0 _ _ bf λb hb o e=>up b o (by rw[e3];exact aEa _ e)
 have e4:({ s2 with heap:=am,toks:=s2.toks+([]:List (Str×Value)).length }:Shared)={ L with heap:=am,toks:=L.toks }:=by rw[<- bv];rfl
 rw[e4];show codeAny _ _ (.compStart (.ListComp elt [⟨tg,iter,ifs,0⟩] inn pos) 0 (.ref it) (.ref D) (compEnvC inn (iL inn X.env) L.heap.objs.size X.env)) (RR (.ref D) L.heap.objs.size) _;rw[<- xe];refine codeAny_compStart_list loop ?_;refine T.self X.A 0 _ _ _ ?_ loop;exact T.keep 0 _ _ bf λb hb o e=>up b o (by rw[e3];exact aEa _ e)
end
section
variable {X:Cx} {inn:Scope} {js:List Nat} {cs ts:List Str} {nt:Nat} {elt tg iter:Expr} {ifs:List Expr} {pos:Pos} {g:TG} {tt:TT} {te:TE} {wi:TI}
def cT (ts cs:List Str) (js:List Nat) (L:X.calm=true) (O:CompOk X.env.scope inn X.N js cs) (hi:PI X tg iter wi)
 (hg:∀ z B ex,PG (dL X inn (ts++cs) z B ex) tg g) (hk:GK ts.length g) (ht:∀ z B ex,PIf (dL X inn (ts++cs) z B ex) ifs tt) (he:∀ z B ex,PE (dL X inn (ts++cs) z B ex) elt te)
 (hs:∀ x,foldedSetIterable iter X.env x=pure x:=by intro _;rfl):PE X (.ListComp elt [⟨tg,iter,ifs,0⟩] inn pos) (aCU wi ts.length js g tt te):=by
 intro pins s σ H Q I h;rw[eval_ListComp];refine wpAny_comprehension_free (use:=none) rfl hs (sW λy hy e=>I.ok.has y.1 (O.frees y hy e)) O.kind O.names (thn (hi pins s σ H _ I h) λxv s1 h1=>thn h1 λal s2 h2=>?_);obtain⟨it,fp,tn,J,H2,e,I2,T,M,f2,R⟩:=h2;subst e;refine xR (Q:=Q) (RR:=λU C=>compPost (model X.prog X.w) X.A X.xe none (EP X pins σ Q) U C) L O rfl hg hk ht he I2 T M f2 R ?_;intro D C s' H' I' ⟨m,hm⟩ c1 c2 c3 c4 c5 q;refine⟨m,hm,λh' Y=>?_⟩;exact⟨.ref D,H',I'.turned (it:=C) (t':=s'.toks) (λb o hb e=>Y.extBut b o hb e) c1 c2 (.inr c3) c4 c5,rfl,q⟩
def zH {i:Nat} {x:Str} {pos' M:Pos} (ts cs:List Str) (js:List Nat) (U:X.calm=true) (hN:X.N.Nodup) (al:X.N[i]?=some x) (hx:X.env.scope.names.lookup x=some .local) (O:CompOk X.env.scope inn X.N js cs) (hi:PI X tg iter wi)
 (hg:∀ B L ex,PG (dL X inn (ts++cs) B L ex) tg g) (hk:GK ts.length g) (ht:∀ B L ex,PIf (dL X inn (ts++cs) B L ex) ifs tt) (he:∀ B L ex,PE (dL X inn (ts++cs) B L ex) elt te)
 (am:swapsWith (.ListComp elt [⟨tg,iter,ifs,0⟩] inn pos) (some (.Name x pos')) M.line X.env=pure true) (hs:∀ x,foldedSetIterable iter X.env x=pure x:=by intro _;rfl) :
 PS X (.Assign [.Name x pos'] (.ListComp elt [⟨tg,iter,ifs,0⟩] inn pos) M) (aC7 (aCU wi ts.length js g tt te) (xG i)):=by
 intro pins s σ H D I h;rw[exec_Assign_Name_used _ _ _ _ am];refine aE7 (wpAny_standAt (aE7 ?_));show wpAny _ X.A (do let _ <- comprehension (.ListComp elt [⟨tg,iter,ifs,0⟩] inn pos) inn X.env _ (newList []) false (eval iter X.env) (some (assign (.Name x pos') X.env))) _ _ s;refine aE7 (wpAny_mono (wpAny_comprehension_free (use:=some (assign (.Name x pos') X.env)) (Q:=λ_ s'=>SP X pins D .next s') rfl hs (sW λy hy e=>I.ok.has y.1 (O.frees y hy e)) O.kind O.names
  (thn (hi pins s σ H _ I h) λxv s1 h1=>thn h1 λau s2 h2=>?_)) (λ_ s' hq=>aE8 (aE8 hq)) λ_ _ e=>e)
 obtain⟨it,fp,tn,J,H2,e,I2,T,ao,f2,R⟩:=h2;subst e;refine xR (Q:=λv H'=>D.nx (σ.set i (some v)) H') (RR:=λap C=>compPost (model X.prog X.w) X.A X.xe (some (assign (.Name x pos') X.env)) (λ_ s'=>SP X pins D .next s') ap C) U O rfl hg hk ht he I2 T ao f2 R ?_;intro D' C s' H' I' ⟨m,hm⟩ c1 c2 c3 c4 c5 q;show wpAny _ X.A (assign (.Name x pos') X.env (.ref D')) _ _ _;refine wpAny_assign_Name (xF (v:=.ref D') I' hN al (.inl hx) rfl (λs2 I2 ⟨a,aq,ha⟩=>?_) (.inr hx));have ar:C≠a:=by
  rcases ha with e | e
  .rw[e];exact c2
  .exact λz=>c4 _ _ e z.symm
 refine⟨m,hm.sameBut aq ar,λh' Y=>?_⟩;exact⟨_,H',I2.turned (it:=C) (t':=s2.toks) (λb o hb e=>Y.extBut b o hb e) c1 c2 (.inr c3) c4 c5,q⟩
end
def eN {K:PySem.W.Frag} {a:Addr} {xs:List V} {z:St} {g:TG} {tt:TT} {te:TE} {H:Hp} {Q:VK} (Pv:Nat->List V->Hp->Prop) (h0:Pv 0 [] H) (L:∀ i ys H,i<=xs.length->Pv i ys H->SqL K H a xs/\ys.length<sizeLine)
 (hs:∀ i x ys H,xs[i]?=some x->Pv i ys H->g x z H λB H2=>tt B H2 λb J=>if b=true then te B J λy M=>Pv (i+1) (ys++[y]) M else Pv (i+1) ys J) (hd:∀ ys H,Pv xs.length ys H->∀ D,H D=none->Q (.ref D) (upd H D (.lst ys))) :
 oX (Itl K a) z g tt te Q H:=by
 refine⟨λi m ys H=>m=xs.length - i/\i<=xs.length/\Pv i ys H,⟨xs.length,by simp,Nat.zero_le _,h0⟩,?_⟩;rintro i m ys H ⟨rfl,hi,p⟩;obtain⟨q,U⟩:=L i ys H hi p;refine⟨U,?_⟩
 by_cases I:i<xs.length
 .refine .inr ⟨⟨xs,xs[i],q,by simp[I]⟩,Pv (i+1),λY H' p'=>⟨xs.length - (i+1),by omega,rfl,I,p'⟩,λx H' y=>?_⟩;obtain⟨e,y⟩:=y;subst e;exact hs i x ys _ (y xs q) p
 .have e:i=xs.length:=by omega
  subst e;exact .inl ⟨⟨xs,q,Nat.le_refl _⟩,hd ys H p⟩
def nY {lo:Int} {n:Nat} {B:St} {g:TG} {tt:TT} {te:TE} {H:Hp} {Q:VK} (Pv:Nat->List V->Hp->Prop) (h0:Pv 0 [] H) (L:∀ i ys H,i<=n->Pv i ys H->ys.length<sizeLine)
 (hs:∀ i ys H,i<n->Pv i ys H->g (.int (lo+i)) B H λI H2=>tt I H2 λb J=>if b=true then te I J λy M=>Pv (i+1) (ys++[y]) M else Pv (i+1) ys J) (hd:∀ ys H,Pv n ys H->∀ D,H D=none->Q (.ref D) (upd H D (.lst ys))) :
 oX (Itr lo n) B g tt te Q H:=by
 refine⟨λi m ys H=>m=n - i/\i<=n/\Pv i ys H,⟨n,by simp,Nat.zero_le _,h0⟩,?_⟩;rintro i m ys H ⟨rfl,hi,p⟩;refine⟨L i ys H hi p,?_⟩
 by_cases z:i<n
 .refine .inr ⟨z,Pv (i+1),λU H' Y=>⟨n - (i+1),by omega,rfl,z,Y⟩,λx H' y=>?_⟩;obtain⟨e,y⟩:=y;subst e y;exact hs i ys _ z p
 .have e:i=n:=by omega
  subst e;exact .inl ⟨Nat.le_refl _,hd ys H p⟩
mutual
inductive Den (H:Hp):V->PyData->Prop
 | non:Den H .non .none
 | bl (b:Bool):Den H (.bl b) (.bool b)
 | int (i:Int):Den H (.int i) (.int i)
 | str (x:Str):Den H (.str x) (.str x)
 | lst {a:Addr} {vs:List V} {ds:List PyData}:H a=some (.lst vs)->Dens H vs ds->Den H (.ref a) (.list ds)
 | tup {a:Addr} {vs:List V} {ds:List PyData}:H a=some (.tup vs)->Dens H vs ds->Den H (.ref a) (.tuple ds)
inductive Dens (H:Hp):List V->List PyData->Prop
 | nil:Dens H [] []
 | cons {v:V} {d:PyData} {vs:List V} {ds:List PyData}:Den H v d->Dens H vs ds->Dens H (v :: vs) (d :: ds)
end
def Dens.length:∀ {H:Hp} {vs:List V} {ds:List PyData},Dens H vs ds->vs.length=ds.length
 | _,_,_,.nil=>rfl
 | _,_,_,.cons _ t=>congrArg Nat.succ (Dens.length t)
def Dens.get:∀ {H:Hp} {vs:List V} {ds:List PyData} {i:Nat} {d:PyData},Dens H vs ds->ds[i]?=some d->∃ v,vs[i]?=some v/\Den H v d
 | _,_,_,_,_,.nil,e=>by simp at e
 | _,_,_,0,_,.cons r _,e=>by simp at e;subst e;exact⟨_,rfl,r⟩
 | _,_,_,i+1,d,.cons _ t,e=>by
  obtain⟨v,h1,h2⟩:=Dens.get (i:=i) (d:=d) t (by simpa using e);exact⟨v,by simpa using h1,h2⟩
mutual
def Den.mono {H H':Hp} (e:Same H H'):∀ {v:V} {d:PyData},Den H v d->Den H' v d
 | _,_,.non=>.non
 | _,_,.bl b=>.bl b
 | _,_,.int i=>.int i
 | _,_,.str x=>.str x
 | _,_,.lst h t=>.lst (e _ _ h) (Dens.mono e t)
 | _,_,.tup h t=>.tup (e _ _ h) (Dens.mono e t)
def Dens.mono {H H':Hp} (e:Same H H'):∀ {vs:List V} {ds:List PyData},Dens H vs ds->Dens H' vs ds
 | _,_,.nil=>.nil
 | _,_,.cons r t=>.cons (Den.mono e r) (Dens.mono e t)
end
def Dens.ints {H:Hp}:∀ ns:List Int,Dens H (ns.map V.int) (ns.map PyData.int)
 | []=>.nil
 | n :: r=>.cons (.int n) (Dens.ints r)
def Den.ints {H:Hp} {a:Addr} {ns:List Int} (h:H a=some (.lst (ns.map V.int))):Den H (.ref a) (.list (ns.map PyData.int)):=.lst h (Dens.ints ns)
def Same.upd {H:Hp} {a:Addr} {o:HO} (h:H a=none):Same H (upd H a o):=λb u e=>by rw[aF (aM e h)];exact e
def Same.upd' {H z:Hp} {a:Addr} {o:HO} (h:z a=none) (s:Same z H):Same z (L2.upd H a o):=λb u e=>by rw[aF (aM e h)];exact s b u e
section
variable {P:Program} {w:World} {H:Hp} {h:Heap}
mutual
def Den.reads (ok:HOk P w H h):∀ {v:V} {d:PyData} {u:Value},Den H v d->RelV v u->∃ as,Reads h u d as
 | _,_,_,.non,r=>by cases r;exact⟨_,.none⟩
 | _,_,_,.bl b,r=>by cases r;exact⟨_,.bool b⟩
 | _,_,_,.int i,r=>by obtain⟨t,rfl⟩:=r;exact⟨_,.int i t⟩
 | _,_,_,.str x,r=>by obtain⟨t,rfl⟩:=r;exact⟨_,.str x t⟩
 | _,_,_,.lst (a:=a) e t,r=>by
  cases r;obtain⟨_,its,n,z,B⟩:=ok a _ e;obtain⟨as,q⟩:=Dens.reads ok t z;exact⟨_,.list B rfl rfl (by simpa using q)⟩
 | _,_,_,.tup (a:=a) e t,r=>by
  cases r;obtain⟨_,its,z,o,B,D,n,hd⟩:=ok a _ e;obtain⟨as,q⟩:=Dens.reads ok t z;exact⟨_,.tuple B D hd (by simpa using q)⟩
def Dens.reads (ok:HOk P w H h):∀ {vs:List V} {ds:List PyData} {us:List Value},Dens H vs ds->Vals vs us->∃ as,ReadsAll h us ds as
 | _,_,_,.nil,.nil=>⟨_,.nil⟩
 | _,_,_,.cons r t,.cons q s=>by
  obtain⟨a,x⟩:=Den.reads ok r q;obtain⟨b,y⟩:=Dens.reads ok t s;exact⟨_,.cons x y⟩
end
end
def aEW:R2:=λx y H Q=>∃ d e,Den H x d/\Den H y e/\SeqAt.shaped d=true/\SeqAt.shaped e=true/\Q (.bl (PyData.eqv d e)) H
def aEX:R2:=λx y H Q=>∃ d e,Den H x d/\Den H y e/\SeqAt.shaped d=true/\SeqAt.shaped e=true/\Q (.bl (!PyData.eqv d e)) H
section
variable {X:Cx}
def P2 (z:X.A.units+64<cLine):OpR X (compareOp .Eq) aEW:=by
 intro pins s σ H x y v u Q I B D h;obtain⟨d,e,hd,he,J,L,q⟩:=h;obtain⟨as,r1⟩:=hd.reads I.hok B;obtain⟨bs,r2⟩:=he.reads I.hok D;exact eq_dataH r1 r2 J L z ⟨.bl _,H,I,rfl,q⟩
def P3 (z:X.A.units+64<cLine):OpR X (compareOp .NotEq) aEX:=by
 intro pins s σ H x y v u Q I B D h;obtain⟨d,e,hd,he,J,L,q⟩:=h;obtain⟨as,r1⟩:=hd.reads I.hok B;obtain⟨bs,r2⟩:=he.reads I.hok D;exact ne_dataH r1 r2 J L z ⟨.bl _,H,I,rfl,q⟩
def tyD:PyData->String
 | .none=>"NoneType" | .bool _=>"bool" | .int _=>"int" | .str _=>"str" | .list _=>"list" | .tuple _=>"tuple" | .dict _=>"dict"
def Den.ty {K:PySem.W.Frag} {H:Hp} {v:V} {d:PyData} (h:Den H v d):qO K H v (.type (tyD d)):=by
 cases h with
 | non=>exact .non
 | bl b=>exact .bl b
 | int i=>exact .int i
 | str x=>exact .str x
 | lst e _=>exact .lst e
 | tup e _=>exact .tup e
def dZ:dY X (.builtin "isinstance") (λxs H Q=>∃ x T d b,xs=[x,.ty T]/\Den H x d/\PySem.W.kitOne X.K (.type (tyD d)) (.type T)=some b/\Q (.bl b) H):=by
 intro pins s σ H xs us Q I r h;obtain⟨x,T,d,b,rfl,hd,e,q⟩:=h;obtain⟨u,v,rfl,r1,r2⟩:=r.two;cases r2;exact Z1 I r1 (hd.ty (K:=X.K)) e λtk=>⟨.bl b,H,I.tok tk,rfl,q⟩
def aCh {P:Program} {w:World} {H:Hp} {s:Shared} {K:PySem.W.Frag} {x:V} {u:Value} {d:PyData} {A:Around} {E:Value->Shared->Prop} {M:Addr} {its:List Value} {n:Nat} {b:Bool} {Q:Value->Shared->Prop} (ok:HOk P w H s.heap) (kin:K.In s.heap) (B:RelV x u) (hd:Den H x d)
 (J:∃ o,s.heap.get? M=some o/\o.cls=.type "tuple"/\o.data=.seq its.toArray n) (e:PySem.W.kitAny K (.type (tyD d)) its=some b) (h:∀ tk,Q (.bool b) { s with toks:=tk }):wpAny (model P w) A (call (.builtin "isinstance") [u,.ref M]) Q E s:=by
 obtain⟨⟨cls,Y,data,sl⟩,D,U,I⟩:=J;simp only at U I;subst U I;cases hd with
 | non=>cases B;exact PySem.W.kia_tup PySem.W.kitx_none kin True.intro D e (λz=>nomatch z) h
 | bl y=>cases B;exact PySem.W.kia_tup PySem.W.kitx_bool kin True.intro D e (λz=>nomatch z) h
 | int i=>obtain⟨t,rfl⟩:=B;exact PySem.W.kia_tup PySem.W.kitx_int kin True.intro D e (λz=>nomatch z) h
 | str y=>obtain⟨t,rfl⟩:=B;exact PySem.W.kia_tup PySem.W.kitx_str kin True.intro D e (λz=>nomatch z) h
 | @lst a vs ds L _ =>
  cases B;obtain⟨_,_,n,_,h1⟩:=(show ObjOk P w H s.heap a (.lst vs) from ok a _ L);exact PySem.W.kia_tup PySem.W.kitx_list kin ⟨_,h1,rfl⟩ D e (λz=>nomatch z) h
 | @tup a vs ds L _ =>
  cases B;obtain⟨_,_,_,p⟩:=(show ObjOk P w H s.heap a (.tup vs) from ok a _ L);obtain⟨o,h1,h2,_⟩:=p;exact PySem.W.kia_tup PySem.W.kitx_tuple kin ⟨o,h1,h2⟩ D e (λz=>nomatch z) h
def V1:∀ {z:List String} {us:List Value},Vals (z.map V.ty) us->us=z.map Value.type
 | [],_,.nil=>rfl
 | T :: r,_,.cons q t=>by
  have e:_=Value.type T:=q;rw[aEy,e,V1 t]
def Z8:dY X (.builtin "isinstance") (λxs H Q=>∃ (x:V) (z:Addr) (B:List String) (d:PyData) (b:Bool),xs=[x,.ref z]/\H z=some (.tup (B.map V.ty))/\Den H x d/\PySem.W.kitAny X.K (.type (tyD d)) (B.map Value.type)=some b/\Q (.bl b) H):=by
 intro pins s σ H xs us Q I r h;obtain⟨x,z,B,d,b,rfl,ht,hd,e,q⟩:=h;obtain⟨u,v,rfl,r1,r2⟩:=r.two;cases r2;obtain⟨_,its,J,o,L,M,n,D⟩:=(show ObjOk X.prog X.w H s.heap z (.tup (B.map V.ty)) from I.hok z _ ht);have e2:=V1 J;subst e2;exact aCh I.hok I.kIn r1 hd ⟨o,L,M,D⟩ e λtk=>⟨.bl b,H,I.tok tk,rfl,q⟩
def F2 (U:X.calm=true):dY X (.builtin "all") (λxs H Q=>∃ (p:Addr) (bs:List Bool),xs=[.ref p]/\H p=some (.lst (bs.map V.bl))/\Q (.bl (bs.all id)) H):=by
 intro pins s σ H xs us Q I r h;obtain⟨p,bs,rfl,Y,q⟩:=h;obtain⟨u,rfl,rx⟩:=gG r;cases rx;obtain⟨its,J,pl,hz⟩:=I.list (SqL.of Y);have B:=pl.isList;have D:p<s.heap.objs.size:=by obtain⟨_,e,_⟩:=B;exact aEf e
 have hlen:bs.length=its.length:=by have:=J.length;simpa using this
 refine call_all_walk (wpAny_pyIter_list B ?_);refine⟨s.heap.objs.size,[s.heap.objs.size,p],[s.heap.objs.size],its.toArray.size,_,_,λi=>(bs[i]?).getD true,rfl,Walks.list (A:=X.A.in1) (I.ok.hd U) _ p (aEw D) its.toArray,
  ⟨⟨_,aEg _ rfl,rfl,rfl⟩,B.push _⟩,λi v s' Q' E' hP hQ=>?_,λh' tk hk=>?_⟩
 .have L:its[i]?=some v:=by simpa using hP
  have hi:i<its.length:=(aFK.mp L).1;have hb:(bs.map V.bl)[i]?=some (V.bl (bs[i]'(by omega))):=by simp[hlen,hi]
  obtain⟨u,M,ru⟩:=J.get hb;rw[L]at M;cases M;cases ru;have e:(bs[i]?).getD true=bs[i]'(by omega):=by simp[show i<bs.length by omega]
  have z:Q' ((bs[i]?).getD true) s':=hQ;rw[e]at z;exact wpAny_truthy_bool z
 .have e:((List.range its.toArray.size).all λi=>(bs[i]?).getD true)=bs.all id:=by
   rw[aEh,<- hlen];exact LSm.range_all bs
  rw[e];have kp:∀ b x,s.heap.get? b=some x->h'.get? b=some x:=LSm.kept_iter hk;exact⟨.bl _,H,I.kept kp,rfl,q⟩
def Itv (K:PySem.W.Frag) (a:Addr) (n:Nat):It :=
 ⟨λi H=>i<n/\∃ xs,SqL K H a xs/\xs.length=n,λi H x H'=>H'=H/\∀ xs,SqL K H a xs->xs.length=n->xs[n - 1 - i]?=some x,λi H=>n<=i⟩
def x9 {P:Program} {w:World} {K:PySem.W.Frag} {tg:Expr} (a it:Addr) (n:Nat):qJ P w K tg (Itv K a n) [it] it (λi h=>i<=n/\h.IsRevIter it a ((n:Int) - 1 - (i:Int))) where
 mem:=by simp
 obj:=λi h st b hb=>by
  have e:b=it:=by simpa using hb
  subst e;obtain⟨_,o,e,c,d⟩:=st;exact⟨o,e,λv z=>by rw[d]at z;cases z⟩
 keep:=λi h h' st k=>⟨st.1,st.2.at λo e=>k it (by simp) o e⟩
 item:=by
  intro X hP hw hK hc i pins s σ H E I hf st hg;subst hP hw hK;obtain⟨hi,xs,hq,hn⟩:=hg;obtain⟨its,rv,p,hz⟩:=I.list hq;have hlen:=rv.length;obtain⟨f0,f1,f2,f3,f4,f5⟩:=hf it (by simp);have hx:xs[n - 1 - i]?=some (xs[n - 1 - i]'(by omega)):=by simp[show n - 1 - i<xs.length by omega]
  obtain⟨u,hu,ru⟩:=rv.get hx;have e:(n:Int) - 1 - (i:Int)=((n - 1 - i:Nat):Int):=by omega
  have hit:=st.2;rw[e]at hit;refine wpAny_pyNext_rev_item hit p.isList (x:=u) (by simpa using hu) λh' st' sb=>?_;have I1:Inv X pins σ H { s with heap:=h' }:=I.turned (t':=s.toks) (λb o hb e=>(sb.2 b hb).trans e) f0 f1 f3 f4 f5;have e2:((n - 1 - i:Nat):Int) - 1=(n:Int) - 1 - ((i+1:Nat):Int):=by omega
  rw[e2]at st';obtain⟨o,eo,c,d⟩:=id st';exact⟨u,rfl,xH (s:={ s with heap:=h' }) eo c d (by decide) ⟨_,H,I1,ru,⟨rfl,λys hy _=>by rw[I.list_inj hy hq];exact hx⟩,⟨hi,st'⟩,λb hb=>(hf b hb).1⟩⟩
 done:=by
  intro X hP hw hK hc i pins s σ H E I hf st hg;subst hP hw hK;obtain⟨f0,f1,f2,f3,f4,f5⟩:=hf it (by simp);have hit:=st.2;have hg':n<=i:=hg;have e:(n:Int) - 1 - (i:Int)=-1:=by have:=st.1;omega
  rw[e]at hit;exact wpAny_pyNext_rev_end (I.ok.hd hc) hit λh' eb=>⟨rfl,I.turned (t':=s.toks) (λb o hb e=>eb b o hb e) f0 f1 f3 f4 f5⟩
 self:=λ_ _ _ _ _ st h=>wpAny_pyIter_revIter st.2 h
def aEY (K:PySem.W.Frag) (ta:TA):TI:=fun σ H R=>ta σ H λvs H1=>∃ a xs,vs=[.ref a]/\SqL K H1 a xs/\R (Itv K a xs.length) H1
def aAA {tg a:Expr} {ta:TA} {p pos:Pos} (D:Gl X "reversed") (J:X.mg "reversed"=none) (L:PA X [a] ta) (hs:starEach [a] X.env=[(false,eval a X.env)]:=by rfl):PI X tg (.Call (.Name "reversed" p) [a] [] pos) (aEY X.K ta):=by
 intro pins s σ H R I h;refine Call_ (jU I D J PyProof.Rows.boot_reversed (PyProof.Rows.callWith_type1 (thn (L pos pins s σ H _ I h) λus z ⟨vs,H1,B,r1,M⟩=>?_) hs rfl));obtain⟨a,xs,e,U,q⟩:=M;subst e;obtain⟨u,rfl,Y⟩:=gG r1;cases Y;obtain⟨its,rv,pl,hz⟩:=B.list U;have hlen:=rv.length;refine call_reversed_list pl.isList ?_;have es:((its.toArray.size:Nat):Int) - 1=(xs.length:Int) - 1:=by rw[hlen];simp
 rw[es];have I2:Inv X pins σ H1 { z with heap:=z.heap.push (revObj a ((xs.length:Int) - 1)) }:=B.kept (t':=z.toks) λb o e=>aEa _ e;have st:({ z with heap:=z.heap.push (revObj a ((xs.length:Int) - 1)) }:Shared).heap.IsRevIter z.heap.objs.size a ((xs.length:Int) - 1):=⟨_,aEg _ rfl,rfl,rfl⟩;refine wpAny_pyIter_revIter st ?_;refine⟨z.heap.objs.size,[z.heap.objs.size],_,_,H1,rfl,I2,x9 a _ xs.length,⟨Nat.zero_le _,by simpa using st⟩,λb hb=>?_,q⟩;have e:b=z.heap.objs.size:=by simpa using hb
 subst e;exact B.fpOk (Nat.le_refl _) (B.hok.fresh (Nat.le_refl _))
end
def F3 {K:PySem.W.Frag} {a:Addr} {xs:List V} {B:St} {g:TG} {tt:TT} {te:TE} {H:Hp} {Q:VK} (Pv:Nat->List V->Hp->Prop) (h0:Pv 0 [] H) (L:∀ i ys H,i<=xs.length->Pv i ys H->SqL K H a xs/\ys.length<sizeLine)
 (hs:∀ i x ys H,xs.reverse[i]?=some x->Pv i ys H->g x B H λI H2=>tt I H2 λb J=>if b=true then te I J λy M=>Pv (i+1) (ys++[y]) M else Pv (i+1) ys J) (hd:∀ ys H,Pv xs.length ys H->∀ D,H D=none->Q (.ref D) (upd H D (.lst ys))) :
 oX (Itv K a xs.length) B g tt te Q H:=by
 refine⟨λi m ys H=>m=xs.length - i/\i<=xs.length/\Pv i ys H,⟨xs.length,by simp,Nat.zero_le _,h0⟩,?_⟩;rintro i m ys H ⟨rfl,hi,p⟩;obtain⟨q,U⟩:=L i ys H hi p;refine⟨U,?_⟩
 by_cases z:i<xs.length
 .refine .inr ⟨⟨z,xs,q,rfl⟩,Pv (i+1),λY H' p'=>⟨xs.length - (i+1),by omega,rfl,z,p'⟩,λx H' y=>?_⟩;obtain⟨e,y⟩:=y;subst e;refine hs i x ys _ ?_ p;rw[List.getElem?_reverse z];exact y xs q rfl
 .have e:i=xs.length:=by omega
  subst e;exact .inl ⟨Nat.le_refl _,hd ys H p⟩
def dH:bootBuiltins "list"=some (.type "list"):=by decide +kernel
def cX:bootBuiltins "tuple"=some (.type "tuple"):=by decide +kernel
def xS:bootBuiltins "bool"=some (.type "bool"):=by decide +kernel
def F4:bootBuiltins "str"=some (.type "str"):=by decide +kernel
def F5:bootBuiltins "int"=some (.type "int"):=by decide +kernel
def bK:bootBuiltins "isinstance"=some (.builtin "isinstance"):=by decide +kernel
def F6:bootBuiltins "all"=some (.builtin "all"):=by decide +kernel
def eO:bootBuiltins "sorted"=some (.builtin "sorted"):=by decide +kernel
def F7:bootBuiltins "max"=some (.builtin "max"):=by decide +kernel
def uE:bootBuiltins "min"=some (.builtin "min"):=by decide +kernel
structure Bt (mg:Str->Option Value):Prop where
 len:mg "len"=none
 range:mg "range"=none
 list:mg "list"=none
 tuple:mg "tuple"=none
 bool:mg "bool"=none
 str:mg "str"=none
 int:mg "int"=none
 isinstance:mg "isinstance"=none
 all:mg "all"=none
 sorted:mg "sorted"=none
 max:mg "max"=none
 min:mg "min"=none
 set:mg "set"=none
 reversed:mg "reversed"=none
 sum:mg "sum"=none
 enumerate:mg "enumerate"=none
 zip:mg "zip"=none
 any:mg "any"=none
 abs:mg "abs"=none
def aU (P:Program) (w:World) (K:PySem.W.Frag) (mg:Str->Option Value) (base:Heap) (x:Str) (k:Nat) (ps:List Str) (sp:Sp):Prop :=
 ∃ f fd,FnOk P w K mg base CX0 k f fd ps sp/\mg x=some (.ref f)/\PySem.W.keepIn K (.ref f)=true/\Binds K fd ps []
section
variable {X:Cx} {x:Str} {j k:Nat} {ps:List Str} {sp:Sp} {t:TA} {e:Expr} {es:List Expr} {p pos:Pos}
def aV (F:aU X.prog X.w X.K X.mg X.base x j ps sp) (z:Room k X.A) (B:Gl X x) (D:PA X (e :: es) t) (hj:j<=k:=by decide) (hdb:(x == ("__debug__":Str))=false:=by decide)
 (he:starEach (e :: es) X.env=(false,eval e X.env) :: starEach es X.env:=by rfl) (hpl:(backTo pos (starEach es X.env)).any (·.1)=false:=by rfl) :
 PE X (.Call (.Name x p) (e :: es) [] pos) (aCT sp [] E0 t):=by
 obtain⟨f,fd,G,I,J,L⟩:=F;exact aB0 (hdb:=hdb) (he:=he) (hpl:=hpl) G (z.mono hj) B I J L .nil xO D
def P5:OpR X (compareOp .Eq) (rI0 λi j=>.bl (decide (i=j))):=Y7 λi j _ _ _ _ _ q=>eq_int (by
 have e:(i == j)=decide (i=j):=by rw[Bool.eq_iff_iff];simp
 rw[e];exact q)
def aCi:OpR X (compareOp .NotEq) (rI0 λi j=>.bl (!decide (i=j))):=Y7 λi j _ _ _ _ _ q=>ne_int (by
 have e:(i != j)=!decide (i=j):=by rw[bne];congr 1
 rw[e];exact q)
end
def aEZ (t u:TS):TS:=λD σ H=>∃ M:St->Hp->Prop,t { D with nx:=M } σ H/\∀ z H',M z H'->u D z H'
def zI {X:Cx} {st:Stmt} {rest:List Stmt} {t u:TS} (h1:PS X st t) (h2:PSs X rest u):PSs X (st :: rest) (aEZ t u):=by
 intro pins s σ H D I h;obtain⟨M,h,B⟩:=h;refine wpAny_execs_cons (thn (h1 pins s σ H { D with nx:=M } I h) λf J q=>?_);cases f with
 | next =>
  obtain⟨z,H',L,q⟩:=q;exact h2 pins J z H' D L (B z H' q)
 | ret v=>exact q
 | brk=>exact q
 | cont=>exact q
def aDe (t:TE):TE:=fun σ H Q=>∃ R:VK,t σ H R/\∀ v H',R v H'->Q v H'
def zJ {X:Cx} {e:Expr} {t:TE} (h:PE X e t):PE X e (aDe t):=by
 intro pins s σ H Q I hw;obtain⟨R,hw,z⟩:=hw;exact thn (h pins s σ H R I hw) λu J ⟨v,H1,B,r1,D⟩=>⟨v,H1,B,r1,z v H1 D⟩
def qP {c:Prop} [Decidable c] {A B:Prop} (h1:c->A) (h2:¬ c->B):if decide c=true then A else B:=by
 by_cases h:c
 .rw[aEv h,if_pos rfl];exact h1 h
 .rw[aEu h,if_neg aEm];exact h2 h
def uF {c:Prop} [Decidable c] {A B:Prop} (z:c) (h1:A):if decide c=true then A else B:=by
 rw[aEv z,if_pos rfl];exact h1
def dM {c:Prop} [Decidable c] {A B:Prop} (z:¬ c) (h1:B):if decide c=true then A else B:=by
 rw[aEu z,if_neg aEm];exact h1
section
variable {X:Cx} (K:PySem.W.Frag)
def F8 (h:X.K=K):IxR X (aCd K):=h ▸ bE
def V2 (h:X.K=K):IxR X (rIx K):=h ▸ zC
def nO (h:X.K=K):dY X (.builtin "len") (λxs H Q=>∃ p ys,xs=[.ref p]/\(SqL K H p ys\/SqT K H p ys)/\Q (.int ys.length) H):=h ▸ aX
def fR {es:List Expr} {k:Nat} {t:TGs} {n:Nat} {pos:Pos} (h:X.K=K) (z:X.calm=true) (hs:PGs X es t) (B:(assignEach es X.env).length=n:=by rfl) (hst:(assignEach es X.env).findIdx? (·.1)=none:=by rfl):PG X (.Tuple es k pos) (aBV K n t):=h ▸ fJ z hs B hst
end
abbrev two (b:Int) (t:Tok) (c:Nat):Obj:={ cls:=.type "list",dict:=none,data:=.seq #[.int b t,.int b t] c,slots:=#[] }
def F9:∀ {its:List Value} {ns:List Int} {i:Nat} {n:Int},IntsAre its ns->ns[i]?=some n->∃ t,its[i]?=some (.int n t)
 | _,_,_,_,.nil,e=>by simp at e
 | _,_,0,_,.cons n t _,e=>by simp at e;subst e;exact⟨t,rfl⟩
 | _,_,i+1,n,.cons _ _ r,e=>by
  obtain⟨t,h⟩:=F9 (i:=i) (n:=n) r (by simpa using e);exact⟨t,by simpa using h⟩
section
variable {prog:Program} {w:World} {A:Around} {R:Result->Shared->Prop} {l it S:Addr} {its:List Value} {ns:List Int} {d:Value}
def aB9 (hh:A.handled=none) (hI:IntsAre its ns) (al:l≠it) (D:it≠S) (am:l≠S) :
 ∀ (k i:Nat) (s:Shared) (b:Int) (t:Tok) (c:Nat),ns.length - i=k->i<=ns.length->s.heap.IsListIter it l i->s.heap.IsList l its.toArray->s.heap.get? S=some (two b t c) ->
  (∀ h' tk t',(∀ x o,x≠it->x≠S->s.heap.get? x=some o->h'.get? x=some o)->R (.ok (.ret (.int ((ns.drop i).foldl max b) t'))) { s with heap:=h',toks:=tk }) ->
  codeAny (model prog w) A (.builtin "max.loop" ⟨[.ref it,.none,.ref S],[(Str.ofString "default",d)]⟩) R s:=by
 have nm:(toString "max"++toString ".loop":String)="max.loop":=by decide
 intro k
 induction k with
 | zero =>
  intro i s b t c hk hi st Y J hR;have e:i=ns.length:=by omega
  refine codeAny_builtin PySem.F.entry_max_loop (by
   rw[aEl PySem.F.plain_max_loop _];show wpAny _ A.in1 (seqItems? (Value.ref S) >>= _) _ _ s;refine aE7 (wpAny_seqItems J rfl ?_);show wpAny _ A.in1 (tryCatch (pyNext (Value.ref it)) _ >>= _) _ _ s;refine aE7 (wpAny_tryCatch (wpAny_pyNext_list_end hh st Y (by have:=hI.length;simp;omega) λh' eb=>?_));have z:=eb S _ (Ne.symm D) J;show wpAny _ A.in1 (updateSeq S (λ_=>#[]) >>= _) _ _ { s with heap:=h' };refine aE7 (wpAny_updateSeq z rfl (aE7 (wpAny_letGo (aE8 ?_))));have q:=hR (h'.update S (Obj.mapSeq λ_=>#[])) s.toks t (λx o h1 h2 e=>(aEe _ _ (Ne.symm h2)).trans (eb x o h1 e));rw[e,List.drop_length]at q;exact q)
 | succ k ih =>
  intro i s b t c hk hi st Y J hR;have B:i<ns.length:=by omega
  obtain⟨u,hu⟩:=F9 (i:=i) (n:=ns[i]) hI (by simp[B]);have L:ns.drop i=ns[i] :: ns.drop (i+1):=List.drop_eq_getElem_cons B;refine codeAny_builtin PySem.F.entry_max_loop (by
   rw[aEl PySem.F.plain_max_loop _];show wpAny _ A.in1 (seqItems? (Value.ref S) >>= _) _ _ s;refine aE7 (wpAny_seqItems J rfl ?_);show wpAny _ A.in1 (tryCatch (pyNext (Value.ref it)) _ >>= _) _ _ s;refine aE7 (wpAny_tryCatch (wpAny_pyNext_list_item st Y (x:=.int ns[i] u) (by simpa using hu) λh' M sb=>?_));have z:=sb.extBut S _ (Ne.symm D) J;have U:=Y.extBut sb.extBut al;show wpAny _ A.in1 (tryCatch (holding [.int ns[i] u,.int ns[i] u] (richCompare .Gt (.int ns[i] u) (.int b t) >>= _)) _ >>= _) _ _ { s with heap:=h' };refine aE7 (wpAny_tryCatch (wpAny_holding (aE7 (gt_int (s:={ s with heap:=h' }) ?_))));refine aE7 (wpAny_holding (wpAny_truthy_bool (aE7 (wpAny_letGo (aE8 ?_)))))
   by_cases hb:b<ns[i]
   .have hd:decide (b<ns[i])=true:=aEv hb;simp only[hd,if_true];refine aE7 (wpAny_updateSeq z rfl (aE7 (wpAny_letGo ?_)));rw[nm];obtain⟨c',e1⟩:∃ c',(h'.update S (Obj.mapSeq λ_=>#[Value.int ns[i] u,Value.int ns[i] u])).get? S=some (two ns[i] u c'):=⟨_,aEr _ z rfl⟩;refine aE8 ⟨plainId_quiet PySem.F.plain_max_loop _,ih (i+1) { s with heap:=h'.update S (Obj.mapSeq λ_=>#[Value.int ns[i] u,Value.int ns[i] u]) } ns[i] u _ (by omega) B (M.at λo e=>(aEe _ _ (Ne.symm D)).trans e) (U.at λo e=>(aEe _ _ (Ne.symm am)).trans e) e1 λI tk t' kp=>?_⟩;have q:=hR I tk t' (λx o h1 h2 e=>kp x o h1 h2 ((aEe _ _ (Ne.symm h2)).trans (sb.extBut x o h1 e)));rw[L,aFA,show max b ns[i]=ns[i]by omega]at q;exact q
   .have hd:decide (b<ns[i])=false:=aEu hb;simp only[hd,Bool.false_eq_true,if_false];refine aE7 (wpAny_letGo ?_);rw[nm];refine aE8 ⟨plainId_quiet PySem.F.plain_max_loop _,ih (i+1) { s with heap:=h' } b t c (by omega) B M U z λI tk t' kp=>?_⟩;have q:=hR I tk t' (λx o h1 h2 e=>kp x o h1 h2 (sb.extBut x o h1 e));rw[L,aFA,show max b ns[i]=b by omega]at q;exact q)
def aAB (hh:A.handled=none) (hI:IntsAre its ns) (B:l≠it) (z:it≠S) (D:l≠S) {s:Shared} {c:Nat} (st:s.heap.IsListIter it l 0) (J:s.heap.IsList l its.toArray)
 (L:s.heap.get? S=some { cls:=.type "list",dict:=none,data:=.seq #[] c,slots:=#[] }) (M:V) (rx:RelV M d)
 (hR:∀ h' tk v u,(∀ x o,x≠it->x≠S->s.heap.get? x=some o->h'.get? x=some o)->RelV v u->(v=match ns with | []=>M | n :: r=>.int (r.foldl max n))->R (.ok (.ret u)) { s with heap:=h',toks:=tk }) :
 codeAny (model prog w) A (.builtin "max.loop" ⟨[.ref it,.none,.ref S],[(Str.ofString "default",d)]⟩) R s:=by
 have nm:(toString "max"++toString ".loop":String)="max.loop":=by decide
 cases hI with
 | nil =>
  refine codeAny_builtin PySem.F.entry_max_loop (by
   rw[aEl PySem.F.plain_max_loop _];show wpAny _ A.in1 (seqItems? (Value.ref S) >>= _) _ _ s;refine aE7 (wpAny_seqItems L rfl ?_);show wpAny _ A.in1 (tryCatch (pyNext (Value.ref it)) _ >>= _) _ _ s;refine aE7 (wpAny_tryCatch (wpAny_pyNext_list_end hh st J (by simp) λh' eb=>?_));refine aE7 (wpAny_rule (aE8 ?_));exact hR h' s.toks M d (λx o h1 _ e=>eb x o h1 e) rx rfl)
 | @cons n t its' U r =>
  refine codeAny_builtin PySem.F.entry_max_loop (by
   rw[aEl PySem.F.plain_max_loop _];show wpAny _ A.in1 (seqItems? (Value.ref S) >>= _) _ _ s;refine aE7 (wpAny_seqItems L rfl ?_);show wpAny _ A.in1 (tryCatch (pyNext (Value.ref it)) _ >>= _) _ _ s;refine aE7 (wpAny_tryCatch (wpAny_pyNext_list_item st J (x:=.int n t) (by simp) λh' Y sb=>?_));have I:=sb.extBut S _ (Ne.symm z) L;have al:=J.extBut sb.extBut B;show wpAny _ A.in1 (updateSeq S (λ_=>#[Value.int n t,Value.int n t]) >>= _) _ _ { s with heap:=h' };refine aE7 (wpAny_updateSeq I rfl ?_);rw[nm];obtain⟨c',e1⟩:∃ c',(h'.update S (Obj.mapSeq λ_=>#[Value.int n t,Value.int n t])).get? S=some (two n t c'):=⟨_,aEr _ I rfl⟩;refine aE8 ⟨plainId_quiet PySem.F.plain_max_loop _,aB9 hh (.cons n t r) B z D _ 1 { s with heap:=h'.update S (Obj.mapSeq λ_=>#[Value.int n t,Value.int n t]) } n t _ rfl (by simp) (Y.at λo e=>(aEe _ _ (Ne.symm z)).trans e) (al.at λo e=>(aEe _ _ (Ne.symm D)).trans e) e1 λam tk t' kp=>?_⟩;exact hR am tk (.int (U.foldl max n)) _ (λx o h1 h2 e=>kp x o h1 h2 ((aEe _ _ (Ne.symm h2)).trans (sb.extBut x o h1 e))) ⟨t',rfl⟩ rfl)
def mxD (ns:List Int) (z:V):V:=match ns with | []=>z | n :: r=>.int (r.foldl max n)
def Z9 (a d:Value):argsOk "max" ⟨[a],[(Str.ofString "default",d)]⟩:=by unfold argsOk;kernel_rfl
def b3 {E:Value->Shared->Prop} {s:Shared} {x0:V} {Q:Value->Shared->Prop} (hh:A.handled=none) (hI:IntsAre its ns) (hl:s.heap.IsList l its.toArray) (rx:RelV x0 d)
 (h:∀ h' tk u,(∀ x o,s.heap.get? x=some o->h'.get? x=some o)->RelV (mxD ns x0) u->Q u { s with heap:=h',toks:=tk }):wpAny (model prog w) A (call (.builtin "max") [.ref l] [(Str.ofString "default",d)]) Q E s:=by
 have nm:(toString "max"++toString ".loop":String)="max.loop":=by decide
 refine kmk_tree PySem.F.kind_max PySem.F.plain_max PySem.F.entry_max (Z9 _ _) (by
  show wpAny _ A.in1 (Builtin.Builtins.bindParams "max" ["key","default"] 0 ⟨[],[(Str.ofString "default",d)]⟩ >>= _) _ _ s;refine aE7 (wpAny_of_eq (show Builtin.Builtins.bindParams "max" ["key","default"] 0 ⟨[],[(Str.ofString "default",d)]⟩=pure [none,some d] from rfl) (aE7 (aE8 ?_)));refine aE7 (wpAny_pyIter_list hl ?_);refine aE7 (wpAny_newObj_type ?_);rw[nm];have hlt:l<s.heap.objs.size:=by obtain⟨_,e,_⟩:=hl;exact aEf e
  refine aE8 ⟨plainId_quiet PySem.F.plain_max_loop _,aAB (l:=l) (it:=s.heap.objs.size) (its:=its) hh hI (aEw hlt) (by rw[Heap.size_push];exact aEw (Nat.lt_succ_self _)) (by rw[Heap.size_push];exact aEw (Nat.lt_succ_of_lt hlt)) ⟨_,aEa _ (aEg _ rfl),rfl,rfl⟩ ((hl.push _).push _) (aEg _ rfl) x0 rx λh' tk v u kp rv ev=>?_⟩;subst ev;refine h h' tk u (λx o e=>?_) rv;have hx:=aEf e;exact kp x o (aEw hx) (by rw[Heap.size_push];exact aEw (Nat.lt_succ_of_lt hx)) (aEa _ (aEa _ e)))
end
section
variable {X:Cx} {e f:Expr} {te tf:TE} {p pos kp:Pos}
def aE0 (K:PySem.W.Frag) (te tf:TE):TE:=fun σ H Q=>te σ H λx H1=>tf σ H1 λy H2=>∃ a ns,x=.ref a/\SqL K H2 a (ns.map V.int)/\Q (mxD ns y) H2
def b4 (hc:X.calm=true) (hg:Gl X "max") (hm:X.mg "max"=none) (he:PE X e te) (hf:PE X f tf)
 (hs:starEach [e] X.env=(false,eval e X.env) :: starEach [] X.env:=by rfl) (B:backTo pos (starEach [e] X.env)=(false,eval e X.env) :: backTo pos (starEach [] X.env):=by rfl) (D:(backTo pos (starEach [e] X.env)).any (·.1)=false:=by rfl)
 (J:(backToKw pos (keywordEach [⟨some "default",f,kp⟩] X.env)).all (·.1.isSome)=true:=by rfl) (L:(backToKw pos (keywordEach [⟨some "default",f,kp⟩] X.env)).any (·.1.isNone)=false:=by rfl) (M:(backToKw pos (keywordEach [⟨some "default",f,kp⟩] X.env)).filterMap (·.1)=([Str.ofString "default"]:List Str):=by rfl) :
 PE X (.Call (.Name "max" p) [e] [⟨some "default",f,kp⟩] pos) (aE0 X.K te tf):=by
 intro pins s σ H Q I h;refine wpAny_Call_Name_kw (jU I hg hm F7 ?_);refine callWith_kw ?_ B D J L;refine thn ((aA he aE hs) pos pins s σ H (λvs H1=>match vs with | [x]=>tf σ H1 λy H2=>∃ a ns,x=.ref a/\SqL X.K H2 a (ns.map V.int)/\Q (mxD ns y) H2 | _=>False) I h) λus s1 ⟨vs,H1,I1,r1,U⟩=>?_;obtain⟨x,rfl⟩:∃ x,vs=[x]:=by
  rcases vs with _ | ⟨x,_ | ⟨_,_⟩⟩
  .exact U.elim
  .exact⟨x,rfl⟩
  .exact U.elim
 refine thn ((aB3 hf aCa) pos pins s1 σ H1 (λks H2=>match ks with | [y]=>∃ a ns,x=.ref a/\SqL X.K H2 a (ns.map V.int)/\Q (mxD ns y) H2 | _=>False) I1 U) λws s2 ⟨zs,H2,I2,r2,z⟩=>?_;obtain⟨y,rfl⟩:∃ y,zs=[y]:=by
  rcases zs with _ | ⟨x,_ | ⟨_,_⟩⟩
  .exact z.elim
  .exact⟨x,rfl⟩
  .exact z.elim
 obtain⟨a,ns,rfl,hq,z⟩:=z;obtain⟨u,rfl,Y⟩:=r1.one;obtain⟨v,rfl,rv⟩:=r2.one;cases Y;rw[M];obtain⟨its,rl,pl,hz⟩:=I2.list hq;exact b3 (I.ok.hd hc) (O8 rl) pl.isList rv λh' tk u kp Y=>⟨_,H2,I2.kept kp,Y,z⟩
end
def lI:bootBuiltins "sum"=some (.builtin "sum"):=by decide +kernel
def uG:bootBuiltins "enumerate"=some (.type "enumerate"):=by decide +kernel
def uH:∀ {ns:List Int} {us:List Value},Vals (ns.map V.int) us->IntsAre us ns
 | [],_,.nil=>.nil
 | _ :: _,_,.cons ⟨_,e⟩ t=>by subst e;exact .cons _ _ (uH t)
section
variable {X:Cx}
def lJ (D:X.calm=true):dY X (.builtin "sum") (λxs H Q=>∃ (p:Addr) (ns:List Int),xs=[.ref p]/\H p=some (.lst (ns.map V.int))/\Q (.int ns.sum) H):=by
 intro pins s σ H xs us Q I r h;obtain⟨p,ns,rfl,J,q⟩:=h;obtain⟨u,rfl,L⟩:=gG r;cases L;obtain⟨its,M,pl,hz⟩:=I.list (SqL.of J);have U:=pl.isList;have hi:=uH M;obtain⟨xs,B⟩:=hi.allInts.items;have z:s.heap.IsList p (intItems xs):=B ▸ U;refine sum_intListG (I.ok.hd D) z λh' tk t' Y=>?_;have e1:ns=xs.toList.map (·.1):=by
  rw[<- nums_intItems,<- B];exact(show numsOf its.toArray.toList=ns from hi.numsOf).symm
 have e2:preSum (numAt xs) xs.size=ns.sum:=by
  rw[preSum_eq,List.take_of_length_le (by simp),e1]
 rw[e2];exact⟨.int _,H,I.kept Y,⟨_,rfl⟩,q⟩
def Inv.turnedF {h':Heap} {pins:List (Addr×Obj)} {σ:St} {H:Hp} {s:Shared} {t':Nat} {fp:List Addr} (I:Inv X pins σ H s) (k:∀ b o,b∉fp->s.heap.get? b=some o->h'.get? b=some o) (J:∀ b∈fp,iE X pins H b):Inv X pins σ H { s with heap:=h',toks:=t' }:=by
 have D:∀ b u,H b=some u->b∉fp:=λb u e z=>by rw[(J b z).1]at e;cases e
 refine I.step (g':=s.gens) (d':=s.drawn) (ch:=fp) (λb L=>?_) (λb o _ _ B e _=>k b o B e) (λb o _ _ B e _=>⟨o.slots,k b o B e⟩) (λ_ _ _ _ n=>n)
  (λb o B e=>⟨o,k b o B e⟩) (λ_ _ e=>e) (λ_ _ _ e=>e) (λb ps e=>⟨#[],by rw[e];simp⟩) (λm M=>?_) (λb u e=>?_) I.bare
 .obtain⟨_,h1,_,h3,h4,h5⟩:=J b L;exact⟨h3,h1,h4,h5⟩
 .obtain⟨o,es,ep,U,r⟩:=M;exact⟨o,es,ep,k _ o (λz=>(J _ z).2.1 rfl) U,r⟩
 .refine(I.hok b u e).stay (λc v B q=>k c v ?_ q) (λ_ q=>q) λ_ _ q=>q;rcases B with z | z
  .rw[z];exact D b u e
  .exact D c _ z
def Inv.turnLaid {h':Heap} {pins:List (Addr×Obj)} {σ:St} {H:Hp} {s:Shared} {t':Nat} {fp:List Addr} {a:Addr} {o:HO} (I:Inv X pins σ H s) (k:∀ b o,b∉fp->s.heap.get? b=some o->h'.get? b=some o) (L:∀ b∈fp,iE X pins H b) (M:s.heap.objs.size<=a) (new:ObjOk X.prog X.w (upd H a o) h' a o) :
 Inv X pins σ (upd H a o) { s with heap:=h',toks:=t' }:=by
 have U:H a=none:=I.hok.fresh M;have D:∀ b u,H b=some u->b∉fp:=λb u e z=>by rw[(L b z).1]at e;cases e
 have ne:∀ b u,H b=some u->b≠a:=λb u e=>aM e U;refine I.step (g':=s.gens) (d':=s.drawn) (ch:=fp) (λb J=>?_) (λb o _ _ B e _=>k b o B e) (λb o _ _ B e _=>⟨o.slots,k b o B e⟩) (λb ob _ e n=>?_)
  (λb o B e=>⟨o,k b o B e⟩) (λb _ e=>by rw[aF (ne b _ e)];exact e) (λb _ _ e=>by rw[aF (ne b _ e)];exact e) (λb ps e=>⟨#[],by rw[aF (ne b _ e),e];simp⟩) (λm Y=>?_) (λb u e=>?_) I.bare
 .obtain⟨_,h1,_,h3,h4,h5⟩:=L b J;exact⟨h3,h1,h4,h5⟩
 .have:b≠a:=aEw (aEq (aEf e) M);rw[aF this];exact n
 .obtain⟨o,es,ep,ho,r⟩:=Y;exact⟨o,es,ep,k _ o (λz=>(L _ z).2.1 rfl) ho,r⟩
 .by_cases J:b=a
  .subst J;rw[aB]at e;cases e;exact new
  .rw[aF J]at e;refine(I.hok b u e).stay (λc v B q=>k c v ?_ q) (λc q=>by rw[aF (ne c _ q)];exact q) λc _ q=>by rw[aF (ne c _ q)];exact q
   rcases B with z | z
   .rw[z];exact D b u e
   .exact D c _ z
end
def Ite (K:PySem.W.Frag) (a:Addr):It :=
 ⟨λi H=>∃ xs x,SqL K H a xs/\xs[i]?=some x,λi H v H'=>∃ t x,v=.ref t/\H t=none/\(∀ xs,SqL K H a xs->xs[i]?=some x)/\H'=upd H t (.tup [.int i,x]),λi H=>∃ xs,SqL K H a xs/\xs.length<=i⟩
def b6 {P:Program} {w:World} {K:PySem.W.Frag} {elts:List Expr} {x1} {pos:Pos} (a e it:Addr) (hne:e≠it):qJ P w K (.Tuple elts x1 pos) (Ite K a) [e,it] e (λi h=>(∃ old,IsEnum h e it (i:Nat) old)/\h.IsListIter it a i) where
 mem:=by simp
 obj:=λi h st b hb=>by
  obtain⟨⟨old,he⟩,o,ho,c,d⟩:=st;rcases aFL.mp hb with z | z
  .subst z;exact⟨_,he,λv z=>by have z':Data.fields _=Data.cell v:=z;cases z'⟩
  .have z:b=it:=by simpa using z
   subst z;exact⟨o,ho,λv z=>by rw[d]at z;cases z⟩
 keep:=λi h h' st k=>⟨let ⟨old,he⟩:=st.1;⟨old,k e (by simp) _ he⟩,st.2.at λo e=>k it (by simp) o e⟩
 item:=by
  intro X hP hw hK hc i pins s σ H E I hf st hg;subst hP hw hK;obtain⟨xs,x,hq,hx⟩:=hg;obtain⟨its,rv,p,hz⟩:=I.list hq;obtain⟨u,hu,ru⟩:=rv.get hx;obtain⟨⟨old,he⟩,hit⟩:=st;have le:e<s.heap.objs.size:=aEf he;have li:it<s.heap.objs.size:=by obtain⟨_,z,_⟩:=hit;exact aEf z
  refine wpAny_pyNext_enum_item he hit p.isList (x:=u) (by simpa using hu) hne λh' e1 e2 e3 e4 kp=>?_;refine⟨_,rfl,?_⟩;have hn:H s.heap.objs.size=none:=I.hok.fresh (Nat.le_refl _);have k1:∀ b o,b∉[e,it]->s.heap.get? b=some o->h'.get? b=some o:=λb o hb q=>kp b o (λz=>hb (by simp[z])) (λz=>hb (by simp[z])) q;have tupOk:∀ h2:Heap,h2.get? s.heap.objs.size=some { cls:=.type "tuple",data:=.seq #[.int i s.toks,u] }->ObjOk X.prog X.w (upd H s.heap.objs.size (.tup [.int i,x])) h2 s.heap.objs.size (.tup [.int i,x]):=λh2 q =>
   ⟨by show 2<=sizeLine;decide,[.int i s.toks,u],.cons ⟨_,rfl⟩ (.cons ru .nil),_,q,rfl,_,rfl⟩
  refine wpAny_letOwnedTupleGo_enum (i:=((i:Nat):Int)+1) e1 λh2 f1 sb=>?_;have k2:∀ b o,b∉[e,it]->s.heap.get? b=some o->h2.get? b=some o:=λb o hb q=>sb.extBut b o (λz=>hb (by simp[z])) (k1 b o hb q);have n1:s.heap.objs.size≠e:=aEz le;refine⟨.ref s.heap.objs.size,_,I.turnLaid (t':=s.toks+1) (h':=h2) (o:=.tup [.int i,x]) k2 hf (Nat.le_refl _) (tupOk _ (sb.extBut _ _ n1 e3)),rfl,⟨_,x,rfl,hn,λys hy=>by rw[I.list_inj hy hq];exact hx,rfl⟩,⟨⟨u,?_⟩,?_⟩,λb hb=>?_⟩
  .have:(((i+1:Nat):Int))=(i:Int)+1:=by omega
   rw[this];exact f1
  .exact e2.extBut sb.extBut (Ne.symm hne)
  .have hb':b≠s.heap.objs.size:=by
    rcases aFL.mp hb with z | z
    .subst z;exact aEw le
    .have z:b=it:=by simpa using z
     subst z;exact aEw li
   rw[aF hb'];exact(hf b hb).1
 done:=by
  intro X hP hw hK hc i pins s σ H E I hf st hg;subst hP hw hK;obtain⟨xs,hq,hx⟩:=hg;obtain⟨its,rv,p,hz⟩:=I.list hq;have hl:=rv.length;obtain⟨⟨old,he⟩,hit⟩:=st;exact wpAny_pyNext_enum_end (I.ok.hd hc) he hit p.isList (by simp;omega) λh' eb=>⟨rfl,I.turnedF (fp:=[e,it]) (t':=s.toks) (λb o hb e=>eb b o (λz=>hb (by simp[z])) e) hf⟩
 self:=λ_ _ _ _ _ st h=>let ⟨_,he⟩:=st.1;wpAny_pyIter_enum he h
def aDf (K:PySem.W.Frag) (ta:TA):TI:=fun σ H R=>ta σ H λvs H1=>∃ a xs,vs=[.ref a]/\SqL K H1 a xs/\R (Ite K a) H1
def aBa {X:Cx} {elts:List Expr} {L} {ag:Pos} {a:Expr} {ta:TA} {p pos:Pos} (M:Gl X "enumerate") (U:X.mg "enumerate"=none) (Y:PA X [a] ta) (hs:starEach [a] X.env=[(false,eval a X.env)]:=by rfl):PI X (.Tuple elts L ag) (.Call (.Name "enumerate" p) [a] [] pos) (aDf X.K ta):=by
 intro pins s σ H R I h;refine Call_ (jU I M U uG (PyProof.Rows.callWith_type1 (thn (Y pos pins s σ H _ I h) λus B ⟨vs,H1,D,r1,q1⟩=>?_) hs rfl));obtain⟨a,xs,e,hq,q⟩:=q1;subst e;obtain⟨u,rfl,rx⟩:=gG r1;cases rx;obtain⟨its,rv,pl,hz⟩:=D.list hq;refine call_enumerate_list pl.isList λh' J g2 g3 kp=>?_;have I2:Inv X pins σ H1 { B with heap:=h' }:=D.kept (t':=B.toks) kp;refine wpAny_pyIter_enum J ?_;refine⟨B.heap.objs.size+1,[B.heap.objs.size+1,B.heap.objs.size],_,_,H1,rfl,I2,b6 a _ _ (aEz (Nat.lt_succ_self _)),⟨⟨_,J⟩,g2⟩,λb hb=>?_,q⟩;have e:B.heap.objs.size<=b:=by
  rcases aFL.mp hb with z | z
  .rw[z];exact Nat.le_succ _
  .have z:b=B.heap.objs.size:=by simpa using z
   rw[z];exact Nat.le_refl _
 exact D.fpOk e (D.hok.fresh e)
def aAC {K:PySem.W.Frag} {a:Addr} {xs:List V} {g:TG} {tb:TS} {D:sO} {σ:St} {H:Hp} (Pv:Nat->St->Hp->Prop) (h0:Pv 0 σ H) (L:∀ i σ H,i<=xs.length->Pv i σ H->SqL K H a xs)
 (hs:∀ i x σ H t,xs[i]?=some x->Pv i σ H->H t=none->g (.ref t) σ (upd H t (.tup [.int i,x])) λz H2=>tb { D with nx:=Pv (i+1),ct:=Pv (i+1),bk:=D.nx } z H2) (hd:∀ σ H,Pv xs.length σ H->D.nx σ H) :
 ∃ W:Nat->Nat->St->Hp->Prop,(∃ m,W 0 m σ H)/\∀ i m σ H,W i m σ H ->
  ((Ite K a).stop i H/\D.nx σ H)\/((Ite K a).go i H/\∃ N:St->Hp->Prop,(∀ B H',N B H'->∃ J,J<m/\W (i+1) J B H')/\∀ x H',(Ite K a).yld i H x H'->g x σ H' λz H2=>tb { D with nx:=N,ct:=N,bk:=D.nx } z H2):=by
 refine⟨λi m σ H=>m=xs.length - i/\i<=xs.length/\Pv i σ H,⟨xs.length,by simp,Nat.zero_le _,h0⟩,?_⟩;rintro i m σ H ⟨rfl,hi,p⟩;have q:=L i σ H hi p
 by_cases I:i<xs.length
 .refine .inr ⟨⟨xs,xs[i],q,by simp[I]⟩,Pv (i+1),λB H' M=>⟨xs.length - (i+1),by omega,rfl,I,M⟩,λx H' y=>?_⟩;obtain⟨t,x,rfl,U,y,rfl⟩:=y;exact hs i x σ _ t (y xs q) p U
 .have e:i=xs.length:=by omega
  subst e;exact .inl ⟨⟨xs,q,Nat.le_refl _⟩,hd σ H p⟩
open PySem.W
section
variable {O:KeyOrd} {key:Nat->O.α} {n:Nat} {aa:Nat->Nat->(Bool->Shared->Prop)->Shared->Prop} {s:Shared}
def Ans (O:KeyOrd) (key:Nat->O.α) (n:Nat) (aa:Nat->Nat->(Bool->Shared->Prop)->Shared->Prop) (s:Shared):Prop:=∀ i j C,i<n->j<n->C (O.blt (key i) (key j)) s->aa i j C s
def KP (O:KeyOrd) (key:Nat->O.α) (p:Array Nat) (i:Nat):O.α:=key (p.getD i 0)
structure InR (n:Nat) (p:Array Nat):Prop where
 pos:0<n
 size:p.size=n
 mem:∀ x∈p,x<n
def InR.at {p:Array Nat} (h:InR n p) (i:Nat):p.getD i 0<n:=by
 unfold Array.getD;split
 .exact h.mem _ (Array.getElem_mem _)
 .exact h.pos
def InR.perm {p q:Array Nat} (h:InR n p) (e:q.Perm p):InR n q:=⟨h.pos,e.size_eq.trans h.size,λx z=>h.mem x (e.mem_iff.mp z)⟩
def oZ {p q:Array Nat} {i j:Nat} (h:p[i]?=q[j]?):p.getD i 0=q.getD j 0:=by
 rw[Array.getD_eq_getD_getElem?,Array.getD_eq_getD_getElem?,h]
def P6 {p:Array Nat} {i j:Nat} (hj:j<=p.size) (k:Nat):KP O key (kas_rev p i j) k=if i<=k/\k<j then KP O key p (i+j - 1 - k)else KP O key p k:=by
 have e:=getElem?_mirror_all (i:=i) hj k;unfold KP kas_rev
 by_cases h:i<=k/\k<j
 .rw[if_pos h]at e ⊢;exact congrArg key (oZ e)
 .rw[if_neg h]at e ⊢;exact congrArg key (oZ e)
def aCj {p:Array Nat} {k d:Nat} (z:k<p.size) (hd:d<=k) (x:Nat):KP O key (bubble p k d) x=if x=k - d then KP O key p k else if k - d<x/\x<=k then KP O key p (x - 1)else KP O key p x:=by
 have e:=getElem?_bubble z d hd x;unfold KP
 by_cases h1:x=k - d
 .rw[if_pos h1]at e ⊢;exact congrArg key (oZ e)
 .rw[if_neg h1]at e ⊢
  by_cases h2:k - d<x/\x<=k
  .rw[if_pos h2]at e ⊢;exact congrArg key (oZ e)
  .rw[if_neg h2]at e ⊢;exact congrArg key (oZ e)
def Up (O:KeyOrd) (key:Nat->O.α) (p:Array Nat) (m:Nat):Prop:=∀ i j,i<=j->j<m->O.kle (KP O key p i) (KP O key p j)
def Dn (O:KeyOrd) (key:Nat->O.α) (p:Array Nat) (m:Nat):Prop:=∀ i j,i<=j->j<m->O.kle (KP O key p j) (KP O key p i)
def Up.more {p:Array Nat} {m:Nat} (h:Up O key p m) (D:1<=m) (B:O.kle (KP O key p (m - 1)) (KP O key p m)):Up O key p (m+1):=λi j z hj=>by
 by_cases q:j<m
 .exact h i j z q
 .have:j=m:=by omega
  subst this
  by_cases r:i=j
  .subst r;exact KeyOrd.kle_refl _
  .exact KeyOrd.kle_trans (h i (j - 1) (by omega) (by omega)) B
def Dn.more {p:Array Nat} {m:Nat} (h:Dn O key p m) (D:1<=m) (B:O.kle (KP O key p m) (KP O key p (m - 1))):Dn O key p (m+1):=λi j z hj=>by
 by_cases q:j<m
 .exact h i j z q
 .have:j=m:=by omega
  subst this
  by_cases r:i=j
  .subst r;exact KeyOrd.kle_refl _
  .exact KeyOrd.kle_trans B (h i (j - 1) (by omega) (by omega))
def P7 (A:Ans O key n aa s) {p:Array Nat} (J:InR n p):∀ (f m:Nat) (Q:Nat->Shared->Prop),1<=m->Up O key p m ->
 (∀ B,m<=B->B<=m+f->Up O key p B->(B<m+f->O.klt (KP O key p B) (KP O key p (B - 1)))->Q B s)->(kas_asc p f m).kasWp aa Q s
 | 0,m,Q,L,D,I=>I m (Nat.le_refl _) (Nat.le_refl _) D λz=>absurd z (Nat.lt_irrefl _)
 | f+1,m,Q,L,D,I=>by
  show aa _ _ _ s;refine A _ _ _ (J.at _) (J.at _) ?_;cases M:O.blt (key (p.getD m 0)) (key (p.getD (m - 1) 0))with
  | true =>
   show KasT.kasWp aa (if true=true then _ else _) Q s;rw[if_pos rfl];exact I m (Nat.le_refl _) (Nat.le_add_right _ _) D λ_=>M
  | false =>
   show KasT.kasWp aa (if false=true then _ else _) Q s;rw[if_neg aEm];exact P7 A J f (m+1) Q (by omega) (D.more L M) λB h1 h2 h3 h4=>I B (by omega) (by omega) h3 λz=>h4 (by omega)
def aAD (O:KeyOrd) (key:Nat->O.α) (p:Array Nat) (m q:Nat):Prop:=∀ k,m - (q+1)<=k->k<m->KP O key p k=KP O key p (m - 1)
def uI {p:Array Nat} {i j:Nat} (hj:j<=p.size) (h:∀ k,i<=k->k<j->KP O key p k=KP O key p (j - 1)) (k:Nat):KP O key (kas_rev p i j) k=KP O key p k:=by
 rw[P6 hj]
 by_cases q:i<=k/\k<j
 .rw[if_pos q,h _ (by omega) (by omega),h k q.1 q.2]
 .rw[if_neg q]
def Dn.same {p q:Array Nat} {m:Nat} (h:Dn O key p m) (e:∀ k,KP O key q k=KP O key p k):Dn O key q m:=λi j h1 h2=>by rw[e,e];exact h i j h1 h2
def fW (p:Array Nat) (i j:Nat):(kas_rev p i j).Perm p:=mirror_perm _ _ _ _
def sY (A:Ans O key n aa s):∀ (f:Nat) (p:Array Nat) (m q:Nat) (Q:Array Nat×Nat×Nat->Shared->Prop),InR n p->m+f<=n->1<=m->q+1<=m->Dn O key p m->aAD O key p m q ->
 (∀ D B I,D.Perm p->m<=B->B<=n->I+1<=B->Dn O key D B->aAD O key D B I->Q (D,B,I) s)->(kas_desc f p m q).kasWp aa Q s
 | 0,p,m,q,Q,J,hf,M,U,hd,he,L=>L p m q (Array.Perm.refl _) (Nat.le_refl _) (by omega) U hd he
 | f+1,p,m,q,Q,J,hf,M,U,hd,he,L=>by
  show aa _ _ _ s;refine A _ _ _ (J.at _) (J.at _) ?_;have one:∀ p:Array Nat,aAD O key p (m+1) 0:=λp k h1 h2=>by rw[show k=m+1 - 1 by omega]
  cases Y:O.blt (key (p.getD m 0)) (key (p.getD (m - 1) 0))with
  | true =>
   show KasT.kasWp aa (if true=true then _ else _) Q s;rw[if_pos rfl];have hl:O.kle (KP O key p m) (KP O key p (m - 1)):=KeyOrd.kle_of_klt Y
   by_cases q0:q > 0
   .rw[if_pos q0];have sm:=uI (O:=O) (key:=key) (p:=p) (i:=m - (q+1)) (j:=m) (by rw[J.size];omega) he;refine sY A f _ (m+1) 0 Q (J.perm (fW ..)) (by omega) (by omega) (by omega) (Dn.same (hd.more M hl) sm) (one _) λD B I e h1 h2 h3 h4 h5=>L D B I (e.trans (fW ..)) (by omega) h2 h3 h4 h5
   .rw[if_neg q0];exact sY A f p (m+1) 0 Q J (by omega) (by omega) (by omega) (hd.more M hl) (one _) λD B I e h1 h2 h3 h4 h5=>L D B I e (by omega) h2 h3 h4 h5
  | false =>
   show KasT.kasWp aa (if false=true then _ else _) Q s;rw[if_neg aEm];show aa _ _ _ s;refine A _ _ _ (J.at _) (J.at _) ?_;cases hc:O.blt (key (p.getD (m - 1) 0)) (key (p.getD m 0))with
   | true =>
    show KasT.kasWp aa (if true=true then _ else _) Q s;rw[if_pos rfl];exact L p m q (Array.Perm.refl _) (Nat.le_refl _) (by omega) U hd he
   | false =>
    show KasT.kasWp aa (if false=true then _ else _) Q s;rw[if_neg aEm];have eq:KP O key p m=KP O key p (m - 1):=O.total _ _ Y hc;refine sY A f p (m+1) (q+1) Q J (by omega) (by omega) (by omega) (hd.more M hc) (λk h1 h2=>?_) λD B I e h1 h2 h3 h4 h5=>L D B I e (by omega) h2 h3 h4 h5;show KP O key p k=KP O key p m
    by_cases z:k=m
    .rw[z]
    .rw[eq];exact he k (by omega) (by omega)
def V3 (A:Ans O key n aa s) {p:Array Nat} {m:Nat} {Q:Nat×Array Nat->Shared->Prop} (B:InR n p) (J:1<=m) (I:m<=n) (hd:Dn O key p m)
 (L:∀ z D,D.Perm p->1<=z->z<=n->Up O key D z->Q (z,D) s):(kas_tail3 m n p).kasWp aa Q s:=by
 unfold kas_tail3;rw[KasT.kasWp_bind];have M:Up O key (kas_rev p 0 m) m:=λi j h1 h2=>by
  rw[P6 (by rw[B.size];exact I),P6 (by rw[B.size];exact I),if_pos (by omega),if_pos (by omega)];exact hd _ _ (by omega) (by omega)
 exact P7 A (B.perm (fW ..)) _ _ _ J M λz h1 h2 h3 _=>L z _ (fW ..) (by omega) (by omega) h3
def V4 (A:Ans O key n aa s) {p:Array Nat} {m:Nat} {Q:Nat×Array Nat->Shared->Prop} (I:InR n p) (Y:m+1<=n) (hd:Dn O key p (m+1))
 (M:∀ z B,B.Perm p->1<=z->z<=n->Up O key B z->Q (z,B) s):(kas_descPart m n p).kasWp aa Q s:=by
 unfold kas_descPart;rw[KasT.kasWp_bind];refine sY A _ p (m+1) 0 _ I (by omega) (by omega) (by omega) hd (λk h1 h2=>by rw[show k=m+1 - 1 by omega]) λB z J e h1 h2 h3 h4 h5=>?_;show KasT.kasWp aa (if J > 0 then _ else _) Q s
 by_cases U:J > 0
 .rw[if_pos U];have D:=I.perm e;have sm:=uI (O:=O) (key:=key) (p:=B) (i:=z - (J+1)) (j:=z) (by rw[D.size];exact h2) h5;exact V3 A (D.perm (fW ..)) (show 1<=z by omega) h2 (Dn.same h4 sm) λL p2 e2 a b c=>M L p2 ((e2.trans (fW ..)).trans e) a b c
 .rw[if_neg U];exact V3 A (I.perm e) (show 1<=z by omega) h2 h4 λL p2 e2 a b c=>M L p2 (e2.trans e) a b c
def aAE (A:Ans O key n aa s) {p:Array Nat} {Q:Nat×Array Nat->Shared->Prop} (z:InR n p)
 (B:∀ D L,L.Perm p->1<=D->D<=n->Up O key L D->Q (D,L) s):(kas_count n p).kasWp aa Q s:=by
 have M:=z.pos;unfold kas_count;rw[KasT.kasWp_bind];refine P7 A z _ 1 _ (Nat.le_refl _) (λi j h1 h2=>by rw[show i=j by omega];exact KeyOrd.kle_refl _) λm h1 h2 I J=>?_;show KasT.kasWp aa (if (m == n)=true then _ else _) Q s
 by_cases e:m=n
 .rw[if_pos (by simpa using e)];exact B m p (Array.Perm.refl _) h1 (by omega) I
 .rw[if_neg (by simpa using e)];have J:=J (by omega)
  by_cases g:m > 1
  .rw[if_pos g];show aa _ _ _ s;refine A _ _ _ (z.at _) (z.at _) ?_;cases U:O.blt (key (p.getD 0 0)) (key (p.getD (m - 1) 0))with
   | true =>
    show KasT.kasWp aa (if true=true then _ else _) Q s;rw[if_pos rfl];exact B m p (Array.Perm.refl _) h1 (by omega) I
   | false =>
    show KasT.kasWp aa (if false=true then _ else _) Q s;rw[if_neg aEm];have all:∀ k,0<=k->k<m->KP O key p k=KP O key p (m - 1):=λk _ Y =>
     KeyOrd.kle_antisymm (I k (m - 1) (by omega) (by omega)) (KeyOrd.kle_trans (show O.kle (KP O key p (m - 1)) (KP O key p 0) from U) (I 0 k (by omega) Y))
    have sm:=uI (O:=O) (key:=key) (p:=p) (i:=0) (j:=m) (by rw[z.size];omega) all;refine V4 A (z.perm (fW ..)) (by omega) (Dn.same (Dn.more (λi j h1 h2=>?_) h1 (KeyOrd.kle_of_klt J)) sm) λm2 p2 e2 a b c=>B m2 p2 (e2.trans (fW ..)) a b c;rw[all i (by omega) (by omega),all j (by omega) h2];exact KeyOrd.kle_refl _
  .rw[if_neg g];refine V4 A z (by omega) (Dn.more (λi j h1 h2=>?_) h1 (KeyOrd.kle_of_klt J)) B;rw[show i=j by omega];exact KeyOrd.kle_refl _
def uJ (A:Ans O key n aa s) {p:Array Nat} (D:InR n p) {k:Nat}:∀ (f l r:Nat) (Q:Nat->Shared->Prop),Up O key p k->l<=r->r<=k->r - l<=f->(∀ i,i<l->O.kle (KP O key p i) (KP O key p k))->(∀ i,r<=i->i<k->O.kle (KP O key p k) (KP O key p i)) ->
 (∀ I,I<=k->(∀ i,i<I->O.kle (KP O key p i) (KP O key p k))->(∀ i,I<=i->i<k->O.kle (KP O key p k) (KP O key p i))->Q I s)->(kas_place p k f l r).kasWp aa Q s
 | 0,l,r,Q,z,h1,h2,h3,h4,h5,B=>B l (by omega) h4 λi a b=>h5 i (by omega) b
 | f+1,l,r,Q,z,h1,h2,h3,h4,h5,B=>by
  unfold kas_place
  by_cases e:l≥r
  .rw[if_pos e];exact B l (by omega) h4 λi a b=>h5 i (by omega) b
  .rw[if_neg e];show aa _ _ _ s;refine A _ _ _ (D.at _) (D.at _) ?_;have L:l<=(l+r) / 2:=by omega
   have M:(l+r) / 2<r:=by omega
   cases J:O.blt (key (p.getD k 0)) (key (p.getD ((l+r) / 2) 0))with
   | true =>
    show KasT.kasWp aa (if true=true then _ else _) Q s;rw[if_pos rfl];refine uJ A D f l ((l+r) / 2) Q z L (by omega) (by omega) h4 (λi a b=>?_) B;exact KeyOrd.kle_trans (KeyOrd.kle_of_klt (show O.klt (KP O key p k) (KP O key p ((l+r) / 2)) from J)) (z _ i a b)
   | false =>
    show KasT.kasWp aa (if false=true then _ else _) Q s;rw[if_neg aEm];refine uJ A D f ((l+r) / 2+1) r Q z (by omega) h2 (by omega) (λi a=>?_) h5 B;exact KeyOrd.kle_trans (z i ((l+r) / 2) (by omega) (by omega)) (show O.kle (KP O key p ((l+r) / 2)) (KP O key p k) from J)
def aAF (A:Ans O key n aa s):∀ (f:Nat) (p:Array Nat) (k:Nat) (Q:Array Nat->Shared->Prop),InR n p->1<=k->k+f=n->Up O key p k->(∀ B,B.Perm p->Up O key B n->Q B s)->(kas_bin f p k).kasWp aa Q s
 | 0,p,k,Q,I,hk,M,z,J=>J p (Array.Perm.refl _) (by rw[<- M];exact z)
 | f+1,p,k,Q,I,hk,M,z,J=>by
  unfold kas_bin;rw[KasT.kasWp_bind];refine uJ A I k 0 k _ z (Nat.zero_le _) (Nat.le_refl _) (by omega) (λi a=>absurd a (Nat.not_lt_zero _)) (λi a b=>by omega) λl hl h1 h2=>?_;have U:(bubble p k (k - l)).Perm p:=bubble_perm _ _ _;refine aAF A f _ (k+1) Q (I.perm U) (by omega) (by omega) (λi j L hj=>?_) λB e u=>J B (e.trans U) u;have Y:=λx=>aCj (O:=O) (key:=key) (p:=p) (k:=k) (d:=k - l) (by rw[I.size];omega) (by omega) x;rw[Y i,Y j,show k - (k - l)=l by omega]
  by_cases i1:i=l
  .rw[if_pos i1]
   by_cases D:j=l
   .rw[if_pos D];exact KeyOrd.kle_refl _
   .rw[if_neg D,if_pos (by omega)];exact h2 (j - 1) (by omega) (by omega)
  .rw[if_neg i1]
   by_cases i2:l<i/\i<=k
   .rw[if_pos i2,if_neg (show ¬ j=l by omega),if_pos (by omega)];exact z (i - 1) (j - 1) (by omega) (by omega)
   .rw[if_neg i2]
    by_cases D:j=l
    .rw[if_pos D];exact h1 i (by omega)
    .rw[if_neg D]
     by_cases j2:l<j/\j<=k
     .rw[if_pos j2];exact z i (j - 1) (by omega) (by omega)
     .rw[if_neg j2];exact z i j L (by omega)
def aBb (A:Ans O key n aa s) (I:0<n) {Q:Array Nat->Shared->Prop} (z:∀ p,p.Perm (List.range n).toArray->Up O key p n->Q p s):(kas_sort n).kasWp aa Q s:=by
 unfold kas_sort;rw[KasT.kasWp_bind];have B:InR n (List.range n).toArray:=⟨I,by simp,λx J=>by simpa using J⟩;refine aAE A B λm p e h1 h2 D=>?_;show KasT.kasWp aa (if m<n then _ else _) Q s
 by_cases q:m<n
 .rw[if_pos q];have em:max m 1=m:=by omega
  show KasT.kasWp aa (kas_bin (n - max m 1) p (max m 1)) Q s;rw[em];exact aAF A _ p m Q (B.perm e) h1 (by omega) D λL M u=>z L (M.trans e) u
 .rw[if_neg q];have:m=n:=by omega
  subst this;exact z p e D
end
end L2
namespace CW
def goM (c:Int):List Int->Nat->Int->List Int
 | [],h,n=>(List.range h).map (λ(k:Nat)=>n+(k:Int))
 | p :: r,h,n=>(List.range (min h (p - n).toNat)).map (λ(k:Nat)=>n+(k:Int)) ++
  (if ((h - min h (p - n).toNat:Nat):Int)<c then goM c r (h - min h (p - n).toNat+1) (p+1)else p :: goM c r (h - min h (p - n).toNat) (p+1))
def dA (row:List Int) (c:Int):List Int:=goM c row 0 0
def gY (k:Nat) (n:Int):(List.range (k+1)).map (λ(j:Nat)=>n+(j:Int))=n :: (List.range k).map (λ(j:Nat)=>(n+1)+(j:Int)):=by
 rw[List.range_succ_eq_map,aEy,aFD]
 congr 1
 .simp
 .apply List.map_congr_left
  intro j _;simp only[Function.comp];omega
def mQ {c:Int} {p:Int} {r:List Int} {h:Nat} {n:Int} (z:h=0\/p<=n):goM c (p :: r) h n=if (h:Int)<c then goM c r (h+1) (p+1)else p :: goM c r h (p+1):=by
 have e:min h (p - n).toNat=0:=by omega
 simp only[goM,e,List.range_zero,List.map_nil,List.nil_append,Nat.sub_zero]
def zK {c:Int} {p:Int} {r:List Int} {h:Nat} {n:Int} (z:n<p):goM c (p :: r) (h+1) n=n :: goM c (p :: r) h (n+1):=by
 have e:min (h+1) (p - n).toNat=min h (p - (n+1)).toNat+1:=by omega
 have e2:h+1 - (min h (p - (n+1)).toNat+1)=h - min h (p - (n+1)).toNat:=by omega
 rw[goM,goM,e,e2,gY];simp
def pA (c:Int) (h:Nat) (n:Int):goM c [] (h+1) n=n :: goM c [] h (n+1):=by
 simp only[goM];exact gY h n
def zL (c:Int) (n:Int):goM c [] 0 n=[]:=rfl
def pB {c:Int} {row:List Int} {n m:Int}:goM c row 0 n=goM c row 0 m:=by
 cases row with
 | nil=>rfl
 | cons p r=>rw[mQ (.inl rfl),mQ (.inl rfl)]
def zM {c:Int}:∀ (row:List Int) (h:Nat) (n:Int),(goM c row h n).length=row.length+h
 | [],h,n=>by simp[goM]
 | p :: r,h,n=>by
  rw[goM];have z:min h (p - n).toNat<=h:=Nat.min_le_left _ _;split
  .rw[aEi,aE9,List.length_range,zM r,aFC];omega
  .rw[aEi,aE9,List.length_range,aFC,zM r,aFC];omega
def qQ (row:List Int) (c:Int):(dA row c).length=row.length:=by simp[dA,zM]
def iG (r:List Int):Prop:=r.Pairwise (·<·)
def aAG {c:Int}:∀ (row:List Int) (h:Nat) (n:Int),iG row->(∀ x∈row,n<=x\/h=0)->∀ y∈goM c row h n,(n<=y\/h=0)/\(h=0->∀ x,row.head?=some x->x<=y)
 | [],h,n,_,_=>λy B=>by
  simp only[goM,aFN,List.mem_range]at B;obtain⟨k,hk,rfl⟩:=B;exact⟨.inl (by omega),λh0=>by omega⟩
 | p :: r,h,n,Y,hn=>λy B=>by
  have hp:n<=p\/h=0:=hn p aEb;have L:iG r:=(List.pairwise_cons.mp Y).2;have D:∀ x∈r,p+1<=x:=λx I=>by have:=(List.pairwise_cons.mp Y).1 x I;omega
  rw[goM]at B;have M:y∈(List.range (min h (p - n).toNat)).map (λ(k:Nat)=>n+(k:Int))->n<=y/\h≠0:=λq=>by
   simp only[aFN,List.mem_range]at q;obtain⟨k,hk,rfl⟩:=q;omega
  have J:∀ h',y∈goM c r h' (p+1)->p<=y:=λh' q=>by
   have z:=aAG r h' (p+1) L (λx I=>.inl (D x I)) y q;rcases z.1 with z1 | z1
   .omega
   .cases r with
    | nil=>subst z1;simp[goM]at q
    | cons x r' =>
     have:=z.2 z1 x rfl;have:=D x aEb;omega
  rcases aFM.mp B with q | q
  .have:=M q;exact⟨.inl this.1,λh0=>absurd h0 this.2⟩
  .have U:p<=y:=by
    split at q
    .exact J _ q
    .rcases aFL.mp q with q | q
     .omega
     .exact J _ q
   refine⟨?_,λ_ x I=>?_⟩
   .rcases hp with z | z
    .exact .inl (by omega)
    .exact .inr z
   .cases I;exact U
def V5 {c:Int} (Y:1<=c):∀ (row:List Int) (h:Nat) (n:Int),iG row->(∀ x∈row,n<=x\/h=0)->iG (goM c row h n)
 | [],h,n,_,_=>by
  unfold iG;simp only[goM];rw[List.pairwise_map];exact(List.pairwise_lt_range).imp (λ{x y} q=>by omega)
 | p :: r,h,n,U,hn=>by
  have hp:n<=p\/h=0:=hn p aEb;have I:iG r:=(List.pairwise_cons.mp U).2;have D:∀ x∈r,p+1<=x:=λx B=>by have:=(List.pairwise_cons.mp U).1 x B;omega
  have J:∀ h',iG (goM c r h' (p+1)):=λh'=>V5 Y r h' (p+1) I (λx B=>.inl (D x B));have M:∀ h' y,y∈goM c r h' (p+1)->p+1<=y:=λh' y q=>by
   have z:=aAG r h' (p+1) I (λx B=>.inl (D x B)) y q;rcases z.1 with z1 | z1
   .exact z1
   .cases r with
    | nil=>subst z1;simp[goM]at q
    | cons x r' =>
     have:=z.2 z1 x rfl;have:=D x aEb;omega
  rw[goM];unfold iG;rw[List.pairwise_append];refine⟨?_,?_,λx B y L=>?_⟩
  .rw[List.pairwise_map];exact(List.pairwise_lt_range).imp (λ{x y} q=>by omega)
  .split
   .exact J _
   .rw[List.pairwise_cons];exact⟨λy L=>by have:=M _ y L;omega,J _⟩
  .simp only[aFN,List.mem_range]at B;obtain⟨k,hk,rfl⟩:=B;have al:p<=y:=by
    split at L
    .have:=M _ y L;omega
    .rcases aFL.mp L with q | q
     .omega
     .have:=M _ y q;omega
   omega
def stp (c:Int) (l:Nat) (x:Bool):Nat×Bool :=
 if x then (if (l:Int)<c then (l+1,false)else (l,true))else (if 0<l then (l - 1,true)else (0,false))
def run (c:Int):Nat->List Bool->Nat×List Bool
 | l,[]=>(l,[])
 | l,x :: xs=>((run c (stp c l x).1 xs).1,(stp c l x).2 :: (run c (stp c l x).1 xs).2)
def bI:Int->List Bool->List Int
 | _,[]=>[]
 | n,true :: xs=>n :: bI (n+1) xs
 | n,false :: xs=>bI (n+1) xs
def eE:List Int->Int->Nat->List Bool
 | _,_,0=>[]
 | [],n,k+1=>false :: eE [] (n+1) k
 | p :: r,n,k+1=>if p=n then true :: eE r (n+1) k else false :: eE (p :: r) (n+1) k
def uK:∀ (k:Nat) (row:List Int) (n:Int),(eE row n k).length=k
 | 0,row,n=>by cases row <;> rfl
 | k+1,[],n=>by rw[eE,aFC,uK k]
 | k+1,p :: r,n=>by
  rw[eE];split <;> rw[aFC,uK k]
def V6 (c:Int):∀ (xs:List Bool) (l:Nat),(run c l xs).2.length=xs.length
 | [],_=>rfl
 | x :: xs,l=>by rw[run,aFC,aFC,V6 c xs]
def zN {c:Int}:∀ (k:Nat) (row:List Int) (h:Nat) (n:Int),iG row->(∀ x∈row,n<=x/\x<n+k) ->
 goM c row h n=bI n (run c h (eE row n k)).2++goM c [] (run c h (eE row n k)).1 (n+k)
 | 0,row,h,n,_,B=>by
  cases row with
  | nil=>simp[eE,run,bI]
  | cons p r=>have:=B p aEb;omega
 | k+1,[],h,n,D,B=>by
  have z:=λh'=>zN (c:=c) k [] h' (n+1) D (λx q=>by cases q);have e:n+1+(k:Int)=n+((k+1:Nat):Int):=by omega
  rw[e]at z;rw[eE,run];cases h with
  | zero =>
   simp only[stp,Bool.false_eq_true,if_false,Nat.lt_irrefl,bI];rw[<- z 0];rfl
  | succ h =>
   simp only[stp,Bool.false_eq_true,if_false,Nat.succ_pos,if_true,Nat.add_sub_cancel,bI,List.cons_append];rw[<- z h,pA]
 | k+1,p :: r,h,n,D,B=>by
  have e:n+1+(k:Int)=n+((k+1:Nat):Int):=by omega
  have U:=B p aEb;have L:iG r:=(List.pairwise_cons.mp D).2;have I:∀ x∈r,p<x:=λx q=>(List.pairwise_cons.mp D).1 x q
  by_cases J:p=n
  .subst J;have z:=λh'=>zN (c:=c) k r h' (p+1) L (λx q=>by have:=I x q;have:=B x (aEc _ q);omega);rw[e]at z;rw[eE,if_pos rfl,run,mQ (.inr (Int.le_refl _))]
   by_cases M:(h:Int)<c
   .simp only[stp,if_true,M,bI];exact z _
   .simp only[stp,if_true,M,if_false,bI,List.cons_append];rw[<- z]
  .have z:=λh'=>zN (c:=c) k (p :: r) h' (n+1) D (λx q=>by
    have:=B x q;rcases aFL.mp q with rfl | q'
    .omega
    .have:=I x q';omega)
   rw[e]at z;rw[eE,if_neg J,run];cases h with
   | zero =>
    simp only[stp,Bool.false_eq_true,if_false,Nat.lt_irrefl,bI];rw[<- z 0];exact pB
   | succ h =>
    simp only[stp,Bool.false_eq_true,if_false,Nat.succ_pos,if_true,Nat.add_sub_cancel,bI,List.cons_append];rw[<- z h,zK (by omega)]
def nZ (c:Int):∀ (xs ys:List Bool) (l:Nat),run c l (xs++ys)=((run c (run c l xs).1 ys).1,(run c l xs).2++(run c (run c l xs).1 ys).2)
 | [],ys,l=>rfl
 | x :: xs,ys,l=>by
  rw[List.cons_append,run,run,nZ c xs ys];rfl
def aAH {c:Int} {l:Nat} {x:Bool} (z:(l:Int)<=c):stp c (stp c l x).1 (stp c l x).2=(l,x)/\(((stp c l x).1:Nat):Int)<=c:=by
 unfold stp;cases x with
 | true =>
  by_cases h:(l:Int)<c
  .simp[h];omega
  .simp[h];omega
 | false =>
  by_cases h:0<l
  .have h2:((l - 1:Nat):Int)<c:=by omega
   simp[h,h2];omega
  .have:l=0:=by omega
   subst this;simp;omega
def G0 {c:Int}:∀ (xs:List Bool) (l:Nat),(l:Int)<=c->run c (run c l xs).1 (run c l xs).2.reverse=(l,xs.reverse)
 | [],l,_=>rfl
 | x :: xs,l,h=>by
  have z:=aAH (x:=x) h;have B:=G0 xs (stp c l x).1 z.2;rw[run];simp only[List.reverse_cons];rw[nZ,B];simp only[run,z.1]
def fS:∀ (xs ys:List Bool) (n:Int),bI n (xs++ys)=bI n xs++bI (n+xs.length) ys
 | [],ys,n=>by simp[bI]
 | true :: xs,ys,n=>by
  rw[List.cons_append,bI,bI,fS xs ys,List.cons_append,aFC]
  congr 3;omega
 | false :: xs,ys,n=>by
  rw[List.cons_append,bI,bI,fS xs ys,aFC]
  congr 2;omega
def gZ:∀ (xs:List Bool) (n:Int) (y:Int),y∈bI n xs->n<=y/\y<n+xs.length
 | [],n,y,h=>by cases h
 | true :: xs,n,y,h=>by
  rw[aFC];rcases aFL.mp h with rfl | h
  .omega
  .have:=gZ xs (n+1) y h;omega
 | false :: xs,n,y,h=>by
  have:=gZ xs (n+1) y h;rw[aFC];omega
def oA:∀ (xs:List Bool) (n:Int),iG (bI n xs)
 | [],n=>List.Pairwise.nil
 | true :: xs,n=>by
  unfold iG;rw[bI,List.pairwise_cons];exact⟨λy z=>by have:=gZ xs (n+1) y z;omega,oA xs (n+1)⟩
 | false :: xs,n=>oA xs (n+1)
def lK:∀ (xs:List Bool) (n:Int),eE (bI n xs) n xs.length=xs
 | [],n=>rfl
 | true :: xs,n=>by rw[bI,aFC,eE,if_pos rfl,lK xs]
 | false :: xs,n=>by
  rw[bI,aFC];have z:=lK xs (n+1);cases e:bI (n+1) xs with
  | nil=>rw[e]at z;rw[eE,z]
  | cons p r =>
   have:=gZ xs (n+1) p (by rw[e];exact aEb);rw[e]at z;rw[eE,if_neg (by omega),z]
def iM:∀ (k:Nat) (row:List Int) (n:Int),iG row->(∀ x∈row,n<=x/\x<n+k)->bI n (eE row n k)=row
 | 0,row,n,_,z=>by
  cases row with
  | nil=>rfl
  | cons p r=>have:=z p aEb;omega
 | k+1,[],n,B,z=>by rw[eE,bI];exact iM k [] (n+1) B (λx q=>by cases q)
 | k+1,p :: r,n,B,z=>by
  have L:=z p aEb;have J:iG r:=(List.pairwise_cons.mp B).2;have D:∀ x∈r,p<x:=λx q=>(List.pairwise_cons.mp B).1 x q;rw[eE]
  by_cases I:p=n
  .subst I;rw[if_pos rfl,bI,iM k r (p+1) J (λx q=>by have:=D x q;have:=z x (aEc _ q);omega)]
  .rw[if_neg I,bI];exact iM k (p :: r) (n+1) B (λx q=>by
    have:=z x q;rcases aFL.mp q with rfl | q'
    .omega
    .have:=D x q';omega)
def aAI (row:List Int):List Int:=row.reverse.map (λz=>-z)
def jW:∀ (xs:List Bool) (n:Int),aAI (bI n xs)=bI (1 - n - xs.length) xs.reverse
 | [],n=>rfl
 | true :: xs,n=>by
  have z:=jW xs (n+1);unfold aAI at *;rw[bI,List.reverse_cons,aEo,z,List.reverse_cons,fS,aFC,List.length_reverse];simp only[aEy,List.map_nil,bI]
  congr 1
  .congr 1;omega
  .congr 1;omega
 | false :: xs,n=>by
  have z:=jW xs (n+1);unfold aAI at *;rw[bI,z,List.reverse_cons,fS,aFC];simp only[bI,List.append_nil]
  congr 1;omega
def xT (c:Int):∀ (j l:Nat),(run c l (List.replicate j false)).1=l - j
 | 0,l=>by simp[run]
 | j+1,l=>by
  rw[List.replicate_succ,run];simp only;rw[xT c j];unfold stp
  by_cases h:0<l
  .simp[h];omega
  .simp[h];omega
def aCk (c:Int) {row:List Int} (z:iG row):∃ (n:Int) (k:Nat),(∀ x∈row,n<=x/\x<n+k)/\(run c 0 (eE row n k)).1=0:=by
 have h1:∃ (n:Int) (k:Nat),∀ x∈row,n<=x/\x<n+k:=by
  clear z
  induction row with
  | nil=>exact⟨0,0,λx h=>by cases h⟩
  | cons p r B =>
   obtain⟨n,k,h⟩:=B;refine⟨min n p,((max (n+k) (p+1)) - min n p).toNat,λx hx=>?_⟩;rcases aFL.mp hx with rfl | hx
   .omega
   .have:=h x hx;omega
 obtain⟨n,k,h⟩:=h1;refine⟨n,k+(run c 0 (eE row n k)).1,λx hx=>by have:=h x hx;omega,?_⟩;have e:∀ (k j:Nat) (row:List Int) (n:Int),iG row->(∀ x∈row,n<=x/\x<n+k)->eE row n (k+j)=eE row n k++List.replicate j false:=by
  intro k
  induction k with
  | zero =>
   intro j row n z hx;cases row with
   | nil =>
    rw[Nat.zero_add];show eE [] n j=[]++_;rw[List.nil_append];clear hx
    induction j generalizing n with
    | zero=>rfl
    | succ j B=>rw[eE,B,List.replicate_succ]
   | cons p r=>have:=hx p aEb;omega
  | succ k B =>
   intro j row n z hx;rw[show k+1+j=(k+j)+1 by omega];cases row with
   | nil=>rw[eE,eE,B j [] (n+1) z (λx q=>by cases q)];rfl
   | cons p r =>
    have L:=hx p aEb;have J:iG r:=(List.pairwise_cons.mp z).2;have I:∀ x∈r,p<x:=λx q=>(List.pairwise_cons.mp z).1 x q;rw[eE,eE]
    by_cases D:p=n
    .subst D;rw[if_pos rfl,if_pos rfl,B j r (p+1) J (λx q=>by have:=I x q;have:=hx x (aEc _ q);omega)];rfl
    .rw[if_neg D,if_neg D,B j (p :: r) (n+1) z (λx q=>by
      have:=hx x q;rcases aFL.mp q with rfl | q'
      .omega
      .have:=I x q';omega)];rfl
 rw[e k _ row n z h,nZ];simp only;rw[xT];omega
def V7 {c:Int} {row:List Int} {n:Int} {k:Nat} (z:iG row) (B:∀ x∈row,n<=x/\x<n+k) (h0:(run c 0 (eE row n k)).1=0):dA row c=bI n (run c 0 (eE row n k)).2:=by
 unfold dA;rw[pB (m:=n),zN k row 0 n z B,h0,zL,List.append_nil]
def G6 {c:Int} {xs:List Bool} {n:Int} (h0:(run c 0 xs).1=0):dA (bI n xs) c=bI n (run c 0 xs).2:=by
 have e:=lK xs n;have:=V7 (c:=c) (row:=bI n xs) (n:=n) (k:=xs.length) (oA xs n) (λx z=>gZ xs n x z) (by rw[e];exact h0);rw[e]at this;exact this
def c6 {c:Int} {row:List Int} (I:0<=c) (z:iG row):aAI (dA (aAI (dA row c)) c)=row:=by
 obtain⟨n,k,D,h0⟩:=aCk c z;have B:=G0 (c:=c) (eE row n k) 0 (by omega);rw[h0]at B;rw[V7 z D h0,jW,G6 (by rw[B]),B,jW,List.reverse_reverse,List.length_reverse,V6,uK];rw[show 1 - (1 - n - (k:Int)) - (k:Int)=n by omega];exact iM k row n z D
end CW
namespace CW
open PySem L2
def eX {ns:List Int} {i:Int} (h0:0<=i) (h1:i<ns.length):∃ n,n∈ns/\ns[i.toNat]?=some n/\atI (ns.map V.int) i=some (.int n):=by
 have hj:i.toNat<ns.length:=by omega
 refine⟨ns[i.toNat],List.getElem_mem hj,by simp[hj],?_⟩;have q:atI (ns.map V.int) ((i.toNat:Nat):Int)=some (.int ns[i.toNat]):=jV (by simp[hj]);rw[Int.toNat_of_nonneg h0]at q;exact q
def bC {n:Nat} (h:n<=10000):n<sizeLine:=Nat.lt_of_le_of_lt h (by decide)
def dJ {n:Nat} (h:n<=10000):n<=sizeLine:=Nat.le_of_lt (bC h)
def P8 (ns:List Int):Prop:=∀ n∈ns,0<=n/\n<9967
def c7 (ns:List Int) (lo hi:Option Int):∃ z:List Int,gI (ns.map V.int) lo hi=z.map V.int/\z.length<=ns.length/\∀ n∈z,n∈ns:=by
 refine⟨(ns.drop (HT.sIx ns.length 0 lo)).take (HT.sIx ns.length ns.length hi - HT.sIx ns.length 0 lo),?_,?_,?_⟩
 .unfold gI;simp only[aE9,List.map_take,List.map_drop]
 .simp only[aEp,List.length_drop];omega
 .intro n B;exact List.mem_of_mem_drop (List.mem_of_mem_take B)
def aAJ (ns:List Int) (k:Nat) (h:k<=ns.length):gI (ns.map V.int) none (some (k:Int))=(ns.take k).map V.int:=by
 unfold gI;rw[HT.sIx_none,HT.sIx_nat,aE9,List.drop_zero,Nat.sub_zero,Nat.min_eq_left h,List.map_take]
def uL (ns:List Int) (k:Nat) (h:k<=ns.length):gI (ns.map V.int) (some (k:Int)) none=(ns.drop k).map V.int:=by
 unfold gI;rw[HT.sIx_none,HT.sIx_nat,aE9,Nat.min_eq_left h,<- List.map_drop,<- List.map_take,List.take_of_length_le (by simp)]
def sd1 (B z:Int):Int:=(B * 40014+z % 999983+29) % 2147483563
def sd2 (z:Int) (ys:List Int):Int:=(z * z+52774 * z+13 * ((List.map V.int ys).length:Int)+7) % 2147483629
def rs1 (z:Int):Int:=z - 10 ^ (18:Int).toNat
inductive mR (K:PySem.W.Frag) (vs:List V) (H:Hp) (Q:VK) (E_:XK):Prop
 | mk (a:Addr) (script:List Int) (m:Nat) (h0_:vs=[.ref a,.int m]) (h1_:SqL K H a (script.map V.int)) (h2_:script.length<=63) (h3_:m<=1000) (h4_:∀ (l:Addr) (ns:List Int) (H':Hp),ns.length=m->P8 ns->H l=none->Same H H'->H' l=some (.lst (ns.map V.int))->Q (.ref l) H'):mR K vs H Q E_
def Row (r:List Int):Prop:=r.Pairwise (·<·)
def Row.lt {r:List Int} (h:Row r) {i j:Nat} {x y:Int} (z:i<j) (B:r[i]?=some x) (D:r[j]?=some y):x<y:=by
 obtain⟨h1,rfl⟩:=aFK.mp B;obtain⟨h2,rfl⟩:=aFK.mp D;exact List.pairwise_iff_getElem.mp h i j h1 h2 z
def kX (H:Hp) (Q:VK) (ns:List Int):Prop:=∀ (l:Addr) (H':Hp),H l=none->Same H H'->H' l=some (.lst (ns.map V.int))->Q (.ref l) H'
inductive uM (vs:List V) (H:Hp) (Q:VK) (E_:XK):Prop
 | mk (a:Addr) (row:List Int) (h0_:vs=[.ref a]) (h1_:H a=some (.lst (row.map V.int))) (h2_:Row row) (h3_:row.length<=60) (h4_:Q .non H):uM vs H Q E_
structure Cn (mg:Str->Option Value) (tC:Tok):Prop where
 MOST_STONES:mg "MOST_STONES"=some (.int 60 tC)
def pC {l:List Int} {i:Nat} {z:Int} (f:Int->Int) (h:l[i]?=some z):((l.take i).map f).map V.int++[V.int (f z)]=((l.take (i+1)).map f).map V.int:=by
 rw[aFE,h];simp
def jX {l:List Int} {i:Nat} {x:V} (h:(l.map V.int)[i]?=some x):∃ z,x=.int z/\l[i]?=some z:=by
 rw[aEx]at h;cases e:l[i]? with
 | none=>rw[e]at h;cases h
 | some z=>rw[e]at h;exact⟨z,(Option.some.inj h).symm,rfl⟩
def pD {z:Type} (l:List z) (i:Nat) (h:i<=60) (f:z->Int):((((l.take i).map f).map V.int)).length<sizeLine:=by
 simp only[aE9,aEp];exact bC (by omega)
def fI (row:List Int):List Int:=row.reverse.map (λz=>-z)
def P9 (row:List Int) (b:Int):List Int:=row.map (λz=>z+b)
inductive hJ (vs:List V) (H:Hp) (Q:VK) (E_:XK):Prop
 | mk (a:Addr) (row:List Int) (h0_:vs=[.ref a]) (h1_:H a=some (.lst (row.map V.int))) (h2_:Row row) (h3_:row.length<=60) (h4_:kX H Q (fI row)):hJ vs H Q E_
def aCl (H:Hp) (v:V) (p:Int×Int):Prop:=∃ t,v=.ref t/\H t=some (.tup [.int p.1,.int p.2])
abbrev Prs (H:Hp):List V->List (Int×Int)->Prop:=Paired (aCl H)
def TupS (H H':Hp):Prop:=∀ t xs,H t=some (.tup xs)->H' t=some (.tup xs)
def Prs.mono {H H':Hp} (h:TupS H H') {vs:List V} {ps:List (Int×Int)} (r:Prs H vs ps):Prs H' vs ps:=Paired.mapP r λ_ _ ⟨t,e,q⟩=>⟨t,e,h _ _ q⟩
def TupS.new {H:Hp} {a:Addr} {o:HO} (h:H a=none):TupS H (upd H a o):=λt xs e=>by rw[aF (aM e h)];exact e
def TupS.lst {H:Hp} {a:Addr} {xs ys:List V} (h:H a=some (.lst xs)):TupS H (upd H a (.lst ys)):=λt zs e=>by rw[aF (bO e h (by intro z;cases z))];exact e
def TupS.same {H H':Hp} (h:Same H H'):TupS H H':=λt xs e=>h _ _ e
def Paired.append' {D I:Type} {F:D->I->Prop}:∀ {l₁ z:List D} {l₂ B:List I},Paired F l₁ l₂->Paired F z B->Paired F (l₁++z) (l₂++B)
 | _,_,_,_,.nil,s=>s
 | _,_,_,_,.cons r t,s=>.cons r (Paired.append' t s)
def aDg (H:Hp) (Q:VK) (ps:List (Int×Int)):Prop:=∀ (l:Addr) (vs:List V) (H':Hp),H l=none->Same H H'->H' l=some (.lst vs)->Prs H' vs ps->Q (.ref l) H'
def G7 (ns:List Int):PyData.canLayAll0 (ns.map PyData.int)=true:=by
 induction ns with
 | nil=>rfl
 | cons p r z=>simp[PyData.canLayAll0,PyData.canLay0,z]
def Q0 (ns:List Int):PyData.depthAll (ns.map PyData.int)=0:=by
 induction ns with
 | nil=>simp[PyData.depthAll]
 | cons p r z=>simp[PyData.depthAll,PyData.depth,z]
def G8 (ns:List Int):SeqAt.shaped (.list (ns.map PyData.int))=true:=by
 simp[SeqAt.shaped,PyData.canLay0,G7,PyData.depth,Q0]
def lL {r:List Int} {x:Int} (h:Row r) (z:∀ y∈r,y<x):Row (r++[x]):=by
 unfold Row;rw[List.pairwise_append];exact⟨h,List.pairwise_singleton _ _,λa B b D=>by rw[aFF.mp D];exact z a B⟩
def aAK {row:List Int} {c:Nat} {b:Int} (h:Row row) (J:0<=b):Row (row.take c++(row.drop c).map (λz=>z+b)):=by
 unfold Row at *;rw[List.pairwise_append];have hs:=h;rw[<- List.take_append_drop c row,List.pairwise_append]at hs;obtain⟨h1,h2,h3⟩:=hs;refine⟨h1,?_,λx B y D=>?_⟩
 .rw[List.pairwise_map];exact h2.imp (λ{x y} q=>by omega)
 .obtain⟨z,I,rfl⟩:=aFN.mp D;have:=h3 x B z I;omega
mutual
def sml:PyData->Bool
 | .list xs=>decide (xs.length<=5000) && lM xs
 | .tuple xs=>decide (xs.length<=5000) && lM xs
 | .dict _=>false
 | .none=>true
 | .bool _=>true
 | .int _=>true
 | .str _=>true
def lM:List PyData->Bool
 | []=>true
 | x :: xs=>sml x && lM xs
end
def V8 {ds:List PyData} {d:PyData} (h:d∈ds) (z:lM ds=true):sml d=true:=by
 induction ds with
 | nil=>cases h
 | cons x r B =>
  simp only[lM,Bool.and_eq_true]at z;rcases aFL.mp h with rfl | h
  .exact z.1
  .exact B h z.2
inductive qR (n:Nat) (vs:List V) (H:Hp) (Q:VK) (E_:XK):Prop
 | mk (x y:V) (d:PyData) (h0_:vs=[x,y]) (h1_:Den H x d) (h2_:Den H y d) (h3_:d.depth<=n) (h4_:SeqAt.shaped d=true) (h5_:sml d=true) (h6_:∀ H',Same H H'->Q (.bl true) H'):qR n vs H Q E_
def xU {ds:List PyData} {d:PyData} (h:d∈ds):d.depth<=PyData.depthAll ds:=by
 induction ds with
 | nil=>cases h
 | cons x r z =>
  simp only[PyData.depthAll];rcases aFL.mp h with rfl | h
  .omega
  .have:=z h;omega
def uN {ds:List PyData} {d:PyData} (h:d∈ds) (z:PyData.canLayAll0 ds=true):d.canLay0=true:=by
 induction ds with
 | nil=>cases h
 | cons x r B =>
  simp only[PyData.canLayAll0,Bool.and_eq_true]at z;rcases aFL.mp h with rfl | h
  .exact z.1
  .exact B h z.2
def hU {d:PyData} (h:SeqAt.shaped d=true):PyData.eqv d d=true:=SeqAt.eqv_refl d (SeqAt.canLay_of_shaped h)
def hW {row:List Int} (h:Row row):Row (fI row):=by
 unfold Row fI at *;rw[List.pairwise_map,List.pairwise_reverse];exact h.imp (λ{x y} q=>by omega)
def lN (row:List Int):(fI row).length=row.length:=by simp[fI]
def jM (row:List Int):fI (fI row)=row:=by
 unfold fI;rw[<- List.map_reverse,List.reverse_reverse,aFD]
 conv=>rhs;rw[<- List.map_id row]
 apply List.map_congr_left
 intro x _;simp
def aAL {row:List Int} {b:Int} (h:Row row):Row (P9 row b):=by
 unfold Row P9 at *;rw[List.pairwise_map];exact h.imp (λ{x y} q=>by omega)
def pE (row:List Int) (b:Int):(P9 row b).length=row.length:=by simp[P9]
inductive G9 (K:PySem.W.Frag) (vs:List V) (H:Hp) (Q:VK) (E_:XK):Prop
 | mk (a:Addr) (ns:List Int) (h0_:vs=[.ref a]) (h1_:SqL K H a (ns.map V.int)) (h2_:ns.length<=63) (h3_:∀ H',Q (.bl true) H'):G9 K vs H Q E_
def qS {row:List Int} {c:Int} (h:Row row) (z:1<=c:=by omega):Row (dA row c):=V5 z row 0 0 h (λ_ _=>.inr rfl)
inductive dN (vs:List V) (H:Hp) (Q:VK) (E_:XK):Prop
 | mk (c:Int) (h0_:vs=[.int c]) (h1_:1<=c) (h2_:Q .non H):dN vs H Q E_
inductive lO (vs:List V) (H:Hp) (Q:VK) (E_:XK):Prop
 | mk (a:Addr) (row:List Int) (c:Int) (h0_:vs=[.ref a,.int c]) (h1_:H a=some (.lst (row.map V.int))) (h2_:Row row) (h3_:row.length<=60) (h4_:1<=c) (h5_:kX H Q (dA row c)):lO vs H Q E_
def iO (row:List Int) (c:Int):List Int:=fI (dA (fI row) c)
inductive zO (vs:List V) (H:Hp) (Q:VK) (E_:XK):Prop
 | mk (a:Addr) (row:List Int) (c:Int) (h0_:vs=[.ref a,.int c]) (h1_:H a=some (.lst (row.map V.int))) (h2_:Row row) (h3_:row.length<=60) (h4_:1<=c) (h5_:kX H Q (iO row c)):zO vs H Q E_
def xV {row:List Int} {c:Int} (h:Row row) (z:1<=c:=by omega):Row (iO row c):=hW (qS (hW h))
def c8 (row:List Int) (c:Int):(iO row c).length=row.length:=by simp[iO,lN,qQ]
def Q3 {row:List Int} {c:Int} (h:Row row) (z:1<=c):iO (dA row c) c=row:=c6 (by omega) h
def Q4 {row:List Int} {c:Int} (h:Row row) (z:1<=c):dA (iO row c) c=row:=by
 have:=Q3 (hW h) z;unfold iO at *;rw[<- jM (dA (fI (dA (fI row) c)) c),this,jM]
end CW
namespace CW
end CW
namespace CW
open PySem L2
def uO {z B:Type} {F:z->B->Prop}:∀ {l₁:List z} {l₂:List B} {i:Nat} {x:z},Paired F l₁ l₂->l₁[i]?=some x->∃ y,l₂[i]?=some y/\F x y
 | _,_,_,_,.nil,e=>by simp at e
 | _,_,0,_,.cons r _,e=>by simp at e;subst e;exact⟨_,rfl,r⟩
 | _,_,i+1,x,.cons _ t,e=>by
  obtain⟨y,h1,h2⟩:=uO (i:=i) (x:=x) t (by simpa using e);exact⟨y,by simpa using h1,h2⟩
def I0 (z:Int) (ns:List Int):inV (.int z) (ns.map V.int)=decide (z∈ns):=by
 unfold inV
 induction ns with
 | nil=>rfl
 | cons n r B =>
  rw[aEy,List.any_cons,B];have e:eqV (.int n) (.int z)=decide (n=z):=by
   show (n == z)=_;rw[Bool.eq_iff_iff];simp
  rw[e,Bool.eq_iff_iff];simp only[Bool.or_eq_true,decide_eq_true_eq,aFL]
  constructor
  .rintro (h | h)
   .exact .inl h.symm
   .exact .inr h
  .rintro (h | h)
   .exact .inl h.symm
   .exact .inr h
def LP (H:Hp) (a:Addr) (ps:List (Int×Int)):Prop:=∃ us,H a=some (.lst us)/\Prs H us ps
def LP.mono {H H':Hp} (h:Same H H') {a:Addr} {ps:List (Int×Int)} (r:LP H a ps):LP H' a ps:=let ⟨us,e,p⟩:=r;⟨us,h _ _ e,p.mono (TupS.same h)⟩
def Prs.len {H:Hp} {us:List V} {ps:List (Int×Int)} (h:Prs H us ps):us.length=ps.length:=Paired.length h
def szs (ps:List (Int×Int)):List Int:=ps.map (·.1)
structure Trn (ps:List (Int×Int)):Prop where
 pos:∀ p∈ps,1<=p.1
 few:(szs ps).sum<=60
def hX:∀ {ps:List (Int×Int)},(∀ p∈ps,1<=p.1)->(ps.length:Int)<=(szs ps).sum
 | [],_=>by simp[szs]
 | p :: r,h=>by
  have h1:=h p (aEb);have h2:=hX (ps:=r) λq z=>h q (aEc _ z);simp only[szs,aEy,aFB,aFC]at h2 ⊢;omega
def Trn.len {ps:List (Int×Int)} (h:Trn ps):ps.length<=60:=by
 have h1:=hX h.pos;have:=h.few;omega
inductive pF (vs:List V) (H:Hp) (Q:VK) (E_:XK):Prop
 | mk (a:Addr) (ps:List (Int×Int)) (h0_:vs=[.ref a]) (h1_:LP H a ps) (h2_:Trn ps) (h3_:∀ H',Same H H'->Q .non H'):pF vs H Q E_
def fK {H:Hp} {us:List V} {ps:List (Int×Int)} (h:Prs H us ps) {i:Nat} {x:V} (e:us[i]?=some x):∃ p t,ps[i]?=some p/\x=.ref t/\H t=some (.tup [.int p.1,.int p.2]):=by
 obtain⟨p,z,t,e1,e2⟩:=uO h e;exact⟨p,t,z,e1,e2⟩
def uP {ps:List (Int×Int)} {i:Nat} {p:Int×Int} (f:Int×Int->Int) (h:ps[i]?=some p):((ps.take i).map f).map V.int++[V.int (f p)]=((ps.take (i+1)).map f).map V.int:=by
 rw[aFE,h];simp
def c9 (us:List V) (k:Nat):gI us (some (k:Int)) none=us.drop k:=by
 unfold gI;rw[HT.sIx_none,HT.sIx_nat]
 by_cases h:k<=us.length
 .rw[Nat.min_eq_left h,List.take_of_length_le (by simp)]
 .rw[Nat.min_eq_right (by omega),Nat.sub_self,List.take_zero,List.drop_eq_nil_of_le (by omega)]
def aBc (us:List V) (k:Nat):gI us none (some (k:Int))=us.take k:=by
 unfold gI;rw[HT.sIx_none,HT.sIx_nat,List.drop_zero,Nat.sub_zero]
 by_cases h:k<=us.length
 .rw[Nat.min_eq_left h]
 .rw[Nat.min_eq_right (by omega),List.take_of_length_le (by omega),List.take_of_length_le (by omega)]
end CW
namespace L2
open PySem PySem.W PySem.Spec PyProof.Rows
def plt (a b:Int×Int):Bool:=decide (a.1<b.1) || (decide (a.1=b.1) && decide (a.2<b.2))
def gJ {a b:Int×Int}:plt a b=true↔a.1<b.1\/(a.1=b.1/\a.2<b.2):=by simp[plt]
def gK {a b:Int×Int}:plt a b=false↔¬ (a.1<b.1\/(a.1=b.1/\a.2<b.2)):=by rw[<- gJ];simp
def lP:KeyOrd where
 α:=Int×Int
 blt:=plt
 irrefl a:=by rw[gK];omega
 trans a b c h1 h2:=by rw[gJ]at *;omega
 negTrans a b c h:=by rw[gJ]at *;rw[gJ];omega
 total a b h1 h2:=by
  rw[gK]at h1 h2;exact Prod.ext (by omega) (by omega)
def PairV (h:Heap) (v:Value) (p:Int×Int):Prop:=∃ t o n z B,v=.ref t/\h.get? t=some o/\o.cls=.type "tuple"/\o.data=.seq #[.int p.1 z,.int p.2 B] n
def dP {z B:Type} {F:z->B->Prop} {x:z} {y:B}:∀ {l:List z} {m:List B} {i:Nat},Paired F l m->i<l.length->F (l.getD i x) (m.getD i y)
 | _,_,0,.cons r _,_=>r
 | _,_,i+1,.cons _ t,h=>by
  simp only[List.getD_cons_succ];exact dP t (by simpa using h)
 | _,_,_,.nil,h=>absurd h (Nat.not_lt_zero _)
section
variable {prog:Program} {w:World} {A:Around} {E:Value->Shared->Prop} {s:Shared}
def aAM {x y:Value} {p q:Int×Int} {Q:Bool->Shared->Prop} (B:PairV s.heap x p) (D:PairV s.heap y q) (h:Q (plt p q) s):wpAny (model prog w) A (keyLt' (tuples' true) x y) Q E s:=by
 obtain⟨t,o,n,U,Y,rfl,e1,c1,I⟩:=B;obtain⟨t',o',n',J,L,rfl,e2,c2,M⟩:=D;refine kat_lt e1 I e2 M ?_;refine kat_cons (wpAny_eqBool_int ?_)
 by_cases z:p.1=q.1
 .rw[show (p.1 == q.1)=true by simpa using z];refine kat_yes (kat_cons (wpAny_eqBool_int ?_))
  by_cases g2:p.2=q.2
  .rw[show (p.2 == q.2)=true by simpa using g2];refine kat_yes (kat_nil ?_);have e:plt p q=false:=by rw[gK];omega
   rw[e]at h;exact h
  .rw[show (p.2 == q.2)=false by simpa using g2];refine kat_no (kat_one _ _ (lt_int ?_));have e:plt p q=decide (p.2<q.2):=by
    rw[Bool.eq_iff_iff,gJ];simp;omega
   rw[e]at h;exact h
 .rw[show (p.1 == q.1)=false by simpa using z];refine kat_no (oneLt_int ?_);have e:plt p q=decide (p.1<q.1):=by
   rw[Bool.eq_iff_iff,gJ];simp;omega
  rw[e]at h;exact h
def xW {h:Heap}:∀ {vs:List Value} {ps:List (Int×Int)},Paired (PairV h) vs ps->∃ fs:List Value,KatTups h vs fs/\fs.length=vs.length/\∀ v∈fs,∃ i t,v=Value.int i t
 | _,_,.nil=>⟨[],.nil,rfl,λv B=>(by cases B)⟩
 | _,_,.cons ⟨t,o,n,D,L,e,I,J,hd⟩ r=>by
  subst e;obtain⟨fs,a,b,c⟩:=xW r;refine⟨.int _ D :: fs,.cons I J hd rfl a,by simp[b],λv B=>?_⟩;rcases aFL.mp B with z | z
  .exact⟨_,_,z⟩
  .exact c v z
abbrev zP (vs:List Value) (p:Array Nat):List Value:=p.toList.map λi=>vs.getD i Value.none
def i0 {vs:List Value} (z:vs.length<2):zP vs (List.range vs.length).toArray=vs:=by
 cases vs with
 | nil=>rfl
 | cons v t =>
  cases t with
  | nil=>rfl
  | cons w r=>exact absurd z (by show ¬ r.length+1+1<2;omega)
def Q5 {a:Addr} {vs:List Value} {ps:List (Int×Int)} {n:Nat} {P:Fin->Shared->Prop} (L:s.heap.get? a=some (seqObj "list" vs.toArray n)) (Y:Paired (PairV s.heap) vs ps) (M:vs.length<64)
 (h:∀ p:Array Nat,p.Perm (List.range vs.length).toArray->Up lP (λi=>ps.getD i (0,0)) p vs.length->P (.done (.ret .none)) { s with heap:=sortedHeap s.heap a vs (zP vs p).toArray }) :
 wpAny (model prog w) A (Builtin.«list.sort» ⟨[.ref a],[]⟩) P E s:=by
 have ha:a<s.heap.objs.size:=aEf L;have J:vs.length<=sizeLine:=Nat.le_trans (Nat.le_of_lt M) (by decide);rw[list_sort_plain];refine aE7 (listItems_at L rfl (aE7 (listUpdate_at L rfl ?_ (by rw[aEh];omega) (Nat.zero_le _))));obtain⟨e1,U⟩:∃ e1,(s.heap.update a (Obj.mapSeq λ_=>(#[]:Array Value))).get? a=some (seqObj "list" #[] e1):=⟨_,get?_update_seq L _⟩;refine aE7 (seqEpoch_at U rfl (aE7 (wpAny_newTuple (aE7 (wpAny_newList (wpAny_holding ?_) (Nat.zero_le _))) (by show vs.length<=_;exact J))));have k6:∀ b o,b≠a->s.heap.get? b=some o->(((s.heap.update a (Obj.mapSeq λ_=>(#[]:Array Value))).push (seqObj "tuple" vs.toArray 0)).push (seqObj "list" #[] 0)).get? b=some o:=λb o hb q =>
  aEa _ (aEa _ ((Heap.get?_update_ne _ _ _ _ hb).trans q))
 have B:(((s.heap.update a (Obj.mapSeq λ_=>(#[]:Array Value))).push (seqObj "tuple" vs.toArray 0)).push (seqObj "list" #[] 0)).get? a=some (seqObj "list" #[] e1):=aEa _ (aEa _ U);have D:Paired (PairV (((s.heap.update a (Obj.mapSeq λ_=>(#[]:Array Value))).push (seqObj "tuple" vs.toArray 0)).push (seqObj "list" #[] 0))) vs ps:=Paired.mapP Y λv p ⟨t,o,n,k1,k2,e,q,c,d⟩ =>
  ⟨t,o,n,k1,k2,e,k6 t o (λz=>by subst z;rw[L]at q;cases q;exact absurd c (by simp[seqObj])) q,c,d⟩
 show wpAny (model prog w) A _ P E { s with heap:=((s.heap.update a (Obj.mapSeq λ_=>(#[]:Array Value))).push (seqObj "tuple" vs.toArray 0)).push (seqObj "list" #[] 0) };have fin:∀ p:Array Nat,p.Perm (List.range vs.length).toArray->Up lP (λi=>ps.getD i (0,0)) p vs.length->P (.done (.ret .none)) { s with heap:=sortedHeap s.heap a vs (zP vs p).toArray }:=h;clear h;unfold sortedHeap at fin;generalize ((s.heap.update a (Obj.mapSeq λ_=>(#[]:Array Value))).push (seqObj "tuple" vs.toArray 0)).push (seqObj "list" #[] 0)=h6 at B D fin;dsimp only
 by_cases h2:vs.toArray.size<2
 .rw[if_pos h2,if_pos h2];refine aE7 (aE8 ?_);rw[StateT.run_pure];refine aE7 (aE8 ?_);dsimp only;have eo:zP vs (List.range vs.length).toArray=vs:=i0 (by simpa using h2);have ea:(arrOf (SortSt.mk' general' (vs.toArray.zip vs.toArray) #[] 7 none)).map (·.2)=vs.toArray:=by
   show (vs.toArray.zip vs.toArray).map (·.2)=vs.toArray;apply Array.toList_inj.mp
   simp;exact List.map_snd_zip (Nat.le_refl _)
  rw[ea];refine aE7 (seqEpoch_at B rfl (aE7 (listUpdate_at B rfl ?_ (Nat.zero_le _) (by rw[aEh];omega))));simp only[bne_self_eq_false,Bool.false_eq_true,if_false];have f:=fin (List.range vs.length).toArray (Array.Perm.refl _) λi j ao hj=>by
   have:i=j:=by simp at h2;omega
   subst this;exact KeyOrd.kle_refl _
  rw[eo]at f;exact aE8 f
 .rw[if_neg h2,if_neg h2];have al:2<=vs.length:=by simp at h2;omega
  obtain⟨fs,t6,lf,hf⟩:=xW D;refine aE7 (kat_kind (s:={ s with heap:=h6 }) (T:=.type "int") t6 (by omega) (λv Y=>?_) rfl ?_)
  .obtain⟨i,t,rfl⟩:=hf v Y;exact Looks.now
  have A2:Ans lP (λi=>ps.getD i (0,0)) vs.length (kas_ask prog w A (tuples' true) vs) { s with heap:=h6 }:=λi j C hi hj hC=>by
   unfold kas_ask;exact aAM (s:={ s with heap:=h6 }) (dP D hi) (dP D hj) hC
  refine aE7 (wpAny_mono (kat_run (s:={ s with heap:=h6 }) (κ:=tuples' true) (ks:=vs) (vs:=vs) (Q:=λI s'=>s'={ s with heap:=h6 }/\failedOf I=none/\∃ p:Array Nat,p.Perm (List.range vs.length).toArray/\Up lP (λi=>ps.getD i (0,0)) p vs.length/\(arrOf I).map (·.2)=(zP vs p).toArray)
   (G:=λp s'=>s'={ s with heap:=h6 }/\p.Perm (List.range vs.length).toArray/\Up lP (λi=>ps.getD i (0,0)) p vs.length) rfl al M (λp I s' g1 g2 g3 ⟨g4,g5,g6⟩=>⟨g4,g3,p,g5,g6,kat_snds rfl g2⟩) (aBb A2 (by omega) λp e u=>⟨rfl,e,u⟩)) ?_ λ_ _ e=>e)
  rintro ⟨⟨⟩,I⟩ s' ⟨rfl,am,p,e,u,ea⟩;dsimp only;rw[ea,am];have hsz:(zP vs p).toArray.size<=sizeLine:=by
   have:=e.size_eq;simp only[aEh,List.length_range]at this;rw[aEh,aE9,Array.length_toList,this];exact J
  refine aE7 (seqEpoch_at B rfl (aE7 (listUpdate_at B rfl ?_ (Nat.zero_le _) (by omega))));simp only[bne_self_eq_false,Bool.false_eq_true,if_false];exact aE8 (fin p e u)
def aBd {l:Addr} {vs:List Value} {ps:List (Int×Int)} {Q:Value->Shared->Prop} (L:s.heap.IsList l vs.toArray) (M:Paired (PairV s.heap) vs ps) (B:vs.length<64)
 (h:∀ p:Array Nat,p.Perm (List.range vs.length).toArray->Up lP (λi=>ps.getD i (0,0)) p vs.length->Q (.ref (s.heap.objs.size+1)) { s with heap:=sortedAll s.heap vs (zP vs p).toArray }) :
 wpAny (model prog w) A (call (.builtin "sorted") [.ref l]) Q E s:=by
 have z:vs.length<=sizeLine:=Nat.le_trans (Nat.le_of_lt B) (by decide);refine Calls.call_function_entry kind_sorted plain_sorted entry_sorted (args_sorted1 _) ?_;unfold Builtin.«sorted»;refine aE7 (m:=checkCount "sorted" 1 1 _) (aE8 (aE7 (collect_list L (aE7 (wpAny_newList ?_ z)) z)));unfold sortedAll at h;have J:((s.heap.push (seqObj "list" #[] 0)).update s.heap.objs.size (Obj.mapSeq (·++vs.toArray))).objs.size=s.heap.objs.size+1:=by rw[Heap.size_update,size_push']
 have D:(((s.heap.push (seqObj "list" #[] 0)).update s.heap.objs.size (Obj.mapSeq (·++vs.toArray))).push (seqObj "list" vs.toArray 0)).get? (s.heap.objs.size+1)=some (seqObj "list" vs.toArray 0):=J ▸ aEg _ rfl;have kp:∀ b o,s.heap.get? b=some o->(((s.heap.push (seqObj "list" #[] 0)).update s.heap.objs.size (Obj.mapSeq (·++vs.toArray))).push (seqObj "list" vs.toArray 0)).get? b=some o:=λb o q =>
  aEa _ ((Heap.get?_update_ne _ _ _ _ (aEw (aEf q))).trans (aEa _ q))
 show wpAny _ _ _ _ _ { s with heap:=((s.heap.push (seqObj "list" #[] 0)).update s.heap.objs.size (Obj.mapSeq (·++vs.toArray))).push (seqObj "list" vs.toArray 0) };rw[J];generalize ((s.heap.push (seqObj "list" #[] 0)).update s.heap.objs.size (Obj.mapSeq (·++vs.toArray))).push (seqObj "list" vs.toArray 0)=h2 at D kp h;have I:Paired (PairV h2) vs ps:=Paired.mapP M λv p ⟨t,o,n,U,Y,e,q,c,d⟩=>⟨t,o,n,U,Y,e,kp t o q,c,d⟩;refine aE7 (wpAny_holding (wpAny_call_entry slot_list_sort ⟨_,D,rfl⟩ entry_list_sort (Q5 (s:={ s with heap:=h2 }) D I B λp e u=>⟨_,rfl,?_⟩) (args_list_sort _)));exact aE8 ⟨_,rfl,h p e u⟩
end
def ple (a b:Int×Int):Prop:=a.1<b.1\/(a.1=b.1/\a.2<=b.2)
def wI {z:Type} (d:z) (l:List z) {p:List Nat} (h:p.Perm (List.range l.length)):(p.map λi=>l.getD i d).Perm l:=by
 have e:(List.range l.length).map (λi=>l.getD i d)=l:=by
  apply List.ext_getElem
  .simp
  .intro i h1 h2;simp[h2]
 have:=h.map λi=>l.getD i d
 rwa [e]at this
section
variable {X:Cx}
def pG:dY X (.builtin "sorted") (λxs H Q=>∃ (a:Addr) (us:List V) (ps:List (Int×Int)),xs=[.ref a]/\H a=some (.lst us)/\CW.Prs H us ps/\ps.length<64 /\
 ∀ (l:Addr) (J:List V) (M:List (Int×Int)),H l=none->CW.Prs H J M->M.Perm ps->M.Pairwise ple->Q (.ref l) (upd H l (.lst J))):=by
 intro pins s σ H xs us Q I r h;obtain⟨a,B,ps,rfl,ha,U,ap,q⟩:=h;obtain⟨u,rfl,rx⟩:=gG r;cases rx;obtain⟨its,Y,pl,hz⟩:=I.list (SqL.of ha);have l1:B.length=ps.length:=Paired.length U;have l2:B.length=its.length:=Y.length;have hv:Paired (PairV s.heap) its ps:=by
  have go:∀ (B:List V) (its:List Value) (ps:List (Int×Int)),Vals B its->CW.Prs H B ps->Paired (PairV s.heap) its ps:=by
   intro B
   induction B with
   | nil=>intro its ps r p;cases r;cases p;exact .nil
   | cons x xs ih =>
    intro its ps r p;cases r with
    | cons r1 r2 =>
     cases p with
     | cons p1 p2 =>
      refine .cons ?_ (ih _ _ r2 p2);obtain⟨t,e,et⟩:=p1;subst e;cases r1;obtain⟨_,its',al,o,ho,hc,n,hd⟩:=(show ObjOk X.prog X.w H s.heap t (.tup [.int _,.int _]) from I.hok t _ et);obtain⟨u1,u2,rfl,⟨k1,rfl⟩,⟨k2,rfl⟩⟩:=al.two;exact⟨t,o,n,k1,k2,rfl,ho,hc,hd⟩
  exact go B its ps Y U
 refine aBd pl.isList hv (by omega) λp e u=>?_;have D:p.toList.Perm (List.range its.length):=by
  have:=e.toList;simpa using this
 have L:∀ i∈p.toList,i<its.length:=λi hi=>by
  have:=D.mem_iff.mp hi;simpa using this
 have am:p.toList.length=its.length:=by rw[D.length_eq,List.length_range]
 have key:∀ (q:List Nat),(∀ i∈q,i<its.length)->Vals (q.map λi=>B.getD i V.non) (q.map λi=>its.getD i Value.none)/\CW.Prs H (q.map λi=>B.getD i V.non) (q.map λi=>ps.getD i (0,0)):=by
  intro q
  induction q with
  | nil=>intro _;exact⟨.nil,.nil⟩
  | cons i q ih =>
   intro hq;have hi:=hq i aEb;obtain⟨a1,a2⟩:=ih λj hj=>hq j (aEc _ hj);exact⟨.cons (dP Y (by omega)) a1,.cons (dP U (by omega)) a2⟩
 obtain⟨k1,k2⟩:=key p.toList L;obtain⟨e0,at0⟩:=sortedAll_at s.heap its (zP its p).toArray;have hn:H (s.heap.objs.size+1)=none:=I.hok.fresh (Nat.le_succ _);refine⟨.ref (s.heap.objs.size+1),_,I.laid (t':=s.toks) (o:=.lst (p.toList.map λi=>B.getD i V.non)) (λb o e=>sortedAll_old e) (Nat.le_succ _) ⟨?_,zP its p,e0,k1,at0⟩,rfl,q _ _ (p.toList.map λi=>ps.getD i (0,0)) hn k2 ?_ ?_⟩
 .rw[aE9,am];exact Nat.le_trans (show its.length<=64 by omega) (by decide)
 .exact wI (0,0) ps (by rw[<- l1,l2];exact D)
 .rw[List.pairwise_iff_getElem];intro i j hi hj ao;simp only[aE9]at hi hj;have z:=u i j (Nat.le_of_lt ao) (by omega);have gd:∀ (k:Nat) (hk:k<p.toList.length),(p.toList.map λi=>ps.getD i (0,0))[k]'(by simpa using hk)=KP lP (λi=>ps.getD i (0,0)) p k:=λk hk=>by
   unfold KP;rw[List.getElem_map]
   congr 1
   rw[Array.getElem_toList,Array.getD,dif_pos (by simpa using hk)];rfl
  rw[gd i hi,gd j hj];have z':plt (KP lP (λi=>ps.getD i (0,0)) p j) (KP lP (λi=>ps.getD i (0,0)) p i)=false:=z;generalize KP lP (λi=>ps.getD i (0,0)) p j=x at z';generalize KP lP (λi=>ps.getD i (0,0)) p i=y at z';have z2:=gK.mp z';show (y:Int×Int).1<(x:Int×Int).1\/((y:Int×Int).1=(x:Int×Int).1/\(y:Int×Int).2<=(x:Int×Int).2);have z3:¬ ((x:Int×Int).1<(y:Int×Int).1\/((x:Int×Int).1=(y:Int×Int).1/\(x:Int×Int).2<(y:Int×Int).2)):=z2;omega
def pH:dY X (.builtin "sorted") (λxs H Q=>∃ (a:Addr) (ns:List Int),xs=[.ref a]/\H a=some (.lst (ns.map V.int))/\ns.length<64 /\
 ∀ (l:Addr) (B:List Int),H l=none->B.Perm ns->B.Pairwise (·<=·)->Q (.ref l) (upd H l (.lst (B.map V.int)))):=by
 intro pins s σ H xs us Q I r h;obtain⟨a,ns,rfl,L,M,q⟩:=h;obtain⟨u,rfl,U⟩:=gG r;cases U;obtain⟨its,D,pl,hz⟩:=I.list (SqL.of L);have Y:=D.length;rw[aE9]at Y;refine sorted_ints pl.isList (uH D) (by omega) λout z hI J hs=>?_;obtain⟨e0,at0⟩:=sortedAll_at s.heap its out;have hn:H (s.heap.objs.size+1)=none:=I.hok.fresh (Nat.le_succ _);refine⟨.ref (s.heap.objs.size+1),_,I.laid (t':=s.toks) (o:=.lst (z.map V.int)) (λb o e=>sortedAll_old e) (Nat.le_succ _) ⟨?_,out.toList,e0,mP hI,at0⟩,rfl,q _ z hn J hs⟩;rw[aE9,J.length_eq];exact Nat.le_trans (show ns.length<=64 by omega) (by decide)
end
end L2
namespace L2
open PySem PySem.Spec PyProof.Rows
section
variable {K:PySem.W.Frag} {x qual:Str} {st:Stmt} {f:Addr} {fd:FuncData} {p1 p2 p3 p4:Str}
def Fun.binds1 (F:Fun K x qual st f fd) (h:∀ (kV z D:Value) (I:Option Addr) (B ct u:Value),bindArgs (PySem.W.fnOf x qual (dI st) (dC st) (aI st) .none kV z D I B ct) ⟨[u],[]⟩=pure [(p1,u)]):Binds K fd [p1] [] :=
 F.binds λa b c d e g us J=>match us,J with | [u],_=>h a b c d e g u
def Fun.binds2 (F:Fun K x qual st f fd) (h:∀ (kV z D:Value) (I:Option Addr) (B ct u v:Value),bindArgs (PySem.W.fnOf x qual (dI st) (dC st) (aI st) .none kV z D I B ct) ⟨[u,v],[]⟩=pure [(p1,u),(p2,v)]):Binds K fd [p1,p2] [] :=
 F.binds λa b c d e g us J=>match us,J with | [u,v],_=>h a b c d e g u v
def Fun.binds3 (F:Fun K x qual st f fd) (h:∀ (kV z D:Value) (I:Option Addr) (B ct u v w:Value),bindArgs (PySem.W.fnOf x qual (dI st) (dC st) (aI st) .none kV z D I B ct) ⟨[u,v,w],[]⟩=pure [(p1,u),(p2,v),(p3,w)]):Binds K fd [p1,p2,p3] [] :=
 F.binds λa b c d e g us J=>match us,J with | [u,v,w],_=>h a b c d e g u v w
def Fun.binds4 (F:Fun K x qual st f fd) (h:∀ (kV B I:Value) (J:Option Addr) (D ct u v w z:Value),bindArgs (PySem.W.fnOf x qual (dI st) (dC st) (aI st) .none kV B I J D ct) ⟨[u,v,w,z],[]⟩=pure [(p1,u),(p2,v),(p3,w),(p4,z)]):Binds K fd [p1,p2,p3,p4] [] :=
 F.binds λa b c d e g us L=>match us,L with | [u,v,w,z],_=>h a b c d e g u v w z
end
section
variable {κ:Type} [DecidableEq κ]
def dE (kvs:List (κ×V)) (k:κ):Option V:=(kvs.find? λz=>decide (z.1=k)).map (·.2)
def dX (kvs:List (κ×V)) (k:κ) (v:V):List (κ×V) :=
 if (kvs.any λz=>decide (z.1=k))=true then kvs.map (λz=>if z.1=k then (z.1,v)else z)else kvs++[(k,v)]
def sA (kvs:List (κ×V)) (k:κ):List (κ×V):=kvs.filter λz=>decide (z.1≠k)
def cU {p:κ×V} {r:List (κ×V)} {k:κ} (e:p.1=k):dE (p :: r) k=some p.2:=by simp[dE,List.find?_cons,e]
def cN {p:κ×V} {r:List (κ×V)} {k:κ} (e:¬ p.1=k):dE (p :: r) k=dE r k:=by simp[dE,List.find?_cons,e]
def lQ (k:κ):∀ kvs:List (κ×V),(kvs.any λz=>decide (z.1=k))=(dE kvs k).isSome
 | []=>rfl
 | p :: r=>by
  rw[List.any_cons]
  by_cases e:p.1=k
  .simp only[cU e,aEv e,Bool.true_or,Option.isSome_some]
  .rw[cN e,aEu e,Bool.false_or];exact lQ k r
def J0 (k j:κ) (y:V):∀ kvs:List (κ×V),dE (kvs.map λB=>if B.1=k then (B.1,y)else B) j=(dE kvs j).map λx=>if j=k then y else x
 | []=>rfl
 | p :: r=>by
  have D:=J0 k j y r;rw[aEy]
  by_cases h:p.1=k
  .rw[if_pos h]
   by_cases e:p.1=j
   .rw[cU (p:=(p.1,y)) e,cU e,Option.map_some,if_pos (e.symm.trans h)]
   .rw[cN (p:=(p.1,y)) e,cN e,D]
  .rw[if_neg h]
   by_cases e:p.1=j
   .rw[cU (p:=p) e,cU e,Option.map_some,if_neg (λz=>h (e.trans z))]
   .rw[cN (p:=p) e,cN e,D]
def xX (k j:κ) (y:V):∀ kvs:List (κ×V),dE kvs k=none->dE (kvs++[(k,y)]) j=if j=k then some y else dE kvs j
 | [],_=>by
  by_cases e:k=j
  .rw[if_pos e.symm];exact cU (p:=(k,y)) e
  .rw[if_neg (λz=>e z.symm)];exact cN (p:=(k,y)) e
 | p :: r,B=>by
  rw[List.cons_append];have D:¬ p.1=k:=λz=>by rw[cU z]at B;cases B
  rw[cN D]at B;have I:=xX k j y r B
  by_cases e:p.1=j
  .rw[cU e,cU e,if_neg (λz=>D (e.trans z))]
  .rw[cN e,cN e,I]
def aAN (kvs:List (κ×V)) (k j:κ) (y:V):dE (dX kvs k y) j=if j=k then some y else dE kvs j:=by
 unfold dX
 by_cases a:(kvs.any λz=>decide (z.1=k))=true
 .rw[if_pos a,J0];rw[lQ]at a
  by_cases e:j=k
  .obtain⟨x,B⟩:=Option.isSome_iff_exists.mp a;rw[if_pos e,e,B,Option.map_some,if_pos rfl]
  .rw[if_neg e];cases dE kvs j with
   | none=>rfl
   | some x=>rw[Option.map_some,if_neg e]
 .rw[if_neg a];refine xX k j y kvs ?_;rw[lQ]at a;cases q:dE kvs k with
  | none=>rfl
  | some x=>rw[q]at a;exact(a rfl).elim
def iP (kvs:List (κ×V)) (k:κ) (v:V):(dX kvs k v).length<=kvs.length+1:=by
 unfold dX;split
 .rw[aE9];omega
 .rw[aEi,aFC,List.length_nil];omega
def J1 {kvs:List (κ×V)} {k:κ} (v:V) (h:dE kvs k=none):dX kvs k v=kvs++[(k,v)]:=by
 unfold dX;rw[lQ,h];exact if_neg (by decide)
def RelO.isSome_eq {o:Option V} {u:Option Value} (r:RelO o u):o.isSome=u.isSome:=by
 cases o with
 | none=>cases u with
  | none=>rfl
  | some _=>exact(show False from r).elim
 | some _=>cases u with
  | none=>exact(show False from r).elim
  | some _=>rfl
def RelO.getD {o:Option V} {u:Option Value} {d:V} {d':Value} (r:RelO o u) (rd:RelV d d'):RelV (o.getD d) (u.getD d'):=by
 cases o with
 | none=>cases u with
  | none=>exact rd
  | some _=>exact(show False from r).elim
 | some _=>cases u with
  | none=>exact(show False from r).elim
  | some _=>exact r
def KV.val {kvs:List (κ×V)} {vs:List (κ×Value)} (r:KV kvs vs) (k:κ):RelO (dE kvs k) (valueAt vs k):=by
 unfold KV at r
 induction r with
 | nil=>exact True.intro
 | @cons p q ps B h t I =>
  obtain⟨h1,h2⟩:=h
  by_cases e:p.1=k
  .have D:q.1=k:=h1.symm.trans e;have b:valueAt (q :: B) k=some q.2:=by simp[valueAt,List.find?_cons,D]
   rw[cU e,b];exact h2
  .have D:¬ q.1=k:=λz=>e (h1.trans z);have b:valueAt (q :: B) k=valueAt B k:=by simp[valueAt,List.find?_cons,D]
   rw[cN e,b];exact I
def KV.any {kvs:List (κ×V)} {vs:List (κ×Value)} (r:KV kvs vs) (k:κ):(kvs.any λz=>decide (z.1=k))=vs.any λz=>decide (z.1=k):=by
 unfold KV at r
 induction r with
 | nil=>rfl
 | cons h t B=>rw[List.any_cons,List.any_cons,B,h.1]
def KV.repl {kvs:List (κ×V)} {vs:List (κ×Value)} (r:KV kvs vs) (k:κ) {y:V} {u:Value} (D:RelV y u) :
 KV (kvs.map λB=>if B.1=k then (B.1,y)else B) (vs.map λB=>if B.1=k then (B.1,u)else B):=by
 unfold KV at r ⊢
 induction r with
 | nil=>exact .nil
 | @cons p q ps J h t I =>
  rw[aEy,aEy];refine .cons ?_ I;obtain⟨h1,h2⟩:=h
  by_cases e:p.1=k
  .rw[if_pos e,if_pos (h1.symm.trans e)];exact⟨h1,D⟩
  .rw[if_neg e,if_neg (λz=>e (h1.trans z))];exact⟨h1,h2⟩
def KV.put {kvs:List (κ×V)} {vs:List (κ×Value)} (r:KV kvs vs) (k:κ) {y:V} {u:Value} (z:RelV y u):KV (dX kvs k y) (stored vs k u):=by
 unfold dX stored;rw[r.any k]
 by_cases e:(vs.any λB=>decide (B.1=k))=true
 .rw[if_pos e,if_pos e];exact r.repl k z
 .rw[if_neg e,if_neg e];exact Paired.snoc r ⟨rfl,z⟩
def KV.drop {kvs:List (κ×V)} {vs:List (κ×Value)} (r:KV kvs vs) (k:κ):KV (sA kvs k) (without vs k):=by
 unfold KV at r ⊢;unfold sA without
 induction r with
 | nil=>exact .nil
 | @cons p q ps I h t B =>
  obtain⟨h1,h2⟩:=h;rw[List.filter_cons,List.filter_cons]
  by_cases e:p.1=k
  .have a:¬ decide (p.1≠k)=true:=by simp[e]
   have b:¬ decide (q.1≠k)=true:=by simp[h1.symm.trans e]
   rw[if_neg a,if_neg b];exact B
  .have D:¬ q.1=k:=λz=>e (h1.trans z);have a:decide (p.1≠k)=true:=by simp[e]
   have b:decide (q.1≠k)=true:=by simp[D]
   rw[if_pos a,if_pos b];exact .cons ⟨h1,h2⟩ B
def KV.length {kvs:List (κ×V)} {vs:List (κ×Value)} (r:KV kvs vs):kvs.length=vs.length:=Paired.length r
def aAO (kvs:List (κ×V)) (k:κ):(sA kvs k).length<=kvs.length:=List.length_filter_le _ _
end
def nP {P:Program} {w:World} {k:Key} {u:Value} (r:RelV (kV k) u):(bA P w).is k u=true:=by
 cases k with
 | inl i=>obtain⟨t,e⟩:=(show ∃ t,u=Value.int i t from r);subst e;exact E1 P w i t
 | inr x=>obtain⟨t,e⟩:=(show ∃ t,u=Value.str x t from r);subst e;exact E2 P w x t
def xY {P:Program} {w:World}:∀ {ks:List Key} {us:List Value},Vals (ks.map kV) us->ItemsAre (bA P w) ks us
 | [],_,r=>by rw[List.map_nil]at r;cases r;exact .nil
 | k :: ks,_,r=>by
  rw[aEy]at r;cases r with
  | cons h t=>exact .cons (nP h) (xY t)
abbrev KT (H:Hp):List (List Key×V)->List (List Key×Addr×Value)->Prop:=Paired λp q=>p.1=q.1/\H q.2.1=some (.tup (p.1.map kV))/\RelV p.2 q.2.2
def KT.val {H:Hp} {kvs:List (List Key×V)} {xs:List (List Key×Addr×Value)} (r:KT H kvs xs) (k:List Key):RelO (dE kvs k) ((atKey xs k).map (·.2)):=by
 induction r with
 | nil=>exact True.intro
 | @cons p q ps B h t I =>
  obtain⟨h1,_,h2⟩:=h
  by_cases e:p.1=k
  .have D:q.1=k:=h1.symm.trans e;have b:atKey (q :: B) k=some q.2:=by simp[atKey,List.find?_cons,D]
   rw[cU e,b];exact h2
  .have D:¬ q.1=k:=λz=>e (h1.trans z);have b:atKey (q :: B) k=atKey B k:=by simp[atKey,List.find?_cons,D]
   rw[cN e,b];exact I
def KT.repl {H:Hp} {kvs:List (List Key×V)} {xs:List (List Key×Addr×Value)} (r:KT H kvs xs) (k:List Key) {y:V} {u:Value} (D:RelV y u) :
 KT H (kvs.map λB=>if B.1=k then (B.1,y)else B) (xs.map (putAt k u)):=by
 induction r with
 | nil=>exact .nil
 | @cons p q ps J h t I =>
  rw[aEy,aEy];refine .cons ?_ I;obtain⟨h1,h2,h3⟩:=h;unfold putAt
  by_cases e:p.1=k
  .rw[if_pos e,if_pos (h1.symm.trans e)];exact⟨h1,h2,D⟩
  .rw[if_neg e,if_neg (λz=>e (h1.trans z))];exact⟨h1,h2,h3⟩
def KT.put {H:Hp} {kvs:List (List Key×V)} {xs:List (List Key×Addr×Value)} (r:KT H kvs xs) (k:List Key) {b:Addr} {y:V} {u:Value} (B:H b=some (.tup (k.map kV))) (z:RelV y u) :
 KT H (dX kvs k y) (storedH xs k b u):=by
 have e:(kvs.any λD=>decide (D.1=k))=(atKey xs k).isSome:=by
  rw[lQ,(r.val k).isSome_eq,Option.isSome_map]
 unfold dX storedH;rw[e]
 by_cases q:(atKey xs k).isSome=true
 .rw[if_pos q,if_pos q];exact r.repl k z
 .rw[if_neg q,if_neg q];exact Paired.snoc r ⟨rfl,B,z⟩
def KT.keeps {H H':Hp} {kvs:List (List Key×V)} {xs:List (List Key×Addr×Value)} (r:KT H kvs xs) (ht:∀ b ys,H b=some (.tup ys)->H' b=some (.tup ys)):KT H' kvs xs :=
 Paired.mapP r λ_ _ z=>⟨z.1,ht _ _ z.2.1,z.2.2⟩
section
variable {P:Program} {w:World} {H:Hp} {h:Heap} {a:Addr}
def aCV {u:HO} (ok:HOk P w H h) (e:Rd H a u):ObjOk P w H h a u:=e.ok ok
def pI {kvs:List (Key×V)} (ok:HOk P w H h) (e:Rd H a (.dK kvs)):kvs.length<=sizeLine/\(a == sysModules)=false/\∃ vs,KV kvs vs/\h.DictOf (bA P w) a vs :=
 show ObjOk P w H h a (.dK kvs) from aCV ok e
def nQ {kvs:List (Key×V)} (ok:HOk P w H h) (e:H a=some (.dK kvs)):kvs.length<=sizeLine/\(a == sysModules)=false/\∃ vs,KV kvs vs/\h.DictOf (bA P w) a vs:=pI ok (.inl e)
def qT {ks:List Key} (ok:HOk P w H h) (e:H a=some (.tup (ks.map kV))):(tupleKind (bA P w)).is h ks a:=by
 obtain⟨_,its,r,o,h1,h2,n,h3⟩:=(show ObjOk P w H h a (.tup (ks.map kV)) from ok a _ e);exact⟨o,its.toArray,n,h1,h2,h3,by simpa using xY r⟩
def uQ {kvs:List (List Key×V)} (ok:HOk P w H h) (e:Rd H a (.dT kvs)):kvs.length<=sizeLine/\(a == sysModules)=false /\
 ∃ xs,KT H kvs xs/\h.DictOfH (tupleKind (bA P w)) a xs:=by
 obtain⟨z,y,xs,r,o,es,ep,h1,h2,h3,h4,h5⟩:=(show ObjOk P w H h a (.dT kvs) from aCV ok e);refine⟨z,y,xs,r,o,es,ep,h1,h2,h3,h4,λx hx=>?_,h5⟩;have all:∀ {l:List (List Key×V)} {m:List (List Key×Addr×Value)},KT H l m->∀ x∈m,(tupleKind (bA P w)).is h x.1 x.2.1:=by
  intro l m q
  induction q with
  | nil=>intro x hx;exact nomatch hx
  | @cons p q ps I B t D =>
   intro x hx;rcases aFL.mp hx with e | hx
   .subst e;exact qT ok (by rw[<- B.1];exact B.2.1)
   .exact D x hx
 exact all r x hx
def aDh {kvs:List (List Key×V)} (ok:HOk P w H h) (e:H a=some (.dT kvs)):kvs.length<=sizeLine/\(a == sysModules)=false /\
 ∃ xs,KT H kvs xs/\h.DictOfH (tupleKind (bA P w)) a xs:=uQ ok (.inl e)
end
def DGet (H:Hp) (a:Addr) (y:V) (r:Option V):Prop :=
 (∃ kvs k,Rd H a (.dK kvs)/\y=kV k/\r=dE kvs k)\/∃ kvs k b,Rd H a (.dT kvs)/\y=.ref b/\H b=some (.tup (k.map kV))/\r=dE kvs k
def DPut (H:Hp) (a:Addr) (y v:V) (H':Hp):Prop :=
 (∃ kvs k,H a=some (.dK kvs)/\y=kV k/\kvs.length<sizeLine/\H'=upd H a (.dK (dX kvs k v))) \/
 ∃ kvs k b,H a=some (.dT kvs)/\y=.ref b/\H b=some (.tup (k.map kV))/\kvs.length<sizeLine/\H'=upd H a (.dT (dX kvs k v))
def DGet.k {H:Hp} {a:Addr} {kvs:List (Key×V)} {k:Key} (e:H a=some (.dK kvs)):DGet H a (kV k) (dE kvs k):=.inl ⟨kvs,k,.inl e,rfl,rfl⟩
def DPut.k {H:Hp} {a:Addr} {kvs:List (Key×V)} {k:Key} {v:V} (e:H a=some (.dK kvs)) (z:kvs.length<sizeLine):DPut H a (kV k) v (upd H a (.dK (dX kvs k v))):=.inl ⟨kvs,k,e,rfl,z,rfl⟩
section
variable {X:Cx} {pins:List (Addr×Obj)} {σ:St} {H:Hp} {s:Shared} {a:Addr} {y v:V} {u r:Value} {o:Option V} {A:Around} {E:Value->Shared->Prop}
def Inv.big (I:Inv X pins σ H s):sysModules<s.heap.objs.size:=by
 have h:mainGlobals<s.heap.objs.size:=(I.mod.glob.keeps I.bk).lt;exact Nat.lt_trans (by decide) h
def i3 {Q:Value->Shared->Prop} (hu:A.units+1<cLine) (I:Inv X pins σ H s) (g:DGet H a y (some v)) (Y:RelV y u) (h:∀ J s',Inv X pins σ H s'->RelV v J->Q J s') :
 wpAny (model X.prog X.w) A (getItem (.ref a) u) Q E s:=by
 rcases g with ⟨kvs,k,e,L,l⟩ | ⟨kvs,k,b,e,L,eb,l⟩
 .subst L;obtain⟨z,hd,vs,B,M⟩:=pI I.hok e;obtain⟨J,hw,D⟩:=RelO.some_of (v:=v) (o:=valueAt vs k) (by rw[l];exact B.val k);exact wpAny_getItem_of (nP Y) M.mapOf hw (h J _ (I.tok _) D)
 .subst L;cases (show u=Value.ref b from Y);obtain⟨z,hd,xs,B,M⟩:=uQ I.hok e;obtain⟨J,hw,D⟩:=RelO.some_of (v:=v) (o:=(atKey xs k).map (·.2)) (by rw[l];exact B.val k);obtain⟨p,hp,U⟩:=aFJ.mp hw;refine wpAny_getItem_heap (tupleKind_room_in1 hu) (qT I.hok eb) M hp ?_;rw[U];exact h J _ (I.tok _) D
def aE1 {Q:Value->Shared->Prop} (M:A.units+1<cLine) (I:Inv X pins σ H s) (g:DGet H a y o) (L:RelV y u) (h:∀ s',Inv X pins σ H s'->Q (.bool o.isSome) s') :
 wpAny (model X.prog X.w) A (compareOp .In u (.ref a)) Q E s:=by
 rcases g with ⟨kvs,k,e,D,l⟩ | ⟨kvs,k,b,e,D,U,l⟩
 .subst D;obtain⟨z,hd,vs,B,J⟩:=pI I.hok e;refine wpAny_in_of (nP L) hd J.mapOf ?_;rw[<- (B.val k).isSome_eq,<- l];exact h _ (I.tok _)
 .subst D;cases (show u=Value.ref b from L);obtain⟨z,hd,xs,B,J⟩:=uQ I.hok e;refine wpAny_in_heap (tupleKind_room_in1 M) (qT I.hok U) hd J ?_;have q:=(B.val k).isSome_eq;rw[Option.isSome_map]at q;rw[<- q,<- l];exact h _ (I.tok _)
def aBe {Q:Value->Shared->Prop} (M:A.units+1<cLine) (I:Inv X pins σ H s) (g:DGet H a y o) (L:RelV y u) (h:∀ s',Inv X pins σ H s'->Q (.bool (!o.isSome)) s') :
 wpAny (model X.prog X.w) A (compareOp .NotIn u (.ref a)) Q E s:=by
 rcases g with ⟨kvs,k,e,D,l⟩ | ⟨kvs,k,b,e,D,U,l⟩
 .subst D;obtain⟨z,hd,vs,B,J⟩:=pI I.hok e;refine wpAny_notIn_of (nP L) hd J.mapOf ?_;rw[<- (B.val k).isSome_eq,<- l];exact h _ (I.tok _)
 .subst D;cases (show u=Value.ref b from L);obtain⟨z,hd,xs,B,J⟩:=uQ I.hok e;refine wpAny_notIn_heap (tupleKind_room_in1 M) (qT I.hok U) hd J ?_;have q:=(B.val k).isSome_eq;rw[Option.isSome_map]at q;rw[<- q,<- l];exact h _ (I.tok _)
def sZ {h':Heap} {t':Nat} {B:HO} (I:Inv X pins σ H s) (D:Mut (H a)) (hs:Heap.SameBut a s.heap h') (he:∃ q,h'.get? a=some q) (new:ObjOk X.prog X.w (upd H a B) h' a B) :
 Inv X pins σ (upd H a B) { s with heap:=h',toks:=t' } :=
 I.write (x:=a) (e:=a) D (.inl rfl) (λb q J z=>(hs.2 b J).trans z) he new
def uR {P:Program} {w:World} {H':Hp} {h':Heap} {kvs:List (Key×V)} {vs:List (Key×Value)} (z:kvs.length<=sizeLine) (hd:(a == sysModules)=false) (B:KV kvs vs) (D:h'.DictOf (bA P w) a vs) :
 ObjOk P w H' h' a (.dK kvs):=⟨z,hd,vs,B,D⟩
def i4 {H':Hp} {Q:Unit->Shared->Prop} (hu:A.units+1<cLine) (I:Inv X pins σ H s) (g:DPut H a y v H') (ry:RelV y u) (rv:RelV v r) (h:∀ s',Inv X pins σ H' s'->Q () s') :
 wpAny (model X.prog X.w) A (setItem (.ref a) u r) Q E s:=by
 rcases g with ⟨kvs,k,e,L,l,M⟩ | ⟨kvs,k,b,e,L,eb,l,M⟩
 .subst L M;obtain⟨z,hd,vs,B,U⟩:=nQ I.hok e;have Y:vs.length<=sizeLine:=by rw[<- B.length];exact z
  have hl:(dX kvs k v).length<=sizeLine:=by have:=iP kvs k v;omega
  refine wpAny_setItem_pairs (hsz:=Y) (nP ry) U λh' D hs=>h _ ?_;have he:∃ q,h'.get? a=some q:=let ⟨q,_,_,J,_⟩:=D;⟨q,J⟩;exact sZ I (by rw[e];exact True.intro) hs he (uR hl hd (B.put k rv) D)
 .subst L M;cases (show u=Value.ref b from ry);obtain⟨z,hd,xs,B,U⟩:=aDh I.hok e;have Y:xs.length<=sizeLine:=by rw[<- Paired.length B];exact z
  have hl:(dX kvs k v).length<=sizeLine:=by have:=iP kvs k v;omega
  refine wpAny_setItem_heap (hsz:=Y) (tupleKind_room_in1 hu) (qT I.hok eb) U λh' D hs=>h _ ?_;obtain⟨q,es,ep,J,h2,h3,h4,_,h5⟩:=D;refine sZ I (by rw[e];exact True.intro) hs ⟨q,J⟩ ⟨hl,hd,_,(B.put k eb rv).keeps λc ys ec=>?_,q,es,ep,J,h2,h3,h4,h5⟩;rw[aF (bO ec e (λz=>nomatch z))];exact ec
end
section
variable {X:Cx} {pins:List (Addr×Obj)} {σ:St} {H:Hp} {s:Shared} {a:Addr} {kvs:List (Key×V)} {k:Key} {u:Value} {A:Around} {E:Value->Shared->Prop}
def i5 {Q:Unit->Shared->Prop} (I:Inv X pins σ H s) (e:H a=some (.dK kvs)) (L:RelV (kV k) u) (l:(dE kvs k).isSome=true) (h:∀ s',Inv X pins σ (upd H a (.dK (sA kvs k))) s'->Q () s') :
 wpAny (model X.prog X.w) A (delItem (.ref a) u) Q E s:=by
 obtain⟨z,hd,vs,B,J⟩:=nQ I.hok e;refine wpAny_delItem_slot J.typeIs (by decide) PySem.F.slot_dict_delitem
  (call_meetsIn PySem.F.slot_dict_delitem J.typeIs PySem.F.entry_dict_delitem (PySem.F.args_dict_delitem_2 _ _) (meets_dict_delitem_pairs (bA X.prog X.w) a (nP L)) ⟨vs,J,by rw[<- B.length];exact z,by rw[<- (B.val k).isSome_eq];exact l,λh' D hs=>h _ ?_⟩)
 have he:∃ q,h'.get? a=some q:=let ⟨q,_,_,M,_⟩:=D;⟨q,M⟩;exact sZ I (by rw[e];exact True.intro) hs he (uR (Nat.le_trans (aAO kvs k) z) hd (B.drop k) D)
def aDi {Q:Value->Shared->Prop} (I:Inv X pins σ H s) (e:Rd H a (.dK kvs)) (h:∀ t s',Inv X pins σ H s'->Q (.int kvs.length t) s'):wpAny (model X.prog X.w) A (call (.builtin "len") [.ref a]) Q E s:=by
 obtain⟨z,hd,vs,B,D⟩:=pI I.hok e;refine call_len_dict hd D (by rw[<- B.length];rw[sizeLine_eq]at z;omega) ?_;rw[<- B.length];exact h _ _ (I.tok _)
def aBf {Q:Bool->Shared->Prop} (I:Inv X pins σ H s) (e:Rd H a (.dK kvs)) (h:∀ s',Inv X pins σ H s'->Q (!kvs.isEmpty) s'):wpAny (model X.prog X.w) A (truthy (.ref a)) Q E s:=by
 obtain⟨z,hd,vs,B,D⟩:=pI I.hok e;refine wpAny_truthy_dict hd D (by rw[<- B.length];rw[sizeLine_eq]at z;omega) ?_;have q:kvs.isEmpty=vs.isEmpty:=by cases B <;> rfl
 rw[<- q];exact h _ (I.tok _)
end
def aCm (i:Expr):Prop:=∀ z B,subscripted i false z B=operate [z,B] (getItem z B)
def V9 {prog:Program} {w:World} {A:Around} {E:Value->Shared->Prop} {s:Shared} {env:Env} {value slice:Expr} {pos:Pos} {T id:String} {Q:Value->Shared->Prop}
 (U:typeLookup (.type T) "__getitem__"=pure (some (.builtin id))) (hs:aCm slice)
 (h:wpAny (model prog w) A (eval value env) (λo D=>wpAny (model prog w) A (eval slice env) (λi z=>z.TypeIs o T/\wpAny (model prog w) A (getItem o i) Q E z) E D) E s) :
 wpAny (model prog w) A (eval (.Subscript value slice pos) env) Q E s:=by
 refine Subscript_ (wpAny_mono h (λo D J=>wpAny_mono J (λi z B=>?_) λ_ _ x=>x) λ_ _ x=>x);obtain⟨M,B⟩:=B;unfold subscriptTail;refine aE7 ?_;rw[getitemInPython_of_ne M.not_modules];refine aE7 (wpAny_specialOf M U ?_);have fin:wpAny (model prog w) A (subscripted slice false o i) (λr I=>wpAny (model prog w) A (letTemporaryGo value o r >>= λ_=>pure r) Q E I) E z:=by
  rw[hs o i];exact wpAny_operating (wpAny_mono B (λr I L=>aE7 (wpAny_letTemporaryGo (aE8 L))) λ_ _ x=>x)
 first
  | exact aE8 (aE7 fin)
  | exact aE7 (aE8 (aE7 fin))
  | exact aE7 fin
def J3 {X:Cx} {pins:List (Addr×Obj)} {σ:St} {H:Hp} {s:Shared} {a:Addr} {y:V} {o:Option V} (I:Inv X pins σ H s) (g:DGet H a y o):s.TypeIs (.ref a) "dict":=by
 rcases g with ⟨kvs,k,e,_,_⟩ | ⟨kvs,k,b,e,_,_,_⟩
 .obtain⟨_,_,vs,_,z⟩:=pI I.hok e;exact z.typeIs
 .obtain⟨_,_,xs,_,z⟩:=uQ I.hok e;exact z.typeIs
def aDj (td ty:TE):TE:=fun σ H Q=>td σ H λx H1=>ty σ H1 λy H2=>∃ a v,x=.ref a/\DGet H2 a y (some v)/\Q v H2
def aE2 (ty td:TE):TE:=fun σ H Q=>ty σ H λy H1=>td σ H1 λx H2=>∃ a o,x=.ref a/\DGet H2 a y o/\Q (.bl o.isSome) H2
def aBg (ty td:TE):TE:=fun σ H Q=>ty σ H λy H1=>td σ H1 λx H2=>∃ a o,x=.ref a/\DGet H2 a y o/\Q (.bl (!o.isSome)) H2
def aDk (td ty tv:TE):TS:=λD σ H=>tv σ H λv H1=>td σ H1 λx H2=>ty σ H2 λy B=>∃ a z,x=.ref a/\DPut B a y v z/\D.nx σ z
def aDl (td ty:TE):TS:=λD σ H=>td σ H λx H1=>ty σ H1 λy H2=>∃ a kvs k,x=.ref a/\H2 a=some (.dK kvs)/\y=kV k/\(dE kvs k).isSome=true/\D.nx σ (upd H2 a (.dK (sA kvs k)))
section
variable {X:Cx} {o i e value:Expr} {pos pos' ag:Pos} {td ty tv:TE}
def jY (D:X.A.units+1<cLine) (J:PE X o td) (hi:PE X i ty) (hs:aCm i):PE X (.Subscript o i pos) (aDj td ty):=by
 intro pins s σ H Q I h;refine V9 PySem.F.slot_dict_getitem.lookup hs (thn (J pins s σ H _ I h) λu L ⟨x,H1,M,U,Y⟩=>thn (hi pins L σ H1 _ M Y) λiv s2 ⟨y,H2,B,ry,a,v,ex,g,q2⟩=>?_);subst ex;obtain rfl:u=Value.ref a:=U;exact⟨J3 B g,i3 D B g ry λw' s3 I3 z=>⟨v,H2,I3,z,q2⟩⟩
def aCn (z:X.A.units+1<cLine) (hi:PE X i ty) (B:PE X o td):PC X .In i o (aE2 ty td):=by
 intro pins s σ H Q I h;refine thn (hi pins s σ H _ I h) λiv D ⟨y,H1,J,L,M⟩=>thn (B pins D σ H1 _ J M) λu s2 ⟨x,H2,U,Y,a,ov,ex,g,q2⟩=>?_;subst ex;obtain rfl:u=Value.ref a:=Y;exact aE1 z U g L λs3 I3=>⟨.bl ov.isSome,H2,I3,rfl,q2⟩
def i6 (z:X.A.units+1<cLine) (hi:PE X i ty) (B:PE X o td):PC X .NotIn i o (aBg ty td):=by
 intro pins s σ H Q I h;refine thn (hi pins s σ H _ I h) λiv D ⟨y,H1,J,L,M⟩=>thn (B pins D σ H1 _ J M) λu s2 ⟨x,H2,U,Y,a,ov,ex,g,q2⟩=>?_;subst ex;obtain rfl:u=Value.ref a:=Y;exact aBe z U g L λs3 I3=>⟨.bl (!ov.isSome),H2,I3,rfl,q2⟩
def zQ (z:X.A.units+1<cLine) (B:PE X o td) (hi:PE X i ty) (J:PE X value tv) (hs:swapsWith value (some (.Subscript o i pos')) pos.line X.env=pure false) :
 PS X (.Assign [.Subscript o i pos'] value pos) (aDk td ty tv):=by
 intro pins s σ H D I h;refine wpAny_Assign_Subscript (thn (J pins s σ H _ I h) λr L ⟨v,H1,M,U,Y⟩=>thn (B pins L σ H1 _ M Y) λu s2 ⟨x,H2,I2,rx,q2⟩=>thn (hi pins s2 σ H2 _ I2 q2) λiv s3 ⟨y,H3,I3,ry,a,H4,ex,g,q3⟩=>?_) hs;subst ex;obtain rfl:u=Value.ref a:=rx;exact i4 z I3 g ry U λs4 I4=>⟨σ,H4,I4,q3⟩
def aBh (z:PE X o td) (hi:PE X i ty):PS X (.Delete [.Subscript o i ag] pos) (aDl td ty):=by
 intro pins s σ H D I h;refine wpAny_Delete (wpAny_deleteEach_cons (wpAny_delete_Subscript (thn (z pins s σ H _ I h) λu B ⟨x,H1,J,L,M⟩=>thn (hi pins B σ H1 _ J M) λiv s2 ⟨y,H2,U,Y,a,kvs,k,ex,e,ey,l,q2⟩=>?_)));subst ex ey;obtain rfl:u=Value.ref a:=L;exact i5 U e Y l λs3 I3=>wpAny_deleteEach_nil ⟨σ,_,I3,q2⟩
end
def aAP {P:Program} {w:World} {H:Hp} (h:Heap) (z:sysModules<h.objs.size):ObjOk P w H (h.push { cls:=.type "dict",data:=.dict #[] }) h.objs.size (.dK []) :=
 ⟨Nat.zero_le _,beq_eq_false_iff_ne.mpr (Ne.symm (aEw z)),[],.nil,Heap.DictOf.new h⟩
def aCo:TE:=λ_ H Q=>∀ p,H p=none->Q (.ref p) (upd H p (.dK []))
section
variable {X:Cx} {pos:Pos}
def hZ:PE X (.Dict [] [] pos) aCo:=λpins s σ H Q I h =>
 wpAny_Dict_empty ⟨.ref s.heap.objs.size,_,I.laid (a:=s.heap.objs.size) (o:=.dK []) (t':=s.toks) (λ_ _ q=>aEa _ q) (Nat.le_refl _) (aAP s.heap I.big),rfl,h _ (I.hok.fresh (Nat.le_refl _))⟩
end
structure M2 (X:Cx) (o:Expr) (m:Str) (apos:Pos) (e f:Expr) (ab:Pos):Prop where
 base:attributeBase o m X.env (eval o X.env)=eval o X.env
 few:((backTo ab (starEach [e,f] X.env)).all (λx=>!x.1) && (backToKw ab (keywordEach [] X.env)).all (λx=>x.1.isSome)
  && decide (([e,f]:List Expr).length+([]:List Keyword).length+(if ([]:List Keyword).isEmpty then 0 else 1)<30))=true
 line:(apos.endLine == ab.line)=true
 trees:backTo ab (starEach [e,f] X.env)=[(false,eval e X.env),(false,eval f X.env)]
def IsD (H:Hp) (a:Addr):Prop:=(∃ kvs,Rd H a (.dK kvs))\/∃ kvs,Rd H a (.dT kvs)
def uS {X:Cx} {pins:List (Addr×Obj)} {σ:St} {H:Hp} {s:Shared} {a:Addr} (I:Inv X pins σ H s) (d:IsD H a) :
 s.TypeIs (.ref a) "dict"/\(∀ b,Value.ref a=.ref b->∃ z,s.heap.get? b=some z/\z.dict=none)/\(a == sysModules)=false:=by
 rcases d with ⟨kvs,e⟩ | ⟨kvs,e⟩
 .obtain⟨_,hd,vs,_,B⟩:=pI I.hok e;refine⟨B.typeIs,λb q=>?_,hd⟩;cases q;obtain⟨z,_,_,h1,h2,_⟩:=B;exact⟨z,h1,h2.2.1⟩
 .obtain⟨_,hd,xs,_,B⟩:=uQ I.hok e;refine⟨B.typeIs,λb q=>?_,hd⟩;cases q;obtain⟨z,_,_,h1,h2,_⟩:=B;exact⟨z,h1,h2.2.1⟩
section
variable {X:Cx} {pins:List (Addr×Obj)} {σ:St} {H:Hp} {s:Shared} {a:Addr} {y d:V} {u r:Value} {o:Option V} {A:Around} {E:Value->Shared->Prop}
def aCp {Q:Value->Shared->Prop} (U:A.units+1<cLine) (I:Inv X pins σ H s) (g:DGet H a y o) (L:RelV y u) (rd:RelV d r) (h:∀ M s',Inv X pins σ H s'->RelV (o.getD d) M->Q M s') :
 wpAny (model X.prog X.w) A (call (.builtin "dict.get") [.ref a,u,r]) Q E s:=by
 rcases g with ⟨kvs,k,e,J,l⟩ | ⟨kvs,k,b,e,J,Y,l⟩
 .subst J;obtain⟨z,hd,vs,B,D⟩:=pI I.hok e;refine call_meetsIn PySem.F.slot_dict_get D.typeIs PySem.F.entry_dict_get (PySem.F.args_dict_get_3 _ _ _) (meets_dict_get_default (bA X.prog X.w) a (nP L) hd r) ⟨_,D.mapOf,h _ _ (I.tok _) ?_⟩;rw[l];exact(B.val k).getD rd
 .subst J;cases (show u=Value.ref b from L);obtain⟨z,hd,xs,B,D⟩:=uQ I.hok e;refine call_meetsIn PySem.F.slot_dict_get D.typeIs PySem.F.entry_dict_get (PySem.F.args_dict_get_3 _ _ _) (meetsH_dict_get_default (tupleKind (bA X.prog X.w)) a b hd r) ⟨tupleKind_room_in1 U,k,xs,qT I.hok Y,D,h _ _ (I.tok _) ?_⟩;rw[l];exact(B.val k).getD rd
end
def aCq (td ty tx:TE):TE:=fun σ H Q=>td σ H λx H1=>∃ a,x=.ref a/\IsD H1 a/\ty σ H1 λy H2=>tx σ H2 λz B=>∃ o,DGet B a y o/\Q (o.getD z) B
section
variable {X:Cx} {o e f:Expr} {apos ab:Pos} {td ty tx:TE}
def aAQ (J:X.A.units+1<cLine) (L:PE X o td) (he:PE X e ty) (M:PE X f tx) (m:M2 X o "get" apos e f ab):PE X (.Call (.Attribute o "get" apos) [e,f] [] ab) (aCq td ty tx):=by
 intro pins s σ H Q I h;refine wpAny_Call_method m.base m.few m.line PySem.F.plainAttrs_dict PySem.F.slot_dict_get PySem.F.type_dict_get (thn (L pins s σ H _ I h) λu U ⟨x,H1,D,Y,a,ex,d,q1⟩=>?_);subst ex;obtain rfl:u=Value.ref a:=Y;obtain⟨t1,t2,_⟩:=uS D d;refine⟨t1,t2,?_⟩;rw[m.trees];refine Calls.callWith_builtin rfl (Calls.evalArgs_plain (Calls.spliced_cons (thn (he pins U σ H1 _ D q1) λiv s2 ⟨y,H2,I2,ry,q2⟩ =>
  Calls.spliced_cons (thn (M pins s2 σ H2 _ I2 q2) λfv s3 ⟨z,H3,I3,rz,ov,g,q3⟩=>Calls.spliced_nil ?_))))
 exact aCp J I3 g ry rz λw' s4 I4 B=>⟨_,H3,I4,B,q3⟩
end
section
variable {X:Cx} {pins:List (Addr×Obj)} {σ:St} {H:Hp} {s:Shared} {d:Addr} {kvs:List (Key×V)}
def Inv.freezeD (I:Inv X pins σ H s) (e:H d=some (.dK kvs)):∃ od,s.heap.get? d=some od/\Inv X pins σ (upd H d (.frz od (.dK kvs))) s:=by
 obtain⟨z,hd,vs,D,L⟩:=nQ I.hok e;obtain⟨ep,J⟩:=L.dictAt;obtain⟨od,es,M,_⟩:=id J;refine⟨od,M,?_⟩;have ne:∀ b u,H b=some u->(∀ ks,u≠.dK ks)->b≠d:=λb u q n z=>by rw[z,e]at q;cases q;exact n _ rfl
 have Y:∀ b,H b=none->b≠d:=λb q z=>by rw[z,e]at q;cases q
 have B:∀ b u,H b=some u->(∀ ks,u≠.dK ks)->upd H d (.frz od (.dK kvs)) b=some u:=λb u q n=>by rw[aF (ne b u q n)];exact q
 have un:Un X.fs [] H (upd H d (.frz od (.dK kvs))) s.heap s.heap:=⟨λ_ _ q _ _ _=>q,λ_ o q _ _ _=>⟨o.slots,q⟩,λb _ _ n _=>by rw[aF (Y b n)];exact n,λ_ o q _=>⟨o,q⟩,
  λb xs q=>B b _ q (λ_ z=>by cases z),λb o u q=>B b _ q (λ_ z=>by cases z),λb ps q=>⟨#[],by rw[B b _ q (λ_ z=>by cases z)];simp⟩⟩
 exact I.un (t':=s.toks) un λb u q=>by
  by_cases U:b=d
  .subst U;rw[aB]at q;cases q;exact⟨M,z,hd,vs,D,L⟩
  .rw[aF U]at q;exact(I.hok b u q).stay (λ_ _ _ z=>z) (λc z=>B c _ z λ_ z=>by cases z) λc xs z=>B c _ z λ_ z=>by cases z
end
def Itd (d:Addr) (od:Obj) (kvs:List (Key×V)):It :=
 ⟨λi H=>H d=some (.frz od (.dK kvs))/\i<kvs.length,λi H v H'=>∃ t k x,v=.ref t/\H t=none/\kvs[i]?=some (k,x)/\H'=upd H t (.tup [kV k,x]),λi H=>H d=some (.frz od (.dK kvs))/\kvs.length<=i⟩
def J4 {kvs:List (Key×V)} {vs:List (Key×Value)} (r:KV kvs vs) {i:Nat} {k:Key} {x:V} (e:kvs[i]?=some (k,x)):∃ u,vs[i]?=some (k,u)/\RelV x u:=by
 induction r generalizing i with
 | nil=>simp at e
 | cons h _ z =>
  cases i with
  | zero =>
   rename_i p q _ _ _
   obtain⟨p1,p2⟩:=p;obtain⟨B,D⟩:=q;simp only[List.getElem?_cons_zero,Option.some.injEq,Prod.mk.injEq]at e;obtain⟨rfl,rfl⟩:=e;obtain⟨h1,h2⟩:=h;simp only at h1 h2;subst h1;exact⟨_,rfl,h2⟩
  | succ i=>exact z e
def Q6 {P:Program} {w:World} {k:Key} {u:Value} (h:(bA P w).is k u=true):RelV (kV k) u:=by
 rw[tT]at h;rcases cD h with ⟨i,t,rfl,rfl⟩ | ⟨x,t,rfl,rfl⟩
 .exact⟨_,rfl⟩
 .exact⟨_,rfl⟩
def Q7 {P:Program} {w:World} {K:PySem.W.Frag} {elts:List Expr} {x1} {pos:Pos} (d it:Addr) (od:Obj) (kvs:List (Key×V)) (vs:List (Key×Value)) (ep:Nat) (rel:KV kvs vs) (hat:∀ h:Heap,h.get? d=some od->h.DictAt (bA P w) d vs ep) (hne:d≠it) :
 qJ P w K (.Tuple elts x1 pos) (Itd d od kvs) [it] it (λi h=>∃ ok ov,IsItemIter h it d i vs.length ep ok ov) where
 mem:=by simp
 obj:=λi h st b hb=>by
  obtain⟨ok,ov,he⟩:=st;have z:b=it:=by simpa using hb
  subst z;exact⟨_,he,λv z=>by have z':Data.fields _=Data.cell v:=z;cases z'⟩
 keep:=λi h h' st k=>let ⟨ok,ov,he⟩:=st;⟨ok,ov,k it (by simp) _ he⟩
 item:=by
  intro X hP hw hK hc i pins s σ H E I hf st hg;subst hP hw hK;obtain⟨hd,hi⟩:=hg;obtain⟨⟨k,x⟩,hx⟩:∃ p,kvs[i]?=some p:=⟨kvs[i],by simp[hi]⟩;obtain⟨u,hu,ru⟩:=J4 rel hx;obtain⟨ok,ov,he⟩:=st;have hod:s.heap.get? d=some od:=(I.hok d _ hd).1;have li:it<s.heap.objs.size:=aEf he;refine wpAny_pyNext_items_item he (hat _ hod) hu λkey h' hkey ho hT hsz kp=>?_;refine⟨_,rfl,?_⟩;have hn:H s.heap.objs.size=none:=I.hok.fresh (Nat.le_refl _);have tupOk:∀ h2:Heap,h2.get? s.heap.objs.size=some { cls:=.type "tuple",data:=.seq #[key,u] }->ObjOk X.prog X.w (upd H s.heap.objs.size (.tup [kV k,x])) h2 s.heap.objs.size (.tup [kV k,x]):=λh2 q =>
   ⟨by show 2<=sizeLine;decide,[key,u],.cons (Q6 hkey) (.cons ru .nil),_,q,rfl,_,rfl⟩
  refine wpAny_letOwnedTupleGo_items ho λh2 f1 sb=>?_;have k2:∀ b o,b∉[it]->s.heap.get? b=some o->h2.get? b=some o:=λb o hb q=>sb.extBut b o (λz=>hb (by simp[z])) (kp b o (λz=>hb (by simp[z])) q);have n1:s.heap.objs.size≠it:=aEz li;refine⟨.ref s.heap.objs.size,_,I.turnLaid (t':=s.toks) (h':=h2) (o:=.tup [kV k,x]) k2 hf (Nat.le_refl _) (tupOk _ (sb.extBut _ _ n1 hT)),rfl,⟨_,k,x,rfl,hn,hx,rfl⟩,⟨_,_,f1⟩,λb hb=>?_⟩;have hb':b≠s.heap.objs.size:=by
   have z:b=it:=by simpa using hb
   subst z;exact aEw li
  rw[aF hb'];exact(hf b hb).1
 done:=by
  intro X hP hw hK hc i pins s σ H E I hf st hg;subst hP hw hK;obtain⟨hd,hi⟩:=hg;obtain⟨ok,ov,he⟩:=st;have hod:s.heap.get? d=some od:=(I.hok d _ hd).1;have hl:=rel.length;exact wpAny_pyNext_items_end (I.ok.hd hc) he (hat _ hod) (by simp;omega) λh' eb=>⟨rfl,I.turnedF (fp:=[it]) (t':=s.toks) (λb o hb e=>eb b o (λz=>hb (by simp[z])) e) hf⟩
 self:=λ_ _ _ _ _ st h=>let ⟨_,_,he⟩:=st;PySem.W.kcp_self he h
def aCr (td:TE):TI:=fun σ H R=>td σ H λx H1=>∃ d kvs,x=.ref d/\H1 d=some (.dK kvs)/\∀ od,R (Itd d od kvs) (upd H1 d (.frz od (.dK kvs)))
def lR {X:Cx} {elts:List Expr} {x1} {ag:Pos} {o:Expr} {td:TE} {apos pos:Pos} (ho:PE X o td) (J:attributeBase o "items" X.env (eval o X.env)=eval o X.env:=by rfl) (L:(apos.endLine == pos.line)=true:=by rfl) :
 PI X (.Tuple elts x1 ag) (.Call (.Attribute o "items" apos) [] [] pos) (aCr td):=by
 intro pins s σ H R I h;refine wpAny_Call_method0_late J L (thn (ho pins s σ H _ I h) λu B ⟨x,H1,I1,rx,d,kvs,ex,hd,q⟩=>?_);subst ex;obtain rfl:u=Value.ref d:=rx;obtain⟨z,Y,vs,al,dd⟩:=nQ I1.hok hd;obtain⟨ep,am⟩:=id dd.dictAt;obtain⟨od,M,I2⟩:=I1.freezeD hd;obtain⟨t1,t2,_⟩:=uS I1 (.inl ⟨kvs,.inl hd⟩);refine⟨"dict","dict.items",PySem.F.plainAttrs_dict,PySem.F.slot_dict_items,PySem.F.type_dict_items,t1,t2,Calls.callWith_builtin rfl (PySem.evalArgs_none ?_)⟩;refine call_meetsIn PySem.F.slot_dict_items dd.typeIs PySem.F.entry_dict_items (PySem.F.args_dict_items_1 _) (meets_dict_items (bA X.prog X.w) d Y) ⟨⟨vs,dd⟩,?_⟩;have hv:(B.heap.push { cls:=.type "dict_items",data:=.fields #[.ref d] }).IsItemsView B.heap.objs.size d:=⟨_,aEg _ rfl,rfl,rfl⟩;have h1:(B.heap.push { cls:=.type "dict_items",data:=.fields #[.ref d] }).get? d=some od:=aEa _ M;have D:∀ h:Heap,h.get? d=some od->h.DictAt (bA X.prog X.w) d vs ep:=λh e=>am.at λo q=>by rw[M]at q;cases q;exact e
 refine wpAny_pyIter_items hv (D _ h1) ?_;generalize ao:({ cls:=.type "dict_itemiterator",data:=.fields #[.none,.bool false,.ref d,.int 0 0,.int vs.length 0,.int ep 0,.none,.none] }:Obj)=ob;have kp:∀ b o,B.heap.get? b=some o->((B.heap.push { cls:=.type "dict_items",data:=.fields #[.ref d] }).push ob).get? b=some o:=λb o e=>aEa _ (aEa _ e);have hsz:(B.heap.push { cls:=.type "dict_items",data:=.fields #[.ref d] }).objs.size=B.heap.objs.size+1:=Heap.size_push ..;have I3:=I2.kept (t':=B.toks) kp;have U:B.heap.objs.size<=(B.heap.push { cls:=.type "dict_items",data:=.fields #[.ref d] }).objs.size:=by rw[hsz];exact Nat.le_succ _
 have ap:d≠(B.heap.push { cls:=.type "dict_items",data:=.fields #[.ref d] }).objs.size:=λz=>by
  have:=aEf M;rw[z]at this;exact absurd this (Nat.not_lt.mpr U)
 refine⟨_,[_],_,_,_,rfl,I3,Q7 d _ od kvs vs ep al D ap,⟨.none,.none,?_⟩,λb hb=>?_,q od⟩
 .rw[<- ao];exact aEg _ rfl
 .have z:b=(B.heap.push { cls:=.type "dict_items",data:=.fields #[.ref d] }).objs.size:=by simpa using hb
  rw[z];exact I2.fpOk U (I2.hok.fresh U)
def oB {d:Addr} {od:Obj} {kvs:List (Key×V)} {z:St} {g:TG} {tt:TT} {te:TE} {H:Hp} {Q:VK} (Pv:Nat->List V->Hp->Prop) (h0:Pv 0 [] H) (L:∀ i ys H,i<=kvs.length->Pv i ys H->H d=some (.frz od (.dK kvs))/\ys.length<sizeLine)
 (hs:∀ i k x ys H t,kvs[i]?=some (k,x)->Pv i ys H->H t=none->g (.ref t) z (upd H t (.tup [kV k,x])) λB H2=>tt B H2 λb J=>if b=true then te B J λy M=>Pv (i+1) (ys++[y]) M else Pv (i+1) ys J) (hd:∀ ys H,Pv kvs.length ys H->∀ D,H D=none->Q (.ref D) (upd H D (.lst ys))) :
 oX (Itd d od kvs) z g tt te Q H:=by
 refine⟨λi m ys H=>m=kvs.length - i/\i<=kvs.length/\Pv i ys H,⟨kvs.length,by simp,Nat.zero_le _,h0⟩,?_⟩;rintro i m ys H ⟨rfl,hi,p⟩;obtain⟨q,U⟩:=L i ys H hi p;refine⟨U,?_⟩
 by_cases I:i<kvs.length
 .refine .inr ⟨⟨q,I⟩,Pv (i+1),λY H' p'=>⟨kvs.length - (i+1),by omega,rfl,I,p'⟩,λx H' y=>?_⟩;obtain⟨t,k,v,rfl,hn,hx,rfl⟩:=y;exact hs i k v ys _ t hx p hn
 .have e:i=kvs.length:=by omega
  subst e;exact .inl ⟨⟨q,Nat.le_refl _⟩,hd ys H p⟩
def aDm (td ty tx:TE):TE:=fun σ H Q=>td σ H λx H1=>∃ a,x=.ref a/\IsD H1 a/\ty σ H1 λy H2=>tx σ H2 λz B=>∃ kvs k,B a=some (.dK kvs)/\y=kV k/\kvs.length<sizeLine /\
 (∀ v,dE kvs k=some v->Q v B)/\(dE kvs k=none->Q z (upd B a (.dK (dX kvs k z))))
section
variable {X:Cx} {o e f:Expr} {apos ab:Pos} {td ty tx:TE}
def W0 (M:PE X o td) (he:PE X e ty) (hf:PE X f tx) (m:M2 X o "setdefault" apos e f ab):PE X (.Call (.Attribute o "setdefault" apos) [e,f] [] ab) (aDm td ty tx):=by
 intro pins s σ H Q I h;refine wpAny_Call_method m.base m.few m.line PySem.F.plainAttrs_dict PySem.F.slot_dict_setdefault PySem.F.type_dict_setdefault (thn (M pins s σ H _ I h) λu s1 ⟨x,H1,I1,rx,a,ex,d,q1⟩=>?_);subst ex;obtain rfl:u=Value.ref a:=rx;obtain⟨t1,t2,_⟩:=uS I1 d;refine⟨t1,t2,?_⟩;rw[m.trees];refine Calls.callWith_builtin rfl (Calls.evalArgs_plain (Calls.spliced_cons (thn (he pins s1 σ H1 _ I1 q1) λiv s2 ⟨y,H2,I2,ry,q2⟩ =>
  Calls.spliced_cons (thn (hf pins s2 σ H2 _ I2 q2) λfv s3 ⟨z,H3,U,rz,kvs,k,ea,ey,hl,q3,q4⟩=>Calls.spliced_nil ?_))))
 subst ey;obtain⟨hz,D,vs,B,dd⟩:=nQ U.hok ea;refine call_meetsIn PySem.F.slot_dict_setdefault dd.typeIs PySem.F.entry_dict_setdefault (PySem.F.args_dict_setdefault_3 _ _ _) (kt_meets_setdefault (bA X.prog X.w) a (nP ry) D fv) ⟨vs,dd,by rw[<- B.length];exact hz,λv hv=>?_,λhn h' L hs=>?_⟩
 .have r:=B.val k;rw[hv]at r;cases J:dE kvs k with
  | none=>rw[J]at r;exact r.elim
  | some Y=>rw[J]at r;exact⟨Y,H3,U.tok _,r,q3 Y J⟩
 .have r:=B.val k;rw[hn]at r;have J:dE kvs k=none:=by
   cases J:dE kvs k with
   | none=>rfl
   | some Y=>rw[J]at r;exact r.elim
  refine⟨z,_,sZ (t':=_) U (by rw[ea];exact True.intro) hs ?_ (uR ?_ D (B.put k rz) L),rz,q4 J⟩
  .obtain⟨_,al⟩:=L.dictAt;obtain⟨o,es,M,_⟩:=id al;exact⟨o,M⟩
  .have:=iP kvs k z;omega
end
def Inv.thaw {X:Cx} {pins:List (Addr×Obj)} {σ:St} {H:Hp} {s:Shared} {d:Addr} {od:Obj} {kvs:List (Key×V)} (I:Inv X pins σ H s) (e:H d=some (.frz od (.dK kvs))) (h0:∀ o u,X.H₀ d≠some (.frz o u)):Inv X pins σ (upd H d (.dK kvs)) s:=by
 obtain⟨ho,hok⟩:=I.hok d _ e;have ne:∀ b u,H b=some u->(∀ o v,u≠.frz o v)->b≠d:=λb u q n z=>by rw[z,e]at q;cases q;exact n _ _ rfl
 have B:∀ b,H b=none->b≠d:=λb q z=>by rw[z,e]at q;cases q
 have D:∀ b u,H b=some u->(∀ o v,u≠.frz o v)->upd H d (.dK kvs) b=some u:=λb u q n=>by rw[aF (ne b u q n)];exact q
 refine⟨I.ok,I.os,I.bare,⟨I.base.keep,I.base.slot,λb o q n x=>?_,I.base.there,λb xs q=>D b _ (I.base.tups b xs q) (λ_ _ z=>by cases z),λb o u q=>?_,λb ps q=>?_⟩,I.loc,I.cell,?_,λx c q=>?_,λp q=>?_,λb u q=>?_,I.len⟩
 .rw[aF (B b (I.base.free b o q n x))];exact I.base.free b o q n x
 .have J:b≠d:=λz=>by rw[z]at q;exact h0 _ _ q
  rw[aF J];exact I.base.frzs b o u q
 .obtain⟨more,L⟩:=I.base.tbls b ps q;exact⟨more,D b _ L (λ_ _ z=>by cases z)⟩
 .rw[aF (B _ I.free)];exact I.free
 .rw[aF (B _ (I.freeC x c q))];exact I.freeC x c q
 .obtain⟨L,n,M,U,Y⟩:=I.pin p q;exact⟨L,by rw[aF (B _ n)];exact n,M,U,Y⟩
 .by_cases J:b=d
  .subst J;rw[aB]at q;cases q;exact hok
  .rw[aF J]at q;exact(I.hok b u q).stay (λ_ _ _ z=>z) (λc z=>D c _ z λ_ _ z=>by cases z) λc xs z=>D c _ z λ_ _ z=>by cases z
def aDn (t:TE):TE:=fun σ H Q=>∃ d kvs,H d=some (.dK kvs)/\t σ H λv H'=>∃ od,H' d=some (.frz od (.dK kvs))/\Q v (upd H' d (.dK kvs))
def pJ {X:Cx} {e:Expr} {t:TE} (h:PE X e t):PE X e (aDn t):=by
 intro pins s σ H Q I q;obtain⟨d,kvs,hd,q⟩:=q;have h0:∀ o u,X.H₀ d≠some (.frz o u):=λo u z=>by
  have:=I.base.frzs d o u z;rw[hd]at this;cases this
 exact thn (h pins s σ H _ I q) λu M ⟨v,H1,B,D,od,J,L⟩=>⟨v,_,B.thaw J h0,D,L⟩
open PySem.W
def zR {P:Program} {w:World} {ks:List Int} {vs:List Value} (z:vs.length=ks.length) (h:∀ (j:Nat) (v:Value),vs[j]?=some v->∃ k,ks[j]?=some k/\(bA P w).is (Sum.inl k) v=true):IntsAre vs ks:=by
 induction vs generalizing ks with
 | nil=>cases ks with
  | nil=>exact .nil
  | cons _ _=>cases z
 | cons v r B=>cases ks with
  | nil=>cases z
  | cons k ks =>
   obtain⟨D,h1,h2⟩:=h 0 v rfl;cases h1;rw[tT]at h2;rcases cD h2 with ⟨i,t,e1,e2⟩ | ⟨x,t,e1,e2⟩
   .cases e1;subst e2;exact .cons _ _ (B (by simpa using z) λj v e=>h (j+1) v e)
   .cases e1
def J5 (kvs:List (Key×V)) (ks:List Int):Prop:=kvs.map Prod.fst=ks.map Sum.inl
section
variable {X:Cx}
def pK (hc:X.calm=true):dY X (.builtin "sorted") (λxs H Q=>∃ (a:Addr) (kvs:List (Key×V)) (ks:List Int),xs=[.ref a]/\H a=some (.dK kvs)/\J5 kvs ks/\ks.length<64 /\
 ∀ (l:Addr) (ms:List Int),H l=none->ms.Perm ks->ms.Pairwise (·<=·)->Q (.ref l) (upd H l (.lst (ms.map V.int)))):=by
 intro pins s σ H xs us Q I r h;obtain⟨a,kvs,ks,rfl,ha,hk,au,q⟩:=h;obtain⟨u,rfl,rx⟩:=gG r;cases rx;obtain⟨z,M,vs,L,dd⟩:=nQ I.hok ha;obtain⟨ep,ap⟩:=id dd.dictAt;have hlen:vs.length=ks.length:=by
  have e1:=L.length;have e2:=congrArg List.length hk;simp at e2;omega
 have U:vs.length<=sizeLine:=Nat.le_trans (show vs.length<=64 by omega) (by decide);refine Calls.call_function_entry kind_sorted plain_sorted entry_sorted (args_sorted1 _) ?_;unfold Builtin.«sorted»;refine aE7 (m:=checkCount "sorted" 1 1 _) (aE8 ?_);refine aE7 (kdu_collect (A:=X.A.in1) (kdl_dict (knd:=bA X.prog X.w) (kvs:=vs) (ep:=ep) M) (I.ok.hd hc) ap U λh' tk B aq D=>?_);have hl:B.toList.length=vs.length:=by rw[Array.length_toList];exact D.1
 have hI:IntsAre B.toList ks:=zR (P:=X.prog) (w:=X.w) (by omega) λj v e=>by
  obtain⟨k,x,h1,h2⟩:=D.2 j v (by rw[<- Array.getElem?_toList];exact e);have hj:j<vs.length:=(aFK.mp h1).1;have h3:(kvs.map Prod.fst)[j]?=some k:=by
   have Y:j<kvs.length:=by rw[L.length];exact hj
   obtain⟨u,e1,e2⟩:=J4 L (i:=j) (k:=(kvs[j]).1) (x:=(kvs[j]).2) (aEj Y);rw[h1]at e1;cases e1;simp[Y]
  rw[hk,aEx]at h3;obtain⟨n,h4,h5⟩:=aFJ.mp h3;subst h5;exact⟨n,h4,h2⟩
 refine aE7 (wpAny_newList ?_ (by omega));have e0:(h'.push (seqObj "list" B.toList.toArray 0)).get? h'.objs.size=some (seqObj "list" B.toList.toArray 0):=aEg _ rfl;have kp:∀ b o,h'.get? b=some o->(h'.push (seqObj "list" B.toList.toArray 0)).get? b=some o:=λb o e=>aEa _ e;have I':=I.kept (t':=tk) aq;have al:h'.objs.size<(h'.push (seqObj "list" B.toList.toArray 0)).objs.size:=by rw[size_push'];exact Nat.lt_succ_self _
 have J:(h'.push (seqObj "list" B.toList.toArray 0)).objs.size=h'.objs.size+1:=size_push' ..;show wpAny _ _ _ _ _ { s with heap:=h'.push (seqObj "list" B.toList.toArray 0),toks:=tk };generalize h'.push (seqObj "list" B.toList.toArray 0)=h2 at e0 kp al J;refine aE7 (wpAny_holding (wpAny_call_entry slot_list_sort ⟨_,e0,rfl⟩ entry_list_sort (list_sort_tree (s:={ s with heap:=h2,toks:=tk }) e0 hI (by omega) λout am ar hp hs=>⟨_,rfl,?_⟩) (args_list_sort _)));obtain⟨n0,at0⟩:=sortedHeap_at (out:=out) e0;have hn:H h'.objs.size=none:=I'.hok.fresh (Nat.le_refl _);refine aE8 ⟨_,rfl,.ref h'.objs.size,_,I'.laid (t':=tk) (o:=.lst (am.map V.int)) (λb o e=>?_) (Nat.le_refl _) ⟨?_,out.toList,n0,mP ar,at0⟩,rfl,q _ am hn hp hs⟩
 .have hb:=aEf e;have ao:b<h'.objs.size:=hb;exact(sortedHeap_old (aEw ao) (by show b<h2.objs.size;rw[J];exact Nat.lt_succ_of_lt ao)).trans (kp b o e)
 .rw[aE9,hp.length_eq];exact Nat.le_trans (show ks.length<=64 by omega) (by decide)
end
end L2
namespace L2
open PySem PySem.Spec PyProof.Rows
def Itw (d:Addr) (od:Obj) (kvs:List (Key×V)):It :=
 ⟨λi H=>H d=some (.frz od (.dK kvs))/\i<kvs.length,λi H v H'=>H'=H/\∃ k,kvs[i]?=some (k,v),λi H=>H d=some (.frz od (.dK kvs))/\kvs.length<=i⟩
def J6 {P:Program} {w:World} {K:PySem.W.Frag} {tg:Expr} (d it:Addr) (od:Obj) (kvs:List (Key×V)) (vs:List (Key×Value)) (ep:Nat) (rel:KV kvs vs) (hat:∀ h:Heap,h.get? d=some od->h.DictAt (bA P w) d vs ep) (hne:d≠it) :
 qJ P w K tg (Itw d od kvs) [it] it (λi h=>h.IsValIter it d i vs.length ep) where
 mem:=by simp
 obj:=λi h st b hb=>by
  obtain⟨o,he,hc,hd⟩:=st;have z:b=it:=by simpa using hb
  subst z;exact⟨o,he,λv z=>by rw[hd]at z;cases z⟩
 keep:=λi h h' st k=>let ⟨o,he,r⟩:=st;⟨o,k it (by simp) _ he,r⟩
 item:=by
  intro X hP hw hK hc i pins s σ H E I hf st hg;subst hP hw hK;obtain⟨hd,hi⟩:=hg;obtain⟨⟨k,x⟩,hx⟩:∃ p,kvs[i]?=some p:=⟨kvs[i],by simp[hi]⟩;obtain⟨u,hu,ru⟩:=J4 rel hx;have hod:s.heap.get? d=some od:=(I.hok d _ hd).1;refine wpAny_pyNext_values_item st (hat _ hod) hu λh' st' sb=>?_;obtain⟨o,e,c,dd⟩:=id st';exact⟨u,rfl,xH (s:={ s with heap:=h' }) e c dd (by decide) ⟨x,H,I.turnedF (fp:=[it]) (t':=s.toks) (λb o hb e=>sb.extBut b o (λz=>hb (by simp[z])) e) hf,ru,⟨rfl,k,hx⟩,st',λb hb=>(hf b hb).1⟩⟩
 done:=by
  intro X hP hw hK hc i pins s σ H E I hf st hg;subst hP hw hK;obtain⟨hd,hi⟩:=hg;have hod:s.heap.get? d=some od:=(I.hok d _ hd).1;have hl:=rel.length;exact wpAny_pyNext_values_end (I.ok.hd hc) st (hat _ hod) (by simp;omega) λh' eb=>⟨rfl,I.turnedF (fp:=[it]) (t':=s.toks) (λb o hb e=>eb b o (λz=>hb (by simp[z])) e) hf⟩
 self:=λ_ _ _ _ _ st h=>wpAny_pyIter_valiter st h
def aBi (td:TE):TI:=fun σ H R=>td σ H λx H1=>∃ d kvs,x=.ref d/\H1 d=some (.dK kvs)/\∀ od,R (Itw d od kvs) (upd H1 d (.frz od (.dK kvs)))
def xZ {X:Cx} {tg:Expr} {o:Expr} {td:TE} {apos pos:Pos} (ho:PE X o td) (J:attributeBase o "values" X.env (eval o X.env)=eval o X.env:=by rfl) (L:(apos.endLine == pos.line)=true:=by rfl) :
 PI X tg (.Call (.Attribute o "values" apos) [] [] pos) (aBi td):=by
 intro pins s σ H R I h;refine wpAny_Call_method0_late J L (thn (ho pins s σ H _ I h) λu B ⟨x,H1,I1,rx,d,kvs,ex,hd,q⟩=>?_);subst ex;obtain rfl:u=Value.ref d:=rx;obtain⟨z,Y,vs,al,dd⟩:=nQ I1.hok hd;obtain⟨ep,am⟩:=id dd.dictAt;obtain⟨od,M,I2⟩:=I1.freezeD hd;obtain⟨t1,t2,_⟩:=uS I1 (.inl ⟨kvs,.inl hd⟩);refine⟨"dict","dict.values",PySem.F.plainAttrs_dict,PySem.F.slot_dict_values,PySem.F.type_dict_values,t1,t2,Calls.callWith_builtin rfl (PySem.evalArgs_none ?_)⟩;refine call_meetsIn PySem.F.slot_dict_values dd.typeIs PySem.F.entry_dict_values (PySem.F.args_dict_values_1 _) (meets_dict_values (bA X.prog X.w) d Y) ⟨⟨vs,dd⟩,?_⟩;have hv:(B.heap.push { cls:=.type "dict_values",data:=.fields #[.ref d] }).IsValuesView B.heap.objs.size d:=⟨_,aEg _ rfl,rfl,rfl⟩;have h1:(B.heap.push { cls:=.type "dict_values",data:=.fields #[.ref d] }).get? d=some od:=aEa _ M;have D:∀ h:Heap,h.get? d=some od->h.DictAt (bA X.prog X.w) d vs ep:=λh e=>am.at λo q=>by rw[M]at q;cases q;exact e
 refine wpAny_pyIter_values hv (D _ h1) ?_;generalize ao:({ cls:=.type "dict_valueiterator",data:=.fields #[.ref d,.int 0 0,.int vs.length 0,.int ep 0] }:Obj)=ob;have kp:∀ b o,B.heap.get? b=some o->((B.heap.push { cls:=.type "dict_values",data:=.fields #[.ref d] }).push ob).get? b=some o:=λb o e=>aEa _ (aEa _ e);have hsz:(B.heap.push { cls:=.type "dict_values",data:=.fields #[.ref d] }).objs.size=B.heap.objs.size+1:=Heap.size_push ..;have I3:=I2.kept (t':=B.toks) kp;have U:B.heap.objs.size<=(B.heap.push { cls:=.type "dict_values",data:=.fields #[.ref d] }).objs.size:=by rw[hsz];exact Nat.le_succ _
 have ap:d≠(B.heap.push { cls:=.type "dict_values",data:=.fields #[.ref d] }).objs.size:=λz=>by
  have:=aEf M;rw[z]at this;exact absurd this (Nat.not_lt.mpr U)
 refine⟨_,[_],_,_,_,rfl,I3,J6 d _ od kvs vs ep al D ap,?_,λb hb=>?_,q od⟩
 .rw[<- ao];exact⟨_,aEg _ rfl,rfl,rfl⟩
 .have z:b=(B.heap.push { cls:=.type "dict_values",data:=.fields #[.ref d] }).objs.size:=by simpa using hb
  rw[z];exact I2.fpOk U (I2.hok.fresh U)
def sD {d:Addr} {od:Obj} {kvs:List (Key×V)} {z:St} {g:TG} {tt:TT} {te:TE} {H:Hp} {Q:VK} (Pv:Nat->List V->Hp->Prop) (h0:Pv 0 [] H) (L:∀ i ys H,i<=kvs.length->Pv i ys H->H d=some (.frz od (.dK kvs))/\ys.length<sizeLine)
 (hs:∀ i k x ys H,kvs[i]?=some (k,x)->Pv i ys H->g x z H λB H2=>tt B H2 λb J=>if b=true then te B J λy M=>Pv (i+1) (ys++[y]) M else Pv (i+1) ys J) (hd:∀ ys H,Pv kvs.length ys H->∀ D,H D=none->Q (.ref D) (upd H D (.lst ys))) :
 oX (Itw d od kvs) z g tt te Q H:=by
 refine⟨λi m ys H=>m=kvs.length - i/\i<=kvs.length/\Pv i ys H,⟨kvs.length,by simp,Nat.zero_le _,h0⟩,?_⟩;rintro i m ys H ⟨rfl,hi,p⟩;obtain⟨q,U⟩:=L i ys H hi p;refine⟨U,?_⟩
 by_cases I:i<kvs.length
 .refine .inr ⟨⟨q,I⟩,Pv (i+1),λY H' p'=>⟨kvs.length - (i+1),by omega,rfl,I,p'⟩,λx H' y=>?_⟩;obtain⟨rfl,k,hx⟩:=y;exact hs i k x ys _ hx p
 .have e:i=kvs.length:=by omega
  subst e;exact .inl ⟨⟨q,Nat.le_refl _⟩,hd ys H p⟩
def J7 (A:Around) (s:Shared) (a:Int) (t:Tok) (c:Int) (u:Tok) (prog:Program) (w:World) (E:Value->Shared->Prop) (Q:Value->Shared->Prop) (h:Q (.bool (decide (c<a))) s) :
 wpAny (model prog w) A (richCompare .Gt (.int a t) (.int c u)) Q E s :=
 (PyProof.Rows.gt_int h:wpAny (model prog w) A (compareOp .Gt (.int a t) (.int c u)) Q E s)
section
open PySem.SeqAt
open PySem.AutoSeq1 (wpAny_loadPart')
open PySem.MeetsSeq PySem.MeetsSeq2 PySem.MeetsSeq3
def aBj (l b:Addr) (p q:Int×Int) (k1 U m1 Y:Tok) (n n2:Nat) (dd al:Option Addr) (sl am:Array (Option Value)) :
 Meets (Builtin.«tuple.__gt__» ⟨[.ref l,.ref b],[]⟩)
  (λ_ R s=>s.heap.get? l=some { cls:=.type "tuple",dict:=dd,data:=.seq #[.int p.1 k1,.int p.2 U] n,slots:=sl }/\s.heap.get? b=some { cls:=.type "tuple",dict:=al,data:=.seq #[.int q.1 m1,.int q.2 Y] n2,slots:=am } /\
   R (.ok (.ret (.bool (plt q p)))) s) :=
 .of_wp λprog w A R s h=>by
  obtain⟨hp,g,d,tk,os⟩:=s;obtain⟨hl,hb,h⟩:=h;have f2:=AutoSeq1.sub_tuple_tuple
  wp_walk using wpAny_loadPart' hl,wpAny_loadPart' hb,wpAny_forIn_list _ (λrest b s'=>b.1=none/\s'=⟨hp,g,d,tk,os⟩/\(rest=[(Value.int p.1 k1,Value.int q.1 m1),(Value.int p.2 U,Value.int q.2 Y)] \/
   (p.1=q.1/\rest=[(Value.int p.2 U,Value.int q.2 Y)])\/(p.1=q.1/\p.2=q.2/\rest=[]))) _
  case turn =>
   rintro ⟨y,x⟩ rest b s' ⟨J,rfl,hc⟩;rcases hc with I | ⟨e1,I⟩ | ⟨_,_,I⟩
   .injection I with L D
    injection L with hy hx
    subst hy hx;obtain⟨e,he,B⟩:=HT.eqAt_int A.in1 ⟨hp,g,d,tk,os⟩ p.1 k1 q.1 m1;refine aE7 (he prog w _ _ ?_);cases e with
    | true =>
     wp_walk
     exact⟨rfl,rfl,.inr (.inl ⟨B.mp rfl,D⟩)⟩
    | false =>
     have ao:p.1≠q.1:=λz=>absurd (B.mpr z) aEm;have M:=J7 A.in1 ⟨hp,g,d,tk,os⟩ p.1 k1 q.1 m1 prog w;have ev:plt q p=decide (q.1<p.1):=by rw[Bool.eq_iff_iff,gJ];simp;omega
     rw[ev]at h
     wp_walk using M
     exact⟨_,rfl,by simpa using h⟩
   .injection I with L D
    injection L with hy hx
    subst hy hx;obtain⟨e,he,B⟩:=HT.eqAt_int A.in1 ⟨hp,g,d,tk,os⟩ p.2 U q.2 Y;refine aE7 (he prog w _ _ ?_);cases e with
    | true =>
     wp_walk
     exact⟨rfl,rfl,.inr (.inr ⟨e1,B.mp rfl,D⟩)⟩
    | false =>
     have ao:p.2≠q.2:=λz=>absurd (B.mpr z) aEm;have M:=J7 A.in1 ⟨hp,g,d,tk,os⟩ p.2 U q.2 Y prog w;have ev:plt q p=decide (q.2<p.2):=by rw[Bool.eq_iff_iff,gJ];simp;omega
     rw[ev]at h
     wp_walk using M
     exact⟨_,rfl,by simpa using h⟩
   .cases I
  case fin =>
   rintro ⟨b1,b2⟩ s' ⟨J,rfl,hc⟩;simp only at J;subst J;rcases hc with I | ⟨_,I⟩ | ⟨e1,e2,_⟩
   .cases I
   .cases I
   have ev:plt q p=false:=by rw[gK];omega
   rw[ev]at h
   wp_walk
   exact⟨_,rfl,by simpa[Builtin.Tuple.tupleCompareSizes]using h⟩
  case h=>exact⟨rfl,rfl,.inl rfl⟩
end
section
variable {prog:Program} {w:World} {A:Around} {E:Value->Shared->Prop} {s:Shared}
def aAR {x y:Value} {p q:Int×Int} {Q:Value->Shared->Prop} (Y:PairV s.heap x p) (hy:PairV s.heap y q) (hu:A.units<cLine) (h:Q (.bool (plt q p)) s):wpAny (model prog w) A (richCompare .Gt x y) Q E s:=by
 obtain⟨t,⟨cls,dd,data,sl⟩,n,k1,k2,rfl,L,M,hd⟩:=Y;obtain⟨t',⟨U,I,data2,J⟩,n2,m1,m2,rfl,z,B,D⟩:=hy;simp only at M hd B D;subst M hd B D;exact richCompare_meets_room (op:=.Gt) ⟨_,L,rfl⟩ ⟨_,z,rfl⟩ PySem.F.slot_tuple_gt PySem.F.entry_tuple_gt (PySem.F.args_tuple_gt_2 _ _) (aBj t t' p q k1 k2 m1 m2 n n2 dd I sl J)
  ⟨L,z,show Value.bool (plt q p)≠Value.notImplemented/\Q (.bool (plt q p)) s from ⟨(λx=>nomatch x),h⟩⟩ hu
end
def Top (ps:List (Int×Int)) (i:Nat) (j:Nat):Prop:=j<i/\∀ k,k<i->plt (ps.getD j (0,0)) (ps.getD k (0,0))=false
def Top.keep {ps:List (Int×Int)} {i j:Nat} (h:Top ps i j) (g:plt (ps.getD j (0,0)) (ps.getD i (0,0))=false):Top ps (i+1) j:=⟨Nat.lt_succ_of_lt h.1,λk z=>by
 by_cases e:k=i
 .rw[e];exact g
 .exact h.2 k (by omega)⟩
def Top.take {ps:List (Int×Int)} {i j:Nat} (h:Top ps i j) (g:plt (ps.getD j (0,0)) (ps.getD i (0,0))=true):Top ps (i+1) i:=⟨Nat.lt_succ_self i,λk z=>by
 by_cases e:k=i
 .rw[e,gK];omega
 .have h1:=h.2 k (by omega);rw[gK]at h1 ⊢;rw[gJ]at g;omega⟩
abbrev aCs (v:Value) (c:Nat):Obj:={ cls:=.type "list",dict:=none,data:=.seq #[v,v] c,slots:=#[] }
section
variable {prog:Program} {w:World} {A:Around} {R:Result->Shared->Prop} {l it S:Addr} {its:List Value} {ps:List (Int×Int)}
def PairV.at {h h':Heap} {v:Value} {p:Int×Int} (x:PairV h v p) (k:∀ t o,v=.ref t->h.get? t=some o->o.cls=.type "tuple"->h'.get? t=some o):PairV h' v p:=by
 obtain⟨t,o,n,B,D,e,I,z,hd⟩:=x;exact⟨t,o,n,B,D,e,k t o e I z,z,hd⟩
def aBk (hh:A.handled=none) (hu:A.in1.units<cLine) (ao:l≠it) (I:it≠S) (ap:l≠S) :
 ∀ (k i:Nat) (s:Shared) (j:Nat) (c:Nat),its.length - i=k->i<=its.length->Top ps i j->s.heap.IsListIter it l i->s.heap.IsList l its.toArray->s.heap.get? S=some (aCs (its.getD j .none) c)->Paired (PairV s.heap) its ps ->
  (∀ h' tk j',(∀ x o,x≠it->x≠S->s.heap.get? x=some o->h'.get? x=some o)->Top ps its.length j'->R (.ok (.ret (its.getD j' .none))) { s with heap:=h',toks:=tk }) ->
  codeAny (model prog w) A (.builtin "max.loop" ⟨[.ref it,.none,.ref S],[]⟩) R s:=by
 have nm:(toString "max"++toString ".loop":String)="max.loop":=by decide
 intro k
 induction k with
 | zero =>
  intro i s j c hk hi ht st hl M hP hR;have e:i=its.length:=by omega
  refine codeAny_builtin PySem.F.entry_max_loop (by
   rw[aEl PySem.F.plain_max_loop _];show wpAny _ A.in1 (seqItems? (Value.ref S) >>= _) _ _ s;refine aE7 (wpAny_seqItems M rfl ?_);show wpAny _ A.in1 (tryCatch (pyNext (Value.ref it)) _ >>= _) _ _ s;refine aE7 (wpAny_tryCatch (wpAny_pyNext_list_end hh st hl (by simp;omega) λh' eb=>?_));have B:=eb S _ (Ne.symm I) M;show wpAny _ A.in1 (updateSeq S (λ_=>#[]) >>= _) _ _ { s with heap:=h' };refine aE7 (wpAny_updateSeq B rfl (aE7 (wpAny_letGo (aE8 ?_))));exact hR (h'.update S (Obj.mapSeq λ_=>#[])) s.toks j (λx o h1 h2 e=>(aEe _ _ (Ne.symm h2)).trans (eb x o h1 e)) (e ▸ ht))
 | succ k ih =>
  intro i s j c hk hi ht st hl M hP hR;have D:i<its.length:=by omega
  have aq:j<its.length:=Nat.lt_trans ht.1 D;have hx:its[i]?=some (its.getD i .none):=by simp[List.getD_eq_getElem?_getD,D]
  refine codeAny_builtin PySem.F.entry_max_loop (by
   rw[aEl PySem.F.plain_max_loop _];show wpAny _ A.in1 (seqItems? (Value.ref S) >>= _) _ _ s;refine aE7 (wpAny_seqItems M rfl ?_);show wpAny _ A.in1 (tryCatch (pyNext (Value.ref it)) _ >>= _) _ _ s;refine aE7 (wpAny_tryCatch (wpAny_pyNext_list_item st hl (x:=its.getD i .none) (by simpa using hx) λh' Y U=>?_));have B:=U.extBut S _ (Ne.symm I) M;have al:=hl.extBut U.extBut ao;have am:∀ t o,s.heap.get? t=some o->o.cls=.type "tuple"->t≠it:=λt o e c z=>by
    obtain⟨o',e',c',_⟩:=st;rw[z,e']at e;cases e;rw[c']at c;exact absurd c (by simp)
   have ar:∀ t o,s.heap.get? t=some o->o.cls=.type "tuple"->t≠S:=λt o e c z=>by
    rw[z,M]at e;cases e;exact absurd c (by simp)
   have J:Paired (PairV h') its ps:=Paired.mapP hP λv p x=>x.at λt o _ e c=>U.extBut t o (am t o e c) e;have pi:PairV h' (its.getD i .none) (ps.getD i (0,0)):=dP J D;have pj:PairV h' (its.getD j .none) (ps.getD j (0,0)):=dP J aq;show wpAny _ A.in1 (tryCatch (holding [its.getD i .none,its.getD i .none] (richCompare .Gt (its.getD i .none) (its.getD j .none) >>= _)) _ >>= _) _ _ { s with heap:=h' };refine aE7 (wpAny_tryCatch (wpAny_holding (aE7 (aAR (s:={ s with heap:=h' }) pi pj hu ?_))));refine aE7 (wpAny_holding (wpAny_truthy_bool (aE7 (wpAny_letGo (aE8 ?_)))));cases hb:plt (ps.getD j (0,0)) (ps.getD i (0,0))with
   | true =>
    simp only[if_true];refine aE7 (wpAny_updateSeq B rfl (aE7 (wpAny_letGo ?_)));rw[nm];obtain⟨c',e1⟩:∃ c',(h'.update S (Obj.mapSeq λ_=>#[its.getD i .none,its.getD i .none])).get? S=some (aCs (its.getD i .none) c'):=⟨_,aEr _ B rfl⟩;refine aE8 ⟨plainId_quiet PySem.F.plain_max_loop _,ih (i+1) { s with heap:=h'.update S (Obj.mapSeq λ_=>#[its.getD i .none,its.getD i .none]) } i _ (by omega) D (ht.take hb) (Y.at λo e=>(aEe _ _ (Ne.symm I)).trans e) (al.at λo e=>(aEe _ _ (Ne.symm ap)).trans e) e1 (Paired.mapP hP λv p x=>x.at λt o _ e c=>(aEe _ _ (Ne.symm (ar t o e c))).trans (U.extBut t o (am t o e c) e)) λL tk t' kp=>?_⟩;exact hR L tk t' (λx o h1 h2 e=>kp x o h1 h2 ((aEe _ _ (Ne.symm h2)).trans (U.extBut x o h1 e)))
   | false =>
    simp only[Bool.false_eq_true,if_false];refine aE7 (wpAny_letGo ?_);rw[nm];refine aE8 ⟨plainId_quiet PySem.F.plain_max_loop _,ih (i+1) { s with heap:=h' } j c (by omega) D (ht.keep hb) Y al B J λL tk t' kp=>?_⟩;exact hR L tk t' (λx o h1 h2 e=>kp x o h1 h2 (U.extBut x o h1 e)))
def aAS (hh:A.handled=none) (hu:A.in1.units<cLine) (D:l≠it) (B:it≠S) (I:l≠S) {s:Shared} {c:Nat} (h0:0<its.length) (st:s.heap.IsListIter it l 0) (hl:s.heap.IsList l its.toArray)
 (U:s.heap.get? S=some { cls:=.type "list",dict:=none,data:=.seq #[] c,slots:=#[] }) (hP:Paired (PairV s.heap) its ps)
 (hR:∀ h' tk j',(∀ x o,x≠it->x≠S->s.heap.get? x=some o->h'.get? x=some o)->Top ps its.length j'->R (.ok (.ret (its.getD j' .none))) { s with heap:=h',toks:=tk }) :
 codeAny (model prog w) A (.builtin "max.loop" ⟨[.ref it,.none,.ref S],[]⟩) R s:=by
 have nm:(toString "max"++toString ".loop":String)="max.loop":=by decide
 have hx:its[0]?=some (its.getD 0 .none):=by simp[List.getD_eq_getElem?_getD,h0]
 refine codeAny_builtin PySem.F.entry_max_loop (by
  rw[aEl PySem.F.plain_max_loop _];show wpAny _ A.in1 (seqItems? (Value.ref S) >>= _) _ _ s;refine aE7 (wpAny_seqItems U rfl ?_);show wpAny _ A.in1 (tryCatch (pyNext (Value.ref it)) _ >>= _) _ _ s;refine aE7 (wpAny_tryCatch (wpAny_pyNext_list_item st hl (x:=its.getD 0 .none) (by simpa using hx) λh' Y L=>?_));have J:=L.extBut S _ (Ne.symm B) U;have al:=hl.extBut L.extBut D;have am:∀ t o,s.heap.get? t=some o->o.cls=.type "tuple"->t≠it:=λt o e c z=>by
   obtain⟨o',e',M,_⟩:=st;rw[z,e']at e;cases e;rw[M]at c;exact absurd c (by simp)
  have ao:∀ t o,s.heap.get? t=some o->o.cls=.type "tuple"->t≠S:=λt o e c z=>by
   rw[z,U]at e;cases e;exact absurd c (by simp)
  show wpAny _ A.in1 (updateSeq S (λ_=>#[its.getD 0 .none,its.getD 0 .none]) >>= _) _ _ { s with heap:=h' };refine aE7 (wpAny_updateSeq J rfl ?_);rw[nm];obtain⟨M,e1⟩:∃ M,(h'.update S (Obj.mapSeq λ_=>#[its.getD 0 .none,its.getD 0 .none])).get? S=some (aCs (its.getD 0 .none) M):=⟨_,aEr _ J rfl⟩;have t1:Top ps 1 0:=⟨by decide,λk hk=>by
   have e:k=0:=by omega
   rw[e,gK];omega⟩
  refine aE8 ⟨plainId_quiet PySem.F.plain_max_loop _,aBk (ps:=ps) (its:=its) hh hu D B I _ 1 { s with heap:=h'.update S (Obj.mapSeq λ_=>#[its.getD 0 .none,its.getD 0 .none]) } 0 _ rfl h0 t1 (Y.at λo e=>(aEe _ _ (Ne.symm B)).trans e) (al.at λo e=>(aEe _ _ (Ne.symm I)).trans e) e1 (Paired.mapP hP λv p x=>x.at λt o _ e c=>(aEe _ _ (Ne.symm (ao t o e c))).trans (L.extBut t o (am t o e c) e)) λap tk t' kp=>?_⟩;exact hR ap tk t' (λx o h1 h2 e=>kp x o h1 h2 ((aEe _ _ (Ne.symm h2)).trans (L.extBut x o h1 e))))
def i7 (a:Value):argsOk "max" ⟨[a],[]⟩:=by unfold argsOk;kernel_rfl
def Q8 {E:Value->Shared->Prop} {s:Shared} {Q:Value->Shared->Prop} (hh:A.handled=none) (hu:A.in1.in1.units<cLine) (hl:s.heap.IsList l its.toArray) (h0:0<its.length) (hP:Paired (PairV s.heap) its ps)
 (h:∀ h' tk j,(∀ x o,s.heap.get? x=some o->h'.get? x=some o)->Top ps its.length j->Q (its.getD j .none) { s with heap:=h',toks:=tk }):wpAny (model prog w) A (call (.builtin "max") [.ref l]) Q E s:=by
 have nm:(toString "max"++toString ".loop":String)="max.loop":=by decide
 refine kmk_tree PySem.F.kind_max PySem.F.plain_max PySem.F.entry_max (i7 _) (by
  show wpAny _ A.in1 (Builtin.Builtins.bindParams "max" ["key","default"] 0 ⟨[],[]⟩ >>= _) _ _ s;refine aE7 (wpAny_of_eq (show Builtin.Builtins.bindParams "max" ["key","default"] 0 ⟨[],[]⟩=pure [none,none] from rfl) (aE7 (aE8 ?_)));refine aE7 (wpAny_pyIter_list hl ?_);refine aE7 (wpAny_newObj_type ?_);rw[nm];have hlt:l<s.heap.objs.size:=by obtain⟨_,e,_⟩:=hl;exact aEf e
  refine aE8 ⟨plainId_quiet PySem.F.plain_max_loop _,aAS (l:=l) (it:=s.heap.objs.size) (its:=its) (ps:=ps) hh (by first | exact hu | (simp at hu ⊢;omega)) (aEw hlt) (by rw[Heap.size_push];exact aEw (Nat.lt_succ_self _)) (by rw[Heap.size_push];exact aEw (Nat.lt_succ_of_lt hlt)) h0 ⟨_,aEa _ (aEg _ rfl),rfl,rfl⟩ ((hl.push _).push _) (aEg _ rfl) (Paired.mapP hP λv p x=>x.at λt o _ e _=>aEa _ (aEa _ e)) λh' tk j kp ht=>?_⟩;refine h h' tk j (λx o e=>?_) ht;have hx:=aEf e;exact kp x o (aEw hx) (by rw[Heap.size_push];exact aEw (Nat.lt_succ_of_lt hx)) (aEa _ (aEa _ e)))
end
section
variable {X:Cx} {pins:List (Addr×Obj)} {σ:St} {H:Hp} {s:Shared}
def aAT (I:Inv X pins σ H s):∀ {z:List V} {its:List Value} {ps:List (Int×Int)},Vals z its->CW.Prs H z ps->Paired (PairV s.heap) its ps:=by
 intro z
 induction z with
 | nil=>intro its ps r p;cases r;cases p;exact .nil
 | cons x xs D =>
  intro its ps r p;cases r with
  | cons r1 r2 =>
   cases p with
   | cons p1 p2 =>
    refine .cons ?_ (D r2 p2);obtain⟨t,e,J⟩:=p1;subst e;cases r1;obtain⟨_,its',B,o,L,M,n,hd⟩:=(show ObjOk X.prog X.w H s.heap t (.tup [.int _,.int _]) from I.hok t _ J);obtain⟨u1,u2,rfl,⟨U,rfl⟩,⟨Y,rfl⟩⟩:=B.two;exact⟨t,o,n,U,Y,rfl,L,M,hd⟩
def i8 (Y:X.calm=true) (hu:X.A.units+64<cLine):dY X (.builtin "max") (λxs H Q=>∃ (a:Addr) (us:List V) (ps:List (Int×Int)),xs=[.ref a]/\H a=some (.lst us)/\CW.Prs H us ps/\us≠[] /\
 ∀ j x,Top ps ps.length j->us[j]?=some x->Q x H):=by
 intro pins s σ H xs us Q I r h;obtain⟨a,z,ps,rfl,ha,M,B,q⟩:=h;obtain⟨u,rfl,rx⟩:=gG r;cases rx;obtain⟨its,D,pl,hz⟩:=I.list (SqL.of ha);have l1:z.length=ps.length:=Paired.length M;have J:z.length=its.length:=D.length;have h0:0<its.length:=by rw[<- J];exact List.length_pos_iff.mpr B
 refine Q8 (I.ok.hd Y) (by simp only[Around.in1_units];omega) pl.isList h0 (aAT I D M) λh' tk j kp ht=>?_;have hj:j<z.length:=by rw[J];exact ht.1
 have U:z[j]?=some z[j]:=aEj hj;obtain⟨v,hv,L⟩:=D.get U;refine⟨z[j],H,I.kept kp,?_,q j z[j] (by rw[<- l1,J];exact ht) U⟩;rw[List.getD_eq_getElem?_getD,hv];exact L
end
def i9 {X:Cx} {a:Expr} {ta:TE} (z:PE X a ta) (he:∀ whole,isTrue a X.env whole=(do let v <- whole;standAt a.pos;holding [v] (truthy v))) :
 PT X a (fun σ H Q=>ta σ H λx H'=>∃ d kvs,x=.ref d/\H' d=some (.dK kvs)/\Q (!kvs.isEmpty) H'):=by
 intro pins s σ H Q I h;refine isTrue_plain (thn (z pins s σ H _ I h) λv L ⟨x,H1,B,r1,d,kvs,ex,hd,D⟩=>?_) (he _);subst ex;obtain rfl:v=Value.ref d:=r1;exact aBf B (.inl hd) λs' J=>⟨H1,J,D⟩
def yA:bootBuiltins "abs"=some (.builtin "abs"):=by decide +kernel
def yB {X:Cx}:dY X (.builtin "abs") (λxs H Q=>∃ i:Int,xs=[.int i]/\Q (.int (if i<0 then -i else i)) H):=by
 intro pins s σ H xs us Q I r h;obtain⟨i,rfl,q⟩:=h;obtain⟨u,rfl,z⟩:=gG r;obtain⟨t,rfl⟩:=z;exact call_abs_int λu tk=>⟨.int (if i<0 then -i else i),H,I.tok _,⟨u,rfl⟩,q⟩
section
variable {X:Cx}
def j0:dY X (.builtin "len") (λxs H Q=>∃ (a:Addr) (kvs:List (Key×V)),xs=[.ref a]/\H a=some (.dK kvs)/\Q (.int kvs.length) H):=by
 intro pins s σ H xs us Q I r h;obtain⟨a,kvs,rfl,z,q⟩:=h;obtain⟨u,rfl,B⟩:=gG r;cases B;exact aDi I (Rd.of z) λt s' D=>⟨.int _,H,D,⟨_,rfl⟩,q⟩
end
open PySem.MeetsSeq
end L2
namespace L2
open PySem PySem.W PySem.Spec PyProof.Rows
end L2
namespace L2
open PySem PySem.Spec PyProof.Rows
def j3 {d:Addr} {od:Obj} {kvs:List (Key×V)} {g:TG} {tb:TS} {D:sO} {σ:St} {H:Hp} (Pv:Nat->St->Hp->Prop) (h0:Pv 0 σ H) (L:∀ i σ H,i<=kvs.length->Pv i σ H->H d=some (.frz od (.dK kvs)))
 (hs:∀ i k x σ H t,kvs[i]?=some (k,x)->Pv i σ H->H t=none->g (.ref t) σ (upd H t (.tup [kV k,x])) λz H2=>tb { D with nx:=Pv (i+1),ct:=Pv (i+1),bk:=D.nx } z H2) (hd:∀ σ H,Pv kvs.length σ H->D.nx σ H) :
 ∃ W:Nat->Nat->St->Hp->Prop,(∃ m,W 0 m σ H)/\∀ i m σ H,W i m σ H ->
  ((Itd d od kvs).stop i H/\D.nx σ H)\/((Itd d od kvs).go i H/\∃ N:St->Hp->Prop,(∀ B H',N B H'->∃ J,J<m/\W (i+1) J B H')/\∀ x H',(Itd d od kvs).yld i H x H'->g x σ H' λz H2=>tb { D with nx:=N,ct:=N,bk:=D.nx } z H2):=by
 refine⟨λi m σ H=>m=kvs.length - i/\i<=kvs.length/\Pv i σ H,⟨kvs.length,by simp,Nat.zero_le _,h0⟩,?_⟩;rintro i m σ H ⟨rfl,hi,p⟩;have q:=L i σ H hi p
 by_cases I:i<kvs.length
 .refine .inr ⟨⟨q,I⟩,Pv (i+1),λB H' M=>⟨kvs.length - (i+1),by omega,rfl,I,M⟩,λx H' y=>?_⟩;obtain⟨t,k,v,rfl,U,Y,rfl⟩:=y;exact hs i k v σ _ t Y p U
 .have e:i=kvs.length:=by omega
  subst e;exact .inl ⟨⟨q,Nat.le_refl _⟩,hd σ H p⟩
section
variable {X:Cx}
def Its (x:Str):It:=⟨λi _=>i<x.cps.size,λi H v H'=>H'=H/\∃ c,x.cps[i]?=some c/\v=.str ⟨#[c]⟩,λi _=>x.cps.size<=i⟩
def aAU {P:Program} {w:World} {K:PySem.W.Frag} {tg:Expr} (x:Str) (t:Tok) (it:Addr):qJ P w K tg (Its x) [it] it (λi h=>h.IsStrIter it "str_ascii_iterator" x t i) where
 mem:=by simp
 obj:=λi h st b hb=>by
  have e:b=it:=by simpa using hb
  subst e;obtain⟨o,e,c,d⟩:=st;exact⟨o,e,λv z=>by rw[d]at z;cases z⟩
 keep:=λi h h' st k=>let ⟨o,he,r⟩:=st;⟨o,k it (by simp) _ he,r⟩
 item:=by
  intro X hP hw hK hc i pins s σ H E I hf st hg;subst hP hw hK;obtain⟨c,hx⟩:∃ c,x.cps[i]?=some c:=⟨_,Array.getElem?_eq_getElem hg⟩;refine wpAny_pyNext_ascii_item st hx λh' st' sb=>?_;obtain⟨o,e,cc,d⟩:=id st';exact⟨_,rfl,xH (s:={ s with heap:=h',toks:=s.toks+1 }) e cc d (by decide) ⟨.str ⟨#[c]⟩,H,I.turnedF (fp:=[it]) (t':=s.toks+1) (λb o hb e=>sb.extBut b o (λz=>hb (by simp[z])) e) hf,⟨_,rfl⟩,⟨rfl,c,hx,rfl⟩,st',λb hb=>(hf b hb).1⟩⟩
 done:=by
  intro X hP hw hK hc i pins s σ H E I hf st hg;subst hP hw hK;exact wpAny_pyNext_ascii_end (I.ok.hd hc) st (Array.getElem?_eq_none hg) λh' eb=>⟨rfl,I.turnedF (fp:=[it]) (t':=s.toks) (λb o hb e=>eb b o (λz=>hb (by simp[z])) e) hf⟩
 self:=λ_ _ _ _ _ st h=>wpAny_pyIter_striter_ascii st h
def aE3 (td:TE):TI:=fun σ H R=>td σ H λx H1=>∃ z:Str,x=.str z/\z.cps.all (·<128)=true/\R (Its z) H1
def aCt {tg:Expr} {o:Expr} {td:TE} (J:PE X o td):PI X tg o (aE3 td):=by
 intro pins s σ H R I h;refine thn (J pins s σ H _ I h) λu B ⟨x,H1,D,L,z,ex,M,q⟩=>?_;subst ex;obtain⟨t,rfl⟩:=L;refine wpAny_pyIter_ascii M ?_;refine⟨B.heap.objs.size,[B.heap.objs.size],_,_,H1,rfl,D.kept (t':=B.toks) λb o e=>aEa _ e,aAU z t _,⟨_,aEg _ rfl,rfl,rfl⟩,λb U=>?_,q⟩;have e:b=B.heap.objs.size:=by simpa using U
 subst e;exact D.fpOk (Nat.le_refl _) (D.hok.fresh (Nat.le_refl _))
def aAV {z:Str} {B:St} {g:TG} {tt:TT} {te:TE} {H:Hp} {Q:VK} (Pv:Nat->List V->Hp->Prop) (h0:Pv 0 [] H) (M:∀ i ys H,i<=z.cps.size->Pv i ys H->ys.length<sizeLine)
 (hs:∀ i c ys H,z.cps[i]?=some c->Pv i ys H->g (.str ⟨#[c]⟩) B H λI H2=>tt I H2 λb L=>if b=true then te I L λy U=>Pv (i+1) (ys++[y]) U else Pv (i+1) ys L) (hd:∀ ys H,Pv z.cps.size ys H->∀ D,H D=none->Q (.ref D) (upd H D (.lst ys))) :
 oX (Its z) B g tt te Q H:=by
 refine⟨λi m ys H=>m=z.cps.size - i/\i<=z.cps.size/\Pv i ys H,⟨z.cps.size,by simp,Nat.zero_le _,h0⟩,?_⟩;rintro i m ys H ⟨rfl,hi,p⟩;refine⟨M i ys H hi p,?_⟩
 by_cases J:i<z.cps.size
 .refine .inr ⟨J,Pv (i+1),λY H' p'=>⟨z.cps.size - (i+1),by omega,rfl,J,p'⟩,λx H' y=>?_⟩;obtain⟨e,c,hc,rfl⟩:=y;subst e;exact hs i c ys _ hc p
 .have e:i=z.cps.size:=by omega
  subst e;exact .inl ⟨Nat.le_refl _,hd ys H p⟩
end
open PySem.W
section
variable {X:Cx} {pos:Pos}
def qU:∀ {xs:List V} {us:List Value} (n:Nat),Vals xs us->Vals (xs.take n) (us.take n)
 | _,_,0,_=>by simp;exact .nil
 | _,_,_+1,.nil=>.nil
 | _,_,n+1,.cons r t=>.cons r (qU n t)
def mS:∀ {xs:List V} {us:List Value} (n:Nat),Vals xs us->Vals (xs.drop n) (us.drop n)
 | _,_,0,h=>h
 | _,_,_+1,.nil=>.nil
 | _,_,n+1,.cons _ t=>mS n t
def uT:∀ {a:List V} {b:List Value} {z:List V} {B:List Value},Vals a b->Vals z B->Vals (a++z) (b++B)
 | _,_,_,_,.nil,h=>h
 | _,_,_,_,.cons r t,h=>.cons r (uT t h)
def aAW {e:Expr} {es:List Expr} {t:TG} {u:TGs} {p:Pos} (h1:PG X e t) (h2:PGs X es u)
 (hs:(assignEach (.Starred e p :: es) X.env).map (·.2)=assign e X.env :: (assignEach es X.env).map (·.2):=by rfl):PGs X (.Starred e p :: es) (o7 t u):=by
 intro pins s σ H vs us Q I r h;obtain⟨v,L,e1,h⟩:=h;subst e1;cases r with
 | cons r1 r2 =>
  rw[hs];refine assignInOrder_cons (thn (h1 pins s σ H _ _ _ I r1 h) λ_ B ⟨z,H1,D,J⟩=>?_);exact h2 pins B z H1 _ _ Q D r2 J
end
end L2
namespace L2
open PySem PySem.Spec PyProof.Rows
structure GDict (P:Program) (w:World) (K:PySem.W.Frag) (d:Addr) (kvs:List (Key×Value)):Prop where
 nsys:(d == sysModules)=false
 obj:∃ es ep,K.lookup d=some ⟨.type "dict",none,.dict es ep,#[]⟩/\KeysOf (bA P w) es/\Pairs (bA P w) es.toList kvs/\(kvs.map (·.1)).Nodup
def GDict.of {P:Program} {w:World} {K:PySem.W.Frag} {h:Heap} {d:Addr} {kvs:List (Key×Value)} (g:GDict P w K d kvs) (x:K.In h):h.DictOf (bA P w) d kvs:=by
 obtain⟨es,ep,a,b,c,e⟩:=g.obj;exact⟨_,es,ep,x _ _ a,⟨rfl,rfl,rfl⟩,rfl,b,c,e⟩
def uU (x:Str) (t:Tok):rP (Sum.inr x) (.str x t)=true:=by
 show (x == x)=true;exact beq_self_eq_true x
abbrev uV (w:World) (p:Str×Tok×Addr):DictEntry:=⟨PyData.keyHash w.params p.1,.str p.1 p.2.1,.ref p.2.2⟩
def aAX {P:Program} {w:World} {K:PySem.W.Frag} {d:Addr} {ep:Nat} (l:List (Str×Tok×Addr)) (h:K.lookup d=some ⟨.type "dict",none,.dict (l.map (uV w)).toArray ep,#[]⟩) (hs:(d == sysModules)=false) (nd:(l.map (·.1)).Nodup):GDict P w K d (l.map λp=>(Sum.inr p.1,.ref p.2.2)):=by
 refine⟨hs,_,ep,h,λe he=>?_,?_,?_⟩
 .have B:e∈l.map (uV w):=by simpa using he
  obtain⟨p,_,rfl⟩:=aFN.mp B;exact⟨Sum.inr p.1,uU p.1 p.2.1,rfl⟩
 .rw[List.toList_toArray];clear h nd hs
  induction l with
  | nil=>exact .nil
  | cons p l D=>exact .cons (uU p.1 p.2.1) rfl D
 .rw[aFD];have e:(l.map ((·.1)∘λp:Str×Tok×Addr=>((Sum.inr p.1:Key),Value.ref p.2.2)))=(l.map (·.1)).map (Sum.inr:Str->Key):=by rw[aFD];rfl
  rw[e];exact nd.map (f:=(Sum.inr:Str->Key)) λa b h=>by intro z;exact h (Sum.inr.inj z)
section
variable {X:Cx} {i:Expr} {ty:TE} {p pos:Pos}
def aDo (kvs:List (Key×Value)) (ty:TE):TE:=fun σ H Q=>ty σ H λy H1=>∃ (x:Str) (t:Addr),y=.str x/\valueAt kvs (Sum.inr x)=some (.ref t)/\Q (.ref t) H1
def aBl {D:Str} {d:Addr} {kvs:List (Key×Value)} (g:GDict X.prog X.w X.K d kvs) (J:Gl X D) (L:X.mg D=some (.ref d)) (hi:PE X i ty) (hs:aCm i) (hdb:(D == ("__debug__":Str))=false:=by decide):PE X (.Subscript (.Name D p) i pos) (aDo kvs ty):=by
 intro pins s σ H Q I h;refine V9 PySem.F.slot_dict_getitem.lookup hs (oQ I J L (thn (hi pins s σ H _ I h) λiv s2 ⟨y,H2,z,M,x,t,U,ht,Y⟩=>?_) hdb);subst U;have B:=g.of z.kIn;refine⟨?_,wpAny_getItem_of (knd:=bA X.prog X.w) (k:=Sum.inr x) (nP (k:=Sum.inr x) M) B.mapOf ht ⟨.ref t,H2,z.tok _,rfl,Y⟩⟩;obtain⟨o,es,ep,e,ex,_⟩:=B;exact⟨o,e,ex.1⟩
end
end L2
namespace CW
open PySem L2
abbrev kU (x:Str):List Nat:=x.cps.toList
def j4 (x:Str):(kU x).length=x.length:=Array.length_toList
abbrev j5:Str:="abcdefghijklmnopqrstuvwxyz"
def nJ (x:Str):Prop:=x.cps.all (·<128)=true
def yC (t z:Str) (most:Int):Bool:=decide (t≠"") && (decide ((t.length:Int)<=most) && (kU t).all λc=>decide (c∈kU z))
end CW
namespace L2
open PySem PySem.Spec PyProof.Rows
end L2
namespace CW
open PySem L2
def aAY {X:Cx} {x z:Str} {pos:Pos} (D:Gl X x) (B:∃ t,X.mg x=some (.str z t)) (hd:(x == ("__debug__":Str))=false:=by decide):PE X (.Name x pos) (tC (.str z)):=by
 obtain⟨t,B⟩:=B;exact fP D B ⟨t,rfl⟩ hd
def aAZ {X:Cx} {x:Str} {z:Int} {pos:Pos} (D:Gl X x) (B:∃ t,X.mg x=some (.int z t)) (hd:(x == ("__debug__":Str))=false:=by decide):PE X (.Name x pos) (tC (.int z)):=by
 obtain⟨t,B⟩:=B;exact fP D B ⟨t,rfl⟩ hd
end CW
namespace L2
open PySem PySem.Spec PyProof.Rows
section
variable {X:Cx}
def aCu {i:Nat} {x:Str} {pos:Pos} {pins:List (Addr×Obj)} {s:Shared} {σ:St} {H:Hp} {v:V} {Q:Value->Shared->Prop} {E:Value->Shared->Prop} (I:Inv X pins σ H s) (J:X.N[i]?=some x) (L:Vis X.env.scope x) (e:σ[i]?=some (some v)) (h:∀ u,RelV v u->Q u s)
 (hd:(x == ("__debug__":Str))=false:=by decide) (B:(x == ("__classdict__":Str))=false:=by decide):wpAny (model X.prog X.w) X.A (eval (.Name x pos) X.env) Q E s:=by
 obtain⟨m,M,U⟩:=I.loc;obtain⟨u,r,l⟩:=U i x v J e L;rcases l with ⟨hk,Y⟩ | ⟨hk,c,D,z⟩
 .exact wpAny_Name (wpAny_loadName_local I.ok.kind hk M Y (h u r)) hd
 .rcases hk with hk | hk
  .exact wpAny_Name (wpAny_loadName_cell I.ok.kind hk D z (h u r)) hd
  .exact wpAny_Name (wpAny_loadName_free I.ok.kind hk D z (h u r) B) hd
end
section
variable {X:Cx} {pins:List (Addr×Obj)} {σ:St} {H H':Hp} {s:Shared} {h':Heap}
def Inv.many {t':Nat} (I:Inv X pins σ H s) (k:∀ b u,s.heap.get? b=some u->h'.get? b=some u) (ext:∀ b o,H b=some o->H' b=some o) (new:∀ b o,H' b=some o->H b=none->s.heap.objs.size<=b) (hok:∀ b o,H' b=some o->H b=none->ObjOk X.prog X.w H' h' b o)
 (z:∀ b o,H b=some o->ObjOk X.prog X.w H' h' b o):Inv X pins σ H' { s with heap:=h',toks:=t' }:=by
 refine I.un (H':=H') ⟨λb o e n _ _=>k b o e,λb o e n _ _=>⟨o.slots,k b o e⟩,λb o e n _=>?_,λb o e _=>⟨o,k b o e⟩,λb xs e=>ext b _ e,λb o u e=>ext b _ e,λb ps e=>⟨#[],by rw[ext b _ e];simp⟩⟩ (λb o e=>?_)
 .cases q:H' b with
  | none=>rfl
  | some o'=>exact absurd (aEf e) (Nat.not_lt.mpr (new b o' q n))
 .cases q:H b with
  | none=>exact hok b o e q
  | some o' =>
   have:=ext b o' q;rw[e]at this;cases this;exact z b o q
end
open PySem.W
def jN:List Addr->List V->List V->Addr->Option (V×V)
 | T :: z,x :: xs,y :: ys,b=>if b=T then some (x,y)else jN z xs ys b
 | _,_,_,_=>none
def mT:∀ {z:List Addr} {xs ys:List V} {b:Addr} {p:V×V},jN z xs ys b=some p->b∈z/\∃ j:Nat,z[j]?=some b/\xs[j]?=some p.1/\ys[j]?=some p.2
 | [],_,_,_,_,h=>by simp[jN]at h
 | T :: z,[],_,_,_,h=>by simp[jN]at h
 | T :: z,x :: xs,[],_,_,h=>by simp[jN]at h
 | T :: z,x :: xs,y :: ys,b,p,h=>by
  unfold jN at h;split at h
  .rename_i e
   cases h;subst e;exact⟨aEb,0,rfl,rfl,rfl⟩
  .obtain⟨h1,j,h2,h3,h4⟩:=mT h;exact⟨aEc _ h1,j+1,by simpa using h2,by simpa using h3,by simpa using h4⟩
def J8:∀ {z:List Addr} {xs ys:List V} {j:Nat} {T:Addr} {x y:V},z.Nodup->z[j]?=some T->xs[j]?=some x->ys[j]?=some y->jN z xs ys T=some (x,y)
 | [],_,_,_,_,_,_,_,h,_,_=>by simp at h
 | T0 :: z,[],_,_,_,_,_,_,_,h,_=>by simp at h
 | T0 :: z,B :: xs,[],_,_,_,_,_,_,_,h=>by simp at h
 | T0 :: z,B :: xs,D :: ys,0,T,x,y,_,h,h1,h2=>by
  simp at h h1 h2;subst h h1 h2;simp[jN]
 | T0 :: z,B :: xs,D :: ys,j+1,T,x,y,nd,h,h1,h2=>by
  rw[List.nodup_cons]at nd;simp only[List.getElem?_cons_succ]at h h1 h2;have:T≠T0:=λe=>nd.1 (by rw[<- e];exact aEk h);unfold jN;rw[if_neg this];exact J8 nd.2 h h1 h2
def sE (H:Hp) (S:Addr) (z:List Addr) (xs ys:List V):Hp:=λb=>if b=S then some (.lst (z.map V.ref))else match jN z xs ys b with | some p=>some (.tup [p.1,p.2]) | none=>H b
def yD:∀ z:List Addr,Vals (z.map V.ref) (z.map Value.ref)
 | []=>.nil
 | T :: z=>.cons rfl (yD z)
def j6 {X:Cx} {pins:List (Addr×Obj)} {σ:St} {H:Hp} {s:Shared} (I:Inv X pins σ H s) {h2:Heap} {tk c:Nat} {S:Addr} {B:List Addr} {xs ys:List V}
 (J:∀ b o,s.heap.get? b=some o->h2.get? b=some o) (L:s.heap.objs.size<=S) (U:h2.get? S=some { cls:=.type "list",dict:=none,data:=.seq (B.map Value.ref).toArray c,slots:=#[] })
 (Y:∀ T∈B,S<T) (nd:B.Nodup) (hl:B.length=xs.length) (am:xs.length=ys.length) (D:xs.length<=sizeLine)
 (at_:∀ (j:Nat) (T:Addr),B[j]?=some T->∃ x y u v,xs[j]?=some x/\ys[j]?=some y/\RelV x u/\RelV y v/\h2.get? T=some { cls:=.type "tuple",data:=.seq #[u,v] }) :
 ∃ H',Inv X pins σ H' { s with heap:=h2,toks:=tk }/\H S=none/\Same H H'/\H' S=some (.lst (B.map V.ref))/\∀ (j:Nat) (T:Addr),B[j]?=some T->∃ x y,xs[j]?=some x/\ys[j]?=some y/\H' T=some (.tup [x,y]):=by
 have nS:∀ c o,H c=some o->c≠S:=λc o e z=>by
  have lc:=(I.hok c o e).lt;rw[z]at lc;exact Nat.lt_irrefl _ (aEq lc L)
 have al:∀ c o,H c=some o->c∉B:=λc o e z=>Nat.lt_irrefl _ (Nat.lt_trans (aEq (I.hok c o e).lt L) (Y c z));have ext:∀ c o,H c=some o->sE H S B xs ys c=some o:=λc o e=>by
  unfold sE;rw[if_neg (nS c o e)];cases D:jN B xs ys c with
  | none=>exact e
  | some p=>exact absurd (mT D).1 (al c o e)
 have atT:∀ (j:Nat) T,B[j]?=some T->∃ x y,xs[j]?=some x/\ys[j]?=some y/\sE H S B xs ys T=some (.tup [x,y]):=λj T e=>by
  obtain⟨x,y,u,v,h1,h2,_⟩:=at_ j T e;refine⟨x,y,h1,h2,?_⟩;unfold sE;rw[if_neg (aEz (Y T (aEk e))),J8 nd e h1 h2]
 refine⟨sE H S B xs ys,I.many (h':=h2) (t':=tk) J ext (λc o e hN=>?_) (λc o e hN=>?_) (λc o e=>?_),I.hok.fresh L,ext,by unfold sE;rw[if_pos rfl],atT⟩
 .unfold sE at e;split at e
  .rename_i z;rw[z];exact L
  .cases D:jN B xs ys c with
   | none=>rw[D]at e;rw[hN]at e;cases e
   | some p=>exact Nat.le_trans L (Nat.le_of_lt (Y c (mT D).1))
 .unfold sE at e;split at e
  .rename_i z
   cases e;rw[z];exact⟨by rw[aE9,hl];exact D,B.map Value.ref,_,yD B,U⟩
  .cases D:jN B xs ys c with
   | none=>rw[D]at e;rw[hN]at e;cases e
   | some p =>
    rw[D]at e;cases e;obtain⟨_,j,h1,M,h3⟩:=mT D;obtain⟨x,y,u,v,e1,e2,ru,rv,hp⟩:=at_ j c h1;rw[e1]at M;rw[e2]at h3;cases M;cases h3;exact⟨by show 2<=sizeLine;decide,[u,v],.cons ru (.cons rv .nil),_,hp,rfl,_,rfl⟩
 .exact(I.hok c o e).stay (λc' u _ e=>J c' u e) (λc' e=>ext _ _ e) (λc' xs e=>ext _ _ e)
section
variable {X:Cx}
def Q9 (td:TE):TE:=fun σ H Q=>td σ H λx H1=>∃ d kvs,x=.ref d/\H1 d=some (.dK kvs) /\
 ∀ (S:Addr) (z:List Addr) (H':Hp),H1 S=none->Same H1 H'->H' S=some (.lst (z.map V.ref))->z.length=kvs.length->(∀ (j:Nat) (T:Addr),z[j]?=some T->∃ k y,kvs[j]?=some (k,y)/\H' T=some (.tup [kV k,y]))->Q (.ref S) H'
def zS {o:Expr} {td:TE} {p apos B pos:Pos} (hc:X.calm=true) (hg:Gl X "list") (hm:X.mg "list"=none) (ho:PE X o td)
 (D:attributeBase o "items" X.env (eval o X.env)=eval o X.env:=by rfl) (J:(apos.endLine == B.line)=true:=by rfl) :
 PE X (.Call (.Name "list" p) [.Call (.Attribute o "items" apos) [] [] B] [] pos) (Q9 td):=by
 intro pins s σ H Q I h;refine wpAny_Call_Name_kw (jU I hg hm dH ?_ (by decide) (by decide));refine PyProof.Rows.callWith_type1 ?_ rfl rfl;show wpAny _ _ (spliced ((false,eval (.Call (.Attribute o "items" apos) [] [] B) X.env) :: backTo pos (starEach [] X.env))) _ _ s;refine Calls.spliced_cons ?_;refine wpAny_Call_method0_late D J (thn (ho pins s σ H _ I h) λu L ⟨x,H1,I1,rx,d,kvs,ex,hd,q⟩=>?_);subst ex;obtain rfl:u=Value.ref d:=rx;obtain⟨z,M,vs,U,dd⟩:=nQ I1.hok hd;obtain⟨ep,al⟩:=id dd.dictAt;obtain⟨t1,t2,_⟩:=uS I1 (.inl ⟨kvs,.inl hd⟩);have rl:=U.length;refine⟨"dict","dict.items",PySem.F.plainAttrs_dict,PySem.F.slot_dict_items,PySem.F.type_dict_items,t1,t2,Calls.callWith_builtin rfl (PySem.evalArgs_none ?_)⟩;refine call_meetsIn PySem.F.slot_dict_items dd.typeIs PySem.F.entry_dict_items (PySem.F.args_dict_items_1 _) (meets_dict_items (bA X.prog X.w) d M) ⟨⟨vs,dd⟩,?_⟩;have hv:(L.heap.push { cls:=.type "dict_items",data:=.fields #[.ref d] }).IsItemsView L.heap.objs.size d:=⟨_,aEg _ rfl,rfl,rfl⟩;refine Calls.spliced_nil ?_;refine kdx_call (knd:=bA X.prog X.w) (kvs:=vs) (ep:=ep) (I1.ok.hd hc) hv (al.push _) (by omega) λh' tk am c as hk hS hl hG Y=>?_;have hsz:(L.heap.push { cls:=.type "dict_items",data:=.fields #[.ref d] }).objs.size=L.heap.objs.size+1:=Heap.size_push ..;have ea:am=(as.map Value.ref).toArray:=by rw[<- Y,Array.toArray_toList]
 rw[ea]at hS;obtain⟨H',I',hN,sm,eS,eT⟩:=j6 (tk:=tk) (xs:=kvs.map λp=>kV p.1) (ys:=kvs.map (·.2)) I1 (λb o e=>hk b o (aEa _ e)) (Nat.le_of_lt (by show L.heap.objs.size<(L.heap.push _).objs.size;rw[hsz];exact Nat.lt_succ_self _)) hS hG.above (hG.rise.imp λh=>aEw h) (by rw[hl,aE9];omega) (by rw[aE9,aE9]) (by rw[aE9];exact z) λj T e=>by
  obtain⟨key,k,x,e1,e2,e3⟩:=hG.pairs j T e;have hj:j<kvs.length:=by have:=(aFK.mp e1).1;omega
  obtain⟨u,hu,ru⟩:=J4 U (aEj hj);rw[e1]at hu;cases hu;exact⟨_,_,_,_,by rw[aEx,aEj hj];rfl,by rw[aEx,aEj hj];rfl,Q6 e2,ru,e3⟩
 refine⟨.ref _,H',I',rfl,q _ as H' hN sm eS (by omega) λj T e=>?_⟩;obtain⟨x,y,e1,e2,e3⟩:=eT j T e;rw[aEx,aFJ]at e1 e2;obtain⟨p1,h1,rfl⟩:=e1;obtain⟨p2,h2,rfl⟩:=e2;rw[h1]at h2;cases h2;exact⟨p1.1,p1.2,h1,e3⟩
end
end L2
namespace L2
open PySem PySem.Spec PyProof.Rows
def aDp (H:Hp) (Q:VK) (xs:List V):Prop:=∀ (p:Addr) (H':Hp),Same H H'->H' p=some (.tup xs)->Q (.ref p) H'
section
variable {prog:Program} {w:World} {A:Around} {E:Value->Shared->Prop} {s:Shared}
def aA0 {t b:Addr} {vs ws:List Value} {Q:Value->Shared->Prop} (ht:IsTup s.heap t vs.toArray) (Y:IsTup s.heap b ws.toArray) (hv:vs=[])
 (h1:Q (.ref b) s):wpAny (model prog w) A (binaryOp .Add (.ref t) (.ref b)) Q E s:=by
 obtain⟨⟨cls,dd,data,sl⟩,L,M,n,hd⟩:=id ht;obtain⟨⟨U,I,data2,J⟩,z,B,n2,D⟩:=id Y;simp only at M hd B D;subst M hd B D;exact concat_meets ⟨_,L,rfl⟩ ⟨_,z,rfl⟩ noFill_tuple_add seq_tuple_add PySem.F.slot_tuple_add PySem.F.entry_tuple_add (PySem.F.args_tuple_add_2 _ _)
  (tuple_addW0 t b vs.toArray ws.toArray n n2 dd I sl J (by simp[hv])) ⟨L,z,h1⟩
def nK {t B:Addr} {items:Array Value} {L M:Value} {lo hi:Option Int} {Q:Value->Shared->Prop} (ht:IsTup s.heap t items) (hs:s.heap.IsSliceOf B L M .none) (pl:IsPart L lo) (U:IsPart M hi)
 (hw:HT.sIx items.size 0 lo=0/\HT.sIx items.size items.size hi=items.size) (h:Q (.ref t) s):wpAny (model prog w) A (getItem (.ref t) (.ref B)) Q E s:=by
 obtain⟨os,D,I,Y⟩:=id hs;have J:s.TypeIs (.ref B) "slice":=⟨os,D,I⟩;unfold getItem
 try with_reducible refine wpAny_holding ?_
 first | refine aE7 (aE8 ?_) | skip
 refine aE7 (wpAny_sequenceKey ht.typeIs (by decide) ?_);refine aE7 (wpAny_callSpecial?_slot (name:=Str.ofString "__getitem__") ht.typeIs PyProof.Rows.slot_tuple_getitem
  (wpAny_call_entry PyProof.Rows.slot_tuple_getitem ht.typeIs entry_tuple_getitem ?_ (args_tuple_getitem _ _)))
 show wpAny _ _ (Builtin.Tuple.tupleItemsOf (.ref t) >>= _) _ _ s;refine aE7 (tupleItemsOf_ ht ?_);refine aE7 (wpAny_typeOf J ?_);rw[if_pos (by decide)];refine aE7 (HT.sliceApplied_gen hs pl U ?_);have z:(((HT.sIx items.size 0 lo:Nat):Int) == 0 && (1:Int) == 1 && (HT.sIx items.size items.size hi - HT.sIx items.size 0 lo) == items.size)=true:=by
  rw[hw.1,hw.2];simp
 show wpAny _ _ (if (((HT.sIx items.size 0 lo:Nat):Int) == 0 && (1:Int) == 1 && (HT.sIx items.size items.size hi - HT.sIx items.size 0 lo) == items.size)=true then _ else _) _ _ s;rw[if_pos z];unfold Builtin.Tuple.tupleIsExact;refine aE7 (aE7 (wpAny_typeOf ht.typeIs (aE8 ?_)));rw[if_pos (by decide)];exact aE7 (wpAny_rule (aE8 ⟨_,rfl,aE8 h⟩))
end
section
variable {X:Cx}
def aDq:R2:=λx y H Q=>∃ a b xs ys,x=.ref a/\y=.ref b/\H a=some (.tup xs)/\H b=some (.tup ys)/\xs.length+ys.length<=sizeLine/\aDp H Q (xs++ys)
def pL:OpR X (binaryOp .Add) aDq:=by
 intro pins s σ H x y v u Q I D J h;obtain⟨a,b,xs,ys,rfl,rfl,z,B,U,q⟩:=h
 by_cases L:xs=[]
 .subst L;cases D;cases J;obtain⟨its,r1,p1,_⟩:=I.tuple (SqT.of z);obtain⟨M,r2,p2,_⟩:=I.tuple (SqT.of B);exact aA0 p1 p2 (r1.nil_iff.mpr rfl) ⟨.ref b,H,I,rfl,q b H (Same.refl _) (by rw[List.nil_append];exact B)⟩
 .refine aB5 pins s σ H _ _ v u Q I D J ⟨a,b,xs,ys,rfl,rfl,SqT.of z,SqT.of B,L,U,λe=>?_,λ_ p Y=>q p _ (Same.upd Y) aB⟩;subst e;exact q a H (Same.refl _) (by rw[List.append_nil];exact z)
def aE4:V->Option Int->Option Int->Hp->VK->Prop:=λx lo hi H Q=>∃ a xs,x=.ref a/\H a=some (.tup xs)/\aDp H Q (gI xs lo hi)
def W1:SlR X aE4:=by
 intro pins s σ H x v J L lo hi M Q I B hs pl D h;obtain⟨a,xs,rfl,z,q⟩:=h
 by_cases hw:HT.sIx xs.length 0 lo=0/\HT.sIx xs.length xs.length hi=xs.length
 .cases B;obtain⟨its,r,ht,Y⟩:=I.tuple (SqT.of z);have hlen:its.toArray.size=xs.length:=by rw[aEh];exact r.length.symm
  refine⟨"tuple",_,PyProof.Rows.slot_tuple_getitem.lookup,ht.typeIs,?_⟩;refine nK ht hs pl D (by rw[hlen];exact hw) ⟨.ref a,H,I,rfl,q a H (Same.refl _) ?_⟩;unfold gI;rw[hw.1,hw.2,List.drop_zero,Nat.sub_zero,aEn];exact z
 .exact aCc pins s σ H _ v J L lo hi M Q I B hs pl D ⟨a,xs,rfl,SqT.of z,hw,λp U=>q p _ (Same.upd U) aB⟩
end
section
variable {prog:Program} {w:World} {A:Around} {E:Value->Shared->Prop} {s:Shared}
def aA1 {l:Addr} {items:Array Value} {n i:Nat} {Q:List Value->Shared->Prop} (hl:IsTup s.heap l items) (hh:A.handled=none) (hi:i<n) (hn:n<=items.size+1) (hz:items.size<=16384)
 (h:∀ (h':Heap) (tk:Nat),(∀ b o,s.heap.get? b=some o->h'.get? b=some o)->Q (items.toList.take i++[.ref h'.objs.size]++(items.toList.drop i).drop (items.size+1 - n)) { s with heap:=h'.push (seqObj "list" ((items.toList.drop i).take (items.size+1 - n)).toArray 0),toks:=tk }):wpAny (model prog w) A (unpackItems (.ref l) n (some i)) Q E s:=by
 have U:l≠s.heap.objs.size:=by obtain⟨o,ho,_⟩:=hl;exact aEw (aEf ho)
 unfold unpackItems;refine aE7 ?_;unfold notIterableAtAll;refine aE7 (wpAny_specialOf hl.typeIs slot_tuple_iter.lookup ?_);refine aE8 ?_;simp only[Bool.false_eq_true,if_false];refine aE7 (wpAny_holding (iter_tuple hl ?_));refine aE7 (wpAny_holding (draw_tuple U i 0 _ _ ⟨_,aEg _ rfl,rfl,rfl⟩ (hl.push _) (by omega) λL z B=>?_));have D:IsTup L l items:=(hl.push _).extBut B.extBut U;rw[Nat.zero_add]at z;have I:=z;obtain⟨oi,am,_⟩:=I;have J:=D;obtain⟨ol,ao,_⟩:=J;rw[List.drop_zero];have ap:(items.toList.take i).length=i:=by rw[aEp,Array.length_toList];omega
 rw[if_neg (show ¬ ((items.toList.take i).length<i)by rw[ap];omega)];refine aE7 (wpAny_holding (PySem.W.kun_collect (s:={ s with heap:=L }) (T:="tuple_iterator") (.inr (.inr (.inr rfl))) (Walks.tuple (A:=A.in1) hh s.heap.objs.size l U items) (λj u st=>st.1.typeIs) (k:=i) (by omega) ⟨z,D⟩ (aEf am) (aEf ao) (λM tk hk=>?_) (by rw[sizeLine_eq];omega)));have Y:(items.toList.drop i).length=items.size - i:=by rw[List.length_drop,Array.length_toList]
 have al:(items.toList.drop i).length - (n - 1 - i)=items.size+1 - n:=by rw[Y];omega
 show wpAny _ _ (if (items.toList.drop i).length<n - 1 - i then _ else _) _ _ _;rw[if_neg (by rw[Y];omega)];show wpAny _ _ (newList ((items.toList.drop i).take ((items.toList.drop i).length - (n - 1 - i))) >>= λd=>pure (items.toList.take i++[d]++(items.toList.drop i).drop ((items.toList.drop i).length - (n - 1 - i)))) _ _ _;rw[al];have he:∀ b o,s.heap.get? b=some o->M.get? b=some o:=λb o e=>hk b o (aEw (aEf e)) (B.extBut b o (aEw (aEf e)) (aEa _ e));exact aE7 (wpAny_newList (aE8 (h M tk he)) (by rw[aEp,Y,sizeLine_eq];omega))
end
section
variable {X:Cx} {pos:Pos}
def aCv (K:PySem.W.Frag) (n i:Nat) (t:TGs):TG:=λv σ H Q=>∃ a xs,v=.ref a/\SqT K H a xs/\i<n/\n<=xs.length+1/\xs.length<=16384/\∀ D,H D=none->t (xs.take i++[.ref D]++(xs.drop i).drop (xs.length+1 - n)) σ (upd H D (.lst ((xs.drop i).take (xs.length+1 - n)))) Q
def aA2 {es:List Expr} {k:Nat} {t:TGs} {n i:Nat} (D:X.calm=true) (h:PGs X es t) (J:(assignEach es X.env).length=n:=by rfl) (hst:(assignEach es X.env).findIdx? (·.1)=some i:=by rfl):PG X (.Tuple es k pos) (aCv X.K n i t):=by
 intro pins s σ H v u Q I r hw;obtain⟨a,xs,e1,L,hi,hl,hz,hw⟩:=hw;subst e1;cases r;obtain⟨its,z,ht,M⟩:=I.tuple L;have U:=z.length;rw[assign_Tuple];refine aE7 (wpAny_standAt ?_);unfold unpack;rw[J,hst];refine aE7 (wpAny_holding (aA1 ht (I.ok.hd D) hi (by rw[aEh];omega) (by rw[aEh];omega) λh' tk kp=>?_));have B:Inv X pins σ H { s with heap:=h',toks:=tk }:=I.kept kp;simp only[aEh,<- U];have Y:Inv X pins σ (upd H h'.objs.size (.lst ((xs.drop i).take (xs.length+1 - n)))) { s with heap:=h'.push (seqObj "list" ((its.drop i).take (xs.length+1 - n)).toArray 0),toks:=tk } :=
  B.laid (λb o e=>aEa _ e) (Nat.le_refl _) ⟨by rw[aEp,List.length_drop];omega,_,0,qU _ (mS _ z),aEg _ rfl⟩
 exact h pins _ σ _ _ _ Q Y (uT (uT (qU _ z) (.cons (show RelV (.ref h'.objs.size) (.ref h'.objs.size) from rfl) .nil)) (mS _ (mS _ z))) (hw _ (B.hok.fresh (Nat.le_refl _)))
end
def bN (P:Program) (w:World) (K:PySem.W.Frag) (mg:Str->Option Value) (base:Heap) (C:Addr) (m:Str) (k:Nat) (ps:List Str) (sp:Sp):Prop :=
 ∃ f fd,FnOk P w K mg base CX0 k f fd ps sp/\u6 K C m f/\Binds K fd ps []
def jO (P:Program) (w:World) (K:PySem.W.Frag) (mg:Str->Option Value) (base:Heap) (x:Str) (C:Addr) (k:Nat) (ps:List Str) (sp:Sp):Prop :=
 ∃ f fd,FnOk P w K mg base CX0 k f fd ps sp/\Mk K C f/\mg x=some (.ref C)/\Binds K fd ps []
def pM (P:Program) (w:World) (K:PySem.W.Frag) (mg:Str->Option Value) (base:Heap) (f:Addr) (k:Nat) (ps:List Str) (sp:Sp):Prop :=
 ∃ fd,FnOk P w K mg base CX0 k f fd ps sp/\PySem.W.keepIn K (.ref f)=true/\Binds K fd ps []
section
variable {X:Cx} {C:Addr} {x m:Str} {j k:Nat} {ps:List Str} {sp:Sp} {ta:TE} {t:TA} {o e:Expr} {es:List Expr} {p pos apos:Pos}
def cR {pl:Sem Bool} (M:bN X.prog X.w X.K X.mg X.base C m j ps sp) (c:Cls X.K C) (B:Room k X.A) (he:PE X o ta) (D:PA X (e :: es) t) (hj:j<=k:=by decide)
 (hst:starEach (e :: es) X.env=(false,eval e X.env) :: starEach es X.env:=by rfl) (hpl:(backTo pos (starEach es X.env)).any (·.1)=false:=by rfl)
 (ht:eval (.Call (.Attribute o m apos) (e :: es) [] pos) X.env=(do
  let z <- eval o X.env
  standAt apos.atName
  let (f,first) <- holding [z] (getMethod z m pl)
  callWith pos f first (backTo pos (starEach (e :: es) X.env)) (backToKw pos (keywordEach [] X.env))):=by rfl) :
 PE X (.Call (.Attribute o m apos) (e :: es) [] pos) (U8 C m sp [] E0 ta t):=by
 obtain⟨f,fd,G,I,J⟩:=M;exact aB1 (pl:=pl) (hst:=hst) (hpl:=hpl) (ht:=ht) he c I G (B.mono hj) J .nil xO D
def mU {pl:Sem Bool} (M:bN X.prog X.w X.K X.mg X.base C m j ps sp) (c:Cls X.K C) (B:Room k X.A) (he:PE X o ta) (hj:j<=k:=by decide)
 (ht:eval (.Call (.Attribute o m apos) [] [] pos) X.env=(do
  let z <- eval o X.env
  standAt apos.atName
  let (f,first) <- holding [z] (getMethod z m pl)
  callWith pos f first (backTo pos (starEach [] X.env)) (backToKw pos (keywordEach [] X.env))):=by rfl) :
 PE X (.Call (.Attribute o m apos) [] [] pos) (U8 C m sp [] E0 ta Z2):=by
 obtain⟨f,fd,G,D,I⟩:=M;exact u7 (pl:=pl) (ht:=ht) he c D G (B.mono hj) I .nil xO
def oC (N:jO X.prog X.w X.K X.mg X.base x C j ps sp) (z:Room k X.A) (B:Gl X x) (D:PA X (e :: es) t) (hj:j+1<=k:=by decide) (hdb:(x == ("__debug__":Str))=false:=by decide)
 (he:starEach (e :: es) X.env=(false,eval e X.env) :: starEach es X.env:=by rfl) (hpl:(backTo pos (starEach es X.env)).any (·.1)=false:=by rfl) :
 PE X (.Call (.Name x p) (e :: es) [] pos) (U9 C sp [] E0 t):=by
 obtain⟨f,fd,G,M,I,J⟩:=N;exact aB2 (hdb:=hdb) (he:=he) (hpl:=hpl) M G (z.mono hj) B I J .nil xO D
def aBm (N:jO X.prog X.w X.K X.mg X.base x C j ps sp) (z:Room k X.A) (B:Gl X x) (hj:j+1<=k:=by decide) (hdb:(x == ("__debug__":Str))=false:=by decide) :
 PE X (.Call (.Name x p) [] [] pos) (U9 C sp [] E0 Z2):=by
 obtain⟨f,fd,G,M,D,I⟩:=N;exact u8 (hdb:=hdb) M G (z.mono hj) B D I .nil xO
def aCw (X:Cx) (j i:Nat) (t:TA):TE:=fun σ H Q=>∃ f ps sp,σ[i]?=some (some (.ref f))/\pM X.prog X.w X.K X.mg X.base f j ps sp/\t σ H λvs H1=>sp vs H1 Q E0
def aA3 (i:Nat) (D:Room k X.A) (J:PA X (e :: es) t) (L:X.N[i]?=some x:=by rfl) (M:Vis X.env.scope x:=by first | exact Or.inl rfl | exact Or.inr (Or.inl rfl) | exact Or.inr (Or.inr rfl)) (hd:(x == ("__debug__":Str))=false:=by decide)
 (z:(x == ("__classdict__":Str))=false:=by decide) (he:starEach (e :: es) X.env=(false,eval e X.env) :: starEach es X.env:=by rfl) (hpl:(backTo pos (starEach es X.env)).any (·.1)=false:=by rfl) :
 PE X (.Call (.Name x p) (e :: es) [] pos) (aCw X k i t):=by
 intro pins s σ H Q I h;obtain⟨f,ps,sp,e1,⟨fd,G,U,Y⟩,h⟩:=h;refine wpAny_Call_Name_kw (aCu I L M e1 (λu ru=>?_) hd z);obtain rfl:u=Value.ref f:=ru;refine PySem.W.callWith_K (h₀:=X.base) I.ok.mod.kin U (thn (J pos pins s σ H _ I h) λus s1 ⟨vs,H1,B,r,q⟩=>⟨B.kIn,?_⟩) he hpl;exact zA G D Y .nil xO B r (by rw[List.append_nil];exact q)
def aBn {te:TE} {hd:ExceptHandler} {hs:List ExceptHandler} {ag:Pos} (J:∀ v s,¬ X.xe v s) (he:PE X e te) (B:swapsWith e none pos.line X.env=pure false:=by rfl):PS X (.Try [.Expr e pos] (hd :: hs) [] [] ag) (aCR te):=by
 intro pins s σ H D I h;refine wpAny_Try_except (wpAny_execs_cons ?_);refine wpAny_Expr_any (wpAny_mono (he pins s σ H _ I h) (λu L z=>?_) λY L z=>(J _ _ z).elim) I.quiet B;obtain⟨v,H',M,rv,U⟩:=z;exact wpAny_execs_nil (wpAny_execs_nil ⟨σ,H',M,U⟩)
def uW:dY X (.type "dict") (λxs H Q=>∃ a kvs,xs=[.ref a]/\H a=some (.dK kvs)/\∀ d,H d=none->Q (.ref d) (upd H d (.dK kvs))):=by
 intro pins s σ H xs us Q I r h;obtain⟨a,kvs,rfl,J,q⟩:=h;obtain⟨u,rfl,L⟩:=gG r;cases L;obtain⟨z,B,vs,D,M⟩:=nQ I.hok J;have U:vs.length<=sizeLine:=by have:=D.length;omega
 refine kt_call_dict (knd:=bA X.prog X.w) B M U λh' hd hs=>?_;have Y:=I.hok.fresh (Nat.le_refl s.heap.objs.size);refine⟨.ref s.heap.objs.size,_,I.laid (h':=h') (t':=s.toks) (λb o e=>?_) (Nat.le_refl _) (uR z (beq_eq_false_iff_ne.mpr (Ne.symm (aEw I.big))) D hd),rfl,q _ Y⟩;exact hs.extBut b o (aEw (aEf e)) (aEa _ e)
end
end L2
namespace CW
open PySem L2
def cM {B L:Type} {f:B->L}:∀ {l:List B},(l.map f).Nodup->∀ {x y:B},x∈l->y∈l->f x=f y->x=y
 | [],_,_,_,D,_,_=>by cases D
 | z :: r,h,x,y,D,J,e=>by
  rw[aEy,List.nodup_cons]at h;rcases aFL.mp D with ex | hx'
  .rcases aFL.mp J with I | hy'
   .rw[ex,I]
   .exact absurd (aFN.mpr ⟨y,hy',by rw[<- e,ex]⟩) h.1
  .rcases aFL.mp J with I | hy'
   .exact absurd (aFN.mpr ⟨x,hx',by rw[e,I]⟩) h.1
   .exact cM h.2 hx' hy' e
abbrev Grp:=Int×Addr×List Int
def kvG (gs:List Grp):List (Key×V):=gs.map λg=>((Sum.inl g.1:Key),V.ref g.2.1)
structure DG (H:Hp) (d:Addr) (gs:List Grp):Prop where
 at_:H d=some (.dK (kvG gs))
 lst:∀ g∈gs,H g.2.1=some (.lst (g.2.2.map V.int))
 adr:(gs.map (·.2.1)).Nodup
 key:(gs.map (·.1)).Nodup
def SameD (d:Addr) (H H':Hp):Prop:=∀ b o,b≠d->H b=some o->H' b=some o
def wgt (f:Int->Int) (gs:List Grp):Int:=(gs.map λg=>f g.1 * (g.2.2.length:Int)).sum
def tot (f:Int->Int) (ps:List (Int×Int)):Int:=(ps.map λp=>f p.1).sum
def eY (k:Int):∀ gs:List Grp,dE (kvG gs) (Sum.inl k:Key)=(gs.find? λg=>decide (g.1=k)).map λg=>V.ref g.2.1
 | []=>rfl
 | g :: r=>by
  by_cases h:g.1=k
  .have:dE (kvG (g :: r)) (Sum.inl k:Key)=some (V.ref g.2.1):=cU (p:=((Sum.inl g.1:Key),V.ref g.2.1)) (by rw[h]);rw[this,List.find?_cons,aEv h];rfl
  .have:dE (kvG (g :: r)) (Sum.inl k:Key)=dE (kvG r) (Sum.inl k:Key):=cN (p:=((Sum.inl g.1:Key),V.ref g.2.1)) (λz=>h (Sum.inl.inj z));rw[this,List.find?_cons,aEu h];exact eY k r
def eR (k o:Int) (gs:List Grp):List Grp:=gs.map λg=>if g.1=k then (g.1,g.2.1,g.2.2++[o])else g
def J9 (k o:Int) (gs:List Grp):kvG (eR k o gs)=kvG gs:=by
 unfold kvG eR;rw[aFD];refine List.map_congr_left λg _=>?_;simp only[Function.comp];split <;> rfl
def K0 (k o:Int) (gs:List Grp):(eR k o gs).map (·.2.1)=gs.map (·.2.1):=by
 unfold eR;rw[aFD];refine List.map_congr_left λg _=>?_;simp only[Function.comp];split <;> rfl
def K1 (k o:Int) (gs:List Grp):(eR k o gs).map (·.1)=gs.map (·.1):=by
 unfold eR;rw[aFD];refine List.map_congr_left λg _=>?_;simp only[Function.comp];split <;> rfl
def aA4 (k o:Int) (gs:List Grp):(eR k o gs).length=gs.length:=by simp[eR]
def qV {k o:Int}:∀ {gs:List Grp},(∀ g∈gs,g.1≠k)->eR k o gs=gs
 | [],_=>rfl
 | g :: r,h=>by
  have h1:=h g aEb;unfold eR;rw[aEy,if_neg h1]
  congr 1
  exact qV λx z=>h x (aEc _ z)
def K2 (f:Int->Int) {k o:Int}:∀ {gs:List Grp},(gs.map (·.1)).Nodup->(∃ g∈gs,g.1=k)->wgt f (eR k o gs)=wgt f gs+f k
 | [],_,⟨g,h,_⟩=>by cases h
 | g :: r,D,hex=>by
  have z:=List.nodup_cons.mp D
  by_cases h:g.1=k
  .have I:eR k o r=r:=qV λx hx e=>z.1 (aFN.mpr ⟨x,hx,e.trans h.symm⟩);have:eR k o (g :: r)=(g.1,g.2.1,g.2.2++[o]) :: r:=by
    show (if g.1=k then (g.1,g.2.1,g.2.2++[o])else g) :: eR k o r=_;rw[if_pos h,I]
   rw[this];simp only[wgt,aEy,aFB,aEi,List.length_singleton];rw[<- h];have:f g.1 * ((g.2.2.length+1:Nat):Int)=f g.1 * (g.2.2.length:Int)+f g.1:=by
    rw[show ((g.2.2.length+1:Nat):Int)=(g.2.2.length:Int)+1 by omega,Int.mul_add,Int.mul_one]
   rw[this];omega
  .have B:∃ g∈r,g.1=k:=by
    obtain⟨x,hx,e⟩:=hex;rcases aFL.mp hx with rfl | hx
    .exact absurd e h
    .exact⟨x,hx,e⟩
   have J:=K2 f (o:=o) z.2 B;have:eR k o (g :: r)=g :: eR k o r:=by
    show (if g.1=k then (g.1,g.2.1,g.2.2++[o])else g) :: eR k o r=_;rw[if_neg h]
   rw[this];simp only[wgt,aEy,aFB]at J ⊢;omega
def gM (j k:Int):Int:=if k<j then k else j
def StayG (d:Addr) (gs:List Grp) (H H':Hp):Prop:=∀ b o,b≠d->(∀ g∈gs,b≠g.2.1)->H b=some o->H' b=some o
def pops (k:Int) (gs:List Grp):List Grp:=gs.map λg=>if g.1=k then (g.1,g.2.1,g.2.2.dropLast)else g
def outs (k:Int) (gs:List Grp):List Grp:=gs.filter λg=>decide (g.1≠k)
def aA5 (k:Int) (gs:List Grp):kvG (pops k gs)=kvG gs:=by
 unfold kvG pops;rw[aFD];refine List.map_congr_left λg _=>?_;simp only[Function.comp];split <;> rfl
def aA6 (k:Int) (gs:List Grp):(pops k gs).map (·.2.1)=gs.map (·.2.1):=by
 unfold pops;rw[aFD];refine List.map_congr_left λg _=>?_;simp only[Function.comp];split <;> rfl
def lS (k:Int) (gs:List Grp):(pops k gs).map (·.1)=gs.map (·.1):=by
 unfold pops;rw[aFD];refine List.map_congr_left λg _=>?_;simp only[Function.comp];split <;> rfl
def pN {k:Int} {gs:List Grp} {g':Grp} (h:g'∈pops k gs):∃ g∈gs,g'.2.1=g.2.1/\g'.1=g.1/\g'.2.2=if g.1=k then g.2.2.dropLast else g.2.2:=by
 obtain⟨g,B,rfl⟩:=aFN.mp h;refine⟨g,B,?_⟩
 by_cases z:g.1=k
 .rw[if_pos z,if_pos z];exact⟨rfl,rfl,rfl⟩
 .rw[if_neg z,if_neg z];exact⟨rfl,rfl,rfl⟩
def DG.pops {H:Hp} {d:Addr} {gs:List Grp} (B:DG H d gs) {g:Grp} (I:g∈gs):DG (upd H g.2.1 (.lst (g.2.2.dropLast.map V.int))) d (pops g.1 gs):=by
 have J:d≠g.2.1:=bO B.at_ (B.lst g I) (by intro z;cases z);refine⟨by rw[aA5,aF J];exact B.at_,λg' L=>?_,by rw[aA6];exact B.adr,by rw[lS];exact B.key⟩;obtain⟨D,h0,e1,e2,U⟩:=pN L;rw[e1,U]
 by_cases M:D.2.1=g.2.1
 .have:D=g:=cM (f:=λg:Grp=>g.2.1) B.adr h0 I M;subst this;rw[aB,if_pos rfl]
 .have Y:D.1≠g.1:=λe=>M (by rw[cM (f:=λg:Grp=>g.1) B.key h0 I e]);rw[aF M,if_neg Y];exact B.lst D h0
def aA7 (k:Int):∀ gs:List Grp,sA (kvG gs) (Sum.inl k:Key)=kvG (outs k gs):=by
 intro gs;unfold sA kvG outs;rw[List.filter_map]
 congr 1
 refine List.filter_congr λg _=>?_;simp only[Function.comp,ne_eq,Sum.inl.injEq]
def DG.outs {H:Hp} {d:Addr} {gs:List Grp} (B:DG H d gs) (k:Int):DG (upd H d (.dK (sA (kvG gs) (Sum.inl k:Key)))) d (outs k gs):=by
 refine⟨by rw[aB,aA7],λg I=>?_,?_,?_⟩
 .have D:=(aFO.mp I).1;rw[aF (bO (B.lst g D) B.at_ (by intro z;cases z))];exact B.lst g D
 .exact B.adr.sublist (List.filter_sublist.map _)
 .exact B.key.sublist (List.filter_sublist.map _)
def pO {gs:List Grp} {g:Grp} (B:(gs.map (·.1)).Nodup) (z:g∈gs):gs.find? (λx=>decide (x.1=g.1))=some g:=by
 cases h:gs.find? (λx=>decide (x.1=g.1))with
 | none=>exact absurd (List.find?_eq_none.mp h g z) (by simp)
 | some x =>
  have h1:=List.mem_of_find?_eq_some h;have h2:x.1=g.1:=by simpa using List.find?_some h
  rw[cM (f:=λg:Grp=>g.1) B h1 z h2]
def DG.get {H:Hp} {d:Addr} {gs:List Grp} (z:DG H d gs) {g:Grp} (B:g∈gs):DGet H d (.int g.1) (some (.ref g.2.1)):=by
 have h:=DGet.k (k:=(Sum.inl g.1:Key)) z.at_;rw[eY,pO z.key B]at h;exact h
def shr (k:Int) (gs:List Grp):List Grp:=if (pops k gs).any (λg=>decide (g.1=k) && g.2.2.isEmpty)then outs k (pops k gs)else pops k gs
section
variable {P:Program} {w:World} {K:PySem.W.Frag} {mg:Str->Option Value} {base:Heap}
inductive pP (vs:List V) (H:Hp) (Q:VK) (E_:XK):Prop
 | mk (d:Addr) (gs:List Grp) (j:Int) (h0_:vs=[.ref d,.int j]) (h1_:DG H d gs) (h2_:gs.length<=60) (h3_:(∀ g∈gs,g.2.2.length<=60)) (h4_:∀ H',Same H H'->Q (.int (2 * wgt (gM j) gs)) H'):pP vs H Q E_
inductive iA (vs:List V) (H:Hp) (Q:VK) (E_:XK):Prop
 | mk (d:Addr) (gs:List Grp) (g:Grp) (h0_:vs=[.ref d,.int g.1]) (h1_:DG H d gs) (h2_:g∈gs) (h3_:g.2.2≠[]) (h4_:∀ H',StayG d gs H H'->DG H' d (shr g.1 gs)->Q .non H'):iA vs H Q E_
end
def GoodG (gs:List Grp):Prop:=∀ g∈gs,1<=g.1/\g.2.2≠[]
def sto (gs:List Grp):Int:=wgt (λk=>k) gs
def cH (f:Int->Int) (g:Grp) (r:List Grp):wgt f (g :: r)=f g.1 * (g.2.2.length:Int)+wgt f r:=by simp[wgt]
def GoodG.tail {g:Grp} {r:List Grp} (h:GoodG (g :: r)):GoodG r:=λx z=>h x (aEc _ z)
def GoodG.one {g:Grp} {r:List Grp} (h:GoodG (g :: r)):(g.2.2.length:Int)<=g.1 * (g.2.2.length:Int)/\1<=(g.2.2.length:Int):=by
 obtain⟨h1,h2⟩:=h g aEb;have h3:0<g.2.2.length:=List.length_pos_iff.mpr h2;refine⟨?_,by omega⟩;have:=Int.mul_le_mul_of_nonneg_right h1 (show (0:Int)<=(g.2.2.length:Int)by omega);omega
def GoodG.bound:∀ {gs:List Grp},GoodG gs->(gs.length:Int)<=sto gs/\∀ g∈gs,(g.2.2.length:Int)<=sto gs
 | [],_=>⟨Int.le_refl _,λg z=>(nomatch z)⟩
 | g :: r,h=>by
  obtain⟨a,b⟩:=GoodG.bound h.tail;obtain⟨c,d⟩:=h.one;unfold sto at a b ⊢;rw[cH];refine⟨by simp only[aFC];omega,λx hx=>?_⟩;rcases aFL.mp hx with e | hx
  .rw[e];omega
  .have:=b x hx;omega
def qW {k:Int}:∀ {gs:List Grp},(∀ g∈gs,g.1≠k)->pops k gs=gs
 | [],_=>rfl
 | g :: r,h=>by
  have h1:=h g aEb;show (if g.1=k then (g.1,g.2.1,g.2.2.dropLast)else g) :: pops k r=g :: r;rw[if_neg h1,qW λx z=>h x (aEc _ z)]
def uX (f:Int->Int):∀ {gs:List Grp},(gs.map (·.1)).Nodup->∀ {g:Grp},g∈gs->g.2.2≠[]->wgt f (pops g.1 gs)=wgt f gs - f g.1
 | [],_,g,D,_=>by cases D
 | x :: r,J,g,D,z=>by
  have B:=List.nodup_cons.mp J;have L:pops g.1 (x :: r)=(if x.1=g.1 then (x.1,x.2.1,x.2.2.dropLast)else x) :: pops g.1 r:=rfl;rw[L]
  by_cases h:x.1=g.1
  .have M:x=g:=cM (f:=λg:Grp=>g.1) J aEb D h;subst M;rw[if_pos rfl,qW λy U e=>B.1 (aFN.mpr ⟨y,U,e⟩),cH,cH];have h3:0<x.2.2.length:=List.length_pos_iff.mpr z;have h4:((x.2.2.dropLast.length:Nat):Int)=(x.2.2.length:Int) - 1:=by rw[List.length_dropLast];omega
   simp only[h4,Int.mul_sub,Int.mul_one];omega
  .have I:g∈r:=by
    rcases aFL.mp D with e | e
    .exact absurd (by rw[e]) h
    .exact e
   rw[if_neg h,cH,cH,uX f B.2 I z];omega
def K3 (f:Int->Int) {k:Int}:∀ {gs:List Grp},(∀ g∈gs,g.1=k->g.2.2=[])->wgt f (outs k gs)=wgt f gs
 | [],_=>rfl
 | g :: r,h=>by
  have z:=K3 f (k:=k) (gs:=r) λx B=>h x (aEc _ B);unfold outs at z ⊢;rw[List.filter_cons,cH]
  by_cases e:g.1=k
  .have:=h g aEb e;rw[if_neg (by simp[e]),z,this];simp
  .rw[if_pos (by simp[e]),cH,z]
def W2 (f:Int->Int) {gs:List Grp} (B:(gs.map (·.1)).Nodup) {g:Grp} (I:g∈gs) (z:g.2.2≠[]):wgt f (shr g.1 gs)=wgt f gs - f g.1:=by
 unfold shr;split
 .next h =>
  obtain⟨x,J,D⟩:=List.any_eq_true.mp h;simp only[Bool.and_eq_true,decide_eq_true_eq,List.isEmpty_iff]at D;rw[K3 f λy L e=>?_,uX f B I z];have:y=x:=cM (f:=λg:Grp=>g.1) (by rw[lS];exact B) L J (e.trans D.1.symm);rw[this];exact D.2
 .exact uX f B I z
def GoodG.shr {gs:List Grp} (h:GoodG gs) (k:Int):GoodG (shr k gs):=by
 have B:∀ x∈pops k gs,1<=x.1/\(x.1≠k->x.2.2≠[]):=λx z=>by
  obtain⟨g,I,e1,e2,J⟩:=pN z;obtain⟨h1,h2⟩:=h g I;refine⟨by rw[e2];exact h1,λn=>?_⟩;rw[J,if_neg (by rw[<- e2];exact n)];exact h2
 intro x z;unfold CW.shr at z;split at z
 .obtain⟨h1,h2⟩:=aFO.mp z;exact⟨(B x h1).1,(B x h1).2 (by simpa using h2)⟩
 .next L =>
  refine⟨(B x z).1,λe=>?_⟩
  by_cases D:x.1=k
  .exact L (List.any_eq_true.mpr ⟨x,z,by simp[D,e]⟩)
  .exact(B x z).2 D e
def W3 {gs:List Grp} {k:Int} {x:Grp} (z:x∈shr k gs):∃ g∈gs,x.2.1=g.2.1:=by
 unfold shr at z;have B:x∈pops k gs:=by
  split at z
  .exact(aFO.mp z).1
  .exact z
 obtain⟨g,D,e1,_⟩:=pN B;exact⟨g,D,e1⟩
def uY (H:Hp) (k o:Int) (gs B:List Grp):Prop:=(∃ g∈gs,g.1=k)/\B=eR k o gs\/(∀ g∈gs,g.1≠k)/\∃ z,H z=none/\B=gs++[(k,z,[o])]
def aA8 (f:Int->Int) {H:Hp} {k o:Int} {gs B:List Grp} (D:(gs.map (·.1)).Nodup) (h:uY H k o gs B):wgt f B=wgt f gs+f k:=by
 rcases h with ⟨I,rfl⟩ | ⟨_,z,_,rfl⟩
 .exact K2 f D I
 .simp[wgt]
def GoodG.puts {H:Hp} {k o:Int} {gs B:List Grp} (g:GoodG gs) (I:1<=k) (h:uY H k o gs B):GoodG B:=by
 rcases h with ⟨J,rfl⟩ | ⟨_,z,_,rfl⟩
 .intro x hx;obtain⟨D,h0,rfl⟩:=aFN.mp hx;obtain⟨h1,h2⟩:=g D h0
  by_cases e:D.1=k
  .rw[if_pos e];exact⟨h1,by simp⟩
  .rw[if_neg e];exact⟨h1,h2⟩
 .intro x hx;rcases aFM.mp hx with hx | hx
  .exact g x hx
  .rw[aFF.mp hx];exact⟨I,by simp⟩
def K4 {H:Hp} {k o:Int} {gs B:List Grp} (h:uY H k o gs B) {x:Grp} (hx:x∈B):(∃ g∈gs,x.2.1=g.2.1)\/H x.2.1=none:=by
 rcases h with ⟨J,rfl⟩ | ⟨_,z,D,rfl⟩
 .obtain⟨I,h0,rfl⟩:=aFN.mp hx;refine .inl ⟨I,h0,?_⟩;split <;> rfl
 .rcases aFM.mp hx with hx | hx
  .exact .inl ⟨x,hx,rfl⟩
  .rw[aFF.mp hx];exact .inr D
def StayG.same {H H1 H2:Hp} {d r:Addr} {gs:List Grp} (st:StayG d gs H1 H2) (sm:Same H H1) (hd:H d=none) (B:∀ g∈gs,H g.2.1=none/\g.2.1≠r):Same H H2:=λb o e =>
 st b o (λz=>by rw[z,hd]at e;cases e) (λg D z=>by rw[z,(B g D).1]at e;cases e) (sm b o e)
end CW
namespace CW
abbrev Trs:=List (Int×Int)
def les (ps:Trs) (j:Int):Int:=(ps.map λq=>min j q.1).sum
def bQ (q:Int×Int) (ps:Trs) (j:Int):les (q :: ps) j=min j q.1+les ps j:=by simp[les]
def bB {ps z:Trs} (h:ps.Perm z) (j:Int):les ps j=les z j:=by
 unfold les
 induction h with
 | nil=>rfl
 | cons x _ B=>simp only[aEy,aFB];omega
 | swap x y l=>simp only[aEy,aFB];omega
 | trans _ _ h1 h2=>exact h1.trans h2
def Bd (ps:Trs) (n:Int):Prop:=∀ q∈ps,1<=q.1/\q.2+2 * les ps q.1<=n
def Bd.mono {ps:Trs} {n m:Int} (h:Bd ps n) (e:n<=m):Bd ps m:=λq z=>⟨(h q z).1,Int.le_trans (h q z).2 e⟩
def Add (ps:Trs) (p:Int) (z:Trs):Prop:=∃ (s:Int) (rest:Trs),0<=s/\(s=0/\ps.Perm rest\/1<=s/\ps.Perm ((s,p - 1 - 2 * les ps s) :: rest))/\(∀ q∈ps,s<q.1->q.2+2 * les ps q.1≠p - 1)/\z.Perm ((s+1,p - 2 * les rest (s+1) - 2 * (s+1)) :: rest)
def Add.perm {ps z D B:Trs} {p:Int} (h:Add ps p D) (e:ps.Perm z) (f:D.Perm B):Add z p B:=by
 obtain⟨s,rest,h0,h1,h2,h3⟩:=h;refine⟨s,rest,h0,?_,λq I hs=>?_,f.symm.trans h3⟩
 .rcases h1 with ⟨a,b⟩ | ⟨a,b⟩
  .exact .inl ⟨a,e.symm.trans b⟩
  .refine .inr ⟨a,?_⟩;rw[<- bB e];exact e.symm.trans b
 .rw[<- bB e];exact h2 q (e.mem_iff.mpr I) hs
def Add.uniq {ps U D:Trs} {p:Int} (h:Add ps p U) (h':Add ps p D):U.Perm D:=by
 obtain⟨s,rest,h0,h1,h2,h3⟩:=h;obtain⟨s',z,al,I,J,L⟩:=h';have hs:s=s':=by
  rcases h1 with ⟨a,b⟩ | ⟨a,b⟩ <;> rcases I with ⟨M,B⟩ | ⟨M,B⟩
  .omega
  .exact absurd (show (p - 1 - 2 * les ps s')+2 * les ps s'=p - 1 by omega) (h2 _ (B.mem_iff.mpr aEb) (show s<s' by omega))
  .exact absurd (show (p - 1 - 2 * les ps s)+2 * les ps s=p - 1 by omega) (J _ (b.mem_iff.mpr aEb) (show s'<s by omega))
  .rcases Int.lt_trichotomy s s' with l | l | l
   .exact absurd (show (p - 1 - 2 * les ps s')+2 * les ps s'=p - 1 by omega) (h2 _ (B.mem_iff.mpr aEb) l)
   .exact l
   .exact absurd (show (p - 1 - 2 * les ps s)+2 * les ps s=p - 1 by omega) (J _ (b.mem_iff.mpr aEb) l)
 subst hs;have Y:rest.Perm z:=by
  rcases h1 with ⟨a,b⟩ | ⟨a,b⟩ <;> rcases I with ⟨M,B⟩ | ⟨M,B⟩
  .exact b.symm.trans B
  .omega
  .omega
  .exact List.Perm.cons_inv (b.symm.trans B)
 refine h3.trans (List.Perm.trans ?_ L.symm);rw[bB Y];exact Y.cons _
def Add.bd {ps z:Trs} {p:Int} (h:Add ps p z) (b:Bd ps (p - 1)):Bd z p:=by
 obtain⟨s,rest,h0,h1,h2,h3⟩:=h;have I:∀ j,1<=j->les z j=les ps j+if s<j then 1 else 0:=λj hj=>by
  rw[bB h3,bQ];rcases h1 with ⟨a,b⟩ | ⟨a,b⟩
  .rw[bB b];simp only;split <;> omega
  .rw[bB b,bQ];simp only;split <;> omega
 intro q hq;rcases aFL.mp (h3.mem_iff.mp hq)with rfl | hq
 .refine⟨show 1<=s+1 by omega,?_⟩;have:les z (s+1)=s+1+les rest (s+1):=by
   rw[bB h3,bQ];simp only;omega
  show (p - 2 * les rest (s+1) - 2 * (s+1))+2 * les z (s+1)<=p;omega
 .have B:q∈ps:=by
   rcases h1 with ⟨_,e⟩ | ⟨_,e⟩
   .exact e.mem_iff.mpr hq
   .exact e.mem_iff.mpr (aEc _ hq)
  obtain⟨D,J⟩:=b q B;refine⟨D,?_⟩;have:=h2 q B;rw[I q.1 D];split <;> omega
def Tak (ps:Trs) (p:Int) (z:Trs):Prop:=∃ (s:Int) (rest:Trs),1<=s/\ps.Perm ((s,p - 2 * les ps s) :: rest)/\(∀ q∈ps,q.2+2 * les ps q.1<=p)/\(∀ q∈ps,q.1<s->q.2+2 * les ps q.1<p) /\
 (s=1/\z.Perm rest\/2<=s/\z.Perm ((s - 1,p - 1 - 2 * les rest (s - 1) - 2 * (s - 1)) :: rest))
def Tak.add {ps z:Trs} {p:Int} (h:Tak ps p z) (L:∀ q∈ps,1<=q.1):Bd z (p - 1)/\Add z p ps:=by
 obtain⟨s,rest,h0,h1,h2,h3,h4⟩:=h;have M:∀ j,0<=j->les ps j=les z j+if s<=j then 1 else 0:=λj hj=>by
  rw[bB h1,bQ];rcases h4 with ⟨a,b⟩ | ⟨a,b⟩
  .rw[bB b];simp only;split <;> omega
  .rw[bB b,bQ];simp only;split <;> omega
 have hold:∀ q∈rest,1<=q.1/\q.2+2 * les z q.1<=p - 1/\(s<=q.1->q.2+2 * les z q.1<=p - 2):=λq hq=>by
  have D:q∈ps:=h1.mem_iff.mpr (aEc _ hq);have U:=L q D;have a2:=h2 q D;have Y:=h3 q D;have I:=M q.1 (by omega);refine⟨U,?_,λhs=>?_⟩
  .by_cases hs:s<=q.1
   .rw[if_pos hs]at I;omega
   .rw[if_neg hs]at I;have:=Y (by omega);omega
  .rw[if_pos hs]at I;omega
 have B:2<=s->les z (s - 1)=(s - 1)+les rest (s - 1):=λh=>by
  rcases h4 with ⟨a,b⟩ | ⟨a,b⟩
  .omega
  .rw[bB b,bQ];simp only;omega
 refine⟨λq hq=>?_,s - 1,rest,by omega,?_,λq hq hs=>?_,?_⟩
 .rcases h4 with ⟨a,b⟩ | ⟨a,b⟩
  .have:=hold q (b.mem_iff.mp hq);exact⟨this.1,this.2.1⟩
  .rcases aFL.mp (b.mem_iff.mp hq)with rfl | hq
   .refine⟨show 1<=s - 1 by omega,?_⟩;have:=B a;show (p - 1 - 2 * les rest (s - 1) - 2 * (s - 1))+2 * les z (s - 1)<=p - 1;omega
   .have:=hold q hq;exact⟨this.1,this.2.1⟩
 .rcases h4 with ⟨a,b⟩ | ⟨a,b⟩
  .exact .inl ⟨by omega,b⟩
  .refine .inr ⟨by omega,?_⟩;have e:p - 1 - 2 * les z (s - 1)=p - 1 - 2 * les rest (s - 1) - 2 * (s - 1):=by have:=B a;omega
   rw[e];exact b
 .have J:q∈rest:=by
   rcases h4 with ⟨a,b⟩ | ⟨a,b⟩
   .exact b.mem_iff.mp hq
   .rcases aFL.mp (b.mem_iff.mp hq)with rfl | hq
    .exact absurd hs (by show ¬ (s - 1<s - 1);omega)
    .exact hq
  have:=(hold q J).2.2 (by omega);omega
 .have e:s - 1+1=s:=by omega
  rw[e];have e2:p - 2 * les rest s - 2 * s=p - 2 * les ps s:=by rw[bB h1,bQ];simp only;omega
  rw[e2];exact h1
def Add.tak {ps z:Trs} {p:Int} (h:Add ps p z) (b:Bd ps (p - 1)):Tak z p ps:=by
 have B:=h.bd b;obtain⟨s,rest,h0,h1,h2,h3⟩:=h;have D:∀ j,0<=j->les z j=les ps j+if s<j then 1 else 0:=λj hj=>by
  rw[bB h3,bQ];rcases h1 with ⟨a,b⟩ | ⟨a,b⟩
  .rw[bB b];simp only;split <;> omega
  .rw[bB b,bQ];simp only;split <;> omega
 have e2:p - 2 * les z (s+1)=p - 2 * les rest (s+1) - 2 * (s+1):=by rw[bB h3,bQ];simp only;omega
 refine⟨s+1,rest,by omega,by rw[e2];exact h3,λq hq=>(B q hq).2,λq hq hs=>?_,?_⟩
 .rcases aFL.mp (h3.mem_iff.mp hq)with rfl | hq
  .exact absurd hs (by show ¬ (s+1<s+1);omega)
  .have I:q∈ps:=by
    rcases h1 with ⟨_,e⟩ | ⟨_,e⟩
    .exact e.mem_iff.mpr hq
    .exact e.mem_iff.mpr (aEc _ hq)
   obtain⟨M,U⟩:=b q I;have:=D q.1 (by omega);rw[if_neg (by omega)]at this;omega
 .rcases h1 with ⟨a,e⟩ | ⟨a,e⟩
  .exact .inl ⟨by omega,e⟩
  .refine .inr ⟨by omega,?_⟩;have J:s+1 - 1=s:=by omega
   rw[J];have L:p - 1 - 2 * les rest s - 2 * s=p - 1 - 2 * les ps s:=by rw[bB e,bQ];simp only;omega
   rw[L];exact e
def Tak.uniq {ps z qs I:Trs} {p J:Int} (h:Tak ps p qs) (h':Tak z J I) (e:ps.Perm z):p=J/\qs.Perm I:=by
 obtain⟨s,rest,h0,h1,h2,h3,h4⟩:=h;obtain⟨s',B,al,D,L,M,U⟩:=h';have m1:(s,p - 2 * les ps s)∈ps:=h1.mem_iff.mpr aEb;have m2:(s',J - 2 * les z s')∈z:=D.mem_iff.mpr aEb;have a1:=L _ (e.mem_iff.mp m1);have a2:=h2 _ (e.mem_iff.mpr m2);have l1:=bB e s;have l2:=bB e s';simp only at a1 a2;have hp:p=J:=by omega
 subst hp;have b1:=M _ (e.mem_iff.mp m1);have b2:=h3 _ (e.mem_iff.mpr m2);simp only at b1 b2;have hs:s=s':=by
  rcases Int.lt_trichotomy s s' with l | l | l
  .have:=b1 l;omega
  .exact l
  .have:=b2 l;omega
 subst hs;rw[<- l1]at D;have Y:rest.Perm B:=List.Perm.cons_inv ((h1.symm.trans e).trans D);refine⟨rfl,?_⟩;rcases h4 with ⟨a,b⟩ | ⟨a,b⟩ <;> rcases U with ⟨a',b'⟩ | ⟨a',b'⟩
 .exact b.trans (Y.trans b'.symm)
 .omega
 .omega
 .refine b.trans (List.Perm.trans ?_ b'.symm);rw[bB Y];exact Y.cons _
inductive Lst:List Int->Trs->Prop
 | nil:Lst [] []
 | snoc {r:List Int} {ps:Trs} {p:Int} {qs:Trs}:Lst r ps->(∀ x∈r,x<p)->Add ps p qs->Lst (r++[p]) qs
def Add.ne {ps z:Trs} {p:Int} (h:Add ps p z):z≠[]:=by
 obtain⟨s,rest,_,_,_,h3⟩:=h;intro e;rw[e]at h3;exact absurd h3.symm.eq_nil (by simp)
def Lst.perm {r:List Int} {ps z:Trs} (h:Lst r ps) (e:ps.Perm z):Lst r z:=by
 cases h with
 | nil=>rw[e.symm.eq_nil];exact .nil
 | snoc a b c=>exact .snoc a b (c.perm (.refl _) e)
def Lst.inv {r:List Int} {p:Int} {z:Trs} (h:Lst (r++[p]) z):∃ ps,Lst r ps/\(∀ x∈r,x<p)/\Add ps p z:=by
 generalize e:r++[p]=t at h;cases h with
 | nil=>simp at e
 | snoc a b c =>
  obtain⟨rfl,e2⟩:=List.append_inj' e rfl;obtain rfl:p=_:=by simpa using e2
  exact⟨_,a,b,c⟩
def Lst.nilr {z:Trs} (h:Lst [] z):z=[]:=by
 generalize e:([]:List Int)=t at h;cases h with
 | nil=>rfl
 | snoc a b c=>simp at e
def Lst.bd {r:List Int} {ps:Trs} (h:Lst r ps) {n:Int}:(∀ x∈r,x<=n)->Bd ps n:=by
 induction h generalizing n with
 | nil=>intro _ q z;cases z
 | snoc a b c B =>
  intro D
  rename_i r ps p L
  have I:p<=n:=D p (by simp);have:=B (n:=p - 1) λx J=>by have:=b x J;omega
  exact(c.bd this).mono I
def Lst.uniq {r:List Int} {ps z:Trs} (h:Lst r ps) (h':Lst r z):ps.Perm z:=by
 induction h generalizing z with
 | nil=>rw[h'.nilr]
 | snoc a b c B =>
  obtain⟨D,I,L,J⟩:=h'.inv;exact(c.perm (B I) (.refl _)).uniq J
def Lst.row {r:List Int} {ps:Trs} (h:Lst r ps) {z:List Int} {B:Trs} (h':Lst z B) (e:ps.Perm B):r=z:=by
 induction h generalizing z B with
 | nil =>
  cases h' with
  | nil=>rfl
  | snoc a b c=>exact absurd e.symm.eq_nil c.ne
 | snoc a b c L =>
  cases h' with
  | nil=>exact absurd e.eq_nil c.ne
  | snoc J M U =>
   rename_i r ps p B z Y p'
   have bd:=a.bd (n:=p - 1) λx D=>by have:=b x D;omega
   have I:=J.bd (n:=p' - 1) λx D=>by have:=M x D;omega
   obtain⟨rfl,e2⟩:=(c.tak bd).uniq (U.tak I) e;rw[L J e2]
def siz (ps:Trs):Int:=(ps.map (·.1)).sum
def lT {ps z:Trs} (h:ps.Perm z):siz ps=siz z:=by
 unfold siz
 induction h with
 | nil=>rfl
 | cons x _ B=>simp only[aEy,aFB];omega
 | swap x y l=>simp only[aEy,aFB];omega
 | trans _ _ h1 h2=>exact h1.trans h2
def K5 (q:Int×Int) (ps:Trs):siz (q :: ps)=q.1+siz ps:=by simp[siz]
def Add.sizx {ps z:Trs} {p:Int} (h:Add ps p z):siz z=siz ps+1:=by
 obtain⟨s,rest,h0,h1,h2,h3⟩:=h;rw[lT h3,K5];rcases h1 with ⟨a,b⟩ | ⟨a,b⟩
 .rw[lT b];simp only;omega
 .rw[lT b,K5];simp only;omega
def Lst.sizx {r:List Int} {ps:Trs} (h:Lst r ps):siz ps=(r.length:Int):=by
 induction h with
 | nil=>rfl
 | snoc a b c z=>rw[c.sizx,z];simp
def Lst.pos {r:List Int} {ps:Trs} (h:Lst r ps):∀ q∈ps,1<=q.1:=by
 obtain⟨n,z⟩:∃ n:Int,∀ x∈r,x<=n:=by
  clear h
  induction r with
  | nil=>exact⟨0,λx hx=>(nomatch hx)⟩
  | cons a r B =>
   obtain⟨n,z⟩:=B;refine⟨max a n,λx hx=>?_⟩;rcases aFL.mp hx with rfl | hx
   .omega
   .have:=z x hx;omega
 exact λq D=>(h.bd z q D).1
end CW
namespace CW
open PySem L2
def bL (gs:List Grp):Trs:=gs.flatMap λg=>g.2.2.map λo=>(g.1,o)
def cS (g:Grp) (r:List Grp):bL (g :: r)=g.2.2.map (λo=>(g.1,o))++bL r:=rfl
def K6 (a b:List Grp):bL (a++b)=bL a++bL b:=by simp[bL]
def fX {gs:List Grp} {q:Int×Int}:q∈bL gs↔∃ g∈gs,g.1=q.1/\q.2∈g.2.2:=by
 unfold bL;rw[List.mem_flatMap]
 constructor
 .rintro ⟨g,z,h⟩;obtain⟨o,B,rfl⟩:=aFN.mp h;exact⟨g,z,rfl,B⟩
 .rintro ⟨g,z,h1,h2⟩;exact⟨g,z,aFN.mpr ⟨q.2,h2,by rw[h1]⟩⟩
def R0 (f:Int->Int) (a b:Trs):tot f (a++b)=tot f a+tot f b:=by simp[tot]
def uZ (f:Int->Int):∀ gs:List Grp,wgt f gs=tot f (bL gs)
 | []=>rfl
 | g :: r=>by
  rw[cH,cS,R0,uZ f r]
  congr 1
  generalize g.2.2=l
  induction l with
  | nil=>simp[tot]
  | cons x l z =>
   have:tot f ((x :: l).map λo=>(g.1,o))=f g.1+tot f (l.map λo=>(g.1,o)):=by simp[tot]
   rw[this,<- z,aFC,show ((l.length+1:Nat):Int)=(l.length:Int)+1 by omega,Int.mul_add,Int.mul_one];omega
def pQ (j k:Int):gM j k=min j k:=by unfold gM;split <;> omega
def aA9 (ps:Trs) (j:Int):tot (gM j) ps=les ps j:=by
 unfold tot les
 congr 1
 exact List.map_congr_left λq _=>pQ j q.1
def zT (gs:List Grp) (j:Int):wgt (gM j) gs=les (bL gs) j:=by rw[uZ,aA9]
def tE (gs:List Grp):sto gs=siz (bL gs):=uZ _ gs
def yE {k o:Int}:∀ {gs:List Grp},(gs.map (·.1)).Nodup->(∃ g∈gs,g.1=k)->(bL (eR k o gs)).Perm ((k,o) :: bL gs)
 | [],_,⟨g,h,_⟩=>by cases h
 | g :: r,D,hex=>by
  have z:=List.nodup_cons.mp D
  by_cases h:g.1=k
  .have I:eR k o r=r:=qV λx hx e=>z.1 (aFN.mpr ⟨x,hx,e.trans h.symm⟩);have:eR k o (g :: r)=(g.1,g.2.1,g.2.2++[o]) :: r:=by
    show (if g.1=k then (g.1,g.2.1,g.2.2++[o])else g) :: eR k o r=_;rw[if_pos h,I]
   rw[this,cS,cS];simp only[aEo,aEy,List.map_nil,List.append_assoc,h];exact List.perm_middle
  .have B:∃ g∈r,g.1=k:=by
    obtain⟨x,hx,e⟩:=hex;rcases aFL.mp hx with rfl | hx
    .exact absurd e h
    .exact⟨x,hx,e⟩
   have J:=yE (o:=o) z.2 B;have:eR k o (g :: r)=g :: eR k o r:=by
    show (if g.1=k then (g.1,g.2.1,g.2.2++[o])else g) :: eR k o r=_;rw[if_neg h]
   rw[this,cS,cS];exact(J.append_left _).trans List.perm_middle
def gT {H:Hp} {k o:Int} {gs B:List Grp} (D:(gs.map (·.1)).Nodup) (h:uY H k o gs B):(bL B).Perm ((k,o) :: bL gs):=by
 rcases h with ⟨I,rfl⟩ | ⟨_,z,_,rfl⟩
 .exact yE D I
 .rw[K6];exact List.perm_append_comm
def qX:∀ {gs:List Grp},(gs.map (·.1)).Nodup->∀ {g:Grp} (_:g∈gs) (z:g.2.2≠[]),(bL gs).Perm ((g.1,g.2.2.getLast z) :: bL (pops g.1 gs))
 | [],_,g,D,_=>by cases D
 | x :: r,J,g,D,z=>by
  have B:=List.nodup_cons.mp J;have L:pops g.1 (x :: r)=(if x.1=g.1 then (x.1,x.2.1,x.2.2.dropLast)else x) :: pops g.1 r:=rfl;rw[L]
  by_cases h:x.1=g.1
  .have M:x=g:=cM (f:=λg:Grp=>g.1) J aEb D h;subst M;rw[if_pos rfl,qW λy U e=>B.1 (aFN.mpr ⟨y,U,e⟩),cS,cS];have e1:x.2.2.map (λo=>(x.1,o))=x.2.2.dropLast.map (λo=>(x.1,o))++[(x.1,x.2.2.getLast z)]:=by
    conv=>lhs;rw[<- List.dropLast_concat_getLast z]
    rw[aEo];rfl
   rw[e1,List.append_assoc];exact List.perm_middle
  .have I:g∈r:=by
    rcases aFL.mp D with e | e
    .exact absurd (by rw[e]) h
    .exact e
   rw[if_neg h,cS,cS];exact((qX B.2 I z).append_left _).trans List.perm_middle
def yF {k:Int}:∀ {gs:List Grp},(∀ g∈gs,g.1=k->g.2.2=[])->bL (outs k gs)=bL gs
 | [],_=>rfl
 | g :: r,h=>by
  have z:=yF (k:=k) (gs:=r) λx B=>h x (aEc _ B);unfold outs at z ⊢;rw[List.filter_cons,cS]
  by_cases e:g.1=k
  .have:=h g aEb e;rw[if_neg (by simp[e]),z,this];rfl
  .rw[if_pos (by simp[e]),cS,z]
def K7 {gs:List Grp} (B:(gs.map (·.1)).Nodup) {g:Grp} (I:g∈gs) (z:g.2.2≠[]):(bL gs).Perm ((g.1,g.2.2.getLast z) :: bL (shr g.1 gs)):=by
 unfold shr;split
 .next h =>
  obtain⟨x,J,D⟩:=List.any_eq_true.mp h;simp only[Bool.and_eq_true,decide_eq_true_eq,List.isEmpty_iff]at D;rw[yF λy L e=>?_]
  .exact qX B I z
  have:y=x:=cM (f:=λg:Grp=>g.1) (by rw[lS];exact B) L J (e.trans D.1.symm);rw[this];exact D.2
 .exact qX B I z
def Asc (gs:List Grp):Prop:=∀ g∈gs,g.2.2.Pairwise (·<=·)
def Asc.last {gs:List Grp} (h:Asc gs) {g:Grp} (I:g∈gs) (z:g.2.2≠[]) {o:Int} (B:o∈g.2.2):o<=g.2.2.getLast z:=by
 have D:=h g I;rw[<- List.dropLast_concat_getLast z]at B D;rcases aFM.mp B with h1 | h1
 .exact(List.pairwise_append.mp D).2.2 o h1 _ (by simp)
 .rw[aFF.mp h1];exact Int.le_refl _
def Asc.shr {gs:List Grp} (h:Asc gs) (k:Int):Asc (shr k gs):=by
 have B:Asc (pops k gs):=λx z=>by
  obtain⟨g,D,e1,e2,I⟩:=pN z;rw[I];split
  .exact(h g D).sublist (List.dropLast_sublist _)
  .exact h g D
 intro x z;unfold CW.shr at z;split at z
 .exact B x (aFO.mp z).1
 .exact B x z
def Asc.puts {H:Hp} {k o:Int} {gs B:List Grp} (h:Asc gs) (J:uY H k o gs B) (I:∀ q∈bL gs,q.1=k->q.2<=o):Asc B:=by
 rcases J with ⟨U,rfl⟩ | ⟨_,z,_,rfl⟩
 .intro x hx;obtain⟨D,h0,rfl⟩:=aFN.mp hx
  by_cases e:D.1=k
  .rw[if_pos e];refine List.pairwise_append.mpr ⟨h D h0,by simp,λa L b M=>?_⟩;rw[aFF.mp M];exact I (D.1,a) (fX.mpr ⟨D,h0,rfl,L⟩) e
  .rw[if_neg e];exact h D h0
 .intro x hx;rcases aFM.mp hx with hx | hx
  .exact h x hx
  .rw[aFF.mp hx];simp
def zU {gs:List Grp} (k:Int) (h:(gs.map (·.1)).Nodup):((shr k gs).map (·.1)).Nodup:=by
 unfold shr;split
 .exact(show ((pops k gs).map (·.1)).Nodup by rw[lS];exact h).sublist (List.filter_sublist.map _)
 .rw[lS];exact h
def R1 {H:Hp} {gs D:List Grp} {p s:Int} (L:(gs.map (·.1)).Nodup) (gd:GoodG gs) (ac:Asc gs) (bd:Bd (bL gs) (p - 1)) {B:List Grp}
 (hs:s=0/\B=gs\/1<=s/\∃ g∈gs,∃ z:g.2.2≠[],g.1=s/\g.2.2.getLast z=p - 1 - 2 * les (bL gs) s/\B=shr s gs)
 (M:∀ g∈gs,∀ z:g.2.2≠[],s<g.1->g.2.2.getLast z≠p - 1 - 2 * les (bL gs) g.1)
 (hp:uY H (s+1) (p - 2 * les (bL B) (s+1) - 2 * (s+1)) B D):Add (bL gs) p (bL D)/\Asc D/\GoodG D:=by
 have ha:Add (bL gs) p (bL D):=by
  refine⟨s,bL B,?_,?_,λq hq U e=>?_,?_⟩
  .rcases hs with h | h <;> omega
  .rcases hs with ⟨h,rfl⟩ | ⟨h,g,J,z,e1,e2,rfl⟩
   .exact .inl ⟨h,.refl _⟩
   .refine .inr ⟨h,?_⟩;have:=K7 L J z;rw[e1,e2]at this;exact this
  .obtain⟨g,J,e1,e2⟩:=fX.mp hq;have z:=(gd g J).2;have h1:=ac.last J z e2;have h2:=(bd (g.1,g.2.2.getLast z) (fX.mpr ⟨g,J,rfl,List.getLast_mem z⟩)).2;simp only at h2;rw[<- e1]at e U;exact M g J z U (by omega)
  .have I:(B.map (·.1)).Nodup:=by
    rcases hs with ⟨h,rfl⟩ | ⟨h,g,J,z,e1,e2,rfl⟩
    .exact L
    .exact zU s L
   exact gT I hp
 have hb:=ha.bd bd;have I:(B.map (·.1)).Nodup/\Asc B/\GoodG B:=by
  rcases hs with ⟨h,rfl⟩ | ⟨h,g,J,z,e1,e2,rfl⟩
  .exact⟨L,ac,gd⟩
  .exact⟨zU s L,ac.shr s,gd.shr s⟩
 have Y:=gT I.1 hp;refine⟨ha,I.2.1.puts hp λq hq e=>?_,I.2.2.puts (by rcases hs with h | h <;> omega) hp⟩;have h1:=(hb q (Y.mem_iff.mpr (aEc _ hq))).2;rw[bB Y,bQ,e]at h1;simp only at h1;omega
def vA {H:Hp} {gs B:List Grp} {p:Int} (hn:(gs.map (·.1)).Nodup) (I:GoodG gs) (ac:Asc gs) {g:Grp} (hg:g∈gs) (L:g.2.2≠[]) (hp:g.2.2.getLast L+2 * les (bL gs) g.1=p)
 (J:∀ x∈gs,∀ z:x.2.2≠[],x.2.2.getLast z+2 * les (bL gs) x.1<=p/\(x.1<g.1->x.2.2.getLast z+2 * les (bL gs) x.1<p))
 (D:g.1=1/\B=shr g.1 gs\/2<=g.1/\uY H (g.1 - 1) (p - 1 - 2 * les (bL (shr g.1 gs)) (g.1 - 1) - 2 * (g.1 - 1)) (shr g.1 gs) B):Tak (bL gs) p (bL B)/\Asc B/\GoodG B:=by
 have U:=zU g.1 hn;have am:=K7 hn hg L;have Y:∀ q∈bL gs,1<=q.1:=λq D=>by
  obtain⟨x,z,e1,_⟩:=fX.mp D;rw[<- e1];exact(I x z).1
 have M:g.2.2.getLast L=p - 2 * les (bL gs) g.1:=by omega
 have ht:Tak (bL gs) p (bL B):=by
  refine⟨g.1,bL (shr g.1 gs),(I g hg).1,by rw[<- M];exact am,λq D=>?_,λq D hl=>?_,?_⟩
  .obtain⟨x,z,e1,e2⟩:=fX.mp D;have h1:=ac.last z (I x z).2 e2;have h2:=(J x z (I x z).2).1;rw[<- e1];omega
  .obtain⟨x,z,e1,e2⟩:=fX.mp D;have h1:=ac.last z (I x z).2 e2;have h2:=(J x z (I x z).2).2 (by rw[e1];exact hl);rw[<- e1];omega
  .rcases D with ⟨h,rfl⟩ | ⟨h,h2⟩
   .exact .inl ⟨h,.refl _⟩
   .exact .inr ⟨h,gT U h2⟩
 refine⟨ht,?_⟩;obtain⟨hb,_⟩:=ht.add Y;rcases D with ⟨h,rfl⟩ | ⟨h,h2⟩
 .exact⟨ac.shr _,I.shr _⟩
 .have al:=gT U h2;refine⟨(ac.shr _).puts h2 λq D e=>?_,(I.shr _).puts (by omega) h2⟩;have h1:=(hb q (al.mem_iff.mpr (aEc _ D))).2;rw[bB al,bQ,e]at h1;simp only at h1;omega
def lng (b:Int) (gs:List Grp):Int:=wgt (λk=>if b<k then 1 else 0) gs
def zV (f h:Int->Int):∀ gs:List Grp,wgt (λk=>f k+h k) gs=wgt f gs+wgt h gs
 | []=>rfl
 | g :: r=>by
  rw[cH,cH,cH,zV f h r];have:(f g.1+h g.1) * (g.2.2.length:Int)=f g.1 * (g.2.2.length:Int)+h g.1 * (g.2.2.length:Int):=Int.add_mul ..;omega
def W4 (c:Int) (f:Int->Int):∀ gs:List Grp,wgt (λk=>c * f k) gs=c * wgt f gs
 | []=>by simp[wgt]
 | g :: r=>by rw[cH,cH,W4 c f r,Int.mul_add,Int.mul_assoc]
def mV {f h:Int->Int} {gs:List Grp} (e:∀ g∈gs,f g.1=h g.1):wgt f gs=wgt h gs:=by
 unfold wgt
 congr 1
 exact List.map_congr_left λg z=>by rw[e g z]
def vB:∀ gs:List Grp,wgt (λ_=>0) gs=0
 | []=>rfl
 | g :: r=>by rw[cH,vB r];simp
def R3 {gs:List Grp} {b m:Int} (z:b<=m) (h:∀ g∈gs,b<g.1->m<=g.1):wgt (gM m) gs=wgt (gM b) gs+(m - b) * lng b gs:=by
 unfold lng;rw[<- W4,<- zV];refine mV λg B=>?_;rw[pQ,pQ];have:=h g B;split
 .have:=this (by assumption);omega
 .omega
def aAa {gs:List Grp} {b m:Int} (J:b<m) (h:∀ g∈gs,b<g.1->m<=g.1) (L:(gs.map (·.1)).Nodup) {g:Grp} (I:g∈gs) (M:g.1=m):lng m gs=lng b gs - (g.2.2.length:Int):=by
 have h1:lng b gs=lng m gs+wgt (λk=>if k=m then 1 else 0) gs:=by
  unfold lng;rw[<- zV];refine mV λx D=>?_;have:=h x D
  by_cases c:b<x.1
  .have:=this c;rw[if_pos c]
   by_cases d:x.1=m
   .rw[if_neg (by omega),if_pos d];omega
   .rw[if_pos (by omega),if_neg d];omega
  .rw[if_neg c,if_neg (by omega),if_neg (by omega)];omega
 have h2:wgt (λk=>if k=m then 1 else 0) gs=(g.2.2.length:Int):=by
  clear h1 h
  induction gs with
  | nil=>cases I
  | cons x r U =>
   have B:=List.nodup_cons.mp L;rw[cH];rcases aFL.mp I with e | e
   .subst e;have:wgt (λk=>if k=m then 1 else 0) r=0:=by
     have:wgt (λk=>if k=m then 1 else 0) r=wgt (λ_=>0) r:=mV λy Y=>if_neg λz=>B.1 (aFN.mpr ⟨y,Y,by show y.1=g.1;omega⟩);rw[this];exact vB r
    rw[this,if_pos M];omega
   .have D:x.1≠m:=λz=>B.1 (aFN.mpr ⟨g,e,by show g.1=x.1;omega⟩);rw[if_neg D,U B.2 e];omega
 omega
def aAb {gs:List Grp} (z:GoodG gs):lng 0 gs=(gs.map (λg:Grp=>(g.2.2.length:Int))).sum:=by
 unfold lng wgt
 congr 1
 exact List.map_congr_left λg B=>by show (if 0<g.1 then (1:Int)else 0) * _=_;rw[if_pos (by have:=(z g B).1;omega)];omega
def aAc {gs:List Grp} (z:GoodG gs):wgt (gM 0) gs=0:=by
 have:wgt (gM 0) gs=wgt (λ_=>0) gs:=mV λg B=>by rw[pQ];have:=(z g B).1;omega
 rw[this];exact vB gs
end CW
namespace L2
open PySem PySem.Spec PyProof.Rows
def W5 (J:It) (D:St) (g:TG) (tt:TT) (te:TE) (I:List V) (N:List V->Hp->Prop) (H1:Hp):Prop:=∃ W:Nat->Nat->List V->Hp->Prop,(∃ m,W 0 m I H1)/\∀ i m ys H,W i m ys H ->
 ys.length<sizeLine/\((J.stop i H/\N ys H) \/
  (J.go i H/\∃ N':List V->Hp->Prop,(∀ z H',N' z H'->∃ L,L<m/\W (i+1) L z H')/\∀ x H',J.yld i H x H'->g x D H' λB H2=>tt B H2 λb M =>
   if b=true then te B M λy U=>N' (ys++[y]) U else N' ys M))
def R4 (J:It) (I:St) (g:TG) (tt:TT) (wi:TI) (g2:TG) (af:TT) (te:TE) (Q:VK) (H1:Hp):Prop:=∃ W:Nat->Nat->List V->Hp->Prop,(∃ m,W 0 m [] H1)/\∀ i m ys H,W i m ys H ->
 ys.length<sizeLine/\((J.stop i H/\∀ D,H D=none->Q (.ref D) (upd H D (.lst ys))) \/
  (J.go i H/\∃ N:List V->Hp->Prop,(∀ B H',N B H'->∃ L,L<m/\W (i+1) L B H')/\∀ x H',J.yld i H x H'->g x I H' λz H2=>tt z H2 λb M =>
   if b=true then wi z M λU Y=>W5 U z g2 af te ys N Y else N ys M))
def aCx (wi:TI) (nt:Nat) (js:List Nat) (g:TG) (tt:TT) (ah:TI) (g2:TG) (af:TT) (te:TE):TE:=fun σ H Q=>wi σ H λJ H1=>R4 J (sIn nt js σ) g tt ah g2 af te Q H1
def GR (lo hi:Nat) (g:TG):Prop:=∀ v σ H Q,g v σ H Q->g v σ H λz H'=>((∀ i,(i<lo\/hi<=i)->z[i]?=σ[i]?)/\z.length=σ.length)/\Q z H'
def aBo {lo hi i:Nat} (h:lo<=i) (h2:i<hi):GR lo hi (xG i):=λv σ H Q q=>⟨⟨λj hj=>by rw[List.getElem?_set_ne (by omega)],by simp⟩,q⟩
def sQ (elt t1 i1 t2 i2:Expr) (f1 f2:List Expr) (scope:Scope) (pos:Pos) (it z:Value) (env:Env) :
 compTurn (.ListComp elt [⟨t1,i1,f1,0⟩,⟨t2,i2,f2,0⟩] scope pos) 0 it z env=(do
  standAt i1.pos
  match <- pyNext it with
  | none=>pure (.done .next)
  | some v =>
   letOwnedTupleGo t1 it v
   assign t1 env v
   let mut ok:=true
   for c in f1 do
    if ok then ok <- isTrue c env (eval c env)
   if ok then
    let x <- eval i2 env
    standAt i2.pos
    let x <- foldedSetIterable i2 env x
    let _ <- runOwn (.compStart (.ListComp elt [⟨t1,i1,f1,0⟩,⟨t2,i2,f2,0⟩] scope pos) 1 (<- holding [x] (pyIter x)) z env) env
   again (.compLoop (.ListComp elt [⟨t1,i1,f1,0⟩,⟨t2,i2,f2,0⟩] scope pos) 0 it z env)):=by rfl
def sR (elt t1 i1 t2 i2:Expr) (f1 f2:List Expr) (scope:Scope) (pos:Pos) (it z:Value) (env:Env) :
 compTurn (.ListComp elt [⟨t1,i1,f1,0⟩,⟨t2,i2,f2,0⟩] scope pos) 1 it z env=(do
  standAt i2.pos
  match <- pyNext it with
  | none=>pure (.done .next)
  | some v =>
   letOwnedTupleGo t2 it v
   assign t2 env v
   let mut ok:=true
   for c in f2 do
    if ok then ok <- isTrue c env (eval c env)
   if ok then
    (do let _ <- call (.builtin "list.append") [z,<- eval elt env])
   again (.compLoop (.ListComp elt [⟨t1,i1,f1,0⟩,⟨t2,i2,f2,0⟩] scope pos) 1 it z env)):=by rfl
def jP {prog:Program} {w:World} {A:Around} {R:Result->Shared->Prop} {s:Shared} {elt D target iter ifs rest scope pos it z env}
 (h0:codeAny (model prog w) A (.compLoop (.ListComp elt (D :: ⟨target,iter,ifs,0⟩ :: rest) scope pos) 1 it z env) R s)
 (h:wpAny (model prog w) A (pyIter it) (λB s'=>codeAny (model prog w) A (.compLoop (.ListComp elt (D :: ⟨target,iter,ifs,0⟩ :: rest) scope pos) 1 B z env) R s')
  (notedBy (model prog w) A env λx s'=>R (.error x) s') s) :
 codeAny (model prog w) A (.compStart (.ListComp elt (D :: ⟨target,iter,ifs,0⟩ :: rest) scope pos) 1 it z env) R s:=by
 refine codeAny_of_tree ?_;show wpAny _ _ ((compStart (.ListComp elt (D :: ⟨target,iter,ifs,0⟩ :: rest) scope pos) 1 it z env).onRaise (λx=>do noteFrame x env;standAt theWindowsPlace)) _ _ s;refine wpAny_notedAt ?_;unfold compStart;show wpAny _ _ (ask >>= _) _ _ s;refine aE7 (wpAny_askSetting (wpAny_ite ?_));split
 .first
   | exact aE7 (aE8 (aE8 (And.intro rfl h0)))
   | exact aE8 (And.intro rfl h0)
 .first
   | exact aE7 (wpAny_rule (aE7 (wpAny_standAt (aE7 (wpAny_mono h (λB s' h'=>aE8 (And.intro rfl h')) λ_ _ x=>x)))))
   | (refine aE7 (wpAny_rule ?_);show wpAny _ _ (standAt iter.pos >>= _) _ _ s;exact aE7 (wpAny_standAt (aE7 (wpAny_mono h (λB s' h'=>aE8 (And.intro rfl h')) λ_ _ x=>x))))
def R5 {X:Cx} {pl:List (Addr×Obj)} {σ:St} {elt t1 i1 tg iter:Expr} {f1 ifs:List Expr} {inn:Scope} {pos:Pos} {g:TG} {tt:TT} {te:TE} {lo hi:Nat} {J:It} {fp:List Addr} {it:Addr} {tn:Nat->Heap->Prop} {H2:Hp} {s2:Shared} {ar:List V} {N:List V->Hp->Prop} {RR:Result->Shared->Prop} {D:Addr}
 (L:X.calm=true) (au:X.xe=λ_ _=>False) (DX:D∈X.ex) (Dl:D≠X.env.locals) (hpl:∀ p∈X.pn++pl,p.1≠D) (ay:D∉fp)
 (bg:PG X tg g) (hk:GR lo hi g) (bi:PIf X ifs tt) (bj:PE X elt te) (bm:∀ i v,lo<=i->i<hi->σ[i]?≠some (some v))
 (I2:Inv X pl σ H2 s2) (T:qJ X.prog X.w X.K tg J fp it tn) (az:tn 0 s2.heap) (f2:∀ b∈fp,iE X pl H2 b) (bo:H2 D=none) {M:List Value} {c0:Nat} (bq:Vals ar M) (br:s2.heap.get? D=some { cls:=.type "list",data:=.seq M.toArray c0 })
 (R:W5 J σ g tt te ar N H2)
 (bt:∀ s' H' ys its c,Inv X pl σ H' s'->Vals ys its->s'.heap.get? D=some { cls:=.type "list",data:=.seq its.toArray c }->H' D=none->N ys H'->RR (.ok .next) s') :
 codeAny (model X.prog X.w) X.A (.compStart (.ListComp elt [⟨t1,i1,f1,0⟩,⟨tg,iter,ifs,0⟩] inn pos) 1 (.ref it) (.ref D) X.env) RR s2:=by
 have av:=I2.ok;obtain⟨W,⟨m0,w0⟩,turn⟩:=R;have U:∀ {H':Hp} {ql:List (Addr×Obj)},(∀ b∈fp,H' b=none)->(∀ p∈ql,p.1=D)->∀ b∈fp,iE X (pl++ql) H' b:=λ{H' ql} hn bu b B=>by
  obtain⟨_,a1,a2,a3,a4,a5⟩:=f2 b B;refine⟨hn b B,a1,a2,a3,a4,λp hp=>?_⟩;rw[<- List.append_assoc]at hp;rcases aFM.mp hp with hp | hp
  .exact a5 p hp
  .rw[bu p hp];intro e;exact ay (e ▸ B)
 have loop:codeAny (model X.prog X.w) X.A (.compLoop (.ListComp elt [⟨t1,i1,f1,0⟩,⟨tg,iter,ifs,0⟩] inn pos) 1 (.ref it) (.ref D) X.env) RR s2:=by
  refine codeAny_loop rfl (λn s'=>∃ i ys H',Inv X pl σ H' s'/\tn i s'.heap/\(∀ b∈fp,H' b=none)/\H' D=none/\(∃ (its:List Value) (c:Nat),Vals ys its/\s'.heap.get? D=some { cls:=.type "list",data:=.seq its.toArray c })/\W i n ys H') ?_ m0
   ⟨0,ar,H2,I2,az,λb B=>(f2 b B).1,bo,⟨M,c0,bq,br⟩,w0⟩
  rintro n s5 ⟨i,ys,H5,I5,a_,ba,bb,⟨its,c,rv,eD⟩,w5⟩;show wpAny _ X.A ((compTurn (.ListComp elt [⟨t1,i1,f1,0⟩,⟨tg,iter,ifs,0⟩] inn pos) 1 (.ref it) (.ref D) X.env).onRaise (λx=>do noteFrame x X.env;theTreesLotGoes x)) _ _ s5;refine wpAny_noted ?_;rw[sR];refine aE7 (wpAny_standAt (aE7 ?_));have aq:Inv X (pl++cA [D] s5.heap) σ H5 s5:=by
   refine I5.pinned (fp:=[D]) (λb B=>?_) (λb B=>?_)
   .have e:b=D:=by simpa using B
    subst e;exact⟨bb,Dl,λz=>av.exfs b DX z,.inl DX,(av.exf b DX).2,hpl⟩
   .have e:b=D:=by simpa using B
    subst e;exact⟨_,eD,λv z=>by cases z⟩
  have aw:∀ p∈cA [D] s5.heap,p.1=D:=λp hp=>by simpa using (gR hp).1
  have memD:(D,({ cls:=.type "list",data:=.seq its.toArray c }:Obj))∈cA [D] s5.heap:=bR (by simp) eD;obtain⟨hz,bv⟩:=turn i n ys H5 w5;rcases bv with ⟨stop,fin⟩ | ⟨go,N',hN,step⟩
  .have q:=T.done X rfl rfl rfl L i _ s5 _ H5 (notedBy (model X.prog X.w) X.A X.env λe s'=>RR (.error e) s') aq (U ba aw) a_ stop;refine wpAny_mono q (λr s6 ⟨hr,I6⟩=>?_) λ_ _ z=>z;subst hr;refine aE8 ?_;have bw:=(I6.pin (D,_) (aEd _ (aEd _ memD))).1;exact bt s6 H5 ys its c (I6.pins_of λp hp=>I6.pin p (aEd _ (aEs _ hp))) rv bw bb fin
  .have q:=T.item X rfl rfl rfl L i _ s5 _ H5 (notedBy (model X.prog X.w) X.A X.env λe s'=>RR (.error e) s') aq (U ba aw) a_ go;refine wpAny_mono q (λr s6 ⟨u,hr,h6⟩=>?_) λ_ _ z=>z;subst hr;refine aE7 (wpAny_mono h6 (λ_ s7 ⟨x,H7,I7,r7,y7,ax,bx⟩=>?_) λ_ _ z=>z);have b_:=I7.pinned (fp:=fp) (λb B=>U bx aw b B) (T.obj _ _ ax);have q8:=bg _ s7 _ H7 x u _ b_ r7 (hk x _ H7 _ (step x H7 y7));rw[au]at q8;refine aE7 (wpAny_mono q8 (λ_ s8 ⟨I,H8,I8,⟨k8,l8⟩,q8⟩=>?_) λ_ _ z=>z.elim);have q9:=bi _ s8 I H8 _ I8 q8;rw[au]at q9;refine aE7 (wpAny_mono q9 (λok s9 ⟨Y,I9,q9⟩=>?_) λ_ _ z=>z.elim);have am:∀ (j:Nat) v,σ[j]?=some (some v)->I[j]?=some (some v):=λj v e=>by
    by_cases hj:j<lo\/hi<=j
    .rw[k8 j hj];exact e
    .exact absurd e (bm j v (by omega) (by omega))
   have ends:∀ {Y:Hp} {s9:Shared} {al:List V},Inv X ((pl++cA [D] s5.heap)++cA fp s7.heap) I Y s9->∀ {h':Heap} {its':List Value} {c':Nat},(∀ b o,b≠D->s9.heap.get? b=some o->h'.get? b=some o)->Vals al its'->h'.get? D=some { cls:=.type "list",data:=.seq its'.toArray c' }->N' al Y ->
    ∀ tk,∃ m,m<n/\∃ i ys H',Inv X pl σ H' { s9 with heap:=h',toks:=tk }/\tn i h'/\(∀ b∈fp,H' b=none)/\H' D=none/\(∃ (its:List Value) (c:Nat),Vals ys its/\h'.get? D=some { cls:=.type "list",data:=.seq its.toArray c })/\W i m ys H':=λ{Y s9 al} I9 {h' its' c'} kp ca cb n9 tk=>by
    obtain⟨m',hm,w9⟩:=hN al Y n9;have bc:Y D=none:=(I9.pin (D,_) (aEd _ (aEs _ (aEd _ memD)))).2.1;have ce:∀ b∈fp,Y b=none:=λb B=>by
     obtain⟨o,e,d⟩:=T.obj _ _ ax b B;exact(I9.pin (b,o) (aEd _ (aEd _ (bR B e)))).2.1
    have ao:Inv X pl I Y s9:=I9.pins_of λp hp=>I9.pin p (aEd _ (aEs _ (aEs _ hp)));have cf:Inv X pl I Y { s9 with heap:=h',toks:=tk }:=ao.turned (it:=D) kp bc Dl (.inl DX) (av.exf D DX).2 hpl;refine⟨m',hm,i+1,al,Y,cf.weak l8.symm am,T.keep _ _ _ ax λb B o e=>kp b o (λz=>ay (z ▸ B)) (I9.pin (b,o) (aEd _ (aEd _ (bR B e)))).1,ce,bc,⟨its',c',ca,cb⟩,w9⟩
   cases ok with
   | false =>
    rw[if_neg aEm]at q9;have cg:=(I9.pin (D,_) (aEd _ (aEs _ (aEd _ memD)))).1;exact aE8 ⟨rfl,ends I9 (h':=s9.heap) (λ_ _ _ e=>e) rv cg q9 s9.toks⟩
   | true =>
    rw[if_pos rfl]at q9;have ap:=bj _ s9 I Y _ I9 q9;rw[au]at ap;refine aE7 (aE7 (wpAny_mono ap (λv ci ⟨y,cm,ao,cj,ap⟩=>?_) λ_ _ z=>z.elim));have bf:=(ao.pin (D,_) (aEd _ (aEs _ (aEd _ memD)))).1;have hlen:=rv.length;refine aE7 (wpAny_list_append_plain (items:=its.toArray) ⟨c,bf⟩ (λh' hl hs=>aE8 (aE8 ⟨rfl,?_⟩)) (by rw[aEh];omega));obtain⟨c',e'⟩:=hl;have ck:h'.get? D=some { cls:=.type "list",data:=.seq (its++[v]).toArray c' }:=by rw[e'];simp
    exact ends ao (h':=h') (λb o B e=>hs.extBut b o B e) (rv.append (.cons cj .nil)) ck ap ci.toks
 refine jP loop ?_;exact T.self X.A 0 _ _ _ az loop
section
variable {X:Cx} {pins:List (Addr×Obj)} {σ:St} {inn:Scope} {js:List Nat} {cs ts:List Str} {nt lo:Nat} {elt tg iter t2 i2:Expr} {ifs f2:List Expr} {pos:Pos} {g g2:TG} {tt af:TT} {te:TE} {wi ah:TI}
def R6 {J:It} {fp:List Addr} {it:Addr} {tn:Nat->Heap->Prop} {H2:Hp} {s2:Shared} {E:Value->Shared->Prop} {Q:VK} {RR:Value->Addr->Result->Shared->Prop}
 (bi:X.calm=true) (O:CompOk X.env.scope inn X.N js cs) (cw:ts.length=nt)
 (cx:lo<=nt) (hg:∀ L M ex,PG (dL X inn (ts++cs) L M ex) tg g) (hk:GK lo g) (cz:∀ L M ex,PI (dL X inn (ts++cs) L M ex) t2 i2 ah) (c_:∀ L M ex,PG (dL X inn (ts++cs) L M ex) t2 g2) (da:GR lo nt g2) (db:∀ L M ex,PIf (dL X inn (ts++cs) L M ex) f2 af) (de:∀ env x,foldedSetIterable i2 env x=pure x) (ht:∀ L M ex,PIf (dL X inn (ts++cs) L M ex) ifs tt) (he:∀ L M ex,PE (dL X inn (ts++cs) L M ex) elt te)
 (I2:Inv X pins σ H2 s2) (T:qJ X.prog X.w X.K tg J fp it tn) (bj:tn 0 s2.heap) (fo:∀ b∈fp,iE X pins H2 b)
 (R:R4 J (sIn nt js σ) g tt ah g2 af te Q H2)
 (df:∀ D C s' H',Inv X pins σ H' s'->(∃ m,s'.heap.Ns C m)->H' C=none->C≠X.env.locals->X.s₀.heap.objs.size<=C->(∀ x c,X.env.cells.lookup x=some c->c≠C)->(∀ p∈X.pn++pins,p.1≠C)->Q (.ref D) H'->RR (.ref D) C (.ok .next) s') :
 wpAny (model X.prog X.w) X.A (newList []) (λbu bv=>wpAny (model X.prog X.w) X.A (newFunctionEnv inn X.env.globals (iL inn X.env) [] X.env.qual none .none (some X.env)) (λbc bw =>
  codeAny (model X.prog X.w) X.A (.compStart (.ListComp elt [⟨tg,iter,ifs,0⟩,⟨t2,i2,f2,0⟩] inn pos) 0 (.ref it) bu { bc with scope:=relabel inn X.env }) (RR bu bc.locals) bw) E bv) E s2:=by
 refine wpAny_newObj_type (wpAny_newFunctionEnv O.nocell (by intro y hy;simp at hy) (λao al am=>?_) O.kind);dsimp only at al am ⊢;generalize hD:s2.heap.objs.size=D;have I3:Inv X pins σ H2 { s2 with heap:=s2.heap.push { cls:=.type "list",dict:=none,data:=.seq ([]:List Value).toArray } }:=I2.kept (t':=s2.toks) λb o e=>aEa _ e;generalize bx:({ s2 with heap:=s2.heap.push { cls:=.type "list",dict:=none,data:=.seq ([]:List Value).toArray } }:Shared)=U at I3;have e3:U.heap=s2.heap.push { cls:=.type "list",dict:=none,data:=.seq ([]:List Value).toArray }:=by rw[<- bx]
 have dh:U.heap.get? D=some { cls:=.type "list",dict:=none,data:=.seq ([]:List Value).toArray }:=by rw[e3,<- hD];exact aEg _ rfl
 have aw:U.heap.objs.size=D+1:=by rw[e3,Heap.size_push,hD]
 have di:(s2.heap.push { cls:=.type "list",dict:=none,data:=.seq ([]:List Value).toArray })=U.heap:=e3.symm;rw[di]at al am ⊢;have bf:H2 D=none:=I2.hok.fresh (by rw[hD];exact Nat.le_refl _);have up:∀ b o,U.heap.get? b=some o->ao.get? b=some o:=λb o e=>am.extBut b o (aEw (aEf e)) (aEa _ e);have az:∀ b∈fp,b<U.heap.objs.size/\b≠D:=λb hb=>by
  obtain⟨o,eo,_⟩:=T.obj 0 _ bj b hb;have h1:=aEf eo;rw[hD]at h1;exact⟨by rw[aw];exact Nat.lt_succ_of_lt h1,aEw h1⟩
 have nb:∀ b,X.s₀.heap.objs.size<=b->∀ o,X.base.get? b≠some o:=λb hb o e=>absurd (aEq (aEf e) (Nat.le_trans I2.ok.bsz hb)) (Nat.lt_irrefl _);have a_:s2.heap.objs.size<=D:=by rw[hD];exact Nat.le_refl _
 have fD:iE X pins H2 D:=I2.fpOk a_ bf;have hex:∀ b∈D :: fp,b<U.heap.objs.size/\b≠X.env.locals/\b∉X.fs/\(∀ x c,X.env.cells.lookup x=some c->c≠b)/\∀ o,X.base.get? b≠some o:=λb hb=>by
  rcases aFL.mp hb with rfl | hb
  .exact⟨by rw[aw];exact Nat.lt_succ_self _,fD.2.1,fD.2.2.1,fD.2.2.2.2.1,nb _ (Nat.le_trans I2.sz a_)⟩
  .obtain⟨f0,f1,b_,f3,f4,f5⟩:=fo b hb;refine⟨(az b hb).1,f1,b_,f4,λo e=>?_⟩;rcases f3 with z | z
   .exact I2.ok.noex b o e z
   .exact nb b z o e
 have hC:U.heap.objs.size=U.heap.objs.size:=rfl;generalize I:dL X inn (ts++cs) U H2 (D :: fp)=B;have I4:Inv B [] (sIn nt js σ) H2 { U with heap:=ao,toks:=U.toks }:=by
  rw[<- I];exact P1 cw I3 O hex ⟨_,al⟩ up
 have xp:B.prog=X.prog:=by rw[<- I];rfl
 have xw:B.w=X.w:=by rw[<- I];rfl
 have xK:B.K=X.K:=by rw[<- I];rfl
 have xA:B.A=X.A:=by rw[<- I];rfl
 have xc:B.calm=true:=by rw[<- I];exact bi
 have xe:B.env=compEnvC inn (iL inn X.env) U.heap.objs.size X.env:=by rw[<- I];rfl
 have xx:B.xe=λ_ _=>False:=by rw[<- I];rfl
 have bm:B.ex=D :: fp:=by rw[<- I];rfl
 have ba:B.pn=[]:=by rw[<- I];rfl
 have ca:B.s₀=U:=by rw[<- I];rfl
 have dj:B.H₀=H2:=by rw[<- I];rfl
 have dm:B.fs=frs X.stack:=by rw[<- I];rfl
 have dn:PG B tg g:=by rw[<- I];exact hg _ _ _
 have dq:PIf B ifs tt:=by rw[<- I];exact ht _ _ _
 have dr:PE B elt te:=by rw[<- I];exact he _ _ _
 have cb:PI B t2 i2 ah:=by rw[<- I];exact cz _ _ _
 have ce:PG B t2 g2:=by rw[<- I];exact c_ _ _ _
 have cf:PIf B f2 af:=by rw[<- I];exact db _ _ _
 have au:=I4.ok;have xl:B.env.locals=U.heap.objs.size:=by rw[xe];rfl
 have Dl:D≠B.env.locals:=by rw[xl,aw];exact aEw (Nat.lt_succ_self _)
 have ax:∀ {H':Hp} {pl:List (Addr×Obj)},(∀ b∈fp,H' b=none)->(∀ p∈pl,p.1=D)->∀ b∈fp,iE B pl H' b:=λ{H' pl} hn hpl b hb=>by
  have bb:b∈B.ex:=by rw[bm];exact aEc _ hb
  refine⟨hn b hb,(au.exf b bb).1,λz=>au.exfs b bb z,.inl bb,(au.exf b bb).2,λp Y=>?_⟩;rw[ba,List.nil_append]at Y;rw[hpl p Y];exact Ne.symm (az b hb).2
 have DX:D∈B.ex:=by rw[bm];exact aEb
 obtain⟨W,⟨m0,w0⟩,turn⟩:=R;have loop:codeAny (model X.prog X.w) X.A (.compLoop (.ListComp elt [⟨tg,iter,ifs,0⟩,⟨t2,i2,f2,0⟩] inn pos) 0 (.ref it) (.ref D) B.env) (RR (.ref D) U.heap.objs.size) { U with heap:=ao,toks:=U.toks }:=by
  refine codeAny_loop rfl (λn s'=>∃ i ys H',Inv B [] (sIn nt js σ) H' s'/\tn i s'.heap/\(∀ b∈fp,H' b=none)/\H' D=none/\(∃ (its:List Value) (c:Nat),Vals ys its/\s'.heap.get? D=some { cls:=.type "list",data:=.seq its.toArray c })/\W i n ys H') ?_ m0
   ⟨0,[],H2,I4,?_,λb hb=>(fo b hb).1,bf,⟨[],0,.nil,up D _ dh⟩,w0⟩
  .rintro n s5 ⟨i,ys,H5,I5,cg,ci,bo,⟨its,c,rv,eD⟩,w5⟩;show wpAny _ X.A ((compTurn (.ListComp elt [⟨tg,iter,ifs,0⟩,⟨t2,i2,f2,0⟩] inn pos) 0 (.ref it) (.ref D) B.env).onRaise (λx=>do noteFrame x B.env;theTreesLotGoes x)) _ _ s5;refine wpAny_noted ?_;rw[sQ];refine aE7 (wpAny_standAt (aE7 ?_));have bg:Inv B (cA [D] s5.heap) (sIn nt js σ) H5 s5:=by
    have q:=I5.pinned (fp:=[D]) (λb hb=>?_) (λb hb=>?_)
    .simpa using q
    .have e:b=D:=by simpa using hb
     subst e;refine⟨bo,Dl,λz=>au.exfs b DX z,.inl DX,(au.exf b DX).2,λp Y=>?_⟩;rw[ba,List.nil_append]at Y;cases Y
    .have e:b=D:=by simpa using hb
     subst e;exact⟨_,eD,λv z=>by cases z⟩
   have bq:∀ p∈cA [D] s5.heap,p.1=D:=λp Y=>by simpa using (gR Y).1
   have memD:(D,({ cls:=.type "list",data:=.seq its.toArray c }:Obj))∈cA [D] s5.heap:=bR (by simp) eD;obtain⟨hz,dt⟩:=turn i n ys H5 w5;rcases dt with ⟨stop,fin⟩ | ⟨go,N,hN,step⟩
   .have q:=T.done B xp xw xK xc i _ s5 _ H5 (notedBy (model X.prog X.w) X.A B.env λe s'=>RR (.ref D) U.heap.objs.size (.error e) s') bg (ax ci bq) cg stop;rw[xA]at q;refine wpAny_mono q (λr s6 ⟨hr,I6⟩=>?_) λ_ _ z=>z;subst hr;refine aE8 ?_;have du:=(I6.pin (D,_) (aEd _ memD)).1;have un:Un (frs X.stack) (D :: fp) H2 H5 U.heap s6.heap:=by
     have z:=I6.base;rw[dm,bm,dj,ca]at z;exact z
    have dv:s6.os=U.os:=by have z:=I6.os;rw[ca]at z;exact z
    have cj:HOk X.prog X.w H5 s6.heap:=by have z:=I6.hok;rw[xp,xw]at z;exact z
    have I7:Inv X pins σ H5 s6:=I3.call' dv un cj I6.bare λb hb=>by
     rcases aFL.mp hb with e | hb
     .rw[e];exact⟨.inr (Nat.le_trans I2.sz a_),fD.2.1,fD.2.2.2.2.1,fD.2.2.2.2.2⟩
     .obtain⟨f0,f1,b_,f3,f4,f5⟩:=fo b hb;exact⟨f3,f1,f4,f5⟩
    have I8:Inv X pins σ (upd H5 D (.lst ys)) s6:=I7.track bo (Nat.le_trans I2.sz a_) fD.2.1 fD.2.2.2.2.1 fD.2.2.2.2.2 ⟨Nat.le_of_lt hz,its,c,rv,du⟩;have ck:U.heap.objs.size<=U.heap.objs.size:=Nat.le_refl _;have fC:iE X pins (upd H5 D (.lst ys)) U.heap.objs.size:=I3.fpOk ck (by
     rw[aF (by rw[<- xl];exact Ne.symm Dl)];have z:=I6.free;rw[xl]at z;exact z)
    obtain⟨mm,cm,_⟩:=I6.loc;rw[xl]at cm;exact df D _ s6 _ I8 ⟨mm,cm⟩ fC.1 fC.2.1 (Nat.le_trans I3.sz ck) fC.2.2.2.2.1 fC.2.2.2.2.2 (fin D bo)
   .have q:=T.item B xp xw xK xc i _ s5 _ H5 (notedBy (model X.prog X.w) X.A B.env λe s'=>RR (.ref D) U.heap.objs.size (.error e) s') bg (ax ci bq) cg go;rw[xA]at q;refine wpAny_mono q (λr s6 ⟨u,hr,h6⟩=>?_) λ_ _ z=>z;subst hr;refine aE7 (wpAny_mono h6 (λ_ s7 ⟨x,H7,I7,r7,y7,ay,dw⟩=>?_) λ_ _ z=>z);have dz:=I7.pinned (fp:=fp) (λb hb=>ax dw bq b hb) (T.obj _ _ ay);have q8:=dn _ s7 _ H7 x u _ dz r7 (hk x _ H7 _ (step x H7 y7));rw[xp,xw,xA,xx]at q8;refine aE7 (wpAny_mono q8 (λ_ s8 ⟨aq,H8,I8,⟨k8,l8⟩,q8⟩=>?_) λ_ _ z=>z.elim);have q9:=dq _ s8 aq H8 _ I8 q8;rw[xp,xw,xA,xx]at q9;refine aE7 (wpAny_mono q9 (λok s9 ⟨H9,I9,q9⟩=>?_) λ_ _ z=>z.elim);have ar:∀ (j:Nat) v,(sIn nt js σ)[j]?=some (some v)->aq[j]?=some (some v):=λj v e=>by
     have hj:=(oY e).1;rw[k8 j (Nat.le_trans cx hj)];exact e
    have ends:∀ {H9:Hp} {s9:Shared} {ap:List V},Inv B (cA [D] s5.heap++cA fp s7.heap) aq H9 s9->∀ {h':Heap} {its':List Value} {c':Nat},(∀ b o,b≠D->s9.heap.get? b=some o->h'.get? b=some o)->Vals ap its'->h'.get? D=some { cls:=.type "list",data:=.seq its'.toArray c' }->N ap H9 ->
     ∀ tk,∃ m,m<n/\∃ i ys H',Inv B [] (sIn nt js σ) H' { s9 with heap:=h',toks:=tk }/\tn i h'/\(∀ b∈fp,H' b=none)/\H' D=none/\(∃ (its:List Value) (c:Nat),Vals ys its/\h'.get? D=some { cls:=.type "list",data:=.seq its.toArray c })/\W i m ys H':=λ{H9 s9 ap} I9 {h' its' c'} kp br bt n9 tk=>by
     obtain⟨m',hm,w9⟩:=hN ap H9 n9;have cn:H9 D=none:=(I9.pin (D,_) (aEd _ (aEs _ memD))).2.1;have d_:∀ b∈fp,H9 b=none:=λb hb=>by
      obtain⟨o,e,d⟩:=T.obj _ _ ay b hb;exact(I9.pin (b,o) (aEd _ (aEd _ (bR hb e)))).2.1
     have ef:Inv B [] aq H9 s9:=I9.pins_of λp Y=>by cases Y
     have av:Inv B [] aq H9 { s9 with heap:=h',toks:=tk }:=ef.turned (it:=D) kp cn Dl (.inl DX) (au.exf D DX).2 (λp Y=>by rw[ba]at Y;cases Y);refine⟨m',hm,i+1,ap,H9,av.weak l8.symm ar,T.keep _ _ _ ay λb hb o e=>kp b o (az b hb).2 (I9.pin (b,o) (aEd _ (aEd _ (bR hb e)))).1,d_,cn,⟨its',c',br,bt⟩,w9⟩
    cases ok with
    | false =>
     rw[if_neg aEm]at q9;have eh:=(I9.pin (D,_) (aEd _ (aEs _ memD))).1;exact aE8 ⟨rfl,ends I9 (h':=s9.heap) (λ_ _ _ e=>e) rv eh q9 s9.toks⟩
    | true =>
     rw[if_pos rfl]at q9;have cp:=cb _ s9 aq H9 _ I9 q9;rw[xp,xw,xA,xx]at cp;refine aE7 (wpAny_mono cp (λv fg ek=>?_) λ_ _ z=>z.elim);refine aE7 (wpAny_standAt (aE7 (wpAny_of_eq (de _ v) (aE7 (wpAny_holding (wpAny_mono ek (λfh fi e_=>?_) λ_ _ z=>z.elim))))));obtain⟨fj,fk,fm,J2,fb,ei,av,T2,cq,cr,fc⟩:=e_;subst ei;have pm:(D,({ cls:=.type "list",data:=.seq its.toArray c }:Obj))∈B.pn++(cA [D] s5.heap++cA fp s7.heap):=aEd _ (aEs _ memD);have cu:=(av.pin (D,_) pm).1;have cv:fb D=none:=(av.pin (D,_) pm).2.1;have hpl:∀ p∈B.pn++cA fp s7.heap,p.1≠D:=λp Y=>by
      rw[ba,List.nil_append]at Y;exact(az p.1 (gR Y).1).2
     have fq:B.calm=true:=xc;refine aE7 (wpAny_runOwn ?_);have core:=R5 (X:=B) (pl:=cA fp s7.heap) (σ:=aq) (elt:=elt) (t1:=tg) (i1:=iter) (tg:=t2) (iter:=i2) (f1:=ifs) (ifs:=f2) (inn:=inn) (pos:=pos) (lo:=lo) (hi:=nt) (D:=D) (N:=N)
      (RR:=λr s'=>match r with | .ok f=>wpAny (model B.prog B.w) B.A (again (.compLoop (.ListComp elt [⟨tg,iter,ifs,0⟩,⟨t2,i2,f2,0⟩] inn pos) 0 (.ref it) (.ref D) B.env)) (λf s'=>f=Fin.again (.compLoop (.ListComp elt [⟨tg,iter,ifs,0⟩,⟨t2,i2,f2,0⟩] inn pos) 0 (.ref it) (.ref D) B.env)/\∃ m,m<n/\∃ i ys H',Inv B [] (sIn nt js σ) H' s'/\tn i s'.heap/\(∀ b∈fp,H' b=none)/\H' D=none/\(∃ (its:List Value) (c:Nat),Vals ys its/\s'.heap.get? D=some { cls:=.type "list",data:=.seq its.toArray c })/\W i m ys H') (λ_ _=>False) s' | .error e=>False)
      xc xx DX Dl hpl (λhb=>(cr D hb).2.2.2.2.2 _ pm rfl) ce da cf dr (λj v h1 h2 e=>?_) (av.pins_of λp Y=>av.pin p (aEd _ (aEd _ Y))) T2 cq
      (λb hb=>let ⟨a0,a1,a2,a3,a4,a5⟩:=cr b hb;⟨a0,a1,a2,a3,a4,λp Y=>a5 p ((aFM.mp Y).elim (aEs _) λz=>aEd _ (aEd _ z))⟩) cv rv cu fc ?_
     .rw[xp,xw,xA]at core;refine codeAny_mono core λr s' hr=>?_;cases r with
      | ok f=>exact wpAny_mono hr (λ_ _ z=>by obtain⟨rfl,z⟩:=z;exact⟨rfl,z⟩) λ_ _ z=>z.elim
      | error e=>exact hr.elim
     .have e':=(k8 j h1).symm.trans e;exact absurd (oY e').1 (by omega)
     .intro s' H' ap its' c' I' br bt fe n';obtain⟨m',hm,w9⟩:=hN ap H' n';have ff:∀ b∈fp,H' b=none:=λb hb=>by
       obtain⟨o,e,d⟩:=T.obj _ _ ay b hb;exact(I'.pin (b,o) (aEd _ (bR hb e))).2.1
      refine aE8 ⟨rfl,m',hm,i+1,ap,H',(I'.pins_of λp Y=>by cases Y).weak l8.symm ar,T.keep _ _ _ ay λb hb o e=>(I'.pin (b,o) (aEd _ (bR hb e))).1,ff,fe,⟨its',c',br,bt⟩,w9⟩
  .exact T.keep 0 _ _ bj λb hb o e=>up b o (by rw[e3];exact aEa _ e)
 have e4:({ s2 with heap:=ao,toks:=s2.toks+([]:List (Str×Value)).length }:Shared)={ U with heap:=ao,toks:=U.toks }:=by rw[<- bx];rfl
 rw[e4];show codeAny _ _ (.compStart (.ListComp elt [⟨tg,iter,ifs,0⟩,⟨t2,i2,f2,0⟩] inn pos) 0 (.ref it) (.ref D) (compEnvC inn (iL inn X.env) U.heap.objs.size X.env)) (RR (.ref D) U.heap.objs.size) _;rw[<- xe];refine codeAny_compStart_list loop ?_;refine T.self X.A 0 _ _ _ ?_ loop;exact T.keep 0 _ _ bj λb hb o e=>up b o (by rw[e3];exact aEa _ e)
def aAd (L M cs:List Str) (js:List Nat) (U:X.calm=true) (O:CompOk X.env.scope inn X.N js cs) (hi:PI X tg iter wi)
 (hg:∀ z B ex,PG (dL X inn ((L++M)++cs) z B ex) tg g) (hk:GK L.length g) (ht:∀ z B ex,PIf (dL X inn ((L++M)++cs) z B ex) ifs tt)
 (Y:∀ z B ex,PI (dL X inn ((L++M)++cs) z B ex) t2 i2 ah) (al:∀ z B ex,PG (dL X inn ((L++M)++cs) z B ex) t2 g2) (am:GR L.length (L++M).length g2) (ao:∀ z B ex,PIf (dL X inn ((L++M)++cs) z B ex) f2 af) (he:∀ z B ex,PE (dL X inn ((L++M)++cs) z B ex) elt te)
 (hs:∀ x,foldedSetIterable iter X.env x=pure x:=by intro _;rfl) (ap:∀ env x,foldedSetIterable i2 env x=pure x:=by intro _ _;rfl):PE X (.ListComp elt [⟨tg,iter,ifs,0⟩,⟨t2,i2,f2,0⟩] inn pos) (aCx wi (L++M).length js g tt ah g2 af te):=by
 intro pins s σ H Q I h;rw[eval_ListComp];refine wpAny_comprehension_free (use:=none) rfl hs (sW λy hy e=>I.ok.has y.1 (O.frees y hy e)) O.kind O.names (thn (hi pins s σ H _ I h) λxv s1 h1=>thn h1 λav s2 h2=>?_);obtain⟨it,fp,tn,J,H2,e,I2,T,aq,f2,R⟩:=h2;subst e;refine R6 (Q:=Q) (RR:=λar C=>compPost (model X.prog X.w) X.A X.xe none (EP X pins σ Q) ar C) U O rfl (lo:=L.length) (by simp) hg hk Y al am ao ap ht he I2 T aq f2 R ?_;intro D C s' H' I' ⟨m,hm⟩ c1 c2 c3 c4 c5 q;refine⟨m,hm,λh' au=>?_⟩;exact⟨.ref D,H',I'.turned (it:=C) (t':=s'.toks) (λb o hb e=>au.extBut b o hb e) c1 c2 (.inr c3) c4 c5,rfl,q⟩
end
def aAe {X:Cx} {tg:Expr} (K:PySem.W.Frag) (h:X.K=K) {l:Expr} {tl:TE} (z:PE X l tl):PI X tg l (p0 K tl):=h ▸ cI z
def R7 {K:PySem.W.Frag} {a:Addr} {xs:List V} {B:St} {g g2:TG} {tt af:TT} {wi:TI} {te:TE} {H:Hp} {Q:VK} (Pv:Nat->List V->Hp->Prop) (h0:Pv 0 [] H) (L:∀ i ys H,i<=xs.length->Pv i ys H->SqL K H a xs/\ys.length<sizeLine)
 (hs:∀ i x ys H,xs[i]?=some x->Pv i ys H->g x B H λz H2=>tt z H2 λb J=>if b=true then wi z J λM U=>W5 M z g2 af te ys (Pv (i+1)) U else Pv (i+1) ys J) (hd:∀ ys H,Pv xs.length ys H->∀ D,H D=none->Q (.ref D) (upd H D (.lst ys))) :
 R4 (Itl K a) B g tt wi g2 af te Q H:=by
 refine⟨λi m ys H=>m=xs.length - i/\i<=xs.length/\Pv i ys H,⟨xs.length,by simp,Nat.zero_le _,h0⟩,?_⟩;rintro i m ys H ⟨rfl,hi,p⟩;obtain⟨q,Y⟩:=L i ys H hi p;refine⟨Y,?_⟩
 by_cases I:i<xs.length
 .refine .inr ⟨⟨xs,xs[i],q,by simp[I]⟩,Pv (i+1),λal H' p'=>⟨xs.length - (i+1),by omega,rfl,I,p'⟩,λx H' y=>?_⟩;obtain⟨e,y⟩:=y;subst e;exact hs i x ys _ (y xs q) p
 .have e:i=xs.length:=by omega
  subst e;exact .inl ⟨⟨xs,q,Nat.le_refl _⟩,hd ys H p⟩
def R8 {K:PySem.W.Frag} {a:Addr} {xs:List V} {z:St} {g:TG} {tt:TT} {te:TE} {H:Hp} {N:List V->Hp->Prop} {B:List V} (Pv:Nat->List V->Hp->Prop) (h0:Pv 0 B H) (L:∀ i ys H,i<=xs.length->Pv i ys H->SqL K H a xs/\ys.length<sizeLine)
 (hs:∀ i x ys H,xs[i]?=some x->Pv i ys H->g x z H λD H2=>tt D H2 λb J=>if b=true then te D J λy M=>Pv (i+1) (ys++[y]) M else Pv (i+1) ys J) (hd:∀ ys H,Pv xs.length ys H->N ys H) :
 W5 (Itl K a) z g tt te B N H:=by
 refine⟨λi m ys H=>m=xs.length - i/\i<=xs.length/\Pv i ys H,⟨xs.length,by simp,Nat.zero_le _,h0⟩,?_⟩;rintro i m ys H ⟨rfl,hi,p⟩;obtain⟨q,U⟩:=L i ys H hi p;refine⟨U,?_⟩
 by_cases I:i<xs.length
 .refine .inr ⟨⟨xs,xs[i],q,by simp[I]⟩,Pv (i+1),λY H' p'=>⟨xs.length - (i+1),by omega,rfl,I,p'⟩,λx H' y=>?_⟩;obtain⟨e,y⟩:=y;subst e;exact hs i x ys _ (y xs q) p
 .have e:i=xs.length:=by omega
  subst e;exact .inl ⟨⟨xs,q,Nat.le_refl _⟩,hd ys H p⟩
def aDr (t u:TS):TS:=λD σ H=>∀ M:St->Hp->Prop,(∀ z H',u D z H'->M z H')->t { D with nx:=M } σ H
def aZ {X:Cx} {st:Stmt} {rest:List Stmt} {t u:TS} (h1:PS X st t) (h2:PSs X rest u):PSs X (st :: rest) (aDr t u):=λpins s σ H D I h=>aG h1 h2 pins s σ H D I (h (u D) λ_ _ z=>z)
end L2
namespace L2
open PySem
open PyProof.Rows PySem.MeetsSeq PySem.SeqAt PySem.Spec
open PySem.AutoSeq1 (wpAny_loadPart')
section
variable {X:Cx}
def aCy (t:TS):TS:=λD σ H=>∃ d kvs,H d=some (.dK kvs)/\t { D with nx:=λz H'=>∃ od,H' d=some (.frz od (.dK kvs))/\D.nx z (upd H' d (.dK kvs)) } σ H
def W6 {st:Stmt} {t:TS} (h:PS X st t):PS X st (aCy t):=by
 intro pins s σ H D I q;obtain⟨d,kvs,hd,q⟩:=q;have h0:∀ o u,X.H₀ d≠some (.frz o u):=λo u z=>by
  have:=I.base.frzs d o u z;rw[hd]at this;cases this
 refine thn (h pins s σ H _ I q) λf U B=>?_;cases f with
 | next =>
  obtain⟨J,H',L,od,M,B⟩:=B;exact⟨J,_,L.thaw M h0,B⟩
 | ret v=>exact B
 | brk=>exact B
 | cont=>exact B
end
end L2
namespace CW
open PySem L2
def aAf {b:Int}:∀ {gs:List Grp},(∀ g∈gs,g.2.2.length<=60)->0<=lng b gs/\lng b gs<=60 * (gs.length:Int)
 | [],_=>⟨Int.le_refl _,Int.le_refl _⟩
 | g :: r,h=>by
  obtain⟨h1,h2⟩:=aAf (b:=b) (gs:=r) λx z=>h x (aEc _ z);have h3:=h g aEb;unfold lng at h1 h2 ⊢;rw[cH,aFC]
  by_cases c:b<g.1
  .rw[if_pos c];omega
  .rw[if_neg c];omega
def laid (z:List Int) (gs:List Grp):Trs:=z.flatMap λm=>match gs.find? (λg=>decide (g.1=m))with | some g=>g.2.2.map λo=>(m,o) | none=>[]
def qY (m:Int) (z:List Int) (gs:List Grp):laid (m :: z) gs=(match gs.find? (λg=>decide (g.1=m))with | some g=>g.2.2.map (λo=>(m,o)) | none=>[])++laid z gs:=rfl
def sF (a b:List Int) (gs:List Grp):laid (a++b) gs=laid a gs++laid b gs:=by simp[laid]
def aAg {gs:List Grp} (z:(gs.map (·.1)).Nodup) {g:Grp} (B:g∈gs):laid [g.1] gs=g.2.2.map λo=>(g.1,o):=by
 rw[qY,pO z B];exact List.append_nil _
def yG {z ks:List Int} (gs:List Grp) (h:z.Perm ks):(laid z gs).Perm (laid ks gs):=h.flatMap_right _
def yH:∀ {gs:List Grp},(gs.map (·.1)).Nodup->laid (gs.map (·.1)) gs=bL gs:=by
 intro gs z;have go:∀ us:List Grp,(∀ g∈us,g∈gs)->laid (us.map (·.1)) gs=bL us:=by
  intro us
  induction us with
  | nil=>intro _;rfl
  | cons g r B =>
   intro h;rw[aEy,qY,pO z (h g aEb),cS,B λx D=>h x (aEc _ D)]
 exact go gs λ_ h=>h
def aAh {B:List Int} {gs:List Grp} {q:Int×Int} (h:q∈laid B gs):q.1∈B:=by
 unfold laid at h;obtain⟨m,D,z⟩:=List.mem_flatMap.mp h;split at z
 .obtain⟨o,_,rfl⟩:=aFN.mp z;exact D
 .cases z
def sG {gs:List Grp} (ac:Asc gs):∀ {z:List Int},z.Pairwise (·<·)->(laid z gs).Pairwise ple
 | [],_=>List.Pairwise.nil
 | m :: z,h=>by
  obtain⟨h1,h2⟩:=List.pairwise_cons.mp h;rw[qY];refine List.pairwise_append.mpr ⟨?_,sG ac h2,λa B b J=>?_⟩
  .split
   .next g L =>
    rw[List.pairwise_map];exact(ac g (List.mem_of_find?_eq_some L)).imp λ{x y} D=>.inr ⟨rfl,D⟩
   .exact List.Pairwise.nil
  .have I:=h1 _ (aAh J);split at B
   .obtain⟨o,_,rfl⟩:=aFN.mp B;exact .inl I
   .cases B
def yI {z ks:List Int} (B:z.Perm ks) (hs:z.Pairwise (·<=·)) (D:ks.Nodup):z.Pairwise (·<·):=by
 have h:=B.nodup_iff.mpr D;exact(List.pairwise_and_iff.mpr ⟨hs,h⟩).imp λ{x y} ⟨a,b⟩=>by omega
section
variable {P:Program} {w:World} {K:PySem.W.Frag} {mg:Str->Option Value} {base:Heap}
inductive jQ (vs:List V) (H:Hp) (Q:VK) (E_:XK):Prop
 | mk (d:Addr) (gs:List Grp) (h0_:vs=[.ref d]) (h1_:DG H d gs) (h2_:GoodG gs) (h3_:gs.length<=60) (h4_:(∀ g∈gs,g.2.2.length<=60)) (h5_:∀ (e:Addr) (kvs:List (Key×V)) (H':Hp),H e=none->Same H H'->H' e=some (.dK kvs)->(∀ g∈gs,dE kvs (Sum.inl g.1:Key)=some (.int (2 * les (bL gs) g.1)))->Q (.ref e) H'):jQ vs H Q E_
inductive fY (vs:List V) (H:Hp) (Q:VK) (E_:XK):Prop
 | mk (d:Addr) (gs:List Grp) (k p:Int) (h0_:vs=[.ref d,.int k,.int p]) (h1_:DG H d gs) (h2_:gs.length<=60) (h3_:(∀ g∈gs,g.2.2.length<=60)) (h4_:∀ (gs':List Grp) (H':Hp),StayG d gs H H'->DG H' d gs'->uY H k (p - 2 * wgt (gM k) gs - 2 * k) gs gs'->Q .non H'):fY vs H Q E_
inductive jZ (vs:List V) (H:Hp) (Q:VK) (E_:XK):Prop
 | mk (d:Addr) (gs:List Grp) (p:Int) (H0:Hp) (h0_:vs=[.ref d,.int p]) (h1_:DG H d gs) (h2_:GoodG gs) (h3_:Asc gs) (h4_:sto gs<=59) (h5_:Bd (bL gs) (p - 1)) (h6_:Same H0 H) (h7_:H0 d=none) (h8_:(∀ g∈gs,H0 g.2.1=none)) (h9_:∀ (gs':List Grp) (H':Hp),Same H0 H'->DG H' d gs'->GoodG gs'->Asc gs'->Add (bL gs) p (bL gs')->(∀ g∈gs',H0 g.2.1=none)->Q .non H'):jZ vs H Q E_
end
def W7 {l:List Int} (h:l≠[]):atI (l.map V.int) (-1)=some (V.int (l.getLast h)):=by
 have e:l.map V.int=l.dropLast.map V.int++[V.int (l.getLast h)]:=by
  rw[<- List.map_singleton (f:=V.int),<- aEo,List.dropLast_concat_getLast h]
 rw[e];exact F1 _ _
def iB:∀ (r:List Int) (n:Int),(r.foldl max n=n\/r.foldl max n∈r)/\n<=r.foldl max n/\∀ x∈r,x<=r.foldl max n
 | [],n=>⟨.inl rfl,Int.le_refl _,λx hx=>(nomatch hx)⟩
 | a :: r,n=>by
  obtain⟨h1,h2,h3⟩:=iB r (max n a);rw[aFA];refine⟨?_,by omega,λx hx=>?_⟩
  .rcases h1 with h1 | h1
   .rcases Int.le_total n a with c | c
    .right;rw[h1];rw[show max n a=a by omega];exact aEb
    .left;rw[h1];omega
   .exact .inr (aEc _ h1)
  .rcases aFL.mp hx with rfl | hx
   .omega
   .exact h3 x hx
def j7 {gs:List Grp} {p:Int} (J:GoodG gs) {ns:List Int} (h1:∀ n∈ns,∃ g∈gs,∃ B:g.2.2≠[],n=g.1/\g.2.2.getLast B=p - 1 - 2 * les (bL gs) g.1)
 (h2:∀ g∈gs,∀ B:g.2.2≠[],g.2.2.getLast B=p - 1 - 2 * les (bL gs) g.1->g.1∈ns) :
 ∃ s:Int,mxD ns (.int 0)=.int s/\0<=s/\(s=0\/1<=s/\∃ g∈gs,∃ B:g.2.2≠[],g.1=s/\g.2.2.getLast B=p - 1 - 2 * les (bL gs) s)/\(∀ g∈gs,∀ B:g.2.2≠[],s<g.1->g.2.2.getLast B≠p - 1 - 2 * les (bL gs) g.1):=by
 cases ns with
 | nil=>exact⟨0,rfl,Int.le_refl _,.inl rfl,λg D B _ e=>(nomatch (h2 g D B e))⟩
 | cons n r =>
  obtain⟨L,a2,M⟩:=iB r n;have U:r.foldl max n∈n :: r:=by
   rcases L with h | h
   .rw[h];exact aEb
   .exact aEc _ h
  obtain⟨g,D,B,e1,e2⟩:=h1 _ U;have Y:=(J g D).1;refine⟨r.foldl max n,rfl,by omega,.inr ⟨by omega,g,D,B,e1.symm,by rw[e1];exact e2⟩,λx hx I al e=>?_⟩;have:=h2 x hx I e;rcases aFL.mp this with z | z
  .omega
  .have:=M _ z;omega
def Lst.le {r:List Int} {ps:Trs} (h:Lst r ps) {n:Int} (b:Bd ps n):∀ x∈r,x<=n:=by
 cases h with
 | nil=>intro x hx;cases hx
 | snoc a z c =>
  rename_i r B p
  have bd:=a.bd (n:=p - 1) λx hx=>by have:=z x hx;omega
  obtain⟨s,rest,h0,h1,_⟩:=c.tak bd;have:=(b _ (h1.mem_iff.mpr aEb)).2;simp only at this;intro x hx;rcases aFM.mp hx with hx | hx
  .have:=z x hx;omega
  .have:x=p:=by simpa using hx
   omega
def Lst.rowp {r:List Int} {ps:Trs} (h:Lst r ps):Row r:=by
 induction h with
 | nil=>exact List.Pairwise.nil
 | snoc a b c z=>exact lL z b
def K8 {ps B z:Trs} {p:Int} {done:List Int} (t:Tak ps p B) (I:∀ q∈ps,1<=q.1) (fin:∀ r,Lst r ps->Lst (r++done) z):∀ r,Lst r B->Lst (r++p :: done) z:=λr D=>by
 obtain⟨b,a⟩:=t.add I;have:=fin (r++[p]) (.snoc D (λx J=>by have:=D.le b x J;omega) a);rw[List.append_assoc]at this;exact this
def R9 {z row:List Int} (B:z.Perm row) (hs:z.Pairwise (·<=·)) (D:Row row.reverse):z=row.reverse :=
 List.Perm.eq_of_pairwise (le:=λa b:Int=>a<=b) (λx y _ _ h1 h2=>by omega) hs (D.imp λ{x y} q=>by omega) (B.trans (List.reverse_perm _).symm)
def S0 {gs:List Grp} (U:GoodG gs) {B:List (Int×Int)} {j:Nat} {p:Int×Int} (ht:Top B B.length j) (hj:B[j]?=some p) (h1:∀ q∈B,∃ g∈gs,∃ z:g.2.2≠[],q=(g.2.2.getLast z+2 * les (bL gs) g.1,-g.1))
 (h2:∀ g∈gs,∀ z:g.2.2≠[],(g.2.2.getLast z+2 * les (bL gs) g.1,-g.1)∈B) :
 ∃ g∈gs,∃ z:g.2.2≠[],p.2=-g.1/\g.2.2.getLast z+2 * les (bL gs) g.1=p.1/\∀ x∈gs,∀ I:x.2.2≠[],x.2.2.getLast I+2 * les (bL gs) x.1<=p.1/\(x.1<g.1->x.2.2.getLast I+2 * les (bL gs) x.1<p.1):=by
 obtain⟨g,M,z,e⟩:=h1 p (aEk hj);refine⟨g,M,z,by rw[e],by rw[e],λx I D=>?_⟩;obtain⟨k,L,J⟩:=List.mem_iff_getElem.mp (h2 x I D);have h3:=ht.2 k L;have e1:B.getD j (0,0)=p:=by rw[List.getD_eq_getElem?_getD,hj];rfl
 have e2:B.getD k (0,0)=(x.2.2.getLast D+2 * les (bL gs) x.1,-x.1):=by rw[List.getD_eq_getElem?_getD,aEj L,J];rfl
 rw[e1,e2,gK]at h3;simp only at h3;rw[e]at h3 ⊢;simp only at h3 ⊢;omega
section
variable {P:Program} {w:World} {K:PySem.W.Frag} {mg:Str->Option Value} {base:Heap}
inductive mW (vs:List V) (H:Hp) (Q:VK) (E_:XK):Prop
 | mk (a:Addr) (ps:List (Int×Int)) (h0_:vs=[.ref a]) (h1_:LP H a ps) (h2_:ps.length<=60) (h3_:∀ (d:Addr) (gs:List Grp) (H':Hp),H d=none->Same H H'->DG H' d gs->(bL gs).Perm ps->Asc gs->(∀ g∈gs,g.2.2≠[]/\H g.2.1=none)->Q (.ref d) H'):mW vs H Q E_
inductive aCz (H0:Hp) (ps:Trs) (a d r:Addr) (m:Nat) (σ:St) (Hx:Hp):Prop
 | mk (gs:List Grp) (row:List Int) (v3 v4 v5 v6:Option V) (h0_:σ=[some (.ref a),some (.ref d),some (.ref r),v3,v4,v5,v6]) (h1_:Same H0 Hx) (h2_:DG Hx d gs) (h3_:GoodG gs) (h4_:Asc gs) (h5_:Hx r=some (.lst (row.map V.int))) (h6_:(∀ g∈gs,H0 g.2.1=none/\g.2.1≠r)) (h7_:sto gs=(m:Int)) (h8_:m+row.length<=60) (h9_:∀ r',Lst r' (bL gs)->Lst (r'++row.reverse) ps):aCz H0 ps a d r m σ Hx
inductive pR (vs:List V) (H:Hp) (Q:VK) (E_:XK):Prop
 | mk (a:Addr) (ps:List (Int×Int)) (h0_:vs=[.ref a]) (h1_:LP H a ps) (h2_:Trn ps) (h3_:∀ r:List Int,Lst r ps->kX H Q r):pR vs H Q E_
end
def aAi {ps z:Trs} (h:Trn ps) (e:z.Perm ps):Trn z:=⟨λp B=>h.pos p (e.mem_iff.mp B),by have:=lT e;have:=h.few;unfold siz szs at *;omega⟩
def vC (s:Int) (q:Int×Int):Int:=q.2 * (if s<q.1 then s else q.1)
def eP (ws:List (Int×Int)) (s:Int):Int:=(ws.map (vC s)).sum
def eZ (ps ws:List (Int×Int)):List (Int×Int):=ps.map λp=>(p.1,p.2+eP ws p.1)
def Crl (ws:List (Int×Int)):Prop:=∀ q∈ws,1<=q.1
inductive tF (vs:List V) (H:Hp) (Q:VK) (E_:XK):Prop
 | mk (a:Addr) (ws:List (Int×Int)) (h0_:vs=[.ref a]) (h1_:LP H a ws) (h2_:Crl ws) (h3_:Q .non H):tF vs H Q E_
inductive zW (vs:List V) (H:Hp) (Q:VK) (E_:XK):Prop
 | mk (a:Addr) (ws:List (Int×Int)) (s:Int) (h0_:vs=[.ref a,.int s]) (h1_:LP H a ws) (h2_:ws.length<=200) (h3_:Crl ws) (h4_:0<=s) (h5_:s<=1000) (h6_:∀ H',Same H H'->Q (.int (eP ws s)) H'):zW vs H Q E_
inductive tG (vs:List V) (H:Hp) (Q:VK) (E_:XK):Prop
 | mk (a b:Addr) (ps ws:List (Int×Int)) (h0_:vs=[.ref a,.ref b]) (h1_:LP H a ps) (h2_:Trn ps) (h3_:LP H b ws) (h4_:ws.length<=200) (h5_:Crl ws) (h6_:∀ qs:List (Int×Int),qs.Perm (eZ ps ws)->qs.Pairwise ple->aDg H Q qs):tG vs H Q E_
def aDA {ps:List (Int×Int)} (h:Trn ps) {p:Int×Int} (I:p∈ps):p.1<=60:=by
 have:=h.few;have:∀ {l:List (Int×Int)},(∀ q∈l,1<=q.1)->p∈l->p.1<=(szs l).sum:=by
  intro l
  induction l with
  | nil=>intro _ z;cases z
  | cons x r J =>
   intro B hm;simp only[szs,aEy,aFB];have M:=B x aEb;have L:=hX (ps:=r) λq D=>B q (aEc _ D);rcases aFL.mp hm with rfl | hm
   .simp only[szs]at L;omega
   .have:=J (λq D=>B q (aEc _ D)) hm;simp only[szs]at this;omega
 have:=this h.pos I;omega
end CW
namespace CW
def tr (s o:Int) (rest:Trs):Trs:=if s=0 then rest else (s,o) :: rest
def kA {s o:Int} {rest:Trs} {j:Int} (hs:0<=s) (hj:0<=j):les (tr s o rest) j=min j s+les rest j:=by
 unfold tr;split
 .omega
 .rw[bQ]
def vD {s o:Int} {rest:Trs} {q:Int×Int} (h:q∈tr s o rest):q=(s,o)/\s≠0\/q∈rest:=by
 unfold tr at h;split at h
 .exact .inr h
 .rcases aFL.mp h with h | h
  .exact .inl ⟨h,by assumption⟩
  .exact .inr h
def zX {s o:Int} {rest:Trs} {q:Int×Int} (h:q∈rest):q∈tr s o rest:=by
 unfold tr;split
 .exact h
 .exact aEc _ h
def aBp {s o:Int} {a b:Trs} (h:a.Perm b):(tr s o a).Perm (tr s o b):=by
 unfold tr;split
 .exact h
 .exact h.cons _
def zY {ps z:Trs} {p s:Int} {rest:Trs} (h0:0<=s) (h1:ps.Perm (tr s (p - 1 - 2 * les ps s) rest)) (h2:∀ q∈ps,s<q.1->q.2+2 * les ps q.1≠p - 1) (h3:z.Perm ((s+1,p - 2 * les rest (s+1) - 2 * (s+1)) :: rest)):Add ps p z:=by
 refine⟨s,rest,h0,?_,h2,h3⟩;unfold tr at h1;split at h1
 .exact .inl ⟨by assumption,h1⟩
 .exact .inr ⟨by omega,h1⟩
def Add.tr' {ps z:Trs} {p:Int} (h:Add ps p z):∃ (s:Int) (rest:Trs),0<=s/\ps.Perm (tr s (p - 1 - 2 * les ps s) rest)/\(∀ q∈ps,s<q.1->q.2+2 * les ps q.1≠p - 1)/\z.Perm ((s+1,p - 2 * les rest (s+1) - 2 * (s+1)) :: rest):=by
 obtain⟨s,rest,h0,h1,h2,h3⟩:=h;refine⟨s,rest,h0,?_,h2,h3⟩;unfold tr;rcases h1 with ⟨a,b⟩ | ⟨a,b⟩
 .rw[if_pos a];exact b
 .rw[if_neg (by omega)];exact b
def Tak.tr' {ps z:Trs} {p:Int} (h:Tak ps p z):∃ (s:Int) (rest:Trs),1<=s/\ps.Perm ((s,p - 2 * les ps s) :: rest)/\(∀ q∈ps,q.2+2 * les ps q.1<=p)/\(∀ q∈ps,q.1<s->q.2+2 * les ps q.1<p)/\z.Perm (tr (s - 1) (p - 1 - 2 * les rest (s - 1) - 2 * (s - 1)) rest):=by
 obtain⟨s,rest,h0,h1,h2,h3,h4⟩:=h;refine⟨s,rest,h0,h1,h2,h3,?_⟩;unfold tr;rcases h4 with ⟨a,b⟩ | ⟨a,b⟩
 .rw[if_pos (by omega)];exact b
 .rw[if_neg (by omega)];exact b
def rnn (p:Int) (k:Nat):List Int:=(List.range k).map λ(j:Nat)=>p+(j:Int)
def K9 (p:Int) (k:Nat):rnn p (k+1)=rnn p k++[p+(k:Int)]:=by unfold rnn;rw[List.range_succ,aEo];rfl
def aAj (p:Int):rnn p 0=[]:=rfl
def zZ {p:Int} {k:Nat} {x:Int} (h:x∈rnn p k):p<=x/\x<=p+(k:Int) - 1:=by
 unfold rnn at h;obtain⟨j,hj,rfl⟩:=aFN.mp h;have:=List.mem_range.mp hj;omega
def A0 {fs:List Int} {p:Int} {k:Nat} (z:∀ x∈fs,x<p):∀ x∈fs++rnn p k,x<=p+(k:Int) - 1:=λx B=>by
 rcases aFM.mp B with h | h
 .have:=z x h;omega
 .have:=zZ h;omega
def A1 {fs:List Int} {p:Int} {k:Nat} {Y:Trs} (h:Lst (fs++rnn p (k+1)) Y):∃ z,Lst (fs++rnn p k) z/\Tak Y (p+(k:Int)) z:=by
 rw[K9,<- List.append_assoc]at h;obtain⟨z,h1,h2,h3⟩:=h.inv;exact⟨z,h1,h3.tak (h1.bd λx B=>by have:=h2 x B;omega)⟩
def A3 {fs:List Int} {p:Int} {k:Nat} {X z:Trs} (B:∀ x∈fs,x<p) (h:Lst (fs++rnn p k) z) (a:Add z (p+(k:Int)) X):Lst (fs++rnn p (k+1)) X:=by
 rw[K9,<- List.append_assoc];exact .snoc h (λx D=>by have:=A0 B x D;omega) a
def aDB {fs:List Int} {p:Int} (hf:∀ x∈fs,x<p):∀ (k:Nat) (Y rest X:Trs),Lst (fs++rnn p k) Y->(∀ q∈Y,q.1<=(k:Int)->q.2+2 * les Y q.1<=p - 1+q.1) ->
 Y.Perm (tr (k:Int) (p - 1+(k:Int) - 2 * les Y (k:Int)) rest)->X.Perm (tr (k:Int) (p+(k:Int) - 2 * les Y (k:Int)) rest)->Lst (fs++rnn (p+1) k) X:=by
 intro k
 induction k with
 | zero =>
  intro Y rest X hY hC hp hx;have e:∀ o,tr ((0:Nat):Int) o rest=rest:=λo=>rfl;rw[e]at hp hx;exact hY.perm (hp.trans hx.symm)
 | succ k ih =>
  intro Y rest X hY hC hp hx;obtain⟨J,aq,hT⟩:=A1 hY;obtain⟨t,rT,a_,M,ba,ar,I⟩:=hT.tr';have U:((k+1:Nat):Int)≠0:=by omega
  have am:(((k+1:Nat):Int),p - 1+((k+1:Nat):Int) - 2 * les Y ((k+1:Nat):Int))∈Y:=hp.mem_iff.mpr (by unfold tr;rw[if_neg U];exact aEb);have au:(t,p+(k:Int) - 2 * les Y t)∈Y:=M.mem_iff.mpr aEb;have a1:=ar _ am;have a2:=hC _ au;simp only at a1 a2;have av:t=((k+1:Nat):Int):=by
   rcases Int.lt_trichotomy t ((k+1:Nat):Int)with c | c | c
   .have:=a2 (by omega);omega
   .exact c
   .have:=a1 c;omega
  subst av;have B:rT.Perm rest:=by
   have h5:=M.symm.trans hp;unfold tr at h5;rw[if_neg U,show p - 1+((k+1:Nat):Int) - 2 * les Y ((k+1:Nat):Int)=p+(k:Int) - 2 * les Y ((k+1:Nat):Int)by omega]at h5;exact List.Perm.cons_inv h5
  have e1:((k+1:Nat):Int) - 1=(k:Int):=by omega
  rw[e1]at I;have al:∀ j,0<=j->les Y j=min j ((k+1:Nat):Int)+les rest j:=λj hj=>by
   rw[bB M,bQ,bB B]
  have z:∀ j,0<=j->les J j=min j (k:Int)+les rest j:=λj hj=>by
   rw[bB I,kA (by omega) hj,bB B]
  have aw:=hY.bd (A0 hf);have L:=hY.pos;have ao:∀ q∈rest,q∈Y:=λq hq=>hp.mem_iff.mpr (zX hq);have ax:=ih J rest (tr (k:Int) (p+(k:Int) - 2 * les J (k:Int)) rest) aq (λq hq bb=>by
   rcases vD (I.mem_iff.mp hq)with ⟨e,ay⟩ | h
   .rw[e];simp only;have h6:=z (k:Int) (by omega);have h7:=bB B (k:Int);omega
   .have D:=ao q (B.mem_iff.mp h);have h5:=hC q D (by omega);have h6:=L q D;have h7:=al q.1 (by omega);have h8:=z q.1 (by omega);omega) (I.trans (by
     have h6:=z (k:Int) (by omega);have h7:=bB B (k:Int);rw[show p+(k:Int) - 1 - 2 * les rT (k:Int) - 2 * (k:Int)=p - 1+(k:Int) - 2 * les J (k:Int)by omega];exact aBp B)) (.refl _)
  refine A3 (λx hx=>by have:=hf x hx;omega) ax (zY (s:=(k:Int)) (rest:=rest) (by omega) ?_ ?_ ?_)
  .have az:les (tr (k:Int) (p+(k:Int) - 2 * les J (k:Int)) rest) (k:Int)=les J (k:Int):=by rw[kA (by omega) (by omega),z _ (by omega)]
   rw[az,show p+1+(k:Int) - 1 - 2 * les J (k:Int)=p+(k:Int) - 2 * les J (k:Int)by omega]
  .intro q hq ap;rcases vD hq with ⟨e,ay⟩ | h
   .rw[e]at ap;exact absurd ap (by simp)
   .have D:=ao q h;have h5:=(aw q D).2;have h6:=L q D;have h7:=al q.1 (by omega);rw[kA (by omega) (by omega)];omega
  .have h8:=al ((k+1:Nat):Int) (by omega);have e3:(k:Int)+1=((k+1:Nat):Int):=by omega
   refine hx.trans ?_;unfold tr;rw[if_neg U,e3];rw[show p+((k+1:Nat):Int) - 2 * les Y ((k+1:Nat):Int)=p+1+(k:Int) - 2 * les rest ((k+1:Nat):Int) - 2 * ((k+1:Nat):Int)by omega]
def aDC {fs:List Int} {p:Int} (hf:∀ x∈fs,x<p) (s:Nat):∀ (d:Nat) (Y rest X:Trs),Lst (fs++rnn p (s+d)) Y->(∀ q∈Y,(q.1<=(s:Int)->q.2+2 * les Y q.1<=p - 1+q.1)/\((s:Int)<q.1->q.2+2 * les Y q.1<=p - 1+q.1 - 1)) ->
 Y.Perm (tr (s:Int) (p - 1+(s:Int) - 2 * les Y (s:Int)) rest)->X.Perm (((s:Int)+1,p+1+(s:Int) - 2 * les rest ((s:Int)+1) - 2 * ((s:Int)+1)) :: rest)->Lst (fs++rnn (p+1) (s+d+1)) X:=by
 intro d
 induction d with
 | zero =>
  intro Y rest X hY hC hp hx;rw[Nat.add_zero]at hY ⊢;have D:∀ j,0<=j->les Y j=min j (s:Int)+les rest j:=λj hj=>by rw[bB hp,kA (by omega) hj]
  have au:=aDB hf s Y rest (tr (s:Int) (p+(s:Int) - 2 * les Y (s:Int)) rest) hY (λq hq a_=>(hC q hq).1 a_) hp (.refl _);have ba:=hY.bd (A0 hf);refine A3 (λx hx=>by have:=hf x hx;omega) au (zY (s:=(s:Int)) (rest:=rest) (by omega) ?_ ?_ ?_)
  .have bb:les (tr (s:Int) (p+(s:Int) - 2 * les Y (s:Int)) rest) (s:Int)=les Y (s:Int):=by rw[kA (by omega) (by omega),D _ (by omega)]
   rw[bb,show p+1+(s:Int) - 1 - 2 * les Y (s:Int)=p+(s:Int) - 2 * les Y (s:Int)by omega]
  .intro q hq I;rcases vD hq with ⟨e,bc⟩ | h
   .rw[e]at I;exact absurd I (by simp)
   .have J:=hp.mem_iff.mpr (zX h);have h5:=(ba q J).2;have h7:=D q.1 (by omega);rw[kA (by omega) (by omega)];omega
  .exact hx
 | succ d ih =>
  intro Y rest X hY hC hp hx;have e0:s+(d+1)=(s+d)+1:=by omega
  rw[e0]at hY ⊢;obtain⟨Y',bf,hT⟩:=A1 hY;obtain⟨t,rT,bo,av,bg,bq,bi⟩:=hT.tr';have aw:(t,p+((s+d:Nat):Int) - 2 * les Y t)∈Y:=av.mem_iff.mpr aEb;have hc:=hC _ aw;simp only at hc;have br:(s:Int)+2<=t:=by
   rcases Int.lt_or_le (s:Int) t with c | c
   .have:=hc.2 c;omega
   .have:=hc.1 c;omega
  have ap:=hY.pos;have bj:(t,p+((s+d:Nat):Int) - 2 * les Y t)∈rest:=by
   rcases vD (hp.mem_iff.mp aw)with ⟨e,_⟩ | h
   .have:=congrArg Prod.fst e;simp only at this;omega
   .exact h
  obtain⟨r2,M⟩:∃ r2:Trs,rest.Perm ((t,p+((s+d:Nat):Int) - 2 * les Y t) :: r2):=⟨rest.erase _,List.perm_cons_erase bj⟩;have D:∀ j,0<=j->les Y j=min j (s:Int)+(min j t+les r2 j):=λj hj=>by rw[bB hp,kA (by omega) hj,bB M,bQ]
  have al:rT.Perm (tr (s:Int) (p - 1+(s:Int) - 2 * les Y (s:Int)) r2):=by
   refine List.Perm.cons_inv (a:=(t,p+((s+d:Nat):Int) - 2 * les Y t)) (av.symm.trans (hp.trans ?_));unfold tr;split
   .exact M
   .exact(M.cons _).trans (List.Perm.swap _ _ _)
  have aq:∀ j,0<=j->les rT j=min j (s:Int)+les r2 j:=λj hj=>by rw[bB al,kA (by omega) hj]
  have ax:t - 1≠0:=by omega
  obtain⟨z,B⟩:∃ z:Trs,z=(t - 1,p+((s+d:Nat):Int) - 1 - 2 * les rT (t - 1) - 2 * (t - 1)) :: r2:=⟨_,rfl⟩;have U:Y'.Perm (tr (s:Int) (p - 1+(s:Int) - 2 * les Y (s:Int)) z):=by
   refine bi.trans ?_;rw[B];unfold tr at al ⊢;rw[if_neg ax];split at al
   .rw[if_pos (by assumption)];exact al.cons _
   .rw[if_neg (by assumption)];exact(al.cons _).trans (List.Perm.swap _ _ _)
  have am:∀ j,0<=j->les Y' j=min j (s:Int)+(min j (t - 1)+les r2 j):=λj hj=>by rw[bB U,kA (by omega) hj,B,bQ]
  have ay:les Y' (s:Int)=les Y (s:Int):=by rw[am _ (by omega),D _ (by omega)];omega
  rw[<- ay]at U;have au:=ih Y' z (((s:Int)+1,p+1+(s:Int) - 2 * les z ((s:Int)+1) - 2 * ((s:Int)+1)) :: z) bf (λq hq=>by
   have ao:=U.mem_iff.mp hq;rw[B]at ao;rcases vD ao with ⟨e,bc⟩ | h
   .rw[e];simp only;omega
   .rcases aFL.mp h with e | h
    .rw[e];simp only;have h6:=am (t - 1) (by omega);have h7:=aq (t - 1) (by omega);omega
    .have J:q∈Y:=hp.mem_iff.mpr (zX (M.mem_iff.mpr (aEc _ h)));have h5:=hC q J;have h6:=ap q J;have h7:=D q.1 (by omega);have h8:=am q.1 (by omega);omega) U (.refl _)
  have ar:∀ j,0<=j->les (((s:Int)+1,p+1+(s:Int) - 2 * les z ((s:Int)+1) - 2 * ((s:Int)+1)) :: z) j=min j ((s:Int)+1)+(min j (t - 1)+les r2 j):=λj hj=>by
   have h1:les z j=min j (t - 1)+les r2 j:=by rw[B,bQ]
   rw[bQ,h1]
  have bm:les z ((s:Int)+1)=((s:Int)+1)+les r2 ((s:Int)+1):=by rw[B,bQ];simp only;omega
  have az:les rest ((s:Int)+1)=((s:Int)+1)+les r2 ((s:Int)+1):=by rw[bB M,bQ];simp only;omega
  refine A3 (λx hx=>by have:=hf x hx;omega) au (zY (s:=t - 1) (rest:=((s:Int)+1,p+1+(s:Int) - 2 * les z ((s:Int)+1) - 2 * ((s:Int)+1)) :: r2) (by omega) ?_ ?_ ?_)
  .unfold tr;rw[if_neg ax];have h9:=ar (t - 1) (by omega);have h7:=aq (t - 1) (by omega);generalize les (((s:Int)+1,p+1+(s:Int) - 2 * les z ((s:Int)+1) - 2 * ((s:Int)+1)) :: z) (t - 1)=L at h9 ⊢;refine(List.Perm.cons _ ?_).trans (List.Perm.swap _ _ _);rw[B,show p+((s+d:Nat):Int) - 1 - 2 * les rT (t - 1) - 2 * (t - 1)=p+1+((s+d+1:Nat):Int) - 1 - 2 * L by omega]
  .intro q hq I;have ao:q∈r2:=by
    rcases aFL.mp hq with e | h
    .rw[e]at I;simp only at I;omega
    .rw[B]at h;rcases aFL.mp h with e | h
     .rw[e]at I;exact absurd I (by simp)
     .exact h
   have J:q∈Y:=hp.mem_iff.mpr (zX (M.mem_iff.mpr (aEc _ ao)));have h5:=bg q J;have h6:=ap q J;have h7:=D q.1 (by omega);rw[ar q.1 (by omega)];omega
  .have e4:t - 1+1=t:=by omega
   rw[e4];have h9:les (((s:Int)+1,p+1+(s:Int) - 2 * les z ((s:Int)+1) - 2 * ((s:Int)+1)) :: r2) t=((s:Int)+1)+les r2 t:=by rw[bQ];simp only;omega
   have h10:=D t (by omega);rw[h9,bm];refine hx.trans ?_;rw[az];refine(M.cons _).trans ?_;rw[show p+((s+d:Nat):Int) - 2 * les Y t=p+1+((s+d+1:Nat):Int) - 2 * ((s:Int)+1+les r2 t) - 2 * t by omega];exact List.Perm.swap _ _ _
def L0 (n:Int) (k:Nat):rnn n (k+1)=n :: rnn (n+1) k:=gY k n
def L1 {c:Int} {r:List Int}:∀ (k h:Nat) (m:Int),(∀ x∈r,m+(k:Int)<=x)->goM c r h m=rnn m (min h k)++goM c r (h - min h k) (m+(k:Int))
 | 0,h,m,_=>by simp[rnn]
 | k+1,0,m,z=>by
  simp only[Nat.zero_min,Nat.zero_sub,aAj,List.nil_append];exact pB
 | k+1,h+1,m,z=>by
  have e1:min (h+1) (k+1)=min h k+1:=by omega
  have e2:h+1 - (min h k+1)=h - min h k:=by omega
  have B:=L1 (c:=c) (r:=r) k h (m+1) λx D=>by have:=z x D;omega
  have I:goM c r (h+1) m=m :: goM c r h (m+1):=by
   cases r with
   | nil=>exact pA c h m
   | cons p J=>exact zK (by have:=z p aEb;omega)
  rw[I,B,e1,e2,L0,show m+((k+1:Nat):Int)=m+1+(k:Int)by omega];rfl
def aAk {c:Int} (hc:1<=c):∀ (B:List Int) (h:Nat) (m n:Int),iG B->(∀ x∈B,x<n/\(m<=x\/h=0))->(m<=n\/h=0)->(h:Int)<=c ->
 ∃ (fs:List Int) (ld:Nat),(∀ x∈fs,x<n)/\(ld:Int)<=c/\∀ r,(∀ x∈r,n<=x)->goM c (B++r) h m=fs++goM c r ld n
 | [],h,m,n,_,_,Y,hh=>by
  rcases Nat.eq_zero_or_pos h with e | e
  .subst e;exact⟨[],0,λx z=>(nomatch z),by omega,λr _=>by rw[List.nil_append,List.nil_append];exact pB⟩
  .have al:m<=n:=by omega
   refine⟨rnn m (min h (n - m).toNat),h - min h (n - m).toNat,λx z=>by have:=zZ z;omega,by omega,λr J=>?_⟩;have:=L1 (c:=c) (r:=r) (n - m).toNat h m λx z=>by have:=J x z;omega
   rw[List.nil_append,this,show m+((n - m).toNat:Int)=n by omega]
 | p :: B,h,m,n,L,z,Y,hh=>by
  obtain⟨h1,h2⟩:=List.pairwise_cons.mp L;have hp:=z p aEb;have hm:min h (p - m).toNat<=h:=Nat.min_le_left _ _;have key:∀ r,goM c ((p :: B)++r) h m=rnn m (min h (p - m).toNat)++(if ((h - min h (p - m).toNat:Nat):Int)<c then goM c (B++r) (h - min h (p - m).toNat+1) (p+1)else p :: goM c (B++r) (h - min h (p - m).toNat) (p+1)):=λr=>rfl;have I:∀ x∈rnn m (min h (p - m).toNat),x<n:=λx z=>by
   have:=zZ z;rcases hp.2 with q | q
   .omega
   .rw[q]at z;simp[rnn]at z
  have D:∀ x∈B,x<n/\p+1<=x:=λx M=>⟨(z x (aEc _ M)).1,by have:=h1 x M;omega⟩
  by_cases U:((h - min h (p - m).toNat:Nat):Int)<c
  .obtain⟨fs,ld,a1,a2,a3⟩:=aAk hc B (h - min h (p - m).toNat+1) (p+1) n h2 (λx z=>⟨(D x z).1,.inl (D x z).2⟩) (.inl (by omega)) (by omega);refine⟨rnn m (min h (p - m).toNat)++fs,ld,λx z=>?_,a2,λr J=>by rw[key,if_pos U,a3 r J,List.append_assoc]⟩;rcases aFM.mp z with q | q
   .exact I x q
   .exact a1 x q
  .obtain⟨fs,ld,a1,a2,a3⟩:=aAk hc B (h - min h (p - m).toNat) (p+1) n h2 (λx z=>⟨(D x z).1,.inl (D x z).2⟩) (.inl (by omega)) (by omega);refine⟨rnn m (min h (p - m).toNat)++p :: fs,ld,λx z=>?_,a2,λr J=>by rw[key,if_neg U,a3 r J,List.append_assoc];rfl⟩;rcases aFM.mp z with q | q
   .exact I x q
   .rcases aFL.mp q with e | q
    .rw[e];exact hp.1
    .exact a1 x q
def shf (l:Int) (ps:Trs):Trs:=ps.map λq=>(q.1,q.2+min l q.1)
def iQ (l:Int) (ps:Trs) (j:Int):les (shf l ps) j=les ps j:=by
 unfold les shf;rw[aFD];rfl
def pS {l:Int} {a b:Trs} (h:a.Perm b):(shf l a).Perm (shf l b):=h.map _
def aAl {l s o:Int} {rest:Trs}:shf l (tr s o rest)=tr s (o+min l s) (shf l rest):=by
 unfold tr;split <;> rfl
def A4 {l:Int} {ps:Trs} {q:Int×Int} (h:q∈shf l ps):∃ z∈ps,q=(z.1,z.2+min l z.1):=by
 obtain⟨z,h1,h2⟩:=aFN.mp h;exact⟨z,h1,h2.symm⟩
def S1 {l p:Int} (hl:1<=l) {z ps:Trs} (hb:Bd z (p - 1)) (ha:Add z p ps) {fs:List Int} {ld:Nat} (U:∀ x∈fs,x<p) (aq:(ld:Int)<=l) (M:Lst (fs++rnn p ld) (shf l z)) :
 Lst (if (ld:Int)<l then fs++rnn (p+1) (ld+1)else fs++rnn p (ld+1)) (shf l ps)/\∃ s rest,0<=s/\z.Perm (tr s (p - 1 - 2 * les z s) rest)/\ps.Perm ((s+1,p - 2 * les rest (s+1) - 2 * (s+1)) :: rest)/\((ld:Int)<l↔s<l):=by
 obtain⟨s,rest,h0,h1,h2,h3⟩:=ha.tr';have Y:s≠0->(s,p - 1 - 2 * les z s)∈z:=λh=>h1.mem_iff.mpr (by unfold tr;rw[if_neg h];exact aEb)
 by_cases hc:(ld:Int)<l
 .rw[if_pos hc];have al:=M.bd (A0 U);have hs:s<=(ld:Int):=by
   by_cases am:s=0
   .omega
   .have:=(al (s,p - 1 - 2 * les z s+min l s) (aFN.mpr ⟨_,Y am,rfl⟩)).2;simp only[iQ]at this;omega
  obtain⟨B,rfl⟩:∃ B:Nat,s=(B:Int):=⟨s.toNat,by omega⟩;obtain⟨d,hd⟩:∃ d:Nat,ld=B+d:=⟨ld - B,by omega⟩;subst hd;refine⟨aDC U B d (shf l z) (shf l rest) (shf l ps) M (λq hq=>?_) ?_ ?_,(B:Int),rest,h0,h1,h3,by constructor <;> intro _ <;> omega⟩
  .obtain⟨I,D,rfl⟩:=A4 hq;have h5:=hb I D;have h6:=h2 I D;simp only[iQ];refine⟨λ_=>by omega,λh=>?_⟩;have:=h6 h;omega
  .rw[iQ];refine(pS h1).trans ?_;rw[aAl,show p - 1 - 2 * les z (B:Int)+min l (B:Int)=p - 1+(B:Int) - 2 * les z (B:Int)by omega]
  .rw[iQ];refine(pS h3).trans ?_;unfold shf;rw[aEy];simp only;rw[show p - 2 * les rest ((B:Int)+1) - 2 * ((B:Int)+1)+min l ((B:Int)+1)=p+1+(B:Int) - 2 * les rest ((B:Int)+1) - 2 * ((B:Int)+1)by omega]
 .rw[if_neg hc];have ar:(ld:Int)=l:=by omega
  obtain⟨k,hk⟩:∃ k,ld=k+1:=⟨ld - 1,by omega⟩;have J:=M;rw[hk]at J;obtain⟨Y',_,hT⟩:=A1 J;obtain⟨t,rT,au,ao,_⟩:=hT;obtain⟨I,D,e⟩:=A4 (ao.mem_iff.mpr aEb);have e1:=congrArg Prod.fst e;have e2:=congrArg Prod.snd e;simp only[iQ]at e1 e2;have h5:=(hb I D).2;have h6:=h2 I D;rw[e1]at e2;have hs:l<=s:=by
   rcases Int.lt_or_le s I.1 with c | c
   .have:=h6 c;omega
   .omega
  refine⟨A3 U M (zY (s:=s) (rest:=shf l rest) h0 ?_ ?_ ?_),s,rest,h0,h1,h3,by constructor <;> intro _ <;> omega⟩
  .rw[iQ];refine(pS h1).trans ?_;rw[aAl,show p - 1 - 2 * les z s+min l s=p+(ld:Int) - 1 - 2 * les z s by omega]
  .intro q hq L;obtain⟨q2,ap,rfl⟩:=A4 hq;have:=h2 q2 ap;simp only[iQ]at L ⊢;have:=this L;omega
  .rw[iQ];refine(pS h3).trans ?_;unfold shf;rw[aEy];simp only;rw[show p - 2 * les rest (s+1) - 2 * (s+1)+min l (s+1)=p+(ld:Int) - 2 * les rest (s+1) - 2 * (s+1)by omega]
def Lst.rowP {r:List Int} {ps:Trs} (h:Lst r ps):iG r:=by
 induction h with
 | nil=>exact List.Pairwise.nil
 | snoc a b c z=>exact List.pairwise_append.mpr ⟨z,by simp,λx B y D=>by rw[aFF.mp D];exact b x B⟩
def j8 {l:Int} (D:1<=l) {r:List Int} {p:Int} (I:iG r) (J:∀ x∈r,x<p):∃ (fs:List Int) (ld:Nat),(∀ x∈fs,x<p)/\(ld:Int)<=l/\dA r l=fs++rnn p ld/\dA (r++[p]) l=if (ld:Int)<l then fs++rnn (p+1) (ld+1)else fs++rnn p (ld+1):=by
 obtain⟨fs,ld,L,M,B⟩:=aAk D r 0 0 p I (λx z=>⟨J x z,.inr rfl⟩) (.inr rfl) (by omega);refine⟨fs,ld,L,M,?_,?_⟩
 .have:=B [] λx z=>(nomatch z);rw[List.append_nil]at this;exact this
 .have:=B [p] λx z=>by rw[aFF.mp z];exact Int.le_refl _
  unfold dA;rw[this,mQ (.inr (Int.le_refl _))];split
  .rfl
  .rw[L0];rfl
def Lst.walk {l:Int} (z:1<=l) {r:List Int} {ps:Trs} (h:Lst r ps):Lst (dA r l) (shf l ps):=by
 induction h with
 | nil=>exact .nil
 | snoc a b c B =>
  rename_i r D p ps
  obtain⟨fs,ld,I,J,L,M⟩:=j8 z a.rowP b;rw[L]at B;rw[M];exact(S1 z (a.bd λx U=>by have:=b x U;omega) c I J B).1
end CW
namespace CW
open PySem L2
def aDD:∀ {l:List Int},l≠[]->∃ m∈l,∀ x∈l,x<=m:=λ{l} h=>by
 cases l with
 | nil=>exact absurd rfl h
 | cons n r =>
  obtain⟨z,B,D⟩:=iB r n;refine⟨r.foldl max n,?_,λx hx=>?_⟩
  .rcases z with h | h
   .rw[h];exact aEb
   .exact aEc _ h
  .rcases aFL.mp hx with rfl | hx
   .exact B
   .exact D x hx
def Add.ex (ps:Trs) (L:∀ q∈ps,1<=q.1) (p:Int):∃ M,Add ps p M:=by
 by_cases h:(ps.filter λq=>decide (q.2+2 * les ps q.1=p - 1))=[]
 .refine⟨_,0,ps,Int.le_refl _,.inl ⟨rfl,.refl _⟩,λq D _ e=>?_,.refl _⟩;have:q∈ps.filter λq=>decide (q.2+2 * les ps q.1=p - 1):=aFO.mpr ⟨D,by simpa using e⟩;rw[h]at this;cases this
 .obtain⟨s,hs,z⟩:=aDD (l:=(ps.filter λq=>decide (q.2+2 * les ps q.1=p - 1)).map (·.1)) (by simpa using h);obtain⟨q,D,e⟩:=aFN.mp hs;obtain⟨h1,h2⟩:=aFO.mp D;have h3:q.2+2 * les ps q.1=p - 1:=by simpa using h2
  have U:q.1=s:=e;have J:(s,p - 1 - 2 * les ps s)∈ps:=by
   have:(s,p - 1 - 2 * les ps s)=q:=by rw[<- U,<- h3];exact Prod.ext rfl (by show _=q.2;omega)
   rw[this];exact h1
  have I:=L _ J;have B:1<=s:=I;refine⟨_,s,ps.erase (s,p - 1 - 2 * les ps s),by omega,.inr ⟨B,List.perm_cons_erase J⟩,λx Y al e2=>?_,.refl _⟩;have:=z x.1 (aFN.mpr ⟨x,aFO.mpr ⟨Y,by simpa using e2⟩,rfl⟩);omega
def Lst.ex:∀ (r:List Int),Row r->∃ ps,Lst r ps:=by
 have go:∀ (n:Nat) (r:List Int),r.length=n->Row r->∃ ps,Lst r ps:=by
  intro n
  induction n with
  | zero=>intro r h _;exact⟨[],by rw[List.length_eq_zero_iff.mp h];exact .nil⟩
  | succ n J =>
   intro r h D;have z:r≠[]:=λe=>by rw[e]at h;cases h
   have e:=List.dropLast_concat_getLast z;rw[<- e]at D;obtain⟨h1,_,h2⟩:=List.pairwise_append.mp D;obtain⟨ps,B⟩:=J r.dropLast (by rw[List.length_dropLast];omega) h1;obtain⟨L,I⟩:=Add.ex ps B.pos (r.getLast z);refine⟨L,?_⟩;rw[<- e];exact .snoc B (λx M=>h2 x M _ (by simp)) I
 exact λr D=>go r.length r rfl D
def shn (f:Int->Int) (ps:Trs):Trs:=ps.map λq=>(q.1,q.2+f q.1)
def A5 (f g:Int->Int) (ps:Trs):shn f (shn g ps)=shn (λs=>g s+f s) ps:=by
 unfold shn;rw[aFD];refine List.map_congr_left λq _=>?_;simp only[Function.comp];exact Prod.ext rfl (by simp only;omega)
def gU {f g:Int->Int} {ps:Trs} (h:∀ q∈ps,f q.1=g q.1):shn f ps=shn g ps:=List.map_congr_left λq z=>by rw[h q z]
def vE (ps:Trs):shn (λ_=>0) ps=ps:=by
 unfold shn
 conv=>rhs;rw[<- List.map_id ps]
 exact List.map_congr_left λq _=>Prod.ext rfl (by simp)
def aAm {f:Int->Int} {a b:Trs} (h:a.Perm b):(shn f a).Perm (shn f b):=h.map _
def Lst.walks {l:Int} (z:1<=l) {r:List Int} {ps:Trs} (h:Lst r ps):Lst (dA r l) (shn (λs=>min l s) ps):=h.walk z
def Lst.back {l:Int} (B:1<=l) {r:List Int} {ps:Trs} (h:Lst r ps):Lst (iO r l) (shn (λs=>-min l s) ps):=by
 obtain⟨z,h'⟩:=Lst.ex (iO r l) (xV h.rowp B);have h2:=h'.walks B;rw[Q4 h.rowp B]at h2;have h3:=aAm (f:=λs=>-min l s) (h2.uniq h);rw[A5]at h3;have e:shn (λs=>min l s+-min l s) z=z:=by
  rw[gU (g:=λ_=>0) λq _=>by omega];exact vE z
 rw[e]at h3;exact h'.perm h3
def wk1 (q:Int×Int) (r:List Int):List Int:=if 0<q.2 then dA r q.1 else iO r q.1
def wkn (q:Int×Int):Nat->List Int->List Int
 | 0,r=>r
 | n+1,r=>wk1 q (wkn q n r)
def wso (ws:Trs) (r:List Int):List Int:=ws.foldl (λr q=>wkn q q.2.natAbs r) r
def aBq {q:Int×Int} (z:1<=q.1) {r:List Int} (h:Row r):Row (wk1 q r):=by
 unfold wk1;split
 .exact qS h z
 .exact xV h z
def aBr (q:Int×Int) (r:List Int):(wk1 q r).length=r.length:=by
 unfold wk1;split
 .exact qQ _ _
 .exact c8 _ _
def A6 {q:Int×Int} (z:1<=q.1) {r:List Int} (h:Row r):∀ n,Row (wkn q n r)
 | 0=>h
 | n+1=>aBq z (A6 z h n)
def A7 (q:Int×Int) (r:List Int):∀ n,(wkn q n r).length=r.length
 | 0=>rfl
 | n+1=>(aBr q _).trans (A7 q r n)
def Lst.wkn {q:Int×Int} (B:1<=q.1) {r:List Int} {ps:Trs} (h:Lst r ps):∀ n:Nat,Lst (wkn q n r) (shn (λs=>(n:Int) * if 0<q.2 then min q.1 s else -min q.1 s) ps)
 | 0=>by
  rw[gU (g:=λ_=>0) λq _=>by simp,vE];exact h
 | n+1=>by
  have D:=Lst.wkn B h n;have e:∀ f:Int->Int,shn f (shn (λs=>(n:Int) * if 0<q.2 then min q.1 s else -min q.1 s) ps)=shn (λs=>(n:Int) * (if 0<q.2 then min q.1 s else -min q.1 s)+f s) ps:=λf=>A5 f _ ps;show Lst (wk1 q (CW.wkn q n r)) _;have e2:∀ x:Int,((n+1:Nat):Int) * x=(n:Int) * x+x:=λx=>by rw[show ((n+1:Nat):Int)=(n:Int)+1 by omega,Int.add_mul,Int.one_mul]
  unfold wk1
  by_cases z:0<q.2
  .rw[if_pos z];have:=D.walks B;rw[e]at this;rw[gU (g:=λs=>(n:Int) * (if 0<q.2 then min q.1 s else -min q.1 s)+min q.1 s) λx _=>by rw[e2,if_pos z]];exact this
  .rw[if_neg z];have:=D.back B;rw[e]at this;rw[gU (g:=λs=>(n:Int) * (if 0<q.2 then min q.1 s else -min q.1 s)+-min q.1 s) λx _=>by rw[e2,if_neg z]];exact this
def Lst.wk {q:Int×Int} (B:1<=q.1) {r:List Int} {ps:Trs} (h:Lst r ps):Lst (CW.wkn q q.2.natAbs r) (shn (λs=>q.2 * min q.1 s) ps):=by
 have:=h.wkn B q.2.natAbs;rw[gU (g:=λs=>q.2 * min q.1 s) λx _=>?_]at this
 .exact this
 .by_cases z:0<q.2
  .rw[if_pos z,show (q.2.natAbs:Int)=q.2 by omega]
  .rw[if_neg z,show (q.2.natAbs:Int)=-q.2 by omega,Int.neg_mul_neg]
def qZ (s:Int) (q:Int×Int):vC s q=q.2 * min q.1 s:=by
 unfold vC
 congr 1
 split <;> omega
def Lst.wso:∀ {ws:Trs},Crl ws->∀ {r:List Int} {ps:Trs},Lst r ps->Lst (CW.wso ws r) (eZ ps ws)
 | [],_,r,ps,h=>by
  have:eZ ps []=ps:=vE ps;rw[this];exact h
 | q :: ws,z,r,ps,h=>by
  have h1:=h.wk (z q aEb);have h2:=Lst.wso (ws:=ws) (λx B=>z x (aEc _ B)) h1;have e:eZ (shn (λs=>q.2 * min q.1 s) ps) ws=eZ ps (q :: ws):=by
   show shn (eP ws) (shn _ ps)=shn (eP (q :: ws)) ps;rw[A5];refine gU λx _=>?_;unfold eP;rw[aEy,aFB,qZ]
  rw[<- e];exact h2
def aAn {ps ws:Trs} (h:Trn ps):Trn (eZ ps ws):=by
 refine⟨λq z=>?_,?_⟩
 .obtain⟨p,B,rfl⟩:=aFN.mp z;exact h.pos p B
 .have:szs (eZ ps ws)=szs ps:=by
   unfold szs eZ;rw[aFD];rfl
  rw[this];exact h.few
def Lst.trn {r:List Int} {ps:Trs} (h:Lst r ps) (z:r.length<=60):Trn ps:=⟨h.pos,by have:=h.sizx;unfold siz at this;unfold szs;omega⟩
def aAo {ws:Trs} {i:Nat} {q:Int×Int} (h:ws[i]?=some q) (r:List Int):wso (ws.take (i+1)) r=wkn q q.2.natAbs (wso (ws.take i) r):=by
 unfold wso;rw[aFE,h,List.foldl_append];rfl
def A8 {r:List Int} (h:Row r):∀ {ws:Trs},Crl ws->Row (wso ws r):=by
 intro ws
 induction ws generalizing r with
 | nil=>intro _;exact h
 | cons q ws B=>intro z;exact B (A6 (z q aEb) h _) λx D=>z x (aEc _ D)
def mX:∀ (ws:Trs) (r:List Int),(wso ws r).length=r.length
 | [],r=>rfl
 | q :: ws,r=>(mX ws _).trans (A7 q r _)
def mY (q:Int×Int) (ws:Trs) (s:Int):eP (q :: ws) s=q.2 * min q.1 s+eP ws s:=by
 unfold eP;rw[aEy,aFB,qZ]
end CW
namespace CW
end CW
namespace CW
open PySem L2
def aAp {ns:List Int} (h:ns≠[]):atI (ns.map V.int) (-1)=some (.int (ns.getLastD 0)):=by
 obtain⟨r,x,rfl⟩:∃ r x,ns=r++[x]:=⟨ns.dropLast,ns.getLast h,(List.dropLast_concat_getLast h).symm⟩;rw[aEo,List.map_singleton,F1];simp
def S2 {ns:List Int} (h:ns≠[]):atI (ns.map V.int) 0=some (.int (ns.headD 0)):=by
 cases ns with
 | nil=>exact absurd rfl h
 | cons x r=>simp[atI,ixN]
inductive tI (vs:List V) (H:Hp) (Q:VK) (E_:XK):Prop
 | mk (a:Addr) (ns:List Int) (m:Nat) (h0_:vs=[.ref a,.int m]) (h1_:H a=some (.lst (ns.map V.int))) (h2_:P8 ns) (h3_:m+3<=ns.length) (h4_:m<=60) (h5_:∀ row,Row row->row.length<=m->(∀ x∈row,x<=800+10 ^ (40:Int).toNat)->kX H Q row):tI vs H Q E_
inductive Ent
 | walk (c n:Int) | put (p:Int) | take (p:Int) | mir | lay (o:List Int) (g:Int)
def L3 (row:List Int) (p:Int):List Int:=row.filter (λx=>decide (x<p))++p :: row.filter (λx=>decide (p<x))
def aAq (row:List Int) (p:Int):List Int:=row.filter (λx=>decide (x≠p))
def lU (row o:List Int) (g:Int):List Int:=row++P9 o (row.getLastD 0+g+1 - o.headD 0)
def Ent.ok (row:List Int):Ent->Prop
 | .walk c _=>1<=c
 | .put p=>p∉row/\row.length<60
 | .take p=>p∈row
 | .mir=>True
 | .lay o g=>row≠[]/\o≠[]/\Row o/\row.length+o.length<=60/\(o.length:Int)<=g
def Ent.app (row:List Int):Ent->List Int
 | .walk c n=>wso [(c,n)] row
 | .put p=>L3 row p
 | .take p=>aAq row p
 | .mir=>fI row
 | .lay o g=>lU row o g
structure Rw (r:List Int):Prop where
 row:Row r
 len:r.length<=60
def yJ {row:List Int} {p:Int} (h:p∉row):(L3 row p).Perm (row++[p]):=by
 unfold L3;refine(List.perm_middle).trans ?_;refine List.Perm.trans ?_ (List.perm_append_comm (l₁:=[p]) (l₂:=row));refine List.Perm.cons p ?_
 induction row with
 | nil=>exact .nil
 | cons x r B =>
  have D:x≠p:=λe=>h (by rw[e];exact aEb);have B:=B λz=>h (aEc _ z)
  by_cases c:x<p
  .rw[List.filter_cons_of_pos (by simpa using c),List.filter_cons_of_neg (by simp;omega)];exact B.cons x
  .rw[List.filter_cons_of_neg (by simpa using c),List.filter_cons_of_pos (by simp;omega)];exact List.perm_middle.trans (B.cons x)
def L4 {row:List Int} {p:Int} (h:Row row):Row (L3 row p):=by
 unfold L3;refine List.pairwise_append.mpr ⟨h.filter _,List.pairwise_cons.mpr ⟨λx z=>?_,h.filter _⟩,λx z y hy=>?_⟩
 .simpa using (aFO.mp z).2
 .have h1:x<p:=by simpa using (aFO.mp z).2
  rcases aFL.mp hy with e | hy
  .omega
  .have h2:p<y:=by simpa using (aFO.mp hy).2
   omega
def aBs {row o:List Int} {g:Int} (h:Row row) (B:Row o) (e1:row≠[]) (e2:o≠[]) (L:0<=g):Row (lU row o g):=by
 unfold lU;refine List.pairwise_append.mpr ⟨h,aAL B,λx hx y D=>?_⟩;have h1:x<=row.getLastD 0:=by
  obtain⟨r,z,rfl⟩:∃ r z,row=r++[z]:=⟨row.dropLast,row.getLast e1,(List.dropLast_concat_getLast e1).symm⟩;have I:(r++[z]).getLastD 0=z:=by simp
  rw[I];rcases aFM.mp hx with hx | hx
  .exact Int.le_of_lt ((List.pairwise_append.mp h).2.2 x hx z (by simp))
  .rw[aFF.mp hx];exact Int.le_refl _
 have h2:row.getLastD 0<y:=by
  obtain⟨z,hz,rfl⟩:=aFN.mp D;obtain⟨a,r,rfl⟩:∃ a r,o=a :: r:=by cases o with | nil=>exact absurd rfl e2 | cons a r=>exact⟨a,r,rfl⟩
  have J:(a :: r).headD 0=a:=rfl;rw[J];have:a<=z:=by
   rcases aFL.mp hz with e | hz
   .omega
   .exact Int.le_of_lt ((List.pairwise_cons.mp B).1 z hz)
  omega
 exact Int.lt_of_le_of_lt h1 h2
def Ent.app_row {row:List Int} {e:Ent} (h:Rw row) (z:e.ok row):Rw (e.app row):=by
 cases e with
 | walk c n =>
  refine⟨A8 h.row λq B=>?_,by show (wso [(c,n)] row).length<=60;rw[mX];exact h.len⟩;rw[aFF.mp B];exact z
 | put p =>
  refine⟨L4 h.row,?_⟩;have:=(yJ z.1).length_eq;rw[aEi,List.length_singleton]at this;have h2:=z.2;show (L3 row p).length<=60;omega
 | take p=>exact⟨h.row.filter _,Nat.le_trans (List.length_filter_le _ _) h.len⟩
 | mir=>exact⟨hW h.row,by show (fI row).length<=60;rw[lN];exact h.len⟩
 | lay o g =>
  obtain⟨h1,h2,h3,h4,h5⟩:=z;refine⟨aBs h.row h3 h1 h2 (by omega),?_⟩;show (lU row o g).length<=60;unfold lU;rw[aEi,pE];exact h4
inductive Go:List Int->List Ent->List Int->Prop
 | nil {r:List Int}:Go r [] r
 | cons {r r':List Int} {e:Ent} {es:List Ent} (ok:e.ok r) (go:Go (e.app r) es r'):Go r (e :: es) r'
def Go.rw {r z:List Int} {es:List Ent} (h:Go r es z) (B:Rw r):Rw z:=by
 induction h with
 | nil=>exact B
 | cons ok _ D=>exact D (Ent.app_row B ok)
def Go.append {r B z:List Int} {es fs:List Ent} (h:Go r es B) (g:Go B fs z):Go r (es++fs) z:=by
 induction h with
 | nil=>exact g
 | cons ok _ D=>exact .cons ok (D g)
def Go.one {r:List Int} {e:Ent} (h:e.ok r):Go r [e] (e.app r):=.cons h .nil
def Go.snoc {r z:List Int} {es:List Ent} {e:Ent} (h:Go r es z) (B:e.ok z):Go r (es++[e]) (e.app z):=h.append (.one B)
def Go.det {r B z:List Int} {es:List Ent} (h:Go r es B) (g:Go r es z):B=z:=by
 induction h with
 | nil=>cases g;rfl
 | cons _ _ D=>cases g with | cons _ g=>exact D g
def Go.split {r z:List Int}:∀ {es fs:List Ent},Go r (es++fs) z->∃ B,Go r es B/\Go B fs z:=by
 intro es
 induction es generalizing r with
 | nil=>intro fs h;exact⟨r,.nil,h⟩
 | cons e es D =>
  intro fs h;cases h with
  | cons ok g =>
   obtain⟨B,h1,h2⟩:=D g;exact⟨B,.cons ok h1,h2⟩
def Go.at {r B:List Int} {es:List Ent} {i:Nat} {e:Ent} (h:Go r es B) (hi:es[i]?=some e):∃ z,Go r (es.take i) z/\e.ok z/\Go r (es.take (i+1)) (e.app z):=by
 have hs:es.take i++es.drop i=es:=List.take_append_drop i es;rw[<- hs]at h;obtain⟨z,h1,h2⟩:=h.split;have hd:es.drop i=e :: es.drop (i+1):=by
  obtain⟨D,he⟩:=aFK.mp hi;rw[<- he];exact List.drop_eq_getElem_cons D
 rw[hd]at h2;cases h2 with
 | cons ok g =>
  refine⟨z,h1,ok,?_⟩;rw[aFE,hi];exact h1.snoc ok
def W8 (c n:Int) (r:List Int):wso [(c,n)] r=wkn (c,n) n.natAbs r:=rfl
def S3 (a b:Trs) (r:List Int):wso (a++b) r=wso b (wso a r):=by unfold wso;rw[List.foldl_append]
def aAr (a b:Trs) (s:Int):eP (a++b) s=eP a s+eP b s:=by unfold eP;rw[aEo,List.sum_append]
def L5 (c n s:Int):eP [(c,n)] s=n * min c s:=by
 show [vC s (c,n)].sum=_;rw[aFB,List.sum_nil,Int.add_zero,qZ]
def aDE {ps:Trs}:(∀ q∈ps,1<=q.1)->∀ q∈ps,q.1<=siz ps:=by
 induction ps with
 | nil=>intro _ q hq;cases hq
 | cons p r z =>
  intro h q hq;have h2:∀ x∈r,1<=x.1:=λx B=>h x (aEc _ B);have h3:=hX h2;have h4:(szs r).sum=siz r:=rfl;have h5:siz (p :: r)=p.1+siz r:=by unfold siz;rw[aEy,aFB]
  have h6:=h p aEb;rcases aFL.mp hq with e | hq
  .rw[e];omega
  .have:=z h2 q hq;omega
def aAs {a b:Trs} {r:List Int} (B:Rw r) (I:Crl a) (J:Crl b) (h:∀ s:Int,1<=s->s<=60->eP a s=eP b s):wso a r=wso b r:=by
 obtain⟨ps,z⟩:=Lst.ex r B.row;refine(z.wso I).row (z.wso J) ?_;have:eZ ps a=eZ ps b:=List.map_congr_left λq D=>by
  have h1:=z.pos q D;have h2:=aDE z.pos q D;have h3:=z.sizx;have h4:=B.len;rw[h q.1 h1 (by omega)]
 rw[this]
def oE (k n:Int):Trs->Trs
 | []=>[(k,n)]
 | p :: r=>if p.1=k then (p.1,p.2+n) :: r else p :: oE k n r
abbrev kvW (ws:Trs):List (Key×V):=ws.map λq=>((Sum.inl q.1:Key),V.int q.2)
def yK (k n s:Int):∀ ws:Trs,eP (oE k n ws) s=eP ws s+n * min k s
 | []=>by rw[oE,L5];unfold eP;simp
 | p :: r=>by
  unfold oE
  by_cases h:p.1=k
  .rw[if_pos h,mY,mY,<- h];show (p.2+n) * min p.1 s+eP r s=_;rw[Int.add_mul];omega
  .rw[if_neg h,mY,mY,yK k n s r];omega
def rA (k n:Int):∀ ws:Trs,∀ q∈oE k n ws,q.1=k\/q.1∈ws.map (·.1)
 | [],q,hq=>by rw[oE]at hq;rw[aFF.mp hq];exact .inl rfl
 | p :: r,q,hq=>by
  unfold oE at hq
  by_cases h:p.1=k
  .rw[if_pos h]at hq;rcases aFL.mp hq with e | hq
   .rw[e];exact .inl h
   .exact .inr (aEc _ (aFN.mpr ⟨q,hq,rfl⟩))
  .rw[if_neg h]at hq;rcases aFL.mp hq with e | hq
   .rw[e];exact .inr aEb
   .rcases rA k n r q hq with h | h
    .exact .inl h
    .exact .inr (aEc _ h)
def vF (k n:Int):∀ {ws:Trs},(ws.map (·.1)).Nodup->((oE k n ws).map (·.1)).Nodup
 | [],_=>by simp[oE]
 | p :: r,h=>by
  rw[aEy,List.nodup_cons]at h;unfold oE
  by_cases e:p.1=k
  .rw[if_pos e,aEy,List.nodup_cons];exact h
  .rw[if_neg e,aEy,List.nodup_cons];refine⟨λz=>?_,vF k n h.2⟩;obtain⟨q,D,B⟩:=aFN.mp z;rcases rA k n r q D with h1 | h1
   .exact e (by rw[<- B];exact h1)
   .rw[B]at h1;exact h.1 h1
def j9 {κ:Type} [DecidableEq κ] {p:κ×V} {r:List (κ×V)} {k:κ} {v:V} (e:p.1=k) (h:k∉r.map (·.1)):dX (p :: r) k v=(p.1,v) :: r:=by
 unfold dX;rw[if_pos (by rw[List.any_cons,aEv e,Bool.true_or]),aEy,if_pos e]
 congr 1
 conv=>rhs;rw[<- List.map_id r]
 refine List.map_congr_left λx B=>?_;rw[if_neg (λz=>h (aFN.mpr ⟨x,B,z⟩))];rfl
def yL {κ:Type} [DecidableEq κ] {p:κ×V} {r:List (κ×V)} {k:κ} {v:V} (e:¬ p.1=k):dX (p :: r) k v=p :: dX r k v:=by
 unfold dX;rw[List.any_cons,aEu e,Bool.false_or]
 by_cases c:(r.any λz=>decide (z.1=k))=true
 .rw[if_pos c,if_pos c,aEy,if_neg e]
 .rw[if_neg c,if_neg c];rfl
def W9 (k n:Int):∀ {ws:Trs},(ws.map (·.1)).Nodup->∃ z:Int,(dE (kvW ws) (Sum.inl k)).getD (.int 0)=.int z/\dX (kvW ws) (Sum.inl k) (.int (z+n))=kvW (oE k n ws)
 | [],_=>⟨0,rfl,by rw[Int.zero_add];rfl⟩
 | p :: r,h=>by
  rw[aEy,List.nodup_cons]at h;unfold oE
  by_cases e:p.1=k
  .refine⟨p.2,?_,?_⟩
   .show (dE (((Sum.inl p.1:Key),V.int p.2) :: kvW r) (Sum.inl k)).getD (.int 0)=_;rw[cU (by rw[e])];rfl
   .rw[if_pos e];show dX (((Sum.inl p.1:Key),V.int p.2) :: kvW r) (Sum.inl k) _=_;rw[j9 (by rw[e]) (λz=>?_)]
    .rfl
    .obtain⟨x,I,B⟩:=aFN.mp z;obtain⟨q,J,rfl⟩:=aFN.mp I;have:q.1=k:=Sum.inl.inj B;exact h.1 (aFN.mpr ⟨q,J,this.trans e.symm⟩)
  .obtain⟨z,h1,h2⟩:=W9 k n h.2;have D:¬ (Sum.inl p.1:Key)=Sum.inl k:=λq=>e (Sum.inl.inj q);refine⟨z,?_,?_⟩
   .show (dE (((Sum.inl p.1:Key),V.int p.2) :: kvW r) (Sum.inl k)).getD (.int 0)=_;rw[cN D];exact h1
   .rw[if_neg e];show dX (((Sum.inl p.1:Key),V.int p.2) :: kvW r) (Sum.inl k) _=_;rw[yL D,h2];rfl
structure WsOk (ws:Trs):Prop where
 key:∀ q∈ws,1<=q.1/\q.1<=60
 nd:(ws.map (·.1)).Nodup
def WsOk.crl {ws:Trs} (h:WsOk ws):Crl ws:=λq z=>(h.key q z).1
def WsOk.nil:WsOk []:=⟨λq z=>(nomatch z),List.nodup_nil⟩
def WsOk.add {ws:Trs} (h:WsOk ws) {k:Int} (n:Int) (h1:1<=k) (h2:k<=60):WsOk (oE k n ws):=by
 refine⟨λq z=>?_,vF k n h.nd⟩;rcases rA k n ws q z with e | e
 .omega
 .obtain⟨p,B,e⟩:=aFN.mp e;have:=h.key p B;have e:p.1=q.1:=e;omega
def yM:∀ {l s:List Nat},l.Nodup->(∀ x∈l,x∈s)->l.length<=s.length
 | [],_,_,_=>Nat.zero_le _
 | x :: l,s,h,hs=>by
  obtain⟨h1,h2⟩:=List.nodup_cons.mp h;have z:=hs x aEb;have:=yM (l:=l) (s:=s.erase x) h2 λy B=>(List.mem_erase_of_ne (λe=>h1 (by rw[<- e];exact B))).mpr (hs y (aEc _ B));rw[List.length_erase_of_mem z]at this;have:=List.length_pos_of_mem z;rw[aFC];omega
def sI {l:List Nat} {m:Nat} (h1:l.Nodup) (h2:∀ x∈l,x<m):l.length<=m:=by
 have:=yM h1 (λx z=>List.mem_range.mpr (h2 x z));rw[List.length_range]at this;exact this
def WsOk.few {ws:Trs} (h:WsOk ws):ws.length<=61:=by
 have h1:((ws.map (·.1)).map Int.toNat).Nodup:=by
  rw[List.Nodup,List.pairwise_map];refine List.Pairwise.imp_of_mem (R:=λa b=>a≠b) (λ{a b} B D I e=>I ?_) h.nd;obtain⟨p,z,rfl⟩:=aFN.mp B;obtain⟨q,J,rfl⟩:=aFN.mp D;have:=h.key p z;have:=h.key q J;omega
 have:=sI (m:=61) h1 λx L=>by
  obtain⟨y,M,rfl⟩:=aFN.mp L;obtain⟨p,z,rfl⟩:=aFN.mp M;have:=h.key p z;omega
 simpa using this
structure Crs where
 rested:List Int
 walks:Trs
 turned:Bool
def Crs.row (C:Crs):List Int:=if C.turned=true then fI (wso C.walks C.rested)else wso C.walks C.rested
structure Crs.Ok (C:Crs):Prop where
 rw:Rw C.rested
 ws:WsOk C.walks
def Crs.Ok.wrw {C:Crs} (h:C.Ok):Rw (wso C.walks C.rested):=⟨A8 h.rw.row h.ws.crl,by rw[mX];exact h.rw.len⟩
def Crs.Ok.row {C:Crs} (h:C.Ok):Rw C.row:=by
 unfold Crs.row;split
 .exact⟨hW h.wrw.row,by rw[lN];exact h.wrw.len⟩
 .exact h.wrw
def aBt {c n:Int} (z:n≠0) (r:List Int):wk1 (c,n) (fI r)=fI (wk1 (c,-n) r):=by
 unfold wk1;show (if 0<n then dA (fI r) c else iO (fI r) c)=fI (if 0 < -n then dA r c else iO r c)
 by_cases h:0<n
 .rw[if_pos h,if_neg (by omega)];unfold iO;rw[jM]
 .rw[if_neg h,if_pos (by omega)];unfold iO;rw[jM]
def X0 {c n:Int} (z:n≠0) (r:List Int):∀ k,wkn (c,n) k (fI r)=fI (wkn (c,-n) k r)
 | 0=>rfl
 | k+1=>by
  show wk1 (c,n) (wkn (c,n) k (fI r))=fI (wk1 (c,-n) (wkn (c,-n) k r));rw[X0 z r k,aBt z]
def aBu (c n:Int) (r:List Int):wso [(c,n)] (fI r)=fI (wso [(c,-n)] r):=by
 rw[W8,W8,Int.natAbs_neg]
 by_cases h:n=0
 .subst h;rfl
 .exact X0 h r _
def Crs.walk (C:Crs) (c n:Int):Crs:={ C with walks:=oE (min c 60) (if C.turned=true then -n else n) C.walks }
def L6 {C:Crs} (h:C.Ok) {c:Int} (z:1<=c) (n:Int):wso (oE (min c 60) n C.walks) C.rested=wso [(c,n)] (wso C.walks C.rested):=by
 rw[<- S3];refine aAs h.rw (h.ws.add n (by omega) (by omega)).crl (λq hq=>?_) λs h1 h2=>?_
 .rcases aFM.mp hq with hq | hq
  .exact h.ws.crl q hq
  .rw[aFF.mp hq];exact z
 .rw[yK,aAr,L5]
  congr 2
  omega
def Crs.walk_row {C:Crs} (h:C.Ok) {c:Int} (hc:1<=c) (n:Int):(C.walk c n).row=wso [(c,n)] C.row:=by
 unfold Crs.row Crs.walk;cases hT:C.turned with
 | false =>
  simp only[Bool.false_eq_true,if_false];exact L6 h hc n
 | true =>
  simp only[if_true];rw[L6 h hc,aBu]
def Crs.walk_ok {C:Crs} (h:C.Ok) {c:Int} (hc:1<=c) (n:Int):(C.walk c n).Ok:=⟨h.rw,h.ws.add _ (by omega) (by omega)⟩
def Crs.turn_row (C:Crs):({ C with turned:=!C.turned }:Crs).row=fI C.row:=by
 unfold Crs.row;cases z:C.turned with
 | false=>simp
 | true=>simp[jM]
def Crs.new_ok {r:List Int} (h:Rw r):(⟨r,[],false⟩:Crs).Ok:=⟨h,.nil⟩
def yN {x:Str} (h:nJ x):PyData.strOk x=true:=by
 unfold nJ at h;unfold PyData.strOk;rw[<- Array.all_toList,List.all_eq_true]at *;intro c z;have:=of_decide_eq_true (h c z);exact aEv (by omega)
def aAt {x:Str} (h:nJ x):SeqAt.shaped (.str x)=true:=by
 simp[SeqAt.shaped,PyData.canLay0,PyData.depth,yN h]
def aDs (x y:Str):PyData.eqv (.str x) (.str y)=decide (x=y):=by
 simp only[PyData.eqv]
 by_cases h:x=y
 .rw[aEv h,h];exact beq_self_eq_true y
 .rw[aEu h];exact beq_eq_false_iff_ne.mpr h
structure Txs (x:Str):Prop where
 asc:nJ x
 len:x.length<=5000
inductive A9 (vs:List V) (H:Hp) (Q:VK) (E_:XK):Prop
 | mk (t sg:Str) (most:Int) (h0_:vs=[.str t,.str sg,.int most]) (h1_:Txs t) (h2_:∀ H',Same H H'->Q (.bl (yC t sg most)) H'):A9 vs H Q E_
inductive tJ (vs:List V) (H:Hp) (Q:VK) (E_:XK):Prop
 | mk (t:Str) (h0_:vs=[.str t]) (h1_:Txs t) (h2_:∀ H',Same H H'->Q (.bl (yC t j5 8)) H'):tJ vs H Q E_
mutual
inductive DT (H:Hp):V->PyData->Prop
 | int (i:Int):DT H (.int i) (.int i)
 | str (x:Str):DT H (.str x) (.str x)
 | tup {a:Addr} {vs:List V} {ds:List PyData}:H a=some (.tup vs)->DTs H vs ds->DT H (.ref a) (.tuple ds)
inductive DTs (H:Hp):List V->List PyData->Prop
 | nil:DTs H [] []
 | cons {v:V} {d:PyData} {vs:List V} {ds:List PyData}:DT H v d->DTs H vs ds->DTs H (v :: vs) (d :: ds)
end
mutual
def DT.mono {H H':Hp} (e:TupS H H'):∀ {v:V} {d:PyData},DT H v d->DT H' v d
 | _,_,.int i=>.int i
 | _,_,.str x=>.str x
 | _,_,.tup h t=>.tup (e _ _ h) (DTs.mono e t)
def DTs.mono {H H':Hp} (e:TupS H H'):∀ {vs:List V} {ds:List PyData},DTs H vs ds->DTs H' vs ds
 | _,_,.nil=>.nil
 | _,_,.cons r t=>.cons (DT.mono e r) (DTs.mono e t)
end
mutual
def DT.den {H:Hp}:∀ {v:V} {d:PyData},DT H v d->Den H v d
 | _,_,.int i=>.int i
 | _,_,.str x=>.str x
 | _,_,.tup h t=>.tup h (DTs.dens t)
def DTs.dens {H:Hp}:∀ {vs:List V} {ds:List PyData},DTs H vs ds->Dens H vs ds
 | _,_,.nil=>.nil
 | _,_,.cons r t=>.cons (DT.den r) (DTs.dens t)
end
def DTs.length:∀ {H:Hp} {vs:List V} {ds:List PyData},DTs H vs ds->vs.length=ds.length
 | _,_,_,.nil=>rfl
 | _,_,_,.cons _ t=>congrArg Nat.succ (DTs.length t)
def DTs.append:∀ {H:Hp} {vs us:List V} {ds es:List PyData},DTs H vs ds->DTs H us es->DTs H (vs++us) (ds++es)
 | _,_,_,_,_,.nil,s=>s
 | _,_,_,_,_,.cons r t,s=>.cons r (DTs.append t s)
def DTs.take:∀ {H:Hp} {vs:List V} {ds:List PyData} (n:Nat),DTs H vs ds->DTs H (vs.take n) (ds.take n)
 | _,_,_,0,_=>.nil
 | _,_,_,_+1,.nil=>.nil
 | _,_,_,n+1,.cons r t=>.cons r (DTs.take n t)
def DTs.drop:∀ {H:Hp} {vs:List V} {ds:List PyData} (n:Nat),DTs H vs ds->DTs H (vs.drop n) (ds.drop n)
 | _,_,_,0,r=>r
 | _,_,_,_+1,.nil=>.nil
 | _,_,_,n+1,.cons r t=>DTs.drop n t
def DTs.get:∀ {H:Hp} {vs:List V} {ds:List PyData} {i:Nat} {d:PyData},DTs H vs ds->ds[i]?=some d->∃ v,vs[i]?=some v/\DT H v d
 | _,_,_,_,_,.nil,e=>by simp at e
 | _,_,_,0,_,.cons r _,e=>by simp at e;subst e;exact⟨_,rfl,r⟩
 | _,_,_,i+1,d,.cons _ t,e=>by
  obtain⟨v,h1,h2⟩:=DTs.get (i:=i) (d:=d) t (by simpa using e);exact⟨v,by simpa using h1,h2⟩
def DTs.ints {H:Hp}:∀ ns:List Int,DTs H (ns.map V.int) (ns.map PyData.int)
 | []=>.nil
 | n :: r=>.cons (.int n) (DTs.ints r)
def DTs.ints_inv {H:Hp}:∀ {ns:List Int} {vs:List V},DTs H vs (ns.map PyData.int)->vs=ns.map V.int
 | [],_,.nil=>rfl
 | n :: r,_,.cons (.int _) t=>by rw[DTs.ints_inv t];rfl
def Ent.data:Ent->PyData
 | .walk c n=>.tuple [.str "walk",.int c,.int n]
 | .put p=>.tuple [.str "put",.int p]
 | .take p=>.tuple [.str "take",.int p]
 | .mir=>.tuple [.str "mirror"]
 | .lay o g=>.tuple [.str "lay",.tuple (o.map PyData.int),.int g]
def X1 {H:Hp} {v:V} {c n:Int} (h:DT H v (Ent.walk c n).data):∃ t,v=.ref t/\H t=some (.tup [.str "walk",.int c,.int n]):=by
 cases h with
 | tup h t=>cases t with | cons a t=>cases t with | cons b t=>cases t with | cons c t=>cases t;cases a;cases b;cases c;exact⟨_,rfl,h⟩
def aAu {H:Hp} {v:V} {p:Int} (h:DT H v (Ent.put p).data):∃ t,v=.ref t/\H t=some (.tup [.str "put",.int p]):=by
 cases h with
 | tup h t=>cases t with | cons a t=>cases t with | cons b t=>cases t;cases a;cases b;exact⟨_,rfl,h⟩
def X2 {H:Hp} {v:V} {p:Int} (h:DT H v (Ent.take p).data):∃ t,v=.ref t/\H t=some (.tup [.str "take",.int p]):=by
 cases h with
 | tup h t=>cases t with | cons a t=>cases t with | cons b t=>cases t;cases a;cases b;exact⟨_,rfl,h⟩
def aAv {H:Hp} {v:V} (h:DT H v Ent.mir.data):∃ t,v=.ref t/\H t=some (.tup [.str "mirror"]):=by
 cases h with
 | tup h t=>cases t with | cons a t=>cases t;cases a;exact⟨_,rfl,h⟩
def aAw {H:Hp} {v:V} {o:List Int} {g:Int} (h:DT H v (Ent.lay o g).data):∃ t u,v=.ref t/\H t=some (.tup [.str "lay",.ref u,.int g])/\H u=some (.tup (o.map V.int)):=by
 cases h with
 | tup h t=>cases t with | cons a t=>cases t with | cons b t=>cases t with | cons c t =>
  cases t;cases a;cases c;cases b with | tup z tb=>rw[DTs.ints_inv tb]at z;exact⟨_,_,rfl,h,z⟩
def Ent.word:Ent->Str
 | .walk _ _=>"walk" | .put _=>"put" | .take _=>"take" | .mir=>"mirror" | .lay _ _=>"lay"
def X3 {H:Hp} {v:V} {e:Ent} (h:DT H v e.data):∃ t xs,v=.ref t/\H t=some (.tup (.str e.word :: xs)):=by
 cases e with
 | walk c n=>obtain⟨t,rfl,h'⟩:=X1 h;exact⟨t,_,rfl,h'⟩
 | put p=>obtain⟨t,rfl,h'⟩:=aAu h;exact⟨t,_,rfl,h'⟩
 | take p=>obtain⟨t,rfl,h'⟩:=X2 h;exact⟨t,_,rfl,h'⟩
 | mir=>obtain⟨t,rfl,h'⟩:=aAv h;exact⟨t,_,rfl,h'⟩
 | lay o g=>obtain⟨t,u,rfl,h',_⟩:=aAw h;exact⟨t,_,rfl,h'⟩
structure Hc (K:PySem.W.Frag) where
 Rd:Addr
 Cs:Addr
 Hs:Addr
 rd:Cls K Rd
 cs:Cls K Cs
 hs:Cls K Hs
 ne1:Rd≠Hs
 ne2:Cs≠Hs
 rEn:NoAttr K Rd "entries"
 rRe:NoAttr K Rd "rests"
 rCo:NoAttr K Rd "course"
 cRe:NoAttr K Cs "rested"
 cWa:NoAttr K Cs "walks"
 cTu:NoAttr K Cs "turned"
 hSt:NoAttr K Hs "standing"
 hPa:NoAttr K Hs "past"
 hAh:NoAttr K Hs "ahead"
def RowA (N:Addr->Prop) (H:Hp) (t:Addr) (r:List Int):Prop:=N t/\H t=some (.lst (r.map V.int))\/H t=some (.tup (r.map V.int))
abbrev aDt (t d:Addr) (b:Bool):List (Str×V):=[("rested",.ref t),("walks",.ref d),("turned",.bl b)]
abbrev aDu (e r c:Addr):List (Str×V):=[("entries",.ref e),("rests",.ref r),("course",.ref c)]
abbrev fL (d p q:Addr):List (Str×V):=[("standing",.ref d),("past",.ref p),("ahead",.ref q)]
section
variable {K:PySem.W.Frag} (G:Hc K)
structure Kp (N:Addr->Prop) (H H':Hp):Prop where
 tup:TupS H H'
 dk:∀ d kvs,H d=some (.dK kvs)->H' d=some (.dK kvs)
 ins:∀ a C dx fs,C≠G.Hs->H a=some (.ins C dx fs)->H' a=some (.ins C dx fs)
 lst:∀ t xs,N t->H t=some (.lst xs)->H' t=some (.lst xs)
def CrsAt (N:Addr->Prop) (H:Hp) (a:Addr) (C:Crs):Prop:=∃ dx t d,H a=some (.ins G.Cs dx (aDt t d C.turned))/\RowA N H t C.rested/\H d=some (.dK (kvW C.walks))
def RestAt (N:Addr->Prop) (H:Hp) (v:V) (q:Nat×List Int):Prop:=∃ t u,v=.ref t/\H t=some (.tup [.int q.1,.ref u])/\RowA N H u q.2
structure RoadOk (first:List Int) (ents:List Ent) (rests:List (Nat×List Int)) (C:Crs):Prop where
 rw:Rw first
 hd:rests[0]?=some (0,first)
 all:∀ q∈rests,q.1<=ents.length/\Go first (ents.take q.1) q.2
 asc:rests.Pairwise λa b=>a.1<b.1
 cok:C.Ok
 go:Go first ents C.row
 lim:ents.length<=9000
def RoadAt (N:Addr->Prop) (H:Hp) (v:V) (first:List Int) (ents:List Ent):Prop:=∃ a dx e r c us z rests C,v=.ref a/\H a=some (.ins G.Rd dx (aDu e r c))/\H e=some (.tup us)/\DTs H us (ents.map Ent.data) /\
 H r=some (.tup z)/\Paired (RestAt N H) z rests/\CrsAt G N H c C/\RoadOk first ents rests C
abbrev Std:=List (Str×List Int×List Ent)
def DictAt (N:Addr->Prop) (H:Hp) (d:Addr) (std:Std):Prop:=(std.length<=8/\(std.map (·.1)).Nodup)/\∃ kvs,H d=some (.dK kvs)/\Paired (λ(z:Key×V) (s:Str×List Int×List Ent)=>z.1=.inr s.1/\RoadAt G N H z.2 s.2.1 s.2.2) kvs std
def PastAt (N:Addr->Prop) (H:Hp) (v:V) (q:PyData×Std):Prop:=∃ t u d,v=.ref t/\H t=some (.tup [u,.ref d])/\DT H u q.1/\DictAt G N H d q.2
structure HM where
 std:Std
 past:List (PyData×Std)
 ahead:List (PyData×Std)
def HouseAt (N:Addr->Prop) (H:Hp) (a p q:Addr) (m:HM):Prop:=∃ dx d us ws,p≠q/\H a=some (.ins G.Hs dx (fL d p q))/\DictAt G (λt=>N t/\t≠p/\t≠q) H d m.std /\
 H p=some (.lst us)/\Paired (PastAt G (λt=>N t/\t≠p/\t≠q) H) us m.past/\H q=some (.lst ws)/\Paired (PastAt G (λt=>N t/\t≠p/\t≠q) H) ws m.ahead
variable {G}
def Kp.same {N:Addr->Prop} {H H':Hp} (g:Same H H'):Kp G N H H':=⟨λ_ _ e=>g _ _ e,λ_ _ e=>g _ _ e,λ_ _ _ _ _ e=>g _ _ e,λ_ _ _ e=>g _ _ e⟩
def RowA.kp {N:Addr->Prop} {H H':Hp} (k:Kp G N H H') {t:Addr} {r:List Int} (h:RowA N H t r):RowA N H' t r:=by
 rcases h with ⟨h1,h2⟩ | h
 .exact .inl ⟨h1,k.lst _ _ h1 h2⟩
 .exact .inr (k.tup _ _ h)
def RowA.same {N:Addr->Prop} {H H':Hp} (g:Same H H') {t:Addr} {r:List Int} (h:RowA N H t r):RowA N H' t r:=by
 rcases h with ⟨h1,h2⟩ | h
 .exact .inl ⟨h1,g _ _ h2⟩
 .exact .inr (g _ _ h)
def CrsAt.kp {N:Addr->Prop} {H H':Hp} (k:Kp G N H H') {a:Addr} {C:Crs} (h:CrsAt G N H a C):CrsAt G N H' a C:=by
 obtain⟨dx,t,d,h1,h2,h3⟩:=h;exact⟨dx,t,d,k.ins _ _ _ _ G.ne2 h1,h2.kp k,k.dk _ _ h3⟩
def RestAt.kp {N:Addr->Prop} {H H':Hp} (k:Kp G N H H') {v:V} {q:Nat×List Int} (h:RestAt N H v q):RestAt N H' v q:=by
 obtain⟨t,u,h1,h2,h3⟩:=h;exact⟨t,u,h1,k.tup _ _ h2,h3.kp k⟩
def RoadAt.kp {N:Addr->Prop} {H H':Hp} (k:Kp G N H H') {v:V} {first:List Int} {ents:List Ent} (h:RoadAt G N H v first ents):RoadAt G N H' v first ents:=by
 obtain⟨a,dx,e,r,c,us,z,rests,C,h1,h2,h3,h4,h5,h6,h7,h8⟩:=h;exact⟨a,dx,e,r,c,us,z,rests,C,h1,k.ins _ _ _ _ G.ne1 h2,k.tup _ _ h3,h4.mono k.tup,k.tup _ _ h5,Paired.mapP h6 λ_ _ x=>x.kp k,h7.kp k,h8⟩
def DictAt.kp {N:Addr->Prop} {H H':Hp} (k:Kp G N H H') {d:Addr} {std:Std} (h:DictAt G N H d std):DictAt G N H' d std:=by
 obtain⟨h0,kvs,h1,h2⟩:=h;exact⟨h0,kvs,k.dk _ _ h1,Paired.mapP h2 λ_ _ x=>⟨x.1,x.2.kp k⟩⟩
def PastAt.kp {N:Addr->Prop} {H H':Hp} (k:Kp G N H H') {v:V} {q:PyData×Std} (h:PastAt G N H v q):PastAt G N H' v q:=by
 obtain⟨t,u,d,h1,h2,h3,h4⟩:=h;exact⟨t,u,d,h1,k.tup _ _ h2,h3.mono k.tup,h4.kp k⟩
def RowA.imp {N N':Addr->Prop} {H:Hp} {t:Addr} {r:List Int} (k:∀ t xs,N t->H t=some (.lst xs)->N' t) (h:RowA N H t r):RowA N' H t r:=by
 rcases h with ⟨h1,h2⟩ | h
 .exact .inl ⟨k _ _ h1 h2,h2⟩
 .exact .inr h
def RoadAt.imp {N N':Addr->Prop} {H:Hp} (k:∀ t xs,N t->H t=some (.lst xs)->N' t) {v:V} {first:List Int} {ents:List Ent} (h:RoadAt G N H v first ents):RoadAt G N' H v first ents:=by
 obtain⟨a,dx,e,r,c,us,z,rests,C,h1,h2,h3,h4,h5,h6,⟨B,t,d,D,I,J⟩,h8⟩:=h;exact⟨a,dx,e,r,c,us,z,rests,C,h1,h2,h3,h4,h5,Paired.mapP h6 λ_ _ ⟨t,u,L,M,U⟩=>⟨t,u,L,M,U.imp k⟩,⟨B,t,d,D,I.imp k,J⟩,h8⟩
def DictAt.imp {N N':Addr->Prop} {H:Hp} (k:∀ t xs,N t->H t=some (.lst xs)->N' t) {d:Addr} {std:Std} (h:DictAt G N H d std):DictAt G N' H d std:=by
 obtain⟨h0,kvs,h1,h2⟩:=h;exact⟨h0,kvs,h1,Paired.mapP h2 λ_ _ x=>⟨x.1,x.2.imp k⟩⟩
def PastAt.imp {N N':Addr->Prop} {H:Hp} (k:∀ t xs,N t->H t=some (.lst xs)->N' t) {v:V} {q:PyData×Std} (h:PastAt G N H v q):PastAt G N' H v q:=by
 obtain⟨t,u,d,h1,h2,h3,h4⟩:=h;exact⟨t,u,d,h1,h2,h3,h4.imp k⟩
def HouseAt.same {N:Addr->Prop} {H H':Hp} (g:Same H H') {a p q:Addr} {m:HM} (h:HouseAt G N H a p q m):HouseAt G N H' a p q m:=by
 obtain⟨dx,d,us,ws,h0,h1,h2,h3,h4,h5,h6⟩:=h;have k:Kp G (λt=>N t/\t≠p/\t≠q) H H':=.same g;exact⟨dx,d,us,ws,h0,g _ _ h1,h2.kp k,g _ _ h3,Paired.mapP h4 λ_ _ x=>x.kp k,g _ _ h5,Paired.mapP h6 λ_ _ x=>x.kp k⟩
end
end CW
namespace L2
open PySem PySem.Spec PyProof.Rows
open Sem (wp)
open Sem (wp)
open Builtin Builtin.ObjectAttr
end L2
namespace L2
open PySem PySem.Spec PyProof.Rows
open Sem (wp)
open Builtin Builtin.ObjectAttr
end L2
namespace L2
open PySem PySem.Spec PyProof.Rows
open PySem.W PySem.Calls
end L2
namespace CW
open PySem L2
end CW
namespace L2
open PySem PySem.Spec PyProof.Rows
end L2
namespace CW
open PySem L2
structure Bt6 (mg:Str->Option Value):Prop where
 dict:mg "dict"=none
end CW
namespace L2
open PySem PySem.Spec PyProof.Rows
def aDv (K:PySem.W.Frag) (tl:TE):TI:=fun σ H R=>p0 K tl σ H R\/aDY K tl σ H R
def aDF {X:Cx} {tg l:Expr} {tl:TE} (z:PE X l tl):PI X tg l (aDv X.K tl):=by
 intro pins s σ H R I h;rcases h with h | h
 .exact cI z pins s σ H R I h
 .exact O0 z pins s σ H R I h
def L7 {K:PySem.W.Frag} {a:Addr} {xs:List V} {z:St} {g:TG} {tt:TT} {te:TE} {H:Hp} {Q:VK} (Pv:Nat->List V->Hp->Prop) (h0:Pv 0 [] H) (L:∀ i ys H,i<=xs.length->Pv i ys H->SqT K H a xs/\ys.length<sizeLine)
 (hs:∀ i x ys H,xs[i]?=some x->Pv i ys H->g x z H λB H2=>tt B H2 λb J=>if b=true then te B J λy M=>Pv (i+1) (ys++[y]) M else Pv (i+1) ys J) (hd:∀ ys H,Pv xs.length ys H->∀ D,H D=none->Q (.ref D) (upd H D (.lst ys))) :
 oX (Itt K a) z g tt te Q H:=by
 refine⟨λi m ys H=>m=xs.length - i/\i<=xs.length/\Pv i ys H,⟨xs.length,by simp,Nat.zero_le _,h0⟩,?_⟩;rintro i m ys H ⟨rfl,hi,p⟩;obtain⟨q,U⟩:=L i ys H hi p;refine⟨U,?_⟩
 by_cases I:i<xs.length
 .refine .inr ⟨⟨xs,xs[i],q,by simp[I]⟩,Pv (i+1),λY H' p'=>⟨xs.length - (i+1),by omega,rfl,I,p'⟩,λx H' y=>?_⟩;obtain⟨e,y⟩:=y;subst e;exact hs i x ys _ (y xs q) p
 .have e:i=xs.length:=by omega
  subst e;exact .inl ⟨⟨xs,q,Nat.le_refl _⟩,hd ys H p⟩
end L2
namespace CW
open PySem L2
def SameD.thaw {d:Addr} {H H':Hp} {kvs:List (Key×V)} (hd:H d=some (.dK kvs)) (g:SameD d H H'):Same H (upd H' d (.dK kvs)):=λb o e=>by
 by_cases z:b=d
 .subst z;rw[hd]at e;cases e;exact aB
 .rw[aF z];exact g b o z e
def SameD.frz {d:Addr} {H:Hp} {o:HO}:SameD d H (upd H d o):=λb u n e=>by rw[aF n];exact e
def SameD.then {d:Addr} {H H1 H2:Hp} (a:SameD d H H1) (b:Same H1 H2):SameD d H H2:=λc o n h=>b c o (a c o n h)
def SameD.free {d:Addr} {H H':Hp} {o:HO} (g:SameD d H H') (hd:H' d=some o) {l:Addr} (h:H' l=none):H l=none:=by
 cases q:H l with
 | none=>rfl
 | some u =>
  have n:l≠d:=λe=>by rw[e,hd]at h;cases h
  rw[g l u n q]at h;cases h
def aDG {ws:Trs}:∀ q∈ws,(q.2.natAbs:Int)<=(ws.map λq=>if q.2<0 then -q.2 else q.2).sum/\0<=(ws.map λq=>if q.2<0 then -q.2 else q.2).sum:=by
 induction ws with
 | nil=>intro q hq;cases hq
 | cons p r z =>
  have h0:0<=(r.map λq:Int×Int=>if q.2<0 then -q.2 else q.2).sum:=by
   cases r with
   | nil=>exact Int.le_refl _
   | cons x r=>exact(z x aEb).2
  have h1:0<=(if p.2<0 then -p.2 else p.2):=by split <;> omega
  intro q hq;rw[aEy,aFB];rcases aFL.mp hq with e | hq
  .subst e;refine⟨?_,by omega⟩;have:(q.2.natAbs:Int)=(if q.2<0 then -q.2 else q.2):=by split <;> omega
   omega
  .have:=z q hq;omega
def yO {z B:Type} {R:z->B->Prop}:∀ {xs:List z} {ys:List B},xs.length=ys.length->(∀ (j:Nat) x y,xs[j]?=some x->ys[j]?=some y->R x y)->Paired R xs ys
 | [],[],_,_=>.nil
 | [],_ :: _,h,_=>by cases h
 | _ :: _,[],h,_=>by cases h
 | x :: xs,y :: ys,h,k=>.cons (k 0 x y rfl rfl) (yO (by simpa using h) λj a b D I=>k (j+1) a b D I)
def at0 {v:V} {xs:List V}:atI (v :: xs) 0=some v:=jV (xs:=v :: xs) (j:=0) rfl
abbrev NT:Addr->Prop:=λ_=>True
def RowA.nt {N:Addr->Prop} {H:Hp} {t:Addr} {r:List Int} (h:RowA N H t r):RowA NT H t r:=h.imp λ_ _ _ _=>trivial
def RowA.sq {K:PySem.W.Frag} {N:Addr->Prop} {H:Hp} {t:Addr} {r:List Int} (h:RowA N H t r):SqL K H t (r.map V.int)\/SqT K H t (r.map V.int):=by
 rcases h with ⟨_,h⟩ | h
 .exact .inl (SqL.of h)
 .exact .inr (SqT.of h)
def RowA.ix {K:PySem.W.Frag} {N:Addr->Prop} {H:Hp} {t:Addr} {r:List Int} {i:Int} {v:V} {Q:VK} (h:RowA N H t r) (e:atI (r.map V.int) i=some v) (q:Q v H):rIx K (.ref t) (.int i) H Q:=by
 rcases h with ⟨_,h⟩ | h
 .exact .inl ⟨t,_,i,v,rfl,rfl,SqL.of h,e,q⟩
 .exact .inr (.inl ⟨t,_,i,v,rfl,rfl,SqT.of h,e,q⟩)
def aBv {K:PySem.W.Frag} {N:Addr->Prop} {Hb H:Hp} {a:Addr} {r:List Int} {j:Nat} {g:TG} {tb:TS} {D:sO} {σ:St} (Pv:Nat->St->Hp->Prop) (ha:RowA N Hb a r) (I:σ[j]?=some (some (.ref a))) (h0:Pv 0 σ H) (M:∀ i σ H',Pv i σ H'->Same Hb H')
 (hs:∀ i z σ H,r[i]?=some z->Pv i σ H->g (.int z) σ H λB H2=>tb { D with nx:=Pv (i+1),ct:=Pv (i+1),bk:=D.nx } B H2) (hd:∀ σ H,Pv r.length σ H->D.nx σ H):aD1 (aDv K (aC2 j)) g tb D σ H:=by
 have J:∀ i x σ H,(r.map V.int)[i]?=some x->Pv i σ H->g x σ H λB H2=>tb { D with nx:=Pv (i+1),ct:=Pv (i+1),bk:=D.nx } B H2:=λi x σ H e p=>by
  obtain⟨z,rfl,U⟩:=jX e;exact hs i z σ H U p
 have L:∀ σ H,Pv (r.map V.int).length σ H->D.nx σ H:=fun σ H p=>by rw[aE9]at p;exact hd σ H p
 rcases ha with ⟨_,ha⟩ | ha
 .exact .inl ⟨_,I,a,rfl,⟨_,SqL.of (M _ _ _ h0 _ _ ha)⟩,eU (K:=K) (a:=a) (xs:=r.map V.int) Pv h0 (λi σ H' _ p=>SqL.of (M i σ H' p _ _ ha)) J L⟩
 .exact .inr ⟨_,I,a,rfl,⟨_,SqT.of (M _ _ _ h0 _ _ ha)⟩,aBW (K:=K) (a:=a) (xs:=r.map V.int) Pv h0 (λi σ H' _ p=>SqT.of (M i σ H' p _ _ ha)) J L⟩
structure Cn3 (mg:Str->Option Value) (t1 t2 t3:Tok):Prop where
 FEW_WALKS:mg "FEW_WALKS"=some (.int 10 t1)
 REST_APART:mg "REST_APART"=some (.int 16 t2)
 MOST_ROADS:mg "MOST_ROADS"=some (.int 8 t3)
structure Wl (mg:Str->Option Value):Prop where
 LETTERS:∃ t,mg "LETTERS"=some (.str j5 t)
 MOST_LETTERS:∃ t,mg "MOST_LETTERS"=some (.int 8 t)
inductive iR (vs:List V) (H:Hp) (Q:VK) (E_:XK):Prop
 | mk (a:Addr) (row:List Int) (h0_:vs=[.ref a]) (h1_:RowA NT H a row) (h2_:Rw row) (h3_:Q .non H):iR vs H Q E_
def aDH {vs:List V} {H:Hp} {Q:VK} {E:XK} (h:uM vs H Q E):iR vs H Q E:=by
 obtain⟨a,row,e,h1,h2,h3,k⟩:=h;exact⟨a,row,e,.inl ⟨trivial,h1⟩,⟨h2,h3⟩,k⟩
inductive mZ (vs:List V) (H:Hp) (Q:VK) (E_:XK):Prop
 | mk (a:Addr) (row:List Int) (h0_:vs=[.ref a]) (h1_:RowA NT H a row) (h2_:Rw row) (h4_:∀ qs:Trs,Lst row qs->qs.Pairwise ple->aDg H Q qs):mZ vs H Q E_
inductive vG (vs:List V) (H:Hp) (Q:VK) (E_:XK):Prop
 | mk (a b:Addr) (row:List Int) (ws:Trs) (h0_:vs=[.ref a,.ref b]) (h1_:RowA NT H a row) (h2_:Rw row) (h4_:LP H b ws) (h5_:ws.length<=200) (h6_:Crl ws) (h7_:kX H Q (wso ws row)):vG vs H Q E_
inductive pT (vs:List V) (H:Hp) (Q:VK) (E_:XK):Prop
 | mk (a:Addr) (row:List Int) (b:Int) (h0_:vs=[.ref a,.int b]) (h1_:H a=some (.tup (row.map V.int))) (h2_:Rw row) (h4_:kX H Q (P9 row b)):pT vs H Q E_
inductive B0 (vs:List V) (H:Hp) (Q:VK) (E_:XK):Prop
 | mk (a b:Addr) (one other:List Int) (gap:Int) (h0_:vs=[.ref a,.ref b,.int gap]) (h1_:H a=some (.lst (one.map V.int))) (h2_:H b=some (.tup (other.map V.int))) (h3_:Rw one) (h4_:(Ent.lay other gap).ok one) (h9_:kX H Q (lU one other gap)):B0 vs H Q E_
section
variable {K:PySem.W.Frag} (G:Hc K)
inductive kB (vs:List V) (H:Hp) (Q:VK) (E_:XK):Prop
 | mk (x dx:Addr) (u1 u2 u3:V) (h0_:vs=[.ref x,u1,u2,u3]) (h1_:H x=some (.ins G.Rd dx [])) (h2_:Q .non (upd H x (.ins G.Rd dx [("entries",u1),("rests",u2),("course",u3)]))):kB vs H Q E_
inductive oF (vs:List V) (H:Hp) (Q:VK) (E_:XK):Prop
 | mk (x dx:Addr) (u1 u2 u3:V) (h0_:vs=[.ref x,u1,u2,u3]) (h1_:H x=some (.ins G.Cs dx [])) (h2_:Q .non (upd H x (.ins G.Cs dx [("rested",u1),("walks",u2),("turned",u3)]))):oF vs H Q E_
def X4 {H:Hp} {x dx:Addr} {z B D:V} {R:Hp->Prop} {E:XK} (I:H x=none) (hd:H dx=none) (J:dx≠x) (k:∀ H',Same H H'->H' x=some (.ins G.Rd dx [("entries",z),("rests",B),("course",D)])->R H') :
 kB G [.ref x,z,B,D] (upd (upd H dx (.own x)) x (.ins G.Rd dx [])) (λv H2=>v=.non/\R H2) E:=by
 refine⟨x,dx,z,B,D,rfl,aB,rfl,k _ (λb o e=>?_) aB⟩;rw[aF (aM e I),aF (aM e I),aF (aM e hd)];exact e
def aAx {H:Hp} {x dx:Addr} {z B D:V} {R:Hp->Prop} {E:XK} (I:H x=none) (hd:H dx=none) (J:dx≠x) (k:∀ H',Same H H'->H' x=some (.ins G.Cs dx [("rested",z),("walks",B),("turned",D)])->R H') :
 oF G [.ref x,z,B,D] (upd (upd H dx (.own x)) x (.ins G.Cs dx [])) (λv H2=>v=.non/\R H2) E:=by
 refine⟨x,dx,z,B,D,rfl,aB,rfl,k _ (λb o e=>?_) aB⟩;rw[aF (aM e I),aF (aM e I),aF (aM e hd)];exact e
inductive X5 (vs:List V) (H:Hp) (Q:VK) (E_:XK):Prop
 | mk (t d:Addr) (r:List Int) (ws:Trs) (h0_:vs=[.ref t,.ref d]) (h1_:RowA NT H t r) (h2_:Rw r) (h3_:H d=some (.dK (kvW ws))) (h4_:WsOk ws) (h5_:kX H Q (wso ws r)):X5 vs H Q E_
inductive jR (vs:List V) (H:Hp) (Q:VK) (E_:XK):Prop
 | mk (a:Addr) (C:Crs) (h0_:vs=[.ref a]) (h1_:CrsAt G NT H a C) (h2_:C.Ok) (h3_:kX H Q C.row):jR vs H Q E_
inductive iT (vs:List V) (H:Hp) (Q:VK) (E_:XK):Prop
 | mk (a:Addr) (row:List Int) (p:Int) (h0_:vs=[.ref a,.int p]) (h1_:H a=some (.lst (row.map V.int))) (h2_:Rw row) (h3_:(Ent.put p).ok row) (h4_:kX H Q (L3 row p)):iT vs H Q E_
inductive fA (vs:List V) (H:Hp) (Q:VK) (E_:XK):Prop
 | mk (a:Addr) (row:List Int) (p:Int) (h0_:vs=[.ref a,.int p]) (h1_:H a=some (.lst (row.map V.int))) (h2_:Rw row) (h3_:p∈row) (h4_:kX H Q (aAq row p)):fA vs H Q E_
def Ent.still:Ent->Prop
 | .walk _ _=>False | .mir=>False | _=>True
inductive iU (vs:List V) (H:Hp) (Q:VK) (E_:XK):Prop
 | mk (a:Addr) (v:V) (row:List Int) (e:Ent) (h0_:vs=[.ref a,v]) (h1_:H a=some (.lst (row.map V.int))) (h2_:Rw row) (h3_:DT H v e.data) (h4_:e.still) (h5_:e.ok row) (h6_:kX H Q (e.app row)):iU vs H Q E_
def COwn (N:Addr->Prop) (Hb H:Hp) (a:Addr) (C:Crs):Prop:=Same Hb H/\Hb a=none/\∃ dx t d,Hb d=none/\H a=some (.ins G.Cs dx (aDt t d C.turned))/\RowA N H t C.rested/\H d=some (.dK (kvW C.walks))
def COwn.at {G:Hc K} {N:Addr->Prop} {Hb H:Hp} {a:Addr} {C:Crs} (h:COwn G N Hb H a C):CrsAt G N H a C:=by
 obtain⟨_,_,dx,t,d,_,h1,h2,h3⟩:=h;exact⟨dx,t,d,h1,h2,h3⟩
inductive nA (vs:List V) (H:Hp) (Q:VK) (E_:XK):Prop
 | mk (N:Addr->Prop) (Hb:Hp) (a:Addr) (c n:Int) (C:Crs) (h0_:vs=[.ref a,.int c,.int n]) (h1_:COwn G N Hb H a C) (h2_:1<=c) (h3_:C.Ok) (h4_:∀ H',COwn G N Hb H' a (C.walk c n)->(∀ t,H' t=none->H t=none)->Q .non H'):nA vs H Q E_
inductive vH (vs:List V) (H:Hp) (Q:VK) (E_:XK):Prop
 | mk (N:Addr->Prop) (Hb:Hp) (a:Addr) (v:V) (e:Ent) (C:Crs) (h0_:vs=[.ref a,v]) (hn_:∀ t,H t=none->N t) (h1_:COwn G N Hb H a C) (h2_:DT Hb v e.data) (h3_:C.Ok) (h4_:e.ok C.row) (h5_:∀ C' H',COwn G N Hb H' a C'->C'.Ok->C'.row=e.app C.row->(e.still->C'.rested=C'.row)->(∀ t,H' t=none->N t)->Q .non H'):vH vs H Q E_
inductive lV (vs:List V) (H:Hp) (Q:VK) (E_:XK):Prop
 | mk (r t:Addr) (n:Nat) (v u:V) (qs:List V) (m:Nat) (e:Ent) (h0_:vs=[.ref r,.int n,v]) (h1_:SqL K H r qs\/SqT K H r qs) (h2_:atI qs (-1)=some (.ref t)) (h3_:H t=some (.tup [.int m,u])) (h4_:DT H v e.data) (h5_:∀ (b:Bool) H',(b=true->m+16<=n/\e.still)->Same H H'->Q (.bl b) H'):lV vs H Q E_
def aDI (N:Addr->Prop) (H:Hp) (Q:VK) (first:List Int) (ents:List Ent):Prop:=∀ z H',Same H H'->RoadAt G N H' z first ents->Q z H'
inductive nB (vs:List V) (H:Hp) (Q:VK) (E_:XK):Prop
 | mk (N:Addr->Prop) (t:Addr) (row:List Int) (h0_:vs=[.ref t]) (h1_:H t=some (.tup (row.map V.int))) (h2_:Rw row) (h3_:aDI G N H Q row []):nB vs H Q E_
inductive fZ (vs:List V) (H:Hp) (Q:VK) (E_:XK):Prop
 | mk (N:Addr->Prop) (v w:V) (first:List Int) (ents:List Ent) (r:List Int) (e:Ent) (h0_:vs=[v,w]) (hn_:∀ t,H t=none->N t) (h1_:RoadAt G N H v first ents) (h2_:DT H w e.data) (h3_:Go first ents r) (h4_:e.ok r) (h5_:ents.length<9000) (h6_:aDI G N H Q first (ents++[e])):fZ vs H Q E_
inductive nC (vs:List V) (H:Hp) (Q:VK) (E_:XK):Prop
 | mk (N:Addr->Prop) (v:V) (k:Nat) (w:Addr) (us:List V) (first:List Int) (ents es:List Ent) (r:List Int) (h0_:vs=[v,.int k,.ref w]) (hn_:∀ t,H t=none->N t) (h1_:RoadAt G N H v first ents) (h2_:H w=some (.tup us)) (h2b_:DTs H us (es.map Ent.data)) (h3_:k<=ents.length) (h3b_:es.take k=ents.take k) (h3c_:k<=es.length) (h4_:Go first es r) (h5_:es.length<=9000) (h6_:aDI G N H Q first es):nC vs H Q E_
end
def S4 {e:Ent} (h:e.still):¬ (V.str e.word=V.str "walk")/\¬ (V.str e.word=V.str "mirror"):=by
 cases e with
 | walk c n=>exact h.elim
 | mir=>exact h.elim
 | put p=>exact(show ¬ (V.str "put"=V.str "walk")/\¬ (V.str "put"=V.str "mirror")by decide +kernel)
 | take p=>exact(show ¬ (V.str "take"=V.str "walk")/\¬ (V.str "take"=V.str "mirror")by decide +kernel)
 | lay o g=>exact(show ¬ (V.str "lay"=V.str "walk")/\¬ (V.str "lay"=V.str "mirror")by decide +kernel)
def L8 {e:Ent} (h:(!inV (.str e.word) [.str "walk",.str "mirror"])=true):e.still:=by
 cases e with
 | walk c n=>exact absurd (show (!inV (.str "walk") [.str "walk",.str "mirror"])=true from h) (by decide +kernel)
 | mir=>exact absurd (show (!inV (.str "mirror") [.str "walk",.str "mirror"])=true from h) (by decide +kernel)
 | put p=>trivial
 | take p=>trivial
 | lay o g=>trivial
def RoadOk.few {first:List Int} {ents:List Ent} {rests:List (Nat×List Int)} {C:Crs} (h:RoadOk first ents rests C):rests.length<=ents.length+1:=by
 have h1:(rests.map (·.1)).Nodup:=by
  rw[List.Nodup,List.pairwise_map];exact h.asc.imp λ{a b} z=>aEw z
 have:=sI (m:=ents.length+1) h1 λx B=>by
  obtain⟨q,D,rfl⟩:=aFN.mp B;have:=(h.all q D).1;omega
 rw[aE9]at this;exact this
def RoadOk.more {first:List Int} {ents fs:List Ent} {rests:List (Nat×List Int)} {C z:Crs} (h:RoadOk first ents rests C) (D:z.Ok) (B:Go first (ents++fs) z.row) (I:(ents++fs).length<=9000):RoadOk first (ents++fs) rests z :=
 ⟨h.rw,h.hd,λq J=>by
  obtain⟨h1,h2⟩:=h.all q J;refine⟨by rw[aEi];omega,?_⟩;rw[List.take_append_of_le_length h1];exact h2,h.asc,D,B,I⟩
def RoadOk.rest {first:List Int} {ents:List Ent} {rests:List (Nat×List Int)} {C:Crs} {n:Nat} (h:RoadOk first ents rests C) (D:n=ents.length) (I:C.rested=C.row) {m:Nat×List Int} (J:rests[rests.length - 1]?=some m) (z:m.1<n):RoadOk first ents (rests++[(n,C.rested)]) C:=by
 refine⟨h.rw,?_,λq hq=>?_,?_,h.cok,h.go,h.lim⟩
 .rw[List.getElem?_append_left (aFK.mp h.hd).1];exact h.hd
 .rcases aFM.mp hq with hq | hq
  .exact h.all q hq
  .rw[aFF.mp hq,D];refine⟨Nat.le_refl _,?_⟩;rw[aEn,I];exact h.go
 .refine List.pairwise_append.mpr ⟨h.asc,List.pairwise_singleton _ _,λa L b M=>?_⟩;rw[aFF.mp M];show a.1<n;obtain⟨i,hi⟩:=List.getElem?_of_mem L;obtain⟨U,e⟩:=aFK.mp J;obtain⟨B,e2⟩:=aFK.mp hi
  by_cases Y:i<rests.length - 1
  .have:=List.pairwise_iff_getElem.mp h.asc i (rests.length - 1) B U Y;rw[e,e2]at this;omega
  .have:i=rests.length - 1:=by omega
   subst this;rw[e]at e2;rw[<- e2];exact z
def cV {B z:Type} {R:B->z->Prop}:∀ {xs:List B} {ys:List z} {j:Nat} {y:z},Paired R xs ys->ys[j]?=some y->∃ x,xs[j]?=some x/\R x y
 | _,_,_,_,.nil,e=>by simp at e
 | _,_,0,_,.cons r _,e=>by simp at e;subst e;exact⟨_,rfl,r⟩
 | _,_,j+1,y,.cons _ t,e=>by
  obtain⟨x,h1,h2⟩:=cV (j:=j) (y:=y) t (by simpa using e);exact⟨x,by simpa using h1,h2⟩
def tK {xs:List V} {v:V} (h:xs[xs.length - 1]?=some v):atI xs (-1)=some v:=by
 have z:=(aFK.mp h).1;unfold atI ixN;rw[if_neg (by decide),if_pos (by omega)];show xs[(-1+(xs.length:Int)).toNat]?=some v;rw[show (-1+(xs.length:Int)).toNat=xs.length - 1 by omega];exact h
def wo (S:List Addr) (H:Hp):Hp:=λb=>if b∈S then none else H b
def iV {S:List Addr} {H:Hp} {x:Addr} (h:x∈S):wo S H x=none:=by unfold wo;rw[if_pos h]
def rB {S:List Addr} {H:Hp} {x:Addr} (h:x∉S):wo S H x=H x:=by unfold wo;rw[if_neg h]
def tL {S:List Addr} {H:Hp}:Same (wo S H) H:=λb o e=>by
 by_cases h:b∈S
 .rw[iV h]at e;cases e
 .rw[rB h]at e;exact e
def X6 {S:List Addr} {Hb H:Hp} (g:Same Hb H) (h:∀ x∈S,Hb x=none):Same Hb (wo S H):=λb o e=>by
 rw[rB (λz=>by rw[h b z]at e;cases e)];exact g b o e
def COwn.weak {K:PySem.W.Frag} {G:Hc K} {N:Addr->Prop} {z Hb H:Hp} {a:Addr} {C:Crs} (g:Same z Hb) (h:COwn G N Hb H a C):COwn G N z H a C:=by
 obtain⟨h1,h2,dx,t,d,h3,h4,h5,h6⟩:=h;exact⟨g.trans h1,g.free h2,dx,t,d,g.free h3,h4,h5,h6⟩
def COwn.same {K:PySem.W.Frag} {G:Hc K} {N:Addr->Prop} {Hb H H':Hp} {a:Addr} {C:Crs} (g:Same H H') (h:COwn G N Hb H a C):COwn G N Hb H' a C:=by
 obtain⟨h1,h2,dx,t,d,h3,h4,h5,h6⟩:=h;exact⟨h1.trans g,h2,dx,t,d,h3,g _ _ h4,h5.same g,g _ _ h6⟩
def CrsAt.imp {K:PySem.W.Frag} {G:Hc K} {N N':Addr->Prop} {H:Hp} {a:Addr} {C:Crs} (k:∀ t xs,N t->H t=some (.lst xs)->N' t) (h:CrsAt G N H a C):CrsAt G N' H a C:=by
 obtain⟨dx,t,d,h1,h2,h3⟩:=h;exact⟨dx,t,d,h1,h2.imp k,h3⟩
def RestAt.imp {N N':Addr->Prop} {H:Hp} (k:∀ t xs,N t->H t=some (.lst xs)->N' t) {v:V} {q:Nat×List Int} (h:RestAt N H v q):RestAt N' H v q:=by
 obtain⟨t,u,z,B,D⟩:=h;exact⟨t,u,z,B,D.imp k⟩
def RestAt.same {N:Addr->Prop} {H H':Hp} (g:Same H H') {v:V} {q:Nat×List Int} (h:RestAt N H v q):RestAt N H' v q:=by
 obtain⟨t,u,z,B,D⟩:=h;exact⟨t,u,z,g _ _ B,D.same g⟩
def RoadOk.step {first:List Int} {es:List Ent} {rests:List (Nat×List Int)} {C B:Crs} {n:Nat} {e:Ent} (h:RoadOk first (es.take n) rests C) (D:es[n]?=some e) (I:B.Ok) (z:Go first (es.take (n+1)) B.row) (J:es.length<=9000):RoadOk first (es.take (n+1)) rests B:=by
 rw[aFE,D]at z ⊢;exact h.more (fs:=[e]) I z (by
  have:n<es.length:=(aFK.mp D).1;show (es.take n++[e]).length<=9000;rw[aEi,aEp,List.length_singleton];omega)
def RoadOk.cut {first:List Int} {ents es:List Ent} {rests:List (Nat×List Int)} {C:Crs} {k:Nat} (h:RoadOk first ents rests C) (h1:k<=ents.length) (h2:es.take k=ents.take k) (h3:k<=es.length) (h4:es.length<=9000) :
 ∃ z,(rests.filter λq=>decide (q.1<=k))[(rests.filter λq=>decide (q.1<=k)).length - 1]?=some z/\z.1<=k/\RoadOk first (es.take z.1) (rests.filter λq=>decide (q.1<=k)) ⟨z.2,[],false⟩:=by
 have am:0<(rests.filter λq=>decide (q.1<=k)).length:=by
  refine List.length_pos_of_mem (a:=(0,first)) (aFO.mpr ⟨aEk h.hd,by simp⟩)
 have hl:(rests.filter λq=>decide (q.1<=k)).length - 1<(rests.filter λq=>decide (q.1<=k)).length:=by omega
 obtain⟨z,B⟩:∃ z,z=(rests.filter λq=>decide (q.1<=k))[(rests.filter λq=>decide (q.1<=k)).length - 1]:=⟨_,rfl⟩;have hm:z∈rests.filter λq=>decide (q.1<=k):=by rw[B];exact List.getElem_mem _
 obtain⟨J,L⟩:=aFO.mp hm;have hk:z.1<=k:=by simpa using L
 obtain⟨a1,a2⟩:=h.all z J;have tk:∀ j,j<=k->es.take j=ents.take j:=λj hj=>by
  have:=congrArg (List.take j) h2;rw[List.take_take,List.take_take,Nat.min_eq_left hj]at this;exact this
 have asc:=h.asc.filter (λq=>decide (q.1<=k));have M:∀ q∈rests.filter (λq=>decide (q.1<=k)),q.1<=z.1:=λq I=>by
  obtain⟨i,hi⟩:=List.getElem?_of_mem I;obtain⟨U,e2⟩:=aFK.mp hi
  by_cases hc:i<(rests.filter λq=>decide (q.1<=k)).length - 1
  .have:=List.pairwise_iff_getElem.mp asc i _ U hl hc;rw[e2,<- B]at this;omega
  .have:i=(rests.filter λq=>decide (q.1<=k)).length - 1:=by omega
   subst this;rw[<- e2,<- B];exact Nat.le_refl _
 have D:Go first (es.take z.1) z.2:=by rw[tk _ hk];exact a2
 refine⟨z,by rw[B];exact aEj hl,hk,h.rw,?_,λq I=>?_,asc,Crs.new_ok (D.rw h.rw),D,by rw[aEp];omega⟩
 .have h0:=h.hd;cases hr:rests with
  | nil=>rw[hr]at h0;cases h0
  | cons x r =>
   rw[hr]at h0;cases h0;rw[List.filter_cons_of_pos (by simp)];rfl
 .obtain⟨m1,m2⟩:=aFO.mp I;have Y:q.1<=k:=by simpa using m2
  have al:=M q I;refine⟨by rw[aEp];omega,?_⟩;rw[List.take_take,Nat.min_eq_left al,tk _ Y];exact(h.all q m1).2
def RowA.out {N:Addr->Prop} {H:Hp} {t a:Addr} {r:List Int} {C dx:Addr} {fs:List (Str×V)} {o:HO} (h:RowA N H t r) (B:H a=some (.ins C dx fs)):RowA N (upd H a o) t r:=by
 rcases h with ⟨h1,h2⟩ | h
 .exact .inl ⟨h1,by rw[aF (bO h2 B (by intro z;cases z))];exact h2⟩
 .exact .inr (by rw[aF (bO h B (by intro z;cases z))];exact h)
def cO (std:Std) (n:Str):Option (List Int×List Ent):=(std.find? λs=>decide (s.1=n)).map (·.2)
def dQ (n:Str) (r:List Int×List Ent):Std->Std
 | []=>[(n,r)]
 | s :: t=>if s.1=n then (n,r) :: t.map (λs=>if s.1=n then (n,r)else s)else s :: dQ n r t
def X7 (std:Std) (n:Str):Std:=std.filter λs=>decide (s.1≠n)
def jS {s:Str×List Int×List Ent} {t:Std} {n:Str} (e:s.1=n):cO (s :: t) n=some s.2:=by simp[cO,List.find?_cons,e]
def gW {s:Str×List Int×List Ent} {t:Std} {n:Str} (e:¬ s.1=n):cO (s :: t) n=cO t n:=by simp[cO,List.find?_cons,e]
def aAy {std:Std} {n:Str} {r:List Int×List Ent} (h:cO std n=none):dQ n r std=std++[(n,r)]:=by
 induction std with
 | nil=>rfl
 | cons s t z =>
  have c:¬ s.1=n:=λe=>by rw[jS e]at h;cases h
  rw[gW c]at h;unfold dQ;rw[if_neg c,z h];rfl
def vI {std:Std} {n:Str} {r z:List Int×List Ent} (h:cO std n=some z):(dQ n r std).length=std.length:=by
 induction std with
 | nil=>cases h
 | cons s t B =>
  unfold dQ
  by_cases c:s.1=n
  .rw[if_pos c];simp
  .rw[gW c]at h;rw[if_neg c,aFC,aFC,B h]
def yP {n k:Str} {r:List Int×List Ent}:∀ {std:Std},k∈(dQ n r std).map (·.1)->k=n\/k∈std.map (·.1)
 | [],h=>by unfold dQ at h;exact .inl (by simpa using h)
 | s :: t,h=>by
  unfold dQ at h
  by_cases c:s.1=n
  .rw[if_pos c,aEy]at h;rcases aFL.mp h with e | h
   .exact .inl e
   .obtain⟨x,B,e⟩:=aFN.mp h;obtain⟨y,D,rfl⟩:=aFN.mp B
    by_cases z:y.1=n
    .rw[if_pos z]at e;exact .inl e.symm
    .rw[if_neg z]at e;exact .inr (aEc _ (aFN.mpr ⟨y,D,e⟩))
  .rw[if_neg c,aEy]at h;rcases aFL.mp h with e | h
   .rw[e];exact .inr aEb
   .rcases yP h with h | h
    .exact .inl h
    .exact .inr (aEc _ h)
def vJ {n:Str} {r:List Int×List Ent}:∀ {std:Std},(std.map (·.1)).Nodup->((dQ n r std).map (·.1)).Nodup
 | [],_=>by simp[dQ]
 | s :: t,h=>by
  rw[aEy,List.nodup_cons]at h;unfold dQ
  by_cases c:s.1=n
  .rw[if_pos c,aEy,List.nodup_cons];have e:(t.map λs=>if s.1=n then (n,r)else s)=t:=by
    conv=>rhs;rw[<- List.map_id t]
    refine List.map_congr_left λx B=>?_;rw[if_neg (λz=>h.1 (aFN.mpr ⟨x,B,z.trans c.symm⟩))];rfl
   rw[e,<- c];exact h
  .rw[if_neg c,aEy,List.nodup_cons];refine⟨λz=>?_,vJ h.2⟩;rcases yP z with e | e
   .exact c e
   .exact h.1 e
section
variable {K:PySem.W.Frag} {G:Hc K}
abbrev SAt (G:Hc K) (N:Addr->Prop) (H:Hp):Key×V->Str×List Int×List Ent->Prop:=λz s=>z.1=.inr s.1/\RoadAt G N H z.2 s.2.1 s.2.2
def X8 {N:Addr->Prop} {H:Hp} {n:Str} {first:List Int} {ents:List Ent}:∀ {kvs:List (Key×V)} {std:Std},Paired (SAt G N H) kvs std->cO std n=some (first,ents)->∃ v,dE kvs (Sum.inr n)=some v/\RoadAt G N H v first ents
 | _,_,.nil,h=>by cases h
 | kv :: kvs,s :: std,.cons r t,h=>by
  by_cases c:s.1=n
  .rw[jS c]at h
   injection h with h
   refine⟨kv.2,cU (by rw[r.1,c]),?_⟩;have:=r.2;rw[h]at this;exact this
  .rw[gW c]at h;obtain⟨v,h1,h2⟩:=X8 t h;exact⟨v,by rw[cN (λz=>c (Sum.inr.inj (r.1.symm.trans z)))];exact h1,h2⟩
def yQ {N:Addr->Prop} {H:Hp} {n:Str}:∀ {kvs:List (Key×V)} {std:Std},Paired (SAt G N H) kvs std->cO std n=none->dE kvs (Sum.inr n)=none
 | _,_,.nil,h=>rfl
 | kv :: kvs,s :: std,.cons r t,h=>by
  by_cases c:s.1=n
  .rw[jS c]at h;cases h
  .rw[gW c]at h;rw[cN (λz=>c (Sum.inr.inj (r.1.symm.trans z)))];exact yQ t h
def aAz {N:Addr->Prop} {H:Hp} {n:Str} {v:V} {r:List Int×List Ent} (B:RoadAt G N H v r.1 r.2):∀ {kvs:List (Key×V)} {std:Std},Paired (SAt G N H) kvs std->Paired (SAt G N H) (kvs.map λkv=>if kv.1=Sum.inr n then (kv.1,v)else kv) (std.map λs=>if s.1=n then (n,r)else s)
 | _,_,.nil=>.nil
 | kv :: kvs,s :: std,.cons q t=>by
  rw[aEy,aEy];refine .cons ?_ (aAz B t)
  by_cases c:s.1=n
  .rw[if_pos (by rw[q.1,c]),if_pos c];exact⟨by rw[q.1,c],B⟩
  .rw[if_neg (λz=>c (Sum.inr.inj (q.1.symm.trans z))),if_neg c];exact q
def aBA {N:Addr->Prop} {H:Hp} {n:Str} {v:V} {r:List Int×List Ent} (B:RoadAt G N H v r.1 r.2):∀ {kvs:List (Key×V)} {std:Std},Paired (SAt G N H) kvs std->Paired (SAt G N H) (dX kvs (Sum.inr n) v) (dQ n r std)
 | _,_,.nil=>.cons ⟨rfl,B⟩ .nil
 | kv :: kvs,s :: std,.cons q t=>by
  unfold dQ
  by_cases c:s.1=n
  .rw[if_pos c];have e:kv.1=Sum.inr n:=by rw[q.1,c]
   unfold dX;rw[if_pos (by rw[List.any_cons,aEv e,Bool.true_or]),aEy,if_pos e];exact .cons ⟨e,B⟩ (aAz B t)
  .rw[if_neg c,yL (λz=>c (Sum.inr.inj (q.1.symm.trans z)))];exact .cons q (aBA B t)
def tM (n:Str):Ent->PyData
 | .walk c k=>.tuple [.str "walk",.str n,.int c,.int k]
 | .put p=>.tuple [.str "put",.str n,.int p]
 | .take p=>.tuple [.str "take",.str n,.int p]
 | .mir=>.tuple [.str "mirror",.str n]
 | .lay _ _=>.none
def Ent.plain:Ent->Prop
 | .lay _ _=>False | _=>True
inductive DoD:Str->Std->PyData->Std->Prop
 | build {std:Std} {n:Str} {row:List Int} (hn:yC n j5 8=true) (ht:Txs n) (h0:cO std n=none) (hr:Rw row) (h8:std.length<8):DoD "build" std (.tuple [.str "build",.str n,.tuple (row.map PyData.int)]) (std++[(n,row,[])])
 | shut {std:Std} {n:Str} {r:List Int×List Ent} (h0:cO std n=some r):DoD "shut" std (.tuple [.str "shut",.str n]) (X7 std n)
 | ent {std:Std} {n:Str} {first r:List Int} {ents:List Ent} {e:Ent} (h0:cO std n=some (first,ents)) (hg:Go first ents r) (hp:e.plain) (ho:e.ok r) (hl:ents.length<9000):DoD e.word std (tM n e) (dQ n (first,ents++[e]) std)
 | lay {std:Std} {n m:Str} {g:Int} {first r first2 r2:List Int} {ents ents2:List Ent} (h0:cO std n=some (first,ents)) (hg:Go first ents r) (h1:cO std m=some (first2,ents2)) (hg1:Go first2 ents2 r2) (ho:(Ent.lay r2 g).ok r) (hl:ents.length<9000) :
  DoD "lay" std (.tuple [.str "lay",.str n,.str m,.int g]) (dQ n (first,ents++[.lay r2 g]) std)
 | late {std:Std} {n:Str} {k:Nat} {c m:Int} {first r:List Int} {ents es:List Ent} (h0:cO std n=some (first,ents)) (hk:k<=ents.length) (hc:1<=c) (he:es=ents.take k++.walk c m :: ents.drop k) (hg:Go first es r) (hl:es.length<=9000) :
  DoD "late" std (.tuple [.str "late",.str n,.int k,.int c,.int m]) (dQ n (first,es) std)
 | strike {std:Std} {n:Str} {k:Nat} {c m:Int} {first r:List Int} {ents es:List Ent} (h0:cO std n=some (first,ents)) (hk:ents[k]?=some (.walk c m)) (he:es=ents.take k++ents.drop (k+1)) (hg:Go first es r) (hl:ents.length<=9000) :
  DoD "strike" std (.tuple [.str "strike",.str n,.int k]) (dQ n (first,es) std)
def iW {x y:Str} (h:x=y) (d:decide (x=y)=false):False:=by rw[aEv h]at d;cases d
def pU {e:Ent} {x:Str} (h:e.word=x) (h1:decide (x="walk")=false) (h2:decide (x="put")=false) (h3:decide (x="take")=false) (h4:decide (x="mirror")=false) (z:e.plain):False:=by
 subst h;cases e with
 | walk c n=>exact iW rfl h1
 | put p=>exact iW rfl h2
 | take p=>exact iW rfl h3
 | mir=>exact iW rfl h4
 | lay o g=>exact z
def aBB {w:Str} {std z:Std} {D:PyData} (hw:w∈(["build"]:List Str)) (h:DoD w std D z):∃ n row,yC n j5 8=true/\Txs n/\cO std n=none/\Rw row/\std.length<8/\D=.tuple [.str "build",.str n,.tuple (row.map PyData.int)]/\z=std++[(n,row,[])]:=by
 have hw:=aFF.mp hw;generalize B:w=x at h;cases h with
 | build I ht h0 J h8=>exact⟨_,_,I,ht,h0,J,h8,rfl,rfl⟩
 | ent h0 M L U Y=>exact(pU (B.symm.trans hw) (by decide +kernel) (by decide +kernel) (by decide +kernel) (by decide +kernel) L).elim
 | _=>exact(iW (B.symm.trans hw) (by decide +kernel)).elim
def aBw {w:Str} {std z:Std} {D:PyData} (hw:w∈(["late"]:List Str)) (h:DoD w std D z):∃ n k c m first r ents es,cO std n=some (first,ents)/\k<=ents.length/\1<=c/\es=ents.take k++.walk c m :: ents.drop k/\Go first es r/\es.length<=9000 /\
 D=.tuple [.str "late",.str n,.int (k:Nat),.int c,.int m]/\z=dQ n (first,es) std:=by
 have hw:=aFF.mp hw;generalize B:w=x at h;cases h with
 | late h0 L M he I J=>exact⟨_,_,_,_,_,_,_,_,h0,L,M,he,I,J,rfl,rfl⟩
 | ent h0 I U Y J=>exact(pU (B.symm.trans hw) (by decide +kernel) (by decide +kernel) (by decide +kernel) (by decide +kernel) U).elim
 | _=>exact(iW (B.symm.trans hw) (by decide +kernel)).elim
def aDJ {w:Str} {std z:Std} {D:PyData} (hw:w∈(["walk","put","take","mirror"]:List Str)) (h:DoD w std D z):∃ n first r ents e,cO std n=some (first,ents)/\Go first ents r/\e.plain/\e.ok r/\ents.length<9000 /\
 D=tM n e/\z=dQ n (first,ents++[e]) std:=by
 have B:(decide (w="walk") || decide (w="put") || decide (w="take") || decide (w="mirror"))=true:=by
  simpa[or_assoc]using hw
 cases h with
 | ent h0 I J L M=>exact⟨_,_,_,_,_,h0,I,J,L,M,rfl,rfl⟩
 | _=>exact absurd B (by decide +kernel)
def aBC {H:Hp} {v:V} {n:Str} {row:List Int} (h:DT H v (.tuple [.str "build",.str n,.tuple (row.map PyData.int)])):∃ a t,v=.ref a/\H a=some (.tup [.str "build",.str n,.ref t])/\H t=some (.tup (row.map V.int)):=by
 cases h with
 | tup h t=>cases t with | cons a t=>cases t with | cons b t=>cases t with | cons c t =>
  cases t;cases a;cases b;cases c with | tup z tb=>rw[DTs.ints_inv tb]at z;exact⟨_,_,rfl,h,z⟩
def aBx {H:Hp} {v:V} {n:Str} {i j k:Int} (h:DT H v (.tuple [.str "late",.str n,.int i,.int j,.int k])):∃ a,v=.ref a/\H a=some (.tup [.str "late",.str n,.int i,.int j,.int k]):=by
 cases h with
 | tup h t=>cases t with | cons a t=>cases t with | cons b t=>cases t with | cons c t=>cases t with | cons d t=>cases t with | cons e t =>
  cases t;cases a;cases b;cases c;cases d;cases e;exact⟨_,rfl,h⟩
def vK {H:Hp} {v:V} {n:Str} {e:Ent} (z:e.plain) (h:DT H v (tM n e)):∃ a xs ds,v=.ref a/\H a=some (.tup (.str e.word :: .str n :: xs))/\DTs H xs ds/\e.data=.tuple (.str e.word :: ds)/\xs.length<=2:=by
 cases e with
 | lay o g=>exact z.elim
 | walk c k=>cases h with
  | tup h t=>cases t with | cons a t=>cases t with | cons b t=>have l:=t.length;cases a;cases b;exact⟨_,_,_,rfl,h,t,rfl,Nat.le_of_eq l⟩
 | put p=>cases h with
  | tup h t=>cases t with | cons a t=>cases t with | cons b t=>have l:=t.length;cases a;cases b;exact⟨_,_,_,rfl,h,t,rfl,Nat.le_succ_of_le (Nat.le_of_eq l)⟩
 | take p=>cases h with
  | tup h t=>cases t with | cons a t=>cases t with | cons b t=>have l:=t.length;cases a;cases b;exact⟨_,_,_,rfl,h,t,rfl,Nat.le_succ_of_le (Nat.le_of_eq l)⟩
 | mir=>cases h with
  | tup h t=>cases t with | cons a t=>cases t with | cons b t=>have l:=t.length;cases a;cases b;exact⟨_,_,_,rfl,h,t,rfl,by rw[l];exact Nat.zero_le _⟩
def aBy {H:Hp} {v:V} {w:Str} {std z:Std} {D:PyData} (B:DoD w std D z) (h:DT H v D):∃ a xs,v=.ref a/\H a=some (.tup (.str w :: xs)):=by
 have go:∀ ds,D=.tuple (.str w :: ds)->∃ a xs,v=.ref a/\H a=some (.tup (.str w :: xs)):=λds e=>by
  subst e;cases h with
  | tup h t=>cases t with | cons a t=>cases a;exact⟨_,_,rfl,h⟩
 cases B with
 | ent h0 J I L M =>
  rename_i e
  obtain⟨a,xs,ds,e1,e2,_⟩:=vK I h;exact⟨a,_,e1,e2⟩
 | _=>exact go _ rfl
variable (G)
inductive gN (vs:List V) (H:Hp) (Q:VK) (E_:XK):Prop
 | mk (N:Addr->Prop) (d:Addr) (n:Str) (std:Std) (first:List Int) (ents:List Ent) (h0_:vs=[.ref d,.str n]) (h1_:DictAt G N H d std) (h2_:cO std n=some (first,ents)) (h3_:∀ v,RoadAt G N H v first ents->Q v H):gN vs H Q E_
inductive eM (vs:List V) (H:Hp) (Q:VK) (E_:XK):Prop
 | mk (N:Addr->Prop) (d:Addr) (n:Str) (v:V) (std:Std) (first:List Int) (ents:List Ent) (h0_:vs=[.ref d,.str n,v]) (h1_:DictAt G N H d std) (h2_:RoadAt G N H v first ents) (h3_:(dQ n (first,ents) std).length<=8) (h4_:∀ d' H',Same H H'->DictAt G N H' d' (dQ n (first,ents) std)->Q (.ref d') H'):eM vs H Q E_
inductive cP (ks:List Str) (vs:List V) (H:Hp) (Q:VK) (E_:XK):Prop
 | mk (N:Addr->Prop) (d:Addr) (v:V) (w:Str) (std std':Std) (D:PyData) (h0_:vs=[.ref d,v]) (hw_:w∈ks) (hn_:∀ t,H t=none->N t) (h1_:DictAt G N H d std) (h2_:DT H v D) (h3_:DoD w std D std') (h4_:∀ d' H',Same H H'->DictAt G N H' d' std'->Q (.ref d') H'):cP ks vs H Q E_
def HOwn (N:Addr->Prop) (Hb H:Hp) (a:Addr) (m:HM):Prop:=Same Hb H/\Hb a=none/\(∃ p q,Hb p=none/\Hb q=none/\HouseAt G N H a p q m)/\∀ t,H t=none->N t
inductive lW (vs:List V) (H:Hp) (Q:VK) (E_:XK):Prop
 | mk (x dx:Addr) (h0_:vs=[.ref x]) (h1_:H x=some (.ins G.Hs dx [])) (h2_:∀ d p q,H d=none->H p=none->H q=none->d≠p->d≠q->p≠q->Q .non (upd (upd (upd (upd H d (.dK [])) p (.lst [])) q (.lst [])) x (.ins G.Hs dx (fL d p q)))):lW vs H Q E_
inductive B1 (ks:List Str) (vs:List V) (H:Hp) (Q:VK) (E_:XK):Prop
 | mk (N:Addr->Prop) (Hb:Hp) (a:Addr) (v:V) (w:Str) (m:HM) (std':Std) (D:PyData) (h0_:vs=[.ref a,v]) (hw_:w∈ks) (h1_:HOwn G N Hb H a m) (h2_:DT H v D) (h3_:DoD w m.std D std') (hp_:m.past.length<9000) (h4_:∀ H',HOwn G N Hb H' a ⟨std',m.past++[(D,m.std)],[]⟩->Q .non H'):B1 ks vs H Q E_
inductive cG (w:Str) (n:Nat) (vs:List V) (H:Hp) (Q:VK) (E_:XK):Prop
 | mk (N:Addr->Prop) (Hb:Hp) (a:Addr) (xs:List V) (ds:List PyData) (m:HM) (std':Std) (h0_:vs=.ref a :: xs) (hx_:xs.length=n) (h1_:HOwn G N Hb H a m) (h2_:DTs H xs ds) (h3_:DoD w m.std (.tuple (.str w :: ds)) std') (hp_:m.past.length<9000) (h4_:∀ H',HOwn G N Hb H' a ⟨std',m.past++[(.tuple (.str w :: ds),m.std)],[]⟩->Q .non H'):cG w n vs H Q E_
inductive tN (vs:List V) (H:Hp) (Q:VK) (E_:XK):Prop
 | mk (N:Addr->Prop) (Hb:Hp) (a l:Addr) (n:Str) (row:List Int) (m:HM) (h0_:vs=[.ref a,.str n,.ref l]) (h1_:HOwn G N Hb H a m) (h2_:H l=some (.lst (row.map V.int))) (hn_:yC n j5 8=true) (ht_:Txs n) (h5_:cO m.std n=none) (hr_:Rw row) (h8_:m.std.length<8) (hp_:m.past.length<9000)
  (h4_:∀ H',HOwn G N Hb H' a ⟨m.std++[(n,row,[])],m.past++[(.tuple [.str "build",.str n,.tuple (row.map PyData.int)],m.std)],[]⟩->Q .non H'):tN vs H Q E_
inductive oG (vs:List V) (H:Hp) (Q:VK) (E_:XK):Prop
 | mk (N:Addr->Prop) (Hb:Hp) (a:Addr) (n:Str) (m:HM) (first r:List Int) (ents:List Ent) (h0_:vs=[.ref a,.str n]) (h1_:HOwn G N Hb H a m) (h2_:cO m.std n=some (first,ents)) (h3_:Go first ents r) (h4_:kX H Q r):oG vs H Q E_
inductive rC (vs:List V) (H:Hp) (Q:VK) (E_:XK):Prop
 | mk (N:Addr->Prop) (Hb:Hp) (a:Addr) (n:Str) (m:HM) (first:List Int) (ents:List Ent) (h0_:vs=[.ref a,.str n]) (h1_:HOwn G N Hb H a m) (h2_:cO m.std n=some (first,ents)) (h4_:∀ l us H',H l=none->Same H H'->H' l=some (.lst us)->DTs H' us (ents.map Ent.data)->Q (.ref l) H'):rC vs H Q E_
variable {G}
def bM {H:Hp} {a t:Addr} {o:HO} (h:upd H a o t=none):H t=none:=by
 by_cases z:t=a
 .rw[z,aB]at h;cases h
 .rw[aF z]at h;exact h
def pV {H:Hp} {x y:Addr} {o u:HO} (h:x≠y):upd (upd H x o) y u=upd (upd H y u) x o:=by
 funext b
 unfold upd
 by_cases e1:b=y
 .rw[if_pos e1]
  by_cases e2:b=x
  .exact absurd (e2.symm.trans e1) h
  .rw[if_neg e2,if_pos e1]
 .rw[if_neg e1]
  by_cases e2:b=x
  .rw[if_pos e2,if_pos e2]
  .rw[if_neg e2,if_neg e2,if_neg e1]
def k4 {H:Hp} {x d p q:Addr} {z B D J L I:HO} (h1:x≠d) (h2:x≠p) (h3:x≠q):upd (upd (upd (upd (upd (upd H d z) x J) p B) x L) q D) x I=upd (upd (upd (upd H d z) p B) q D) x I:=by
 rw[pV h3,iH,<- pV h3,pV h2,iH,pV h3]
def aE5 {xs:List V} (h:xs.length=1):∃ a,xs=[a]:=by
 match xs,h with
 | [a],_=>exact⟨a,rfl⟩
def aDw {xs:List V} (h:xs.length=2):∃ a b,xs=[a,b]:=by
 match xs,h with
 | [a,b],_=>exact⟨a,b,rfl⟩
def aDx {xs:List V} (h:xs.length=3):∃ a b c,xs=[a,b,c]:=by
 match xs,h with
 | [a,b,c],_=>exact⟨a,b,c,rfl⟩
def aE6 {xs:List V} (h:xs.length=4):∃ a b c d,xs=[a,b,c,d]:=by
 match xs,h with
 | [a,b,c,d],_=>exact⟨a,b,c,d,rfl⟩
def Kp.refl {N:Addr->Prop} {H:Hp}:Kp G N H H:=.same (Same.refl _)
def Kp.updI {N:Addr->Prop} {H H':Hp} {a dx:Addr} {fs:List (Str×V)} {o:HO} (k:Kp G N H H') (B:H a=some (.ins G.Hs dx fs)):Kp G N H (upd H' a o) :=
 ⟨λt xs e=>by rw[aF (bO e B (by intro z;cases z))];exact k.tup _ _ e,λt xs e=>by rw[aF (bO e B (by intro z;cases z))];exact k.dk _ _ e,
  λt C dx fs D e=>by rw[aF (bO e B (by intro z;injection z with z;exact D z))];exact k.ins _ _ _ _ D e,λt xs n e=>by rw[aF (bO e B (by intro z;cases z))];exact k.lst _ _ n e⟩
def Kp.updL {N:Addr->Prop} {H H':Hp} {a:Addr} {xs:List V} {o:HO} (k:Kp G N H H') (B:H a=some (.lst xs)) (D:¬ N a):Kp G N H (upd H' a o) :=
 ⟨λt xs e=>by rw[aF (bO e B (by intro z;cases z))];exact k.tup _ _ e,λt xs e=>by rw[aF (bO e B (by intro z;cases z))];exact k.dk _ _ e,
  λt C dx fs I e=>by rw[aF (bO e B (by intro z;cases z))];exact k.ins _ _ _ _ I e,λt xs n e=>by rw[aF (show t≠a from λz=>D (by rw[<- z];exact n))];exact k.lst _ _ n e⟩
def Kp.updN {N:Addr->Prop} {H H':Hp} {a:Addr} {o:HO} (k:Kp G N H H') (z:H a=none):Kp G N H (upd H' a o) :=
 ⟨λt xs e=>by rw[aF (aM e z)];exact k.tup _ _ e,λt xs e=>by rw[aF (aM e z)];exact k.dk _ _ e,
  λt C dx fs B e=>by rw[aF (aM e z)];exact k.ins _ _ _ _ B e,λt xs n e=>by rw[aF (aM e z)];exact k.lst _ _ n e⟩
def HOwn.same {N:Addr->Prop} {Hb H H':Hp} {a:Addr} {m:HM} (g:Same H H') (h:HOwn G N Hb H a m):HOwn G N Hb H' a m:=by
 obtain⟨h1,h2,⟨p,q,h3,h4,h5⟩,h6⟩:=h;exact⟨h1.trans g,h2,⟨p,q,h3,h4,h5.same g⟩,λt ht=>h6 t (g.free ht)⟩
def HOwn.sm {N:Addr->Prop} {Hb H:Hp} {a:Addr} {m:HM} (h:HOwn G N Hb H a m):Same Hb H:=h.1
def HOwn.ins {N:Addr->Prop} {Hb H:Hp} {a:Addr} {m:HM} (h:HOwn G N Hb H a m):∃ dx d p q,H a=some (.ins G.Hs dx (fL d p q)):=by
 obtain⟨h1,h2,⟨p,q,h3,h4,⟨dx,d,us,ws,_,z,_⟩⟩,h6⟩:=h;exact⟨dx,d,p,q,z⟩
def HOwn.rebase {N:Addr->Prop} {Hb H H':Hp} {a:Addr} {m:HM} (h:HOwn G N Hb H a m) (g:Same H H'):∃ z,HOwn G N z H' a m/\Same Hb z/\(∀ b o,H b=none->H' b=some o->z b=some o)/\TupS H' z:=by
 obtain⟨h1,h2,⟨p,q,h3,h4,h5⟩,h6⟩:=h;obtain⟨dx,d,us,ws,J,B,L,D,M,I,U⟩:=id h5;refine⟨wo [a,p,q] H',⟨tL,iV (by simp),⟨p,q,iV (by simp),iV (by simp),h5.same g⟩,λt ht=>h6 t (g.free ht)⟩,X6 (h1.trans g) λx hx=>?_,λb o e1 e2=>?_,λt xs e=>?_⟩
 .rcases aFL.mp hx with e | hx
  .rw[e];exact h2
  .rcases aFL.mp hx with e | hx
   .rw[e];exact h3
   .rw[aFF.mp hx];exact h4
 .rw[rB]
  .exact e2
  .intro hx;rcases aFL.mp hx with e | hx
   .rw[e,B]at e1;cases e1
   .rcases aFL.mp hx with e | hx
    .rw[e,D]at e1;cases e1
    .rw[aFF.mp hx,I]at e1;cases e1
 .rw[rB]
  .exact e
  .intro hx;rcases aFL.mp hx with h | hx
   .rw[h,g _ _ B]at e;cases e
   .rcases aFL.mp hx with h | hx
    .rw[h,g _ _ D]at e;cases e
    .rw[aFF.mp hx,g _ _ I]at e;cases e
def aDy {H:Hp} {x dx:Addr} {R:Hp->Prop} {E:XK} (z:H x=none) (hd:H dx=none) (J:dx≠x) (k:∀ H',HOwn G NT H H' x ⟨[],[],[]⟩->R H') :
 lW G [.ref x] (upd (upd H dx (.own x)) x (.ins G.Hs dx [])) (λv H2=>v=.non/\R H2) E:=by
 refine⟨x,dx,rfl,aB,λd p q h1 h2 h3 L M B=>⟨rfl,k _ ?_⟩⟩;have nx:∀ {y:Addr},(upd (upd H dx (.own x)) x (.ins G.Hs dx [])) y=none->y≠x:=λ{y} h e=>by rw[e,aB]at h;cases h
 have e1:=nx h1;have e2:=nx h2;have U:=nx h3;have f2:=bM (bM h2);have D:=bM (bM h3);have f1:=bM (bM h1);refine⟨?_,z,⟨p,q,f2,D,⟨dx,d,[],[],B,aB,⟨⟨Nat.zero_le _,List.nodup_nil⟩,[],?_,.nil⟩,?_,.nil,?_,.nil⟩⟩,λ_ _=>trivial⟩
 .intro b o e;have I:b≠x:=aM e z;rw[aF I,aF (aM e D),aF (aM e f2),aF (aM e f1),aF I,aF (aM e hd)];exact e
 .rw[aF e1,aF M,aF L,aB]
 .rw[aF e2,aF B,aB]
 .rw[aF U,aB]
def aCW {N:Addr->Prop} {Hb H:Hp} {x:Addr} {m:HM} {n:Str} {first r:List Int} {ents:List Ent} {e:Ent} {w:Str} {k:Nat} {xs:List V} {ds:List PyData} {Q:VK} {E:XK} (h:HOwn G N Hb H x m) (B:xs.length=k) (z:DTs H xs ds) (hw:e.word=w) (hd:tM n e=.tuple (.str w :: ds)) (h0:cO m.std n=some (first,ents)) (D:Go first ents r) (hpl:e.plain) (I:e.ok r) (J:ents.length<9000) (L:m.past.length<9000)
 (M:∀ H',HOwn G N Hb H' x ⟨dQ n (first,ents++[e]) m.std,m.past++[(.tuple (.str w :: ds),m.std)],[]⟩->Q .non H'):cG G w k (.ref x :: xs) H Q E:=by
 subst hw;refine⟨N,Hb,x,xs,ds,m,_,rfl,B,h,z,?_,L,M⟩;rw[<- hd];exact .ent h0 D hpl I J
def S5 {N:Addr->Prop} {Hb H:Hp} {x:Addr} {m:HM} {n:Str} {first r:List Int} {ents es:List Ent} {k:Nat} {c z:Int} {Q:VK} {E:XK} (h:HOwn G N Hb H x m) (h0:cO m.std n=some (first,ents)) (B:k<=ents.length) (D:1<=c) (he:es=ents.take k++.walk c z :: ents.drop k) (I:Go first es r) (J:es.length<=9000) (L:m.past.length<9000)
 (M:∀ H',HOwn G N Hb H' x ⟨dQ n (first,es) m.std,m.past++[(.tuple [.str "late",.str n,.int k,.int c,.int z],m.std)],[]⟩->Q .non H'):cG G "late" 4 [.ref x,.str n,.int k,.int c,.int z] H Q E :=
 ⟨N,Hb,x,_,_,m,_,rfl,rfl,h,.cons (.str _) (.cons (.int _) (.cons (.int _) (.cons (.int _) .nil))),.late h0 B D he I J,L,M⟩
variable (G)
variable {G}
end
end CW
namespace L2
open PySem PySem.W PySem.Spec PyProof.Rows
section
variable {P:Program} {w:World} {K:PySem.W.Frag} {mg:Str->Option Value} {base h:Heap} {x:Str} {st:Stmt} {f c:Addr} {fd:FuncData}
structure DefIn (K:PySem.W.Frag) (x:Str) (st:Stmt) (f:Addr) (fd:FuncData):Prop where
 a:PySem.W.nsIn K mainGlobals x=some (some (.ref f))
 F:Fun K x x st f fd
def defIn {L:Value} {od I:Option Addr} {D:Array (Option Value)} {kV B J z ct:Value} (a:PySem.W.nsIn K mainGlobals x=some (some (.ref f))) (l:K.lookup f=some ⟨L,od,.func (PySem.W.fnOf x x (dI st) (dC st) (aI st) .none kV B J I z ct),D⟩)
 (c:PySem.W.codeIn K z x=true) (k:PySem.W.keepIn K (.ref f)=true):DefIn K x st f (PySem.W.fnOf x x (dI st) (dC st) (aI st) .none kV B J I z ct):=⟨a,P0 l c k⟩
structure DAt (P:Program) (w:World) (base:Heap) (K:PySem.W.Frag) (mg:Str->Option Value) (x:Str) (ps:List Str) (f:Addr) (fd:FuncData):Prop where
 m:mg x=some (.ref f)
 k:PySem.W.keepIn K (.ref f)=true
 b:Binds K fd ps []
def DAt.fn {ps:List Str} {k:Nat} {sp:Sp} (D:DAt P w base K mg x ps f fd) (o:FnOk P w K mg base CX0 k f fd ps sp):aU P w K mg base x k ps sp:=⟨f,fd,o,D.m,D.k,D.b⟩
end
end L2
namespace CW
open PySem L2
@[elab_as_elim] def B2 {P:Hp->Prop} {H:Hp} {a:Addr} {o:HO} (z:H a=none) (h:∀ G,Same H G->G a=some o->P G):P (upd H a o):=h _ (Same.upd z) aB
end CW
namespace L2
open PySem PySem.W PySem.Spec PyProof.Rows
section
variable {P:Program} {w:World} {K:PySem.W.Frag} {mg:Str->Option Value} {base h:Heap} {x q m:Str} {st:Stmt} {f c C:Addr} {fd:FuncData}
structure MethIn (K:PySem.W.Frag) (C:Addr) (m q:Str) (st:Stmt) (f:Addr) (fd:FuncData):Prop where
 me:u6 K C m f
 F:Fun K m q st f fd
def methIn {L:Value} {od I:Option Addr} {D:Array (Option Value)} {kV B J z ct:Value} (a:PySem.W.findIn K (.ref C) m=some (some (.ref f))) (l:K.lookup f=some ⟨L,od,.func (PySem.W.fnOf m q (dI st) (dC st) (aI st) .none kV B J I z ct),D⟩)
 (c:PySem.W.codeIn K z q=true) (k:PySem.W.keepIn K (.ref f)=true) (i:PySem.W.isFn K (.ref f)=true):MethIn K C m q st f (PySem.W.fnOf m q (dI st) (dC st) (aI st) .none kV B J I z ct):=⟨⟨a,i,k⟩,P0 l c k⟩
def MethIn.at {ps:List Str} {k:Nat} {sp:Sp} (D:MethIn K C m q st f fd) (b:Binds K fd ps []) (o:FnOk P w K mg base CX0 k f fd ps sp):bN P w K mg base C m k ps sp:=⟨f,fd,o,D.me,b⟩
structure InitIn (K:PySem.W.Frag) (C:Addr) (q:Str) (st:Stmt) (f:Addr) (fd:FuncData):Prop where
 mk_:Mk K C f
 F:Fun K "__init__" q st f fd
def initIn {L:Value} {od I:Option Addr} {D:Array (Option Value)} {kV B J z ct:Value} (a:PySem.W.findIn K (.ref C) "__init__"=some (some (.ref f))) (l:K.lookup f=some ⟨L,od,.func (PySem.W.fnOf "__init__" q (dI st) (dC st) (aI st) .none kV B J I z ct),D⟩)
 (c:PySem.W.codeIn K z q=true) (k:PySem.W.keepIn K (.ref f)=true) (i:PySem.W.isFn K (.ref f)=true) (mk:PySem.W.makesIn K C=true) (M:PySem.W.keepIn K (.ref C)=true):InitIn K C q st f (PySem.W.fnOf "__init__" q (dI st) (dC st) (aI st) .none kV B J I z ct):=⟨⟨mk,a,i,M⟩,P0 l c k⟩
def InitIn.at {ps:List Str} {k:Nat} {sp:Sp} (D:InitIn K C q st f fd) (hm:mg x=some (.ref C)) (b:Binds K fd ps []) (o:FnOk P w K mg base CX0 k f fd ps sp):jO P w K mg base x C k ps sp:=⟨f,fd,o,D.mk_,hm,b⟩
def DAt.ref {ps:List Str} {k:Nat} {sp:Sp} (D:DAt P w base K mg x ps f fd) (o:FnOk P w K mg base CX0 k f fd ps sp):pM P w K mg base f k ps sp:=⟨fd,o,D.k,D.b⟩
def DefIn.d5 (D:DefIn K x st f fd) (P:Program) (w:World) (base:Heap) (X:K.In h) (G:h.Ns mainGlobals mg) {ps:List Str} (b:Binds K fd ps []):DAt P w base K mg x ps f fd:=⟨PySem.W.mg_of X G D.a,D.F.kp,b⟩
end
end L2
namespace CW
open PySem L2
structure HcIn (K:PySem.W.Frag) (Rd Cs Hs:Addr):Prop where
 aR:PySem.W.nsIn K mainGlobals "Road"=some (some (.ref Rd))
 aC:PySem.W.nsIn K mainGlobals "Course"=some (some (.ref Cs))
 aH:PySem.W.nsIn K mainGlobals "House"=some (some (.ref Hs))
 r1:PySem.W.plainGet K Rd Str.empty=true
 r2:PySem.W.hasDictIn K Rd=true
 r3:PySem.W.plainOver K Rd=true
 r4:PySem.W.findIn K (.ref Rd) "__setattr__"=some (some (.builtin "object.__setattr__"))
 c1:PySem.W.plainGet K Cs Str.empty=true
 c2:PySem.W.hasDictIn K Cs=true
 c3:PySem.W.plainOver K Cs=true
 c4:PySem.W.findIn K (.ref Cs) "__setattr__"=some (some (.builtin "object.__setattr__"))
 h1:PySem.W.plainGet K Hs Str.empty=true
 h2:PySem.W.hasDictIn K Hs=true
 h3:PySem.W.plainOver K Hs=true
 h4:PySem.W.findIn K (.ref Hs) "__setattr__"=some (some (.builtin "object.__setattr__"))
 rEn:PySem.W.findIn K (.ref Rd) "entries"=some none
 rRe:PySem.W.findIn K (.ref Rd) "rests"=some none
 rCo:PySem.W.findIn K (.ref Rd) "course"=some none
 cRe:PySem.W.findIn K (.ref Cs) "rested"=some none
 cWa:PySem.W.findIn K (.ref Cs) "walks"=some none
 cTu:PySem.W.findIn K (.ref Cs) "turned"=some none
 hSt:PySem.W.findIn K (.ref Hs) "standing"=some none
 hPa:PySem.W.findIn K (.ref Hs) "past"=some none
 hAh:PySem.W.findIn K (.ref Hs) "ahead"=some none
 ne1:Nat.beq Rd Hs=false
 ne2:Nat.beq Cs Hs=false
def aBD {a b:Nat} (h:Nat.beq a b=false):a≠b:=λe=>by
 rw[e,Nat.beq_refl]at h;cases h
def HcIn.g {K:PySem.W.Frag} {Rd Cs Hs:Addr} (h:HcIn K Rd Cs Hs):Hc K:=⟨Rd,Cs,Hs,⟨h.r1,h.r2,h.r3,h.r4⟩,⟨h.c1,h.c2,h.c3,h.c4⟩,⟨h.h1,h.h2,h.h3,h.h4⟩,aBD h.ne1,aBD h.ne2,h.rEn,h.rRe,h.rCo,h.cRe,h.cWa,h.cTu,h.hSt,h.hPa,h.hAh⟩
def L9 {x y:Str} {v:Value} {l:List (Key×Value)}:valueAt (((Sum.inr y:Key),v) :: l) (Sum.inr x)=if x=y then some v else valueAt l (Sum.inr x):=by
 unfold valueAt;rw[List.find?_cons]
 by_cases c:x=y
 .rw[if_pos c,c];simp
 .rw[if_neg c];have:decide ((Sum.inr y:Key)=Sum.inr x)=false:=aEu λz=>c (Sum.inr.inj z).symm;simp only[this]
def aBE {P:Program} {w:World} {K:PySem.W.Frag} {d:Addr} {ep:Nat} {L t1 t2 M U Y t6 t7 t8:Tok} {z r1 r2 r3 r4 B D I J:Addr}
 (h:K.lookup d=some ⟨.type "dict",none,.dict #[uV w ("build",L,z),uV w ("shut",t1,r1),uV w ("walk",t2,r2),uV w ("put",M,r3),uV w ("take",U,r4),uV w ("mirror",Y,B),uV w ("lay",t6,D),uV w ("late",t7,I),uV w ("strike",t8,J)] ep,#[]⟩) (hs:(d == sysModules)=false) :
 ∃ kvs,GDict P w K d kvs/\valueAt kvs (Sum.inr "build")=some (.ref z)/\valueAt kvs (Sum.inr "shut")=some (.ref r1)/\valueAt kvs (Sum.inr "walk")=some (.ref r2)/\valueAt kvs (Sum.inr "put")=some (.ref r3)/\valueAt kvs (Sum.inr "take")=some (.ref r4)/\valueAt kvs (Sum.inr "mirror")=some (.ref B)/\valueAt kvs (Sum.inr "lay")=some (.ref D)/\valueAt kvs (Sum.inr "late")=some (.ref I)/\valueAt kvs (Sum.inr "strike")=some (.ref J):=by
 have g:=aAX (P:=P) (w:=w) [("build",L,z),("shut",t1,r1),("walk",t2,r2),("put",M,r3),("take",U,r4),("mirror",Y,B),("lay",t6,D),("late",t7,I),("strike",t8,J)] h hs (show (["build","shut","walk","put","take","mirror","lay","late","strike"]:List Str).Nodup by decide +kernel);refine⟨_,g,?_,?_,?_,?_,?_,?_,?_,?_,?_⟩ <;> simp only[aEy,List.map_nil] <;> repeat (first | (rw[L9,if_pos rfl];done) | rw[L9,if_neg (by decide +kernel)])
def aDK {R:Str->Prop}:∀ x∈([]:List Str),R x:=λx z=>nomatch z
def nE {R:Str->Prop} {y:Str} {ks:List Str} (h:R y) (t:∀ x∈ks,R x):∀ x∈y :: ks,R x:=λx hx=>by
 rcases aFL.mp hx with e | hx
 .rw[e];exact h
 .exact t x hx
def vL {K:PySem.W.Frag} {G:Hc K} {ks:List Str} {y:Str} (B:y∈ks) {vs:List V} {H:Hp} {Q:VK} {E:XK} (h:cP G [y] vs H Q E):cP G ks vs H Q E:=by
 obtain⟨N,d,v,w,std,z,D,h0,hw,h1,h2,h3,h4,h5⟩:=h;exact⟨N,d,v,w,std,z,D,h0,by rw[aFF.mp hw];exact B,h1,h2,h3,h4,h5⟩
end CW
namespace L2
open PySem PySem.Spec PyProof.Rows
def S6 (J:It) (L:St) (g:TG) (tt:TT) (tk tv:TE) (Q:VK) (H1:Hp):Prop:=∃ W:Nat->Nat->List (Key×V)->Hp->Prop,(∃ m,W 0 m [] H1)/\∀ i m ys H,W i m ys H ->
 ys.length<sizeLine/\((J.stop i H/\∀ D,H D=none->Q (.ref D) (upd H D (.dK ys))) \/
  (J.go i H/\∃ N:List (Key×V)->Hp->Prop,(∀ I H',N I H'->∃ M,M<m/\W (i+1) M I H')/\∀ x H',J.yld i H x H'->g x L H' λB H2=>tt B H2 λb U =>
   if b=true then tk B U λy Y=>tv B Y λz H5=>∃ k,y=kV k/\N (dX ys k z) H5 else N ys U))
def aDL (wi:TI) (nt:Nat) (js:List Nat) (g:TG) (tt:TT) (tk tv:TE):TE:=fun σ H Q=>wi σ H λJ H1=>S6 J (sIn nt js σ) g tt tk tv Q H1
section
variable {X:Cx} {pins:List (Addr×Obj)} {σ:St} {inn:Scope} {js:List Nat} {cs ts:List Str} {nt:Nat} {kx vx tg iter:Expr} {ifs:List Expr} {pos:Pos} {g:TG} {tt:TT} {tk tv:TE}
def T1 {J:It} {fp:List Addr} {it:Addr} {tn:Nat->Heap->Prop} {H2:Hp} {s2:Shared} {E:Value->Shared->Prop} {Q:VK} {RR:Value->Addr->Result->Shared->Prop}
 (bf:X.calm=true) (O:CompOk X.env.scope inn X.N js cs) (cp:ts.length=nt)
 (hg:∀ M U ex,PG (dL X inn (ts++cs) M U ex) tg g) (hk:GK nt g) (ht:∀ M U ex,PIf (dL X inn (ts++cs) M U ex) ifs tt) (he:∀ M U ex,PE (dL X inn (ts++cs) M U ex) kx tk) (cq:∀ M U ex,PE (dL X inn (ts++cs) M U ex) vx tv)
 (I2:Inv X pins σ H2 s2) (T:qJ X.prog X.w X.K tg J fp it tn) (bg:tn 0 s2.heap) (f2:∀ b∈fp,iE X pins H2 b)
 (R:S6 J (sIn nt js σ) g tt tk tv Q H2)
 (cr:∀ D C s' H',Inv X pins σ H' s'->(∃ m,s'.heap.Ns C m)->H' C=none->C≠X.env.locals->X.s₀.heap.objs.size<=C->(∀ x c,X.env.cells.lookup x=some c->c≠C)->(∀ p∈X.pn++pins,p.1≠C)->Q (.ref D) H'->RR (.ref D) C (.ok .next) s') :
 wpAny (model X.prog X.w) X.A newDict (λbu bv=>wpAny (model X.prog X.w) X.A (newFunctionEnv inn X.env.globals (iL inn X.env) [] X.env.qual none .none (some X.env)) (λba bw =>
  codeAny (model X.prog X.w) X.A (.compStart (.DictComp kx vx [⟨tg,iter,ifs,0⟩] inn pos) 0 (.ref it) bu { ba with scope:=relabel inn X.env }) (RR bu ba.locals) bw) E bv) E s2:=by
 refine wpAny_newObj_type (wpAny_newFunctionEnv O.nocell (by intro y hy;simp at hy) (λam Y al=>?_) O.kind);dsimp only at Y al ⊢;generalize hD:s2.heap.objs.size=D;have I3:Inv X pins σ H2 { s2 with heap:=s2.heap.push { cls:=.type "dict",data:=.dict #[] } }:=I2.kept (t':=s2.toks) λb o e=>aEa _ e;generalize bx:({ s2 with heap:=s2.heap.push { cls:=.type "dict",data:=.dict #[] } }:Shared)=L at I3;have e3:L.heap=s2.heap.push { cls:=.type "dict",data:=.dict #[] }:=by rw[<- bx]
 have cu:L.heap.get? D=some { cls:=.type "dict",data:=.dict #[] }:=by rw[e3,<- hD];exact aEg _ rfl
 have aq:L.heap.objs.size=D+1:=by rw[e3,Heap.size_push,hD]
 have cv:(s2.heap.push { cls:=.type "dict",data:=.dict #[] })=L.heap:=e3.symm;rw[cv]at Y al ⊢;have bb:H2 D=none:=I2.hok.fresh (by rw[hD];exact Nat.le_refl _);have up:∀ b o,L.heap.get? b=some o->am.get? b=some o:=λb o e=>al.extBut b o (aEw (aEf e)) (aEa _ e);have bi:∀ b∈fp,b<L.heap.objs.size/\b≠D:=λb hb=>by
  obtain⟨o,eo,_⟩:=T.obj 0 _ bg b hb;have h1:=aEf eo;rw[hD]at h1;exact⟨by rw[aq];exact Nat.lt_succ_of_lt h1,aEw h1⟩
 have nb:∀ b,X.s₀.heap.objs.size<=b->∀ o,X.base.get? b≠some o:=λb hb o e=>absurd (aEq (aEf e) (Nat.le_trans I2.ok.bsz hb)) (Nat.lt_irrefl _);have ar:s2.heap.objs.size<=D:=by rw[hD];exact Nat.le_refl _
 have fD:iE X pins H2 D:=I2.fpOk ar bb;have hex:∀ b∈D :: fp,b<L.heap.objs.size/\b≠X.env.locals/\b∉X.fs/\(∀ x c,X.env.cells.lookup x=some c->c≠b)/\∀ o,X.base.get? b≠some o:=λb hb=>by
  rcases aFL.mp hb with rfl | hb
  .exact⟨by rw[aq];exact Nat.lt_succ_self _,fD.2.1,fD.2.2.1,fD.2.2.2.2.1,nb _ (Nat.le_trans I2.sz ar)⟩
  .obtain⟨f0,f1,b_,f3,f4,f5⟩:=f2 b hb;refine⟨(bi b hb).1,f1,b_,f4,λo e=>?_⟩;rcases f3 with z | z
   .exact I2.ok.noex b o e z
   .exact nb b z o e
 have hC:L.heap.objs.size=L.heap.objs.size:=rfl;generalize B:dL X inn (ts++cs) L H2 (D :: fp)=I;have I4:Inv I [] (sIn nt js σ) H2 { L with heap:=am,toks:=L.toks }:=by
  rw[<- B];exact P1 cp I3 O hex ⟨_,Y⟩ up
 have xp:I.prog=X.prog:=by rw[<- B];rfl
 have xw:I.w=X.w:=by rw[<- B];rfl
 have xK:I.K=X.K:=by rw[<- B];rfl
 have xA:I.A=X.A:=by rw[<- B];rfl
 have xc:I.calm=true:=by rw[<- B];exact bf
 have xe:I.env=compEnvC inn (iL inn X.env) L.heap.objs.size X.env:=by rw[<- B];rfl
 have xx:I.xe=λ_ _=>False:=by rw[<- B];rfl
 have bj:I.ex=D :: fp:=by rw[<- B];rfl
 have bm:I.pn=[]:=by rw[<- B];rfl
 have ca:I.s₀=L:=by rw[<- B];rfl
 have cw:I.H₀=H2:=by rw[<- B];rfl
 have cx:I.fs=frs X.stack:=by rw[<- B];rfl
 have cz:PG I tg g:=by rw[<- B];exact hg _ _ _
 have c_:PIf I ifs tt:=by rw[<- B];exact ht _ _ _
 have da:PE I kx tk:=by rw[<- B];exact he _ _ _
 have cb:PE I vx tv:=by rw[<- B];exact cq _ _ _
 have ap:=I4.ok;have xl:I.env.locals=L.heap.objs.size:=by rw[xe];rfl
 have Dl:D≠I.env.locals:=by rw[xl,aq];exact aEw (Nat.lt_succ_self _)
 have au:∀ {H':Hp} {pl:List (Addr×Obj)},(∀ b∈fp,H' b=none)->(∀ p∈pl,p.1=D)->∀ b∈fp,iE I pl H' b:=λ{H' pl} hn hpl b hb=>by
  have aw:b∈I.ex:=by rw[bj];exact aEc _ hb
  refine⟨hn b hb,(ap.exf b aw).1,λz=>ap.exfs b aw z,.inl aw,(ap.exf b aw).2,λp hp=>?_⟩;rw[bm,List.nil_append]at hp;rw[hpl p hp];exact Ne.symm (bi b hb).2
 have DX:D∈I.ex:=by rw[bj];exact aEb
 obtain⟨W,⟨m0,w0⟩,turn⟩:=R;have loop:codeAny (model X.prog X.w) X.A (.compLoop (.DictComp kx vx [⟨tg,iter,ifs,0⟩] inn pos) 0 (.ref it) (.ref D) I.env) (RR (.ref D) L.heap.objs.size) { L with heap:=am,toks:=L.toks }:=by
  refine codeAny_loop rfl (λn s'=>∃ i ys H',Inv I [] (sIn nt js σ) H' s'/\tn i s'.heap/\(∀ b∈fp,H' b=none)/\H' D=none/\(∃ vs,KV ys vs/\s'.heap.DictOf (bA X.prog X.w) D vs)/\W i n ys H') ?_ m0
   ⟨0,[],H2,I4,?_,λb hb=>(f2 b hb).1,bb,⟨[],.nil,⟨_,#[],_,up D _ cu,⟨rfl,rfl,rfl⟩,rfl,λe he=>by simp at he,.nil,List.nodup_nil⟩⟩,w0⟩
  .rintro n s5 ⟨i,ys,H5,I5,ce,cf,bo,⟨its,rv,ax⟩,w5⟩;obtain⟨oD,eD,nD⟩:∃ o,s5.heap.get? D=some o/\∀ v,o.data≠.cell v:=by
    obtain⟨o,es,ep,h1,h2,h3,_⟩:=id ax;exact⟨o,h1,λv z=>by rw[h3]at z;cases z⟩
   show wpAny _ X.A ((compTurn (.DictComp kx vx [⟨tg,iter,ifs,0⟩] inn pos) 0 (.ref it) (.ref D) I.env).onRaise (λx=>do noteFrame x I.env;theTreesLotGoes x)) _ _ s5;refine wpAny_noted ?_;rw[compTurn_dict];refine aE7 (wpAny_standAt (aE7 ?_));have bc:Inv I (cA [D] s5.heap) (sIn nt js σ) H5 s5:=by
    have q:=I5.pinned (fp:=[D]) (λb hb=>?_) (λb hb=>?_)
    .simpa using q
    .have e:b=D:=by simpa using hb
     subst e;refine⟨bo,Dl,λz=>ap.exfs b DX z,.inl DX,(ap.exf b DX).2,λp hp=>?_⟩;rw[bm,List.nil_append]at hp;cases hp
    .have e:b=D:=by simpa using hb
     subst e;exact⟨_,eD,nD⟩
   have bq:∀ p∈cA [D] s5.heap,p.1=D:=λp hp=>by simpa using (gR hp).1
   have memD:(D,oD)∈cA [D] s5.heap:=bR (by simp) eD;obtain⟨hz,db⟩:=turn i n ys H5 w5;rcases db with ⟨stop,fin⟩ | ⟨go,N,hN,step⟩
   .have q:=T.done I xp xw xK xc i _ s5 _ H5 (notedBy (model X.prog X.w) X.A I.env λe s'=>RR (.ref D) L.heap.objs.size (.error e) s') bc (au cf bq) ce stop;rw[xA]at q;refine wpAny_mono q (λr s6 ⟨hr,I6⟩=>?_) λ_ _ z=>z;subst hr;refine aE8 ?_;have de:=(I6.pin (D,_) (aEd _ memD)).1;have un:Un (frs X.stack) (D :: fp) H2 H5 L.heap s6.heap:=by
     have z:=I6.base;rw[cx,bj,cw,ca]at z;exact z
    have df:s6.os=L.os:=by have z:=I6.os;rw[ca]at z;exact z
    have cg:HOk X.prog X.w H5 s6.heap:=by have z:=I6.hok;rw[xp,xw]at z;exact z
    have I7:Inv X pins σ H5 s6:=I3.call' df un cg I6.bare λb hb=>by
     rcases aFL.mp hb with e | hb
     .rw[e];exact⟨.inr (Nat.le_trans I2.sz ar),fD.2.1,fD.2.2.2.2.1,fD.2.2.2.2.2⟩
     .obtain⟨f0,f1,b_,f3,f4,f5⟩:=f2 b hb;exact⟨f3,f1,f4,f5⟩
    have I8:Inv X pins σ (upd H5 D (.dK ys)) s6:=I7.track bo (Nat.le_trans I2.sz ar) fD.2.1 fD.2.2.2.2.1 fD.2.2.2.2.2 (uR (Nat.le_of_lt hz) (beq_eq_false_iff_ne.mpr (Ne.symm (aEw (aEq I2.big ar)))) rv (ax.at λo e=>by rw[eD]at e;cases e;exact de));have ci:L.heap.objs.size<=L.heap.objs.size:=Nat.le_refl _;have fC:iE X pins (upd H5 D (.dK ys)) L.heap.objs.size:=I3.fpOk ci (by
     rw[aF (by rw[<- xl];exact Ne.symm Dl)];have z:=I6.free;rw[xl]at z;exact z)
    obtain⟨mm,cj,_⟩:=I6.loc;rw[xl]at cj;exact cr D _ s6 _ I8 ⟨mm,cj⟩ fC.1 fC.2.1 (Nat.le_trans I3.sz ci) fC.2.2.2.2.1 fC.2.2.2.2.2 (fin D bo)
   .have q:=T.item I xp xw xK xc i _ s5 _ H5 (notedBy (model X.prog X.w) X.A I.env λe s'=>RR (.ref D) L.heap.objs.size (.error e) s') bc (au cf bq) ce go;rw[xA]at q;refine wpAny_mono q (λr s6 ⟨u,hr,h6⟩=>?_) λ_ _ z=>z;subst hr;refine aE7 (wpAny_mono h6 (λ_ s7 ⟨x,H7,I7,r7,y7,br,dh⟩=>?_) λ_ _ z=>z);have di:=I7.pinned (fp:=fp) (λb hb=>au dh bq b hb) (T.obj _ _ br);have q8:=cz _ s7 _ H7 x u _ di r7 (hk x _ H7 _ (step x H7 y7));rw[xp,xw,xA,xx]at q8;refine aE7 (wpAny_mono q8 (λ_ s8 ⟨ao,H8,I8,⟨k8,l8⟩,q8⟩=>?_) λ_ _ z=>z.elim);have q9:=c_ _ s8 ao H8 _ I8 q8;rw[xp,xw,xA,xx]at q9;refine aE7 (wpAny_mono q9 (λok s9 ⟨H9,I9,q9⟩=>?_) λ_ _ z=>z.elim);have ay:∀ (j:Nat) v,(sIn nt js σ)[j]?=some (some v)->ao[j]?=some (some v):=λj v e=>by
     have hj:=(oY e).1;rw[k8 j hj];exact e
    have ends:∀ {H9:Hp} {s9:Shared} {av:List (Key×V)},Inv I (cA [D] s5.heap++cA fp s7.heap) ao H9 s9->∀ {h':Heap} {its':List (Key×Value)},(∀ b o,b≠D->s9.heap.get? b=some o->h'.get? b=some o)->KV av its'->h'.DictOf (bA X.prog X.w) D its'->N av H9 ->
     ∀ tk,∃ m,m<n/\∃ i ys H',Inv I [] (sIn nt js σ) H' { s9 with heap:=h',toks:=tk }/\tn i h'/\(∀ b∈fp,H' b=none)/\H' D=none/\(∃ vs,KV ys vs/\h'.DictOf (bA X.prog X.w) D vs)/\W i m ys H':=λ{H9 s9 av} I9 {h' its'} kp dj dm n9 tk=>by
     obtain⟨m',hm,w9⟩:=hN av H9 n9;have ck:H9 D=none:=(I9.pin (D,_) (aEd _ (aEs _ memD))).2.1;have dn:∀ b∈fp,H9 b=none:=λb hb=>by
      obtain⟨o,e,d⟩:=T.obj _ _ br b hb;exact(I9.pin (b,o) (aEd _ (aEd _ (bR hb e)))).2.1
     have bt:Inv I [] ao H9 s9:=I9.pins_of λp hp=>by cases hp
     have az:Inv I [] ao H9 { s9 with heap:=h',toks:=tk }:=bt.turned (it:=D) kp ck Dl (.inl DX) (ap.exf D DX).2 (λp hp=>by rw[bm]at hp;cases hp);refine⟨m',hm,i+1,av,H9,az.weak l8.symm ay,T.keep _ _ _ br λb hb o e=>kp b o (bi b hb).2 (I9.pin (b,o) (aEd _ (aEd _ (bR hb e)))).1,dn,ck,⟨its',dj,dm⟩,w9⟩
    cases ok with
    | false =>
     rw[if_neg aEm]at q9;have dq:=(I9.pin (D,_) (aEd _ (aEs _ memD))).1;exact aE8 ⟨rfl,ends I9 (h':=s9.heap) (λ_ _ _ e=>e) rv (ax.at λo e=>by rw[eD]at e;cases e;exact dq) q9 s9.toks⟩
    | true =>
     rw[if_pos rfl]at q9;have a_:=da _ s9 ao H9 _ I9 q9;rw[xp,xw,xA,xx]at a_;refine aE7 (aE7 (wpAny_mono a_ (λkv dr ⟨y,dt,bt,du,a_⟩=>aE7 (wpAny_holding ?_)) λ_ _ z=>z.elim));have cm:=cb _ dr ao dt _ bt a_;rw[xp,xw,xA,xx]at cm;refine wpAny_mono cm (λvv dw ⟨z,dz,az,dv,ky,ey,qN⟩=>?_) λ_ _ z=>z.elim;subst ey;have cn:=(az.pin (D,_) (aEd _ (aEs _ memD))).1;have hlen:=rv.length;refine aE7 (wpAny_standAt (wpAny_holding (wpAny_dictSet_pairs (knd:=bA X.prog X.w) (hsz:=by omega) (nP du) (ax.at λo e=>by rw[eD]at e;cases e;exact cn) λh' hl hs=>aE8 ⟨rfl,?_⟩)));exact ends az (h':=h') (λb o hb e=>hs.extBut b o hb e) (rv.put ky dv) hl qN _
  .exact T.keep 0 _ _ bg λb hb o e=>up b o (by rw[e3];exact aEa _ e)
 have e4:({ s2 with heap:=am,toks:=s2.toks+([]:List (Str×Value)).length }:Shared)={ L with heap:=am,toks:=L.toks }:=by rw[<- bx];rfl
 rw[e4];show codeAny _ _ (.compStart (.DictComp kx vx [⟨tg,iter,ifs,0⟩] inn pos) 0 (.ref it) (.ref D) (compEnvC inn (iL inn X.env) L.heap.objs.size X.env)) (RR (.ref D) L.heap.objs.size) _;rw[<- xe];refine codeAny_compStart_dict loop ?_;refine T.self X.A 0 _ _ _ ?_ loop;exact T.keep 0 _ _ bg λb hb o e=>up b o (by rw[e3];exact aEa _ e)
def aBF {X:Cx} {inn:Scope} {kx vx tg iter:Expr} {ifs:List Expr} {pos:Pos} {g:TG} {tt:TT} {tk tv:TE} {wi:TI} (ts cs:List Str) (js:List Nat) (L:X.calm=true) (O:CompOk X.env.scope inn X.N js cs) (hi:PI X tg iter wi)
 (hg:∀ z B ex,PG (dL X inn (ts++cs) z B ex) tg g) (hk:GK ts.length g) (ht:∀ z B ex,PIf (dL X inn (ts++cs) z B ex) ifs tt) (he:∀ z B ex,PE (dL X inn (ts++cs) z B ex) kx tk) (M:∀ z B ex,PE (dL X inn (ts++cs) z B ex) vx tv)
 (hs:∀ x,foldedSetIterable iter X.env x=pure x:=by intro _;rfl):PE X (.DictComp kx vx [⟨tg,iter,ifs,0⟩] inn pos) (aDL wi ts.length js g tt tk tv):=by
 intro pins s σ H Q I h;rw[arm_eval_DictComp];refine wpAny_comprehension_free (use:=none) rfl hs (sW λy hy e=>I.ok.has y.1 (O.frees y hy e)) O.kind O.names (thn (hi pins s σ H _ I h) λxv s1 h1=>thn h1 λam s2 h2=>?_);obtain⟨it,fp,tn,J,H2,e,I2,T,U,f2,R⟩:=h2;subst e;refine T1 (Q:=Q) (RR:=λY C=>compPost (model X.prog X.w) X.A X.xe none (EP X pins σ Q) Y C) L O rfl hg hk ht he M I2 T U f2 R ?_;intro D C s' H' I' ⟨m,hm⟩ c1 c2 c3 c4 c5 q;refine⟨m,hm,λh' al=>?_⟩;exact⟨.ref D,H',I'.turned (it:=C) (t':=s'.toks) (λb o hb e=>al.extBut b o hb e) c1 c2 (.inr c3) c4 c5,rfl,q⟩
end
open PySem.W
def M0 {d:Addr} {od:Obj} {kvs:List (Key×V)} {I:St} {g:TG} {tt:TT} {tk tv:TE} {H:Hp} {Q:VK} (Pv:Nat->List (Key×V)->Hp->Prop) (h0:Pv 0 [] H) (M:∀ i ys H,i<=kvs.length->Pv i ys H->H d=some (.frz od (.dK kvs))/\ys.length<sizeLine)
 (hs:∀ i k x ys H t,kvs[i]?=some (k,x)->Pv i ys H->H t=none->g (.ref t) I (upd H t (.tup [kV k,x])) λB H2=>tt B H2 λb L=>if b=true then tk B L λy U=>tv B U λz Y=>∃ k,y=kV k/\Pv (i+1) (dX ys k z) Y else Pv (i+1) ys L) (hd:∀ ys H,Pv kvs.length ys H->∀ D,H D=none->Q (.ref D) (upd H D (.dK ys))) :
 S6 (Itd d od kvs) I g tt tk tv Q H:=by
 refine⟨λi m ys H=>m=kvs.length - i/\i<=kvs.length/\Pv i ys H,⟨kvs.length,by simp,Nat.zero_le _,h0⟩,?_⟩;rintro i m ys H ⟨rfl,hi,p⟩;obtain⟨q,hz⟩:=M i ys H hi p;refine⟨hz,?_⟩
 by_cases J:i<kvs.length
 .refine .inr ⟨⟨q,J⟩,Pv (i+1),λal H' p'=>⟨kvs.length - (i+1),by omega,rfl,J,p'⟩,λx H' y=>?_⟩;obtain⟨t,k,v,rfl,hn,hx,rfl⟩:=y;exact hs i k v ys _ t hx p hn
 .have e:i=kvs.length:=by omega
  subst e;exact .inl ⟨⟨q,Nat.le_refl _⟩,hd ys H p⟩
def yR {P:Program} {w:World}:∀ {kvs:List (Key×V)} {vs:List Value},vs.length=kvs.length->(∀ (j:Nat) (v:Value),vs[j]?=some v->∃ k x,kvs[j]?=some (k,x)/\(bA P w).is k v=true)->Vals (kvs.map λp=>kV p.1) vs
 | [],[],_,_=>.nil
 | [],_ :: _,h,_=>by cases h
 | _ :: _,[],h,_=>by cases h
 | p :: kvs,v :: vs,h,k=>by
  refine .cons ?_ (yR (by simpa using h) λj u e=>k (j+1) u e);obtain⟨z,x,e1,e2⟩:=k 0 v rfl;cases e1;exact Q6 e2
section
variable {X:Cx}
def T3 (Y:X.calm=true):dY X (.type "list") (λxs H Q=>∃ (a:Addr) (kvs:List (Key×V)),xs=[.ref a]/\H a=some (.dK kvs)/\∀ l,H l=none->Q (.ref l) (upd H l (.lst (kvs.map λp=>kV p.1)))):=by
 intro pins s σ H xs us Q I r h;obtain⟨a,kvs,rfl,ha,q⟩:=h;obtain⟨u,rfl,rx⟩:=gG r;cases rx;obtain⟨z,J,vs,L,dd⟩:=nQ I.hok ha;obtain⟨ep,M⟩:=id dd.dictAt;have rl:=L.length;refine kdl_call (kdl_dict (knd:=bA X.prog X.w) (kvs:=vs) (ep:=ep) J) (I.ok.hd Y) M (by omega) λh' tk D c hk hS B=>?_;have hn:=I.hok.fresh (Nat.le_refl s.heap.objs.size);have hl:D.toList.length=kvs.length:=by rw[Array.length_toList,B.1];omega
 have hv:Vals (kvs.map λp=>kV p.1) D.toList:=yR (P:=X.prog) (w:=X.w) hl λj v e=>by
  obtain⟨k,x,e1,e2⟩:=B.2 j v (by rw[<- Array.getElem?_toList];exact e);have hj:j<kvs.length:=by have:=(aFK.mp e1).1;omega
  obtain⟨u,U,ru⟩:=J4 L (aEj hj);rw[e1]at U;cases U;exact⟨_,_,aEj hj,e2⟩
 exact⟨.ref s.heap.objs.size,_,I.laid (h':=h') (t':=tk) (o:=.lst (kvs.map λp=>kV p.1)) hk (Nat.le_refl _) ⟨by rw[aE9];exact z,D.toList,c,hv,by rw[Array.toArray_toList];exact hS⟩,rfl,q _ hn⟩
end
end L2
namespace CW
open PySem L2
def aDM {w:Str} {std I:Std} {D:PyData} (hw:w∈(["lay"]:List Str)) (h:DoD w std D I):∃ n m g first r z r2 ents B,cO std n=some (first,ents)/\Go first ents r/\cO std m=some (z,B)/\Go z B r2/\(Ent.lay r2 g).ok r/\ents.length<9000 /\
 D=.tuple [.str "lay",.str n,.str m,.int g]/\I=dQ n (first,ents++[.lay r2 g]) std:=by
 have hw:=aFF.mp hw;generalize L:w=x at h;cases h with
 | lay h0 M h1 J U Y=>exact⟨_,_,_,_,_,_,_,_,_,h0,M,h1,J,U,Y,rfl,rfl⟩
 | ent h0 M hp U Y=>exact(pU (L.symm.trans hw) (by decide +kernel) (by decide +kernel) (by decide +kernel) (by decide +kernel) hp).elim
 | _=>exact(iW (L.symm.trans hw) (by decide +kernel)).elim
def aBz {w:Str} {std z:Std} {D:PyData} (hw:w∈(["shut"]:List Str)) (h:DoD w std D z):∃ n r,cO std n=some r/\D=.tuple [.str "shut",.str n]/\z=X7 std n:=by
 have hw:=aFF.mp hw;generalize B:w=x at h;cases h with
 | shut h0=>exact⟨_,_,h0,rfl,rfl⟩
 | ent h0 J I L M=>exact(pU (B.symm.trans hw) (by decide +kernel) (by decide +kernel) (by decide +kernel) (by decide +kernel) I).elim
 | _=>exact(iW (B.symm.trans hw) (by decide +kernel)).elim
def aCA {H:Hp} {v:V} {n m:Str} {i:Int} (h:DT H v (.tuple [.str "lay",.str n,.str m,.int i])):∃ a,v=.ref a/\H a=some (.tup [.str "lay",.str n,.str m,.int i]):=by
 cases h with
 | tup h t=>cases t with | cons a t=>cases t with | cons b t=>cases t with | cons c t=>cases t with | cons d t =>
  cases t;cases a;cases b;cases c;cases d;exact⟨_,rfl,h⟩
def aCB {H:Hp} {v:V} {n:Str} (h:DT H v (.tuple [.str "shut",.str n])):∃ a,v=.ref a/\H a=some (.tup [.str "shut",.str n]):=by
 cases h with
 | tup h t=>cases t with | cons a t=>cases t with | cons b t =>
  cases t;cases a;cases b;exact⟨_,rfl,h⟩
section
variable {K:PySem.W.Frag} {G:Hc K}
def M3 {N:Addr->Prop} {H:Hp}:∀ {kvs:List (Key×V)} {std:Std},Paired (SAt G N H) kvs std->(kvs.map λp=>kV p.1)=std.map λs=>V.str s.1
 | _,_,.nil=>rfl
 | _,_,.cons r t=>by
  rw[aEy,aEy,M3 t,r.1];rfl
variable (G)
inductive pW (vs:List V) (H:Hp) (Q:VK) (E_:XK):Prop
 | mk (N:Addr->Prop) (Hb:Hp) (a:Addr) (m:HM) (mp:List (PyData×Std)) (D:PyData) (std0:Std) (h0_:vs=[.ref a]) (h1_:HOwn G N Hb H a m) (h2_:m.past=mp++[(D,std0)]) (h3_:m.ahead.length<9000) (h4_:∀ v H',DT H' v D->HOwn G N Hb H' a ⟨std0,mp,m.ahead++[(D,m.std)]⟩->Q v H'):pW vs H Q E_
inductive pX (vs:List V) (H:Hp) (Q:VK) (E_:XK):Prop
 | mk (N:Addr->Prop) (Hb:Hp) (a:Addr) (m:HM) (h0_:vs=[.ref a]) (h1_:HOwn G N Hb H a m) (h4_:∀ l H',H l=none->Same H H'->H' l=some (.lst (m.std.map λs=>V.str s.1))->Q (.ref l) H'):pX vs H Q E_
inductive lX (vs:List V) (H:Hp) (Q:VK) (E_:XK):Prop
 | mk (N:Addr->Prop) (Hb:Hp) (a:Addr) (m:HM) (h0_:vs=[.ref a]) (h1_:HOwn G N Hb H a m) (hl_:m.past.length<=9000) (h4_:∀ l us H',H l=none->Same H H'->H' l=some (.lst us)->DTs H' us (m.past.map (·.1))->Q (.ref l) H'):lX vs H Q E_
inductive nF (vs:List V) (H:Hp) (Q:VK) (E_:XK):Prop
 | mk (N:Addr->Prop) (Hb:Hp) (a:Addr) (m:HM) (h0_:vs=[.ref a]) (h1_:HOwn G N Hb H a m) (hl_:m.ahead.length<=9000) (h4_:∀ l us H',H l=none->Same H H'->H' l=some (.lst us)->DTs H' us (m.ahead.reverse.map (·.1))->Q (.ref l) H'):nF vs H Q E_
inductive rD (vs:List V) (H:Hp) (Q:VK) (E_:XK):Prop
 | mk (a b:Addr) (one other:List Int) (gap:Int) (h0_:vs=[.ref a,.ref b,.int gap]) (h1_:H a=some (.lst (one.map V.int))) (h2_:H b=some (.lst (other.map V.int))) (h3_:one.length<=200) (h4_:other.length<=200) (h5_:one≠[]) (h6_:other≠[]) (h9_:kX H Q (lU one other gap)):rD vs H Q E_
def ND (z H:Hp) (v:V) (D:PyData):Prop:=∃ l ws ds,v=.ref l/\D=.list ds/\z l=none/\H l=some (.lst ws)/\DTs H ws ds
def iX:Std->List (List Int)->List PyData
 | s :: t,r :: z=>.list (r.map PyData.int) :: .list (s.2.2.map Ent.data) :: iX t z
 | _,_=>[]
def vM (m:HM) (rows:List (List Int)):List PyData:=[.list (m.std.map λs=>PyData.str s.1),.list (m.past.map (·.1)),.list (m.ahead.reverse.map (·.1))]++iX m.std rows
structure VOk (m:HM) (rows:List (List Int)):Prop where
 look:∀ s∈m.std,cO m.std s.1=some s.2
 go:Paired (λ(s:Str×List Int×List Ent) r=>Go s.2.1 s.2.2 r) m.std rows
 few:m.std.length<=8
 past:m.past.length<=100
 ahead:m.ahead.length<=100
 logs:∀ s∈m.std,s.2.2.length<=100
 rws:∀ r∈rows,r.length<=60
inductive lY (vs:List V) (H:Hp) (Q:VK) (E_:XK):Prop
 | mk (N:Addr->Prop) (Hb:Hp) (a:Addr) (m:HM) (rows:List (List Int)) (h0_:vs=[.ref a]) (h1_:HOwn G N Hb H a m) (h2_:VOk m rows) (h4_:∀ l us H',H l=none->Same H H'->H' l=some (.lst us)->Paired (ND H H') us (vM m rows)->(∀ v∈us,v≠.ref l)->Q (.ref l) H'):lY vs H Q E_
inductive jT (vs:List V) (H:Hp) (Q:VK) (E_:XK):Prop
 | mk (N:Addr->Prop) (Hb:Hp) (a:Addr) (m:HM) (rows:List (List Int)) (h0_:vs=[.ref a]) (h1_:HOwn G N Hb H a m) (h2_:VOk m rows) (h4_:∀ H',Same H H'->Q .non H'):jT vs H Q E_
variable {G}
def ND.same {z H H':Hp} {v:V} {D:PyData} (g:Same H H') (h:ND z H v D):ND z H' v D:=by
 obtain⟨l,ws,ds,e1,e2,B,I,J⟩:=h;exact⟨l,ws,ds,e1,e2,B,g _ _ I,J.mono (TupS.same g)⟩
def DTs.strs {H:Hp}:∀ ns:List Str,DTs H (ns.map V.str) (ns.map PyData.str)
 | []=>.nil
 | n :: r=>.cons (.str n) (DTs.strs r)
def vN {s:Str×List Int×List Ent} {r:List Int}:∀ {std:Std} {rows:List (List Int)},std.length=rows.length->iX (std++[s]) (rows++[r])=iX std rows++[.list (r.map PyData.int),.list (s.2.2.map Ent.data)]
 | [],[],_=>rfl
 | [],_ :: _,h=>by cases h
 | _ :: _,[],h=>by cases h
 | x :: t,y :: z,h=>by
  show _ :: _ :: iX (t++[s]) (z++[r])=_ :: _ :: (iX t z++_);rw[vN (by simpa using h)]
def lZ {z B:Type} {R:z->B->Prop}:∀ {xs:List z} {ys:List B} {j:Nat} {x:z},Paired R xs ys->xs[j]?=some x->∃ y,ys[j]?=some y/\R x y
 | _,_,_,_,.nil,e=>by simp at e
 | _,_,0,_,.cons r _,e=>by simp at e;subst e;exact⟨_,rfl,r⟩
 | _,_,j+1,y,.cons _ t,e=>by
  obtain⟨x,h1,h2⟩:=lZ (j:=j) t (by simpa using e);exact⟨x,by simpa using h1,h2⟩
def rE:∀ (std:Std) (rows:List (List Int)),(iX std rows).length<=2 * std.length
 | s :: t,r :: z=>by
  have:=rE t z;show (iX t z).length+1+1<=2 * (t.length+1);omega
 | [],_=>Nat.zero_le _
 | _ :: _,[]=>Nat.zero_le _
def sJ {m:Nat}:∀ {std:Std} {rows:List (List Int)},(∀ s∈std,s.2.2.length<=m)->(∀ r∈rows,r.length<=m)->∀ D∈iX std rows,∀ ds,D=.list ds->ds.length<=m
 | s :: t,r :: B,h1,h2,D,hD,ds,e=>by
  rcases aFL.mp hD with h | hD
  .rw[h]at e;cases e;rw[aE9];exact h2 r aEb
  .rcases aFL.mp hD with h | hD
   .rw[h]at e;cases e;rw[aE9];exact h1 s aEb
   .exact sJ (λs hs=>h1 s (aEc _ hs)) (λr z=>h2 r (aEc _ z)) D hD ds e
 | [],_,_,_,D,hD,_,_=>by cases hD
 | _ :: _,[],_,_,D,hD,_,_=>by cases hD
def VOk.small {m:HM} {rows:List (List Int)} (h:VOk m rows):∀ D∈vM m rows,∀ ds,D=.list ds->ds.length<=100:=λD hD ds e=>by
 rcases aFM.mp hD with hD | hD
 .rcases aFL.mp hD with q | hD
  .rw[q]at e;cases e;rw[aE9];have:=h.few;omega
  .rcases aFL.mp hD with q | hD
   .rw[q]at e;cases e;rw[aE9];exact h.past
   .rw[aFF.mp hD]at e;cases e;rw[aE9,List.length_reverse];exact h.ahead
 .exact sJ h.logs (λr z=>by have:=h.rws r z;omega) D hD ds e
def k7 {κ:Type} [DecidableEq κ] {kvs:List (κ×V)} {k:κ} {v:V} (h:k∉kvs.map (·.1)):dX kvs k v=kvs++[(k,v)]:=by
 unfold dX;rw[if_neg];intro z;obtain⟨x,B,e⟩:=List.any_eq_true.mp z;exact h (aFN.mpr ⟨x,B,by simpa using e⟩)
def k9 {N:Addr->Prop} {H:Hp} {kvs:List (Key×V)} {std:Std} (B:Paired (SAt G N H) kvs std) (h:(std.map (·.1)).Nodup):(kvs.map (·.1)).Nodup:=by
 have e:∀ {kvs:List (Key×V)} {std:Std},Paired (SAt G N H) kvs std->kvs.map (·.1)=(std.map (·.1)).map (Sum.inr:Str->Key):=λ{kvs std} B=>by
  induction B with
  | nil=>rfl
  | cons r _ D=>rw[aEy,aEy,aEy,D,r.1]
 rw[e B];exact h.map (f:=(Sum.inr:Str->Key)) λa b h=>by intro z;exact h (Sum.inr.inj z)
def m5 {κ:Type} {kvs:List (κ×V)} {i:Nat} {k:κ} {v:V} (h:(kvs.map (·.1)).Nodup) (hi:kvs[i]?=some (k,v)):k∉(kvs.take i).map (·.1):=λz=>by
 obtain⟨B,e⟩:=aFK.mp hi;rw[<- List.take_append_drop i kvs,List.drop_eq_getElem_cons B,e,aEo,aEy]at h;exact(List.nodup_append.mp h).2.2 k z k aEb rfl
def sK {D B:Type} {R:D->B->Prop}:∀ {xs:List D} {ys:List B} {y:B},Paired R xs (ys++[y])->∃ z x,xs=z++[x]/\Paired R z ys/\R x y
 | _,[],_,.cons r .nil=>⟨[],_,rfl,.nil,r⟩
 | _,_ :: _,_,.cons r t=>by
  obtain⟨z,x,e,h1,h2⟩:=sK t;exact⟨_ :: z,x,by rw[e];rfl,.cons r h1,h2⟩
def vO {z B:Type} {R:z->B->Prop}:∀ {xs:List z} {ys:List B},Paired R xs ys->Paired R xs.reverse ys.reverse
 | _,_,.nil=>.nil
 | _,_,.cons r t=>by
  rw[List.reverse_cons,List.reverse_cons];exact Paired.append' (vO t) (.cons r .nil)
def B3 {N:Addr->Prop} {H:Hp} {n:Str}:∀ {kvs:List (Key×V)} {std:Std},Paired (SAt G N H) kvs std->Paired (SAt G N H) (kvs.filter λkv=>decide (kv.1≠Sum.inr n)) (X7 std n)
 | _,_,.nil=>.nil
 | kv :: kvs,s :: std,.cons r t=>by
  unfold X7
  by_cases c:s.1=n
  .rw[List.filter_cons_of_neg (by simp[r.1,c]),List.filter_cons_of_neg (by simp[c])];exact B3 t
  .rw[List.filter_cons_of_pos (by simp[r.1,c]),List.filter_cons_of_pos (by simp[c])];exact .cons r (B3 t)
end
end CW
namespace L2
open PySem PySem.Spec PyProof.Rows
def wJ {X:Cx} (K:PySem.W.Frag) (h:X.K=K):dY X (.type "list") (λxs H Q=>∃ p ys,xs=[.ref p]/\(SqL K H p ys\/SqT K H p ys)/\∀ l,H l=none->Q (.ref l) (upd H l (.lst ys))):=h ▸ eW
end L2
namespace CW
open PySem L2
inductive vP (vs:List V) (H:Hp) (Q:VK) (E_:XK):Prop
 | mk (a:Addr) (ns:List Int) (m:Nat) (h0_:vs=[.ref a,.int m]) (h1_:H a=some (.lst (ns.map V.int))) (h2_:P8 ns) (h3_:m+3<=ns.length) (h4_:m<=60) (h5_:∀ row,Row row->row.length<=m->(∀ x∈row,-15<=x/\x<=15+12 * (m:Int))->kX H Q row):vP vs H Q E_
structure Okd (n:Nat) (d:PyData):Prop where
 lay:d.canLay0=true
 dep:d.depth<=n
 sm:sml d=true
def Okd.mono {n m:Nat} {d:PyData} (h:Okd n d) (z:n<=m):Okd m d:=⟨h.lay,Nat.le_trans h.dep z,h.sm⟩
def Okd.sh {n:Nat} {d:PyData} (h:Okd n d) (z:n<=64):SeqAt.shaped d=true:=by
 unfold SeqAt.shaped;rw[h.lay,Bool.true_and,aEv (Nat.le_trans h.dep z)]
def pY (i:Int):Okd 1 (.int i):=⟨rfl,by simp[PyData.depth],by simp[sml]⟩
def kC {x:Str} (h:nJ x):Okd 1 (.str x):=⟨by simp[PyData.canLay0,yN h],by simp[PyData.depth],by simp[sml]⟩
def B4 {n:Nat}:∀ {ds:List PyData},(∀ d∈ds,Okd n d)->PyData.canLayAll0 ds=true/\PyData.depthAll ds<=n/\lM ds=true
 | [],_=>⟨rfl,by simp[PyData.depthAll],by simp[lM]⟩
 | d :: r,h=>by
  obtain⟨h1,h2,h3⟩:=B4 (ds:=r) λx z=>h x (aEc _ z);obtain⟨B,I,D⟩:=h d aEb;refine⟨by simp[PyData.canLayAll0,B,h1],?_,by simp[lM,D,h3]⟩;simp only[PyData.depthAll];omega
def fB {n:Nat} {ds:List PyData} (z:ds.length<=5000) (h:∀ d∈ds,Okd n d):Okd (n+1) (.list ds):=by
 obtain⟨h1,h2,h3⟩:=B4 h;refine⟨by simp[PyData.canLay0,h1],?_,by simp[sml,z,h3]⟩;simp only[PyData.depth];omega
def nG {n:Nat} {ds:List PyData} (z:ds.length<=5000) (h:∀ d∈ds,Okd n d):Okd (n+1) (.tuple ds):=by
 obtain⟨h1,h2,h3⟩:=B4 h;refine⟨by simp[PyData.canLay0,h1],?_,by simp[sml,z,h3]⟩;simp only[PyData.depth];omega
def M4 (ns:List Int):∀ d∈ns.map PyData.int,Okd 1 d:=λd hd=>by
 obtain⟨i,_,rfl⟩:=aFN.mp hd;exact pY i
def pZ {ns:List Int} (h:ns.length<=5000):Okd 2 (.list (ns.map PyData.int)):=fB (by rw[aE9];exact h) (M4 ns)
def M5 {ns:List Int} (h:ns.length<=5000):Okd 2 (.tuple (ns.map PyData.int)):=nG (by rw[aE9];exact h) (M4 ns)
def aCC:nJ "lay":=by unfold nJ;decide +kernel
def tP:nJ "one":=by unfold nJ;decide +kernel
def B5:nJ "two":=by unfold nJ;decide +kernel
def aBG:nJ "late":=by unfold nJ;decide +kernel
def m6:nJ "build":=by unfold nJ;decide +kernel
def aCD:Txs "one":=⟨tP,by decide +kernel⟩
def aCE:Txs "two":=⟨B5,by decide +kernel⟩
def aCF {o:List Int} {g:Int} (h:o.length<=5000):Okd 3 (Ent.lay o g).data:=by
 refine nG (by decide:3<=5000) λd hd=>?_;rcases aFL.mp hd with e | hd
 .rw[e];exact(kC aCC).mono (by decide)
 .rcases aFL.mp hd with e | hd
  .rw[e];exact M5 h
  .rw[aFF.mp hd];exact(pY g).mono (by decide)
def yS {n:Str} (z:nJ n) {o:List Int} (h:o.length<=5000):Okd 3 (.tuple [.str "build",.str n,.tuple (o.map PyData.int)]):=by
 refine nG (by decide:3<=5000) λd hd=>?_;rcases aFL.mp hd with e | hd
 .rw[e];exact(kC m6).mono (by decide)
 .rcases aFL.mp hd with e | hd
  .rw[e];exact(kC z).mono (by decide)
  .rw[aFF.mp hd];exact M5 h
def vQ {a b c:Int}:Okd 2 (.tuple [.str "late",.str "one",.int a,.int b,.int c]):=by
 refine nG (by decide:5<=5000) λd hd=>?_;rcases aFL.mp hd with e | hd
 .rw[e];exact kC aBG
 .rcases aFL.mp hd with e | hd
  .rw[e];exact kC tP
  .rcases aFL.mp hd with e | hd
   .rw[e];exact pY a
   .rcases aFL.mp hd with e | hd
    .rw[e];exact pY b
    .rw[aFF.mp hd];exact pY c
def B7 {z H:Hp}:∀ {us:List V} {ds:List PyData},Paired (ND z H) us ds->Dens H us ds
 | _,_,.nil=>.nil
 | _,_,.cons ⟨l,ws,ds,e1,e2,_,B,D⟩ t=>by
  subst e1 e2;exact .cons (.lst B D.dens) (B7 t)
section
variable {K:PySem.W.Frag} {G:Hc K}
def HOwn.impN {N N':Addr->Prop} {Hb H H':Hp} {a:Addr} {m:HM} (h:HOwn G N Hb H a m) (g:Same H H') (k:∀ t xs,N t->H t=some (.lst xs)->N' t) (B:∀ t,H' t=none->N' t):HOwn G N' Hb H' a m:=by
 obtain⟨h1,h2,⟨p,q,h3,h4,⟨dx,d,us,ws,D,I,J,L,M,U,Y⟩⟩,h6⟩:=h;have z:∀ t xs,(N t/\t≠p/\t≠q)->H t=some (.lst xs)->(N' t/\t≠p/\t≠q):=λt xs h e=>⟨k t xs h.1 e,h.2⟩;have hh:HouseAt G N' H a p q m:=⟨dx,d,us,ws,D,I,J.imp z,L,Paired.mapP M λ_ _ x=>x.imp z,U,Paired.mapP Y λ_ _ x=>x.imp z⟩;exact⟨h1.trans g,h2,⟨p,q,h3,h4,hh.same g⟩,B⟩
def HOwn.avoid {Hb H H':Hp} {a h0 h1:Addr} {L M:HO} {m:HM} (h:HOwn G NT Hb H a m) (g:Same H H') (U:H h0=none) (Y:H h1=none) (e0:H' h0=some L) (e1:H' h1=some M) :
 ∃ z,HOwn G (λt=>t≠h0/\t≠h1) z H' a m/\Same Hb z/\∀ b o,H b=none->H' b=some o->z b=some o:=by
 have hI:=h.impN (N':=λt=>t≠h0/\t≠h1) g (λt xs _ e=>⟨aM e U,aM e Y⟩) λt ht=>⟨λe=>(by rw[e,e0]at ht;cases ht),λe=>(by rw[e,e1]at ht;cases ht)⟩;obtain⟨y1,y2,⟨B,D,y3,y4,I⟩,y6⟩:=hI;obtain⟨al,h2,⟨p,q,h3,h4,⟨dx,d,us,ws,z0,J,z2,z3,z4,z5,z6⟩⟩,h6⟩:=h;obtain⟨am,d',ao,ap,x0,x1,x2,x3,x4,x5,x6⟩:=id I;have e:=x1.symm.trans (g _ _ J)
 injection e with e
 injection e with _ _ e
 have ep:B=p:=by simp at e;exact e.2.1
 have eq:D=q:=by simp at e;exact e.2.2
 subst ep eq;refine⟨wo [a,B,D] H',⟨tL,iV (by simp),⟨B,D,iV (by simp),iV (by simp),I⟩,y6⟩,X6 y1 λx hx=>?_,λb o e1 e2=>?_⟩
 .rcases aFL.mp hx with e | hx
  .rw[e];exact y2
  .rcases aFL.mp hx with e | hx
   .rw[e];exact y3
   .rw[aFF.mp hx];exact y4
 .rw[rB]
  .exact e2
  .intro hx;rcases aFL.mp hx with e | hx
   .rw[e,J]at e1;cases e1
   .rcases aFL.mp hx with e | hx
    .rw[e,z3]at e1;cases e1
    .rw[aFF.mp hx,z5]at e1;cases e1
def HOwn.updL {N:Addr->Prop} {Hb H:Hp} {a B:Addr} {m:HM} {xs ys:List V} (h:HOwn G N Hb H a m) (D:Hb B=some (.lst xs)) (M:¬ N B):HOwn G N (upd Hb B (.lst ys)) (upd H B (.lst ys)) a m:=by
 obtain⟨h1,h2,⟨p,q,h3,h4,⟨dx,d,us,ws,U,Y,z2,z3,z4,z5,z6⟩⟩,h6⟩:=h;have I:a≠B:=λe=>by rw[e,D]at h2;cases h2
 have J:p≠B:=λe=>by rw[e,D]at h3;cases h3
 have L:q≠B:=λe=>by rw[e,D]at h4;cases h4
 have kp:Kp G (λt=>N t/\t≠p/\t≠q) H (upd H B (.lst ys)):=Kp.refl.updL (h1 _ _ D) λz=>M z.1;refine⟨λb o e=>?_,by rw[aF I];exact h2,⟨p,q,by rw[aF J];exact h3,by rw[aF L];exact h4,⟨dx,d,us,ws,U,by rw[aF I];exact Y,z2.kp kp,by rw[aF J];exact z3,Paired.mapP z4 λ_ _ x=>x.kp kp,by rw[aF L];exact z5,Paired.mapP z6 λ_ _ x=>x.kp kp⟩⟩,λt ht=>h6 t (bM ht)⟩
 by_cases c:b=B
 .subst c;rw[aB]at e ⊢;exact e
 .rw[aF c]at e ⊢;exact h1 _ _ e
variable (G)
structure S46 (N:Addr->Prop) (Hb H:Hp) (x:Addr) (r1 r2:List Int) (e1 e2:List Ent) (n:Nat):Prop where
 ex:∃ m,HOwn G N Hb H x m/\m.std=[(("one":Str),r1,e1),(("two":Str),r2,e2)]/\m.past.length<=n/\m.ahead.length<=1
variable {G}
def aBH:¬ (("one":Str)="two"):=by decide +kernel
def aDz:¬ (("two":Str)="one"):=by decide +kernel
def vR {r1 r2:List Int×List Ent}:cO [(("one":Str),r1),(("two":Str),r2)] "one"=some r1:=jS (s:=(("one":Str),r1)) rfl
def mB {r1 r2:List Int×List Ent}:cO [(("one":Str),r1),(("two":Str),r2)] "two"=some r2:=(gW (s:=(("one":Str),r1)) aBH).trans (jS (s:=(("two":Str),r2)) rfl)
def aCX {r1 r2 r:List Int×List Ent}:dQ "one" r [(("one":Str),r1),(("two":Str),r2)]=[(("one":Str),r),(("two":Str),r2)]:=by
 unfold dQ;rw[if_pos rfl,aEy,if_neg aDz];rfl
def aBI {r1 r2 r:List Int×List Ent}:dQ "two" r [(("one":Str),r1),(("two":Str),r2)]=[(("one":Str),r1),(("two":Str),r)]:=by
 unfold dQ;rw[if_neg aBH];unfold dQ;rw[if_pos rfl];rfl
variable {N:Addr->Prop} {Hb H H':Hp} {x:Addr} {r1 r2:List Int} {e1 e2:List Ent} {n:Nat}
def S46.same (g:Same H H') (h:S46 G N Hb H x r1 r2 e1 e2 n):S46 G N Hb H' x r1 r2 e1 e2 n:=by
 obtain⟨m,h1,h2⟩:=h.ex;exact⟨m,h1.same g,h2⟩
def S46.sm (h:S46 G N Hb H x r1 r2 e1 e2 n):Same Hb H:=by
 obtain⟨m,h1,_⟩:=h.ex;exact h1.1
def S46.ins (h:S46 G N Hb H x r1 r2 e1 e2 n):∃ dx d p q,H x=some (.ins G.Hs dx (fL d p q)):=by
 obtain⟨m,h1,_⟩:=h.ex;exact h1.ins
def aDN {m:HM} {z B:List Int} (hs:m.std=[(("one":Str),r1,e1),(("two":Str),r2,e2)]) (D:Go r1 e1 z) (g2:Go r2 e2 B) (I:m.past.length<=100) (J:m.ahead.length<=100) (L:e1.length<=100) (M:e2.length<=100) (U:z.length<=60) (Y:B.length<=60):VOk m [z,B]:=by
 refine⟨?_,?_,?_,I,J,?_,?_⟩
 .rw[hs];intro s h;rcases aFL.mp h with e | h
  .rw[e];exact vR
  .rw[aFF.mp h];exact mB
 .rw[hs];exact .cons D (.cons g2 .nil)
 .rw[hs];exact(show 2<=8 by decide)
 .rw[hs];intro s h;rcases aFL.mp h with e | h
  .rw[e];exact L
  .rw[aFF.mp h];exact M
 .intro r h;rcases aFL.mp h with e | h
  .rw[e];exact U
  .rw[aFF.mp h];exact Y
def B8 {z:List Int} {Q:VK} {E:XK} (h:S46 G N Hb H x r1 r2 e1 e2 n) (g:Go r1 e1 z) (B:kX H Q z):oG G [.ref x,.str "one"] H Q E:=by
 obtain⟨m,h1,h2,_⟩:=h.ex;exact⟨N,Hb,x,"one",m,r1,_,_,rfl,h1,by rw[h2];exact vR,g,B⟩
def X9 {z:List Int} {Q:VK} {E:XK} (h:S46 G N Hb H x r1 r2 e1 e2 n) (g:Go r2 e2 z) (B:kX H Q z):oG G [.ref x,.str "two"] H Q E:=by
 obtain⟨m,h1,h2,_⟩:=h.ex;exact⟨N,Hb,x,"two",m,r2,_,_,rfl,h1,by rw[h2];exact mB,g,B⟩
def aCG {Q:VK} {E:XK} (h:S46 G N Hb H x r1 r2 e1 e2 n) (z:∀ l us H',H l=none->Same H H'->H' l=some (.lst us)->DTs H' us (e1.map Ent.data)->Q (.ref l) H'):rC G [.ref x,.str "one"] H Q E:=by
 obtain⟨m,h1,h2,_⟩:=h.ex;exact⟨N,Hb,x,"one",m,r1,_,rfl,h1,by rw[h2];exact vR,z⟩
def aCH {z B:List Int} {Q:VK} {E:XK} (h:S46 G N Hb H x r1 r2 e1 e2 n) (D:Go r1 e1 z) (g2:Go r2 e2 B) (I:z.length<=60) (J:B.length<=60) (L:e1.length<=100) (M:e2.length<=100) (Y:n<=50) (U:∀ H',S46 G N Hb H' x r1 r2 e1 e2 n->Same H H'->Q .non H'):jT G [.ref x] H Q E:=by
 obtain⟨m,h1,h2,h3,h4⟩:=id h.ex;exact⟨N,Hb,x,m,_,rfl,h1,aDN h2 D g2 (by omega) (by omega) L M I J,λH' g=>U H' (h.same g) g⟩
def aCI {B z:List Int} {g:Int} {Q:VK} {E:XK} (h:S46 G N Hb H x r1 r2 e1 e2 n) (D:Go r1 e1 B) (g2:Go r2 e2 z) (I:(Ent.lay z g).ok B) (L:e1.length<=100) (M:n<=50) (J:∀ H',S46 G N Hb H' x r1 r2 (e1++[.lay z g]) e2 (n+1)->Q .non H'):cG G "lay" 3 [.ref x,.str "one",.str "two",.int g] H Q E:=by
 obtain⟨m,h1,h2,h3,h4⟩:=h.ex;refine⟨N,Hb,x,_,_,m,_,rfl,rfl,h1,.cons (.str _) (.cons (.str _) (.cons (.int _) .nil)),.lay (by rw[h2];exact vR) D (by rw[h2];exact mB) g2 I (by omega),by omega,λH' h'=>J H' ⟨_,h',?_,?_,Nat.zero_le _⟩⟩
 .show dQ _ _ m.std=_;rw[h2,aCX]
 .show (m.past++_).length<=_;rw[aEi,List.length_singleton];omega
def aCJ {z:List Int} {g:Int} {Q:VK} {E:XK} (h:S46 G N Hb H x r1 r2 e1 e2 n) (g2:Go r2 e2 z) (B:(Ent.lay z g).ok z) (I:e2.length<=100) (J:n<=50) (D:∀ H',S46 G N Hb H' x r1 r2 e1 (e2++[.lay z g]) (n+1)->Q .non H'):cG G "lay" 3 [.ref x,.str "two",.str "two",.int g] H Q E:=by
 obtain⟨m,h1,h2,h3,h4⟩:=h.ex;refine⟨N,Hb,x,_,_,m,_,rfl,rfl,h1,.cons (.str _) (.cons (.str _) (.cons (.int _) .nil)),.lay (by rw[h2];exact mB) g2 (by rw[h2];exact mB) g2 B (by omega),by omega,λH' h'=>D H' ⟨_,h',?_,?_,Nat.zero_le _⟩⟩
 .show dQ _ _ m.std=_;rw[h2,aBI]
 .show (m.past++_).length<=_;rw[aEi,List.length_singleton];omega
def aBJ {B:List Int} {c z:Int} {Q:VK} {E:XK} (h:S46 G N Hb H x r1 r2 e1 e2 n) (g2:Go r2 e2 B) (D:1<=c) (J:e2.length<=100) (L:n<=50) (I:∀ H',S46 G N Hb H' x r1 r2 e1 (e2++[.walk c z]) (n+1)->Q .non H'):cG G "walk" 3 [.ref x,.str "two",.int c,.int z] H Q E:=by
 obtain⟨m,h1,h2,h3,h4⟩:=h.ex;refine aCW (e:=.walk c z) (n:="two") h1 rfl (.cons (.str _) (.cons (.int _) (.cons (.int _) .nil))) rfl rfl (by rw[h2];exact mB) g2 trivial D (by omega) (by omega) λH' h'=>I H' ⟨_,h',?_,?_,Nat.zero_le _⟩
 .show dQ _ _ m.std=_;rw[h2,aBI]
 .show (m.past++_).length<=_;rw[aEi,List.length_singleton];omega
def aBK {z:List Int} {p:Int} {Q:VK} {E:XK} (h:S46 G N Hb H x r1 r2 e1 e2 n) (g2:Go r2 e2 z) (B:p∈z) (I:e2.length<=100) (J:n<=50) (D:∀ H',S46 G N Hb H' x r1 r2 e1 (e2++[.take p]) (n+1)->Q .non H'):cG G "take" 2 [.ref x,.str "two",.int p] H Q E:=by
 obtain⟨m,h1,h2,h3,h4⟩:=h.ex;refine aCW (e:=.take p) (n:="two") h1 rfl (.cons (.str _) (.cons (.int _) .nil)) rfl rfl (by rw[h2];exact mB) g2 trivial B (by omega) (by omega) λH' h'=>D H' ⟨_,h',?_,?_,Nat.zero_le _⟩
 .show dQ _ _ m.std=_;rw[h2,aBI]
 .show (m.past++_).length<=_;rw[aEi,List.length_singleton];omega
def aDO {Q:VK} {E:XK} (h:S46 G N Hb H x r1 r2 e1 e2 n) (J:n<=50) (I:∀ H' m B D z,HOwn G N Hb H' x m->m.past=B++[(D,z)]->m.ahead=[]->z=[(("one":Str),r1,e1),(("two":Str),r2,e2)]->B.length<=n->Q .non H'):cG G "shut" 1 [.ref x,.str "two"] H Q E:=by
 obtain⟨m,h1,h2,h3,h4⟩:=h.ex;refine⟨N,Hb,x,_,_,m,_,rfl,rfl,h1,.cons (.str _) .nil,.shut (n:="two") (by rw[h2];exact mB),by omega,λH' h'=>I H' _ m.past _ m.std h' rfl rfl h2 h3⟩
def aDP {m:HM} {B:List (PyData×Std)} {D:PyData} {z:Std} {Q:VK} {E:XK} (h:HOwn G N Hb H x m) (h1:m.past=B++[(D,z)]) (h2:m.ahead=[]) (h3:z=[(("one":Str),r1,e1),(("two":Str),r2,e2)]) (h4:B.length<=n) (I:∀ v H',S46 G N Hb H' x r1 r2 e1 e2 n->Q v H'):pW G [.ref x] H Q E:=by
 refine⟨N,Hb,x,m,B,D,z,rfl,h,h1,by rw[h2];decide,λv H' _ h'=>I v H' ⟨_,h',h3,h4,?_⟩⟩;show (m.ahead++[_]).length<=1;rw[h2];exact Nat.le_refl _
def aBL {r:List Int} {z:Int} {Q:VK} {E:XK} (h:S46 G N Hb H x r1 r2 e1 e2 n) (I:Go r1 (.walk 2 z :: e1) r) (L:e1.length<=100) (M:n<=50)
 (J:∀ H' m B,HOwn G N Hb H' x m->m.std=[(("one":Str),r1,.walk 2 z :: e1),(("two":Str),r2,e2)]->m.past=B->(∃ D s,B=D++[(.tuple [.str "late",.str "one",.int 0,.int 2,.int z],s)])->B.length<=n+1->m.ahead=[]->Q .non H'):cG G "late" 4 [.ref x,.str "one",.int 0,.int 2,.int z] H Q E:=by
 obtain⟨m,h1,h2,h3,h4⟩:=h.ex;refine S5 (k:=0) (es:=.walk 2 z :: e1) h1 (by rw[h2];exact vR) (Nat.zero_le _) (by decide) rfl I (by rw[aFC];omega) (by omega) λH' h'=>J H' _ _ h' ?_ rfl ⟨m.past,m.std,rfl⟩ ?_ rfl
 .show dQ _ _ m.std=_;rw[h2,aCX]
 .show (m.past++_).length<=_;rw[aEi,List.length_singleton];omega
end
def nR:∀ {a b:List Int},a.Perm b->a.Pairwise (·<=·)->b.Pairwise (·<=·)->a=b
 | [],b,h,_,_=>by rw[h.symm.eq_nil]
 | x :: a,[],h,_,_=>by have:=h.eq_nil;cases this
 | x :: a,y :: b,h,D,I=>by
  have z:=List.pairwise_cons.mp D;have B:=List.pairwise_cons.mp I;have J:x∈y :: b:=h.mem_iff.mp aEb;have L:y∈x :: a:=h.mem_iff.mpr aEb;have e:x=y:=by
   rcases aFL.mp J with q | q
   .exact q
   .rcases aFL.mp L with r | r
    .exact r.symm
    .have h1:=z.1 y r;have h2:=B.1 x q;omega
  subst e;rw[nR (List.perm_cons x |>.mp h) z.2 B.2]
def top (i:Nat):Stmt:=PySem.Challenge.pw_creelway_k46_nothing_handed_in_or_told_i.main.body.getD i (.Pass ⟨0,0,0,0⟩)
section
variable {P:Program} {w:World} {K:PySem.W.Frag} {mg:Str->Option Value} {base:Heap}
abbrev gF:Stmt:=cY (top 48) 0
def rF:aN ["self","entries","rests","course"] ["self","entries","rests","course"] (aI gF):=⟨rfl,rfl,rfl,by decide +kernel,rfl,by decide +kernel,by decide +kernel⟩
def B9 {f:Addr} {fd:FuncData} (G:Hc K) (F:Fun K "__init__" "Road.__init__" gF f fd):FnOk P w K mg base CX0 1 f fd ["self","entries","rests","course"] (kB G):=by
 refine F.ok rF (λvs H Q E h=>?_) (λz A outer s H vs Q E L h=>?_)
 .obtain⟨x,dx,B,D,I,rfl,_⟩:=h;rfl
 .obtain⟨x,dx,B,D,I,rfl,J,k⟩:=h;refine⟨_,(aG (dW (pv 0) (pv 1) rfl)
 (aG (dW (pv 0) (pv 2) rfl)
 (aJ (dW (pv 0) (pv 3) rfl)))),?_⟩
  refine⟨_,rfl,_,rfl,x,_,dx,_,rfl,J,G.rd,G.rEn,(show 0<1000 by decide),?_⟩;refine⟨_,rfl,_,rfl,x,_,dx,_,rfl,aB,G.rd,G.rRe,(show 1<1000 by decide),?_⟩;refine⟨_,rfl,_,rfl,x,_,dx,_,rfl,aB,G.rd,G.rCo,(show 2<1000 by decide),?_⟩;rw[iH,iH];exact k
abbrev fE:Stmt:=cY (top 49) 0
def oH:aN ["self","rested","walks","turned"] ["self","rested","walks","turned"] (aI fE):=⟨rfl,rfl,rfl,by decide +kernel,rfl,by decide +kernel,by decide +kernel⟩
def vS {f:Addr} {fd:FuncData} (G:Hc K) (F:Fun K "__init__" "Course.__init__" fE f fd):FnOk P w K mg base CX0 1 f fd ["self","rested","walks","turned"] (oF G):=by
 refine F.ok oH (λvs H Q E h=>?_) (λz A outer s H vs Q E L h=>?_)
 .obtain⟨x,dx,B,D,I,rfl,_⟩:=h;rfl
 .obtain⟨x,dx,B,D,I,rfl,J,k⟩:=h;refine⟨_,(aG (dW (pv 0) (pv 1) rfl)
 (aG (dW (pv 0) (pv 2) rfl)
 (aJ (dW (pv 0) (pv 3) rfl)))),?_⟩
  refine⟨_,rfl,_,rfl,x,_,dx,_,rfl,J,G.cs,G.cRe,(show 0<1000 by decide),?_⟩;refine⟨_,rfl,_,rfl,x,_,dx,_,rfl,aB,G.cs,G.cWa,(show 1<1000 by decide),?_⟩;refine⟨_,rfl,_,rfl,x,_,dx,_,rfl,aB,G.cs,G.cTu,(show 2<1000 by decide),?_⟩;rw[iH,iH];exact k
abbrev fM:Stmt:=cY (top 79) 0
def qA:aN ["self"] ["self"] (aI fM):=⟨rfl,rfl,rfl,by decide +kernel,rfl,by decide +kernel,by decide +kernel⟩
def wK {f:Addr} {fd:FuncData} (G:Hc K) (F:Fun K "__init__" "House.__init__" fM f fd):FnOk P w K mg base CX0 1 f fd ["self"] (lW G):=by
 refine F.ok qA (λvs H Q E h=>?_) (λal A outer s H vs Q E hr h=>?_)
 .obtain⟨x,dx,rfl,_⟩:=h;rfl
 .obtain⟨x,dx,rfl,M,k⟩:=h;refine⟨_,(aG (dW (pv 0) hZ rfl)
 (aG (dW (pv 0) (cZ aE) rfl)
 (aJ (dW (pv 0) (cZ aE) rfl)))),?_⟩
  refine λd hd=>?_;have nd:x≠d:=aM M hd;have e1:(upd H d (.dK [])) x=some (.ins G.Hs dx []):=by rw[aF nd];exact M
  refine⟨_,rfl,x,_,dx,_,rfl,e1,G.hs,G.hSt,(show 0<1000 by decide),?_⟩;refine⟨(show 0<=sizeLine by decide),λp U=>?_⟩;have Y:x≠p:=aM aB U;have z:=bM U;have I:d≠p:=aM aB z;refine⟨_,rfl,x,_,dx,_,rfl,(aF Y).trans aB,G.hs,G.hPa,(show 1<1000 by decide),?_⟩;refine⟨(show 0<=sizeLine by decide),λq hq=>?_⟩;have nq:x≠q:=aM aB hq;have B:=bM hq;have J:p≠q:=aM aB B;have D:=bM (bM B);have L:d≠q:=aM aB D;refine⟨_,rfl,x,_,dx,_,rfl,(aF nq).trans aB,G.hs,G.hAh,(show 2<1000 by decide),?_⟩;have:=k d p q hd (bM z) (bM D) I L J;rw[k4 nd Y nq];exact this
abbrev oI:Stmt:=top 21
def sL:aN ["row","at"] ["row"] (aI oI):=⟨rfl,rfl,rfl,by decide +kernel,rfl,by decide +kernel,by decide +kernel⟩
def M6 {f:Addr} {fd:FuncData} {tC:Tok} (F:Fun K "look_row" "look_row" oI f fd) (B:Bt mg) (C:Cn mg tC):FnOk P w K mg base CX0 1 f fd ["row"] iR:=by
 refine F.ok sL (λvs H Q E h=>?_) (λcdv A outer s H vs Q E hr h=>?_)
 .obtain⟨a,r,rfl,_⟩:=h;rfl
 .obtain⟨a,row,rfl,ha,⟨hrow,hlen⟩,k⟩:=h;refine⟨_,(aG (cB (bD nL (aO aX (by rfl) B.len PySem.boot_len (aA (pv 0) aE)) (fP (v:=.int 60) rfl C.MOST_STONES ⟨_,rfl⟩) (bF _))
 (aJ cE)
 bG)
 (aJ (dU PassesOwn.never rfl (xI rfl B.range (aA aK (aA (aO aX (by rfl) B.len PySem.boot_len (aA (pv 0) aE)) aE))) (aL (i:=1) sL.nd rfl (Or.inl rfl))
 (aJ (cB (bD p9 (bH zC (pv 0) (pv 1) (λ_ _=>rfl)) (bH zC (pv 0) (aQ gE (pv 1) aK) (λ_ _=>rfl)) (bF _))
 (aJ cE)
 bG))))),?_⟩
  refine⟨_,rfl,a,_,rfl,ha.sq,_,_,rfl,rfl,_,rfl,dM (by rw[aE9];omega) ?_⟩;refine⟨_,rfl,a,_,rfl,ha.sq,_,_,rfl,⟨by decide,by decide,by omega,by rw[aE9];omega⟩,jL (lo:=1) (λi σ H2=>∃ v,σ=[some (.ref a),v]/\H2=H) ⟨none,rfl,rfl⟩ ?_ ?_⟩
  .rintro i σ H2 hi ⟨v,rfl,rfl⟩;rw[aE9]at hi;obtain⟨x,_,hx,ex⟩:=eX (ns:=row) (i:=1+(i:Int)) (by omega) (by omega);obtain⟨y,_,hy,ey⟩:=eX (ns:=row) (i:=1+(i:Int) - 1) (by omega) (by omega);refine⟨_,rfl,_,rfl,ha.ix ex ⟨_,rfl,_,rfl,_,_,rfl,rfl,ha.ix ey ⟨_,_,rfl,rfl,_,rfl,dM ?_ ⟨_,rfl,rfl⟩⟩⟩⟩;have:=hrow.lt (show (1+(i:Int) - 1).toNat<(1+(i:Int)).toNat by omega) hy hx;omega
  .rintro σ H2 ⟨v,rfl,rfl⟩;exact k
abbrev kD:Stmt:=top 22
def M7:aN ["row"] ["row"] (aI kD):=⟨rfl,rfl,rfl,by decide +kernel,rfl,by decide +kernel,by decide +kernel⟩
def M8 {f:Addr} {fd:FuncData} (F:Fun K "mirrored" "mirrored" kD f fd) (B:Bt mg) (F_look_row:aU P w K mg base "look_row" 1 ["row"] uM):FnOk P w K mg base CX0 2 f fd ["row"] hJ:=by
 refine F.ok M7 (λvs H Q E h=>?_) (λcdv A outer s H vs Q E hr h=>?_)
 .obtain⟨a,r,rfl,_⟩:=h;rfl
 .obtain⟨a,row,rfl,ha,hrow,hlen,k⟩:=h;refine⟨_,(aG (aS (aV F_look_row hr rfl (aA (pv 0) aE)))
 (aJ (aY (cT ["place"] [] [] rfl (.of (show cJ (aI kD) _ ["row"] [] []=true by decide +kernel)) (aAA rfl B.reversed (aA (pv 0) aE)) (λ_ _ _=>(aL (i:=0) (show (["place"]:List Str).Nodup by decide +kernel) rfl (Or.inl rfl))) (eG (by decide)) (λ_ _ _=>cK) (λ_ _ _=>(kZ gX (pv 0))))))),?_⟩
  refine⟨_,rfl,a,row,rfl,ha,hrow,hlen,_,rfl,a,_,rfl,SqL.of ha,F3 (xs:=row.map V.int) (λi ys H2=>H2=H/\ys=((row.reverse.take i).map (λz=>-z)).map V.int) ⟨rfl,rfl⟩ ?_ ?_ ?_⟩
  .rintro i ys H2 hi ⟨rfl,rfl⟩;exact⟨SqL.of ha,pD _ _ (by rw[aE9]at hi;omega) _⟩
  .rintro i x ys H2 hi ⟨rfl,rfl⟩;rw[<- List.map_reverse]at hi;obtain⟨z,rfl,hz⟩:=jX hi;exact⟨_,rfl,_,rfl,rfl,pC _ hz⟩
  .rintro ys H2 ⟨rfl,rfl⟩ D hD;refine k D _ hD (Same.upd hD) ?_;rw[aB,aE9,<- List.length_reverse,aEn];rfl
abbrev tQ:Stmt:=top 23
def aBM:aN ["row","by"] ["row","by"] (aI tQ):=⟨rfl,rfl,rfl,by decide +kernel,rfl,by decide +kernel,by decide +kernel⟩
def m7 {f:Addr} {fd:FuncData} (F:Fun K "moved" "moved" tQ f fd) (B:Bt mg) (F_look_row:aU P w K mg base "look_row" 1 ["row"] iR):FnOk P w K mg base CX0 2 f fd ["row","by"] pT:=by
 refine F.ok aBM (λvs H Q E h=>?_) (λcdv A outer s H vs Q E hr h=>?_)
 .obtain⟨a,r,b,rfl,_⟩:=h;rfl
 .obtain⟨a,row,b,rfl,ha,hrw,k⟩:=h;have hlen:=hrw.len;refine⟨_,(aG (aS (aV F_look_row hr rfl (aA (pv 0) aE)))
 (aJ (aY (cT ["place"] ["by"] [1] rfl (.of (show cJ (aI tQ) _ ["row","by"] [1] ["by"]=true by decide +kernel)) (O0 (pv 0)) (λ_ _ _=>(aL (i:=0) (show (["place","by"]:List Str).Nodup by decide +kernel) rfl (Or.inl rfl))) (eG (by decide)) (λ_ _ _=>cK) (λ_ _ _=>(aQ bS (pv 0) (pv 1))))))),?_⟩
  refine⟨_,rfl,a,row,rfl,.inr ha,hrw,_,rfl,a,rfl,⟨_,SqT.of ha⟩,L7 (xs:=row.map V.int) (λi ys H2=>H2=H/\ys=((row.take i).map (λz=>z+b)).map V.int) ⟨rfl,rfl⟩ ?_ ?_ ?_⟩
  .rintro i ys H2 hi ⟨rfl,rfl⟩;exact⟨SqT.of ha,pD _ _ (by rw[aE9]at hi;omega) _⟩
  .rintro i x ys H2 hi ⟨rfl,rfl⟩;obtain⟨z,rfl,hz⟩:=jX hi;exact⟨_,rfl,_,rfl,_,_,rfl,rfl,rfl,pC _ hz⟩
  .rintro ys H2 ⟨rfl,rfl⟩ D hD;refine k D _ hD (Same.upd hD) ?_;rw[aB,aE9,aEn];rfl
abbrev kE:Stmt:=top 25
def wL:aN ["creel"] ["creel"] (aI kE):=⟨rfl,rfl,rfl,by decide +kernel,rfl,by decide +kernel,by decide +kernel⟩
def wM {f:Addr} {fd:FuncData} (F:Fun K "look_creel" "look_creel" kE f fd) (B:Bt mg):FnOk P w K mg base CX0 1 f fd ["creel"] dN:=by
 refine F.ok wL (λvs H Q E h=>?_) (λcdv A outer s H vs Q E hr h=>?_)
 .obtain⟨c,rfl,_⟩:=h;rfl
 .obtain⟨c,rfl,hc,k⟩:=h;refine⟨_,(aJ (cB (bD rR (pv 0) aK (bF _))
 (aJ cE)
 bG)),?_⟩
  exact⟨_,rfl,_,_,rfl,rfl,_,rfl,dM (by omega) k⟩
abbrev kF:Stmt:=top 26
def jC:aN ["walks","creel","count"] ["walks"] (aI kF):=⟨rfl,rfl,rfl,by decide +kernel,rfl,by decide +kernel,by decide +kernel⟩
def wN {f:Addr} {fd:FuncData} (F:Fun K "look_walks" "look_walks" kF f fd) (B:Bt mg) (F_look_creel:aU P w K mg base "look_creel" 1 ["creel"] dN):FnOk P w K mg base CX0 2 f fd ["walks"] tF:=by
 refine F.ok jC (λvs H Q E h=>?_) (λcdv A outer s H vs Q E hr h=>?_)
 .obtain⟨a,r,rfl,_⟩:=h;rfl
 .obtain⟨a,ws,rfl,⟨us,ha,pr⟩,hc,k⟩:=h;refine⟨_,(aJ (dU PassesOwn.never rfl (cI (pv 0)) (fJ rfl (aP (aL (i:=1) jC.nd rfl (Or.inl rfl)) (aP (aL (i:=2) jC.nd rfl (Or.inl rfl)) bV)))
 (aJ (aS (aV F_look_creel hr rfl (aA (pv 1) aE)))))),?_⟩
  refine⟨_,rfl,a,rfl,⟨_,SqL.of ha⟩,eU (K:=K) (a:=a) (xs:=us) (λi σ H2=>∃ v1 v2,σ=[some (.ref a),v1,v2]/\H2=H) ⟨none,none,rfl,rfl⟩ (λi σ H2 _ ⟨_,_,_,e⟩=>by rw[e];exact SqL.of ha) ?_ ?_⟩
  .rintro i x σ H2 hi ⟨v1,v2,rfl,rfl⟩;obtain⟨p,t',hp,rfl,et⟩:=fK pr hi;exact⟨t',_,rfl,SqT.of et,rfl,_,_,rfl,_,_,rfl,rfl,_,rfl,_,rfl,hc p (aEk hp),_,_,rfl,rfl⟩
  .rintro σ H2 ⟨v1,v2,rfl,rfl⟩;exact k
abbrev qB:Stmt:=top 27
def dR:aN ["row","creel","behind","held","niche","place"] ["row","creel"] (aI qB):=⟨rfl,rfl,rfl,by decide +kernel,rfl,by decide +kernel,by decide +kernel⟩
inductive yT (H:Hp) (a:Addr) (l:Addr) (c:Int) (row:List Int) (i:Nat) (σ:St) (H2:Hp):Prop
 | mk (bs:List Int) (h:Nat) (n:Int) (v:Option V) (k0_:σ=[some (.ref a),some (.int c),some (.ref l),some (.int h),some (.int n),v]) (k1_:Same H H2) (k2_:H2 l=some (.lst (bs.map V.int))) (k3_:bs++goM c (row.drop i) h n=dA row c) (k4_:bs.length+h=i):yT H a l c row i σ H2
inductive yU (H:Hp) (a:Addr) (l:Addr) (c:Int) (row:List Int) (i:Nat) (p:Int) (σ:St) (H3:Hp):Prop
 | mk (bs:List Int) (h:Nat) (n:Int) (k0_:σ=[some (.ref a),some (.int c),some (.ref l),some (.int h),some (.int n),some (.int p)]) (k1_:Same H H3) (k2_:H3 l=some (.lst (bs.map V.int))) (k3_:bs++goM c (p :: row.drop (i+1)) h n=dA row c) (k4_:bs.length+h=i):yU H a l c row i p σ H3
inductive yV (H:Hp) (a:Addr) (l:Addr) (c:Int) (row:List Int) (i:Nat) (p:Int) (n:Int) (σ:St) (H4:Hp):Prop
 | mk (bs:List Int) (h:Nat) (k0_:σ=[some (.ref a),some (.int c),some (.ref l),some (.int h),some (.int n),some (.int p)]) (k1_:Same H H4) (k2_:H4 l=some (.lst (bs.map V.int))) (k3_:bs++goM c (row.drop (i+1)) h (p+1)=dA row c) (k4_:bs.length+h=i+1):yV H a l c row i p n σ H4
inductive yW (H:Hp) (a:Addr) (l:Addr) (c:Int) (row:List Int) (i:Nat) (p:Int) (n:Int) (σ:St) (H4:Hp):Prop
 | mk (bs:List Int) (h:Nat) (k0_:σ=[some (.ref a),some (.int c),some (.ref l),some (.int h),some (.int n),some (.int p)]) (k1_:Same H H4) (k2_:H4 l=some (.lst (bs.map V.int))) (k3_:bs++goM c (row.drop (i+1)) h (p+1)=dA row c) (k4_:bs.length+h=i+1):yW H a l c row i p n σ H4
def m8 {f:Addr} {fd:FuncData} (F:Fun K "walked" "walked" qB f fd) (B:Bt mg) (F_look_row:aU P w K mg base "look_row" 1 ["row"] uM) (F_look_creel:aU P w K mg base "look_creel" 1 ["creel"] dN):FnOk P w K mg base CX0 2 f fd ["row","creel"] lO:=by
 refine F.ok dR (λvs H Q E h=>?_) (λcdv A outer s H vs Q E hr h=>?_)
 .obtain⟨a,r,c,rfl,_⟩:=h;rfl
 .obtain⟨a,row,c,rfl,ha,hrow,hlen,hc,k⟩:=h;refine⟨_,(aG (aS (aV F_look_row hr rfl (aA (pv 0) aE)))
 (aG (aS (aV F_look_creel hr rfl (aA (pv 1) aE)))
 (aG (aW (i:=2) dR.nd rfl (Or.inl rfl) (cZ aE))
 (aG (aW (i:=3) dR.nd rfl (Or.inl rfl) aK)
 (aG (aW (i:=4) dR.nd rfl (Or.inr rfl) aK)
 (aG (dU PassesOwn.never rfl (cI (pv 0)) (aL (i:=5) dR.nd rfl (Or.inl rfl))
 (aG (tY PassesOwn.never (PW.pt (aC4 (bD nL (pv 3) aK (bF _)) (aBU (bD rR (pv 4) (pv 5) (bF _)))))
 (aG (aS (iK aFG aFH aFI cF (pv 2) (aA (pv 4) aE)))
 (aG (tX (i:=3) dR.nd rfl (Or.inl rfl) aK o8)
 (aJ (tX (i:=4) dR.nd rfl (Or.inr rfl) aK N7)))))
 (zI (cB (bD rR (pv 3) (pv 1) (bF _))
 (aJ (tX (i:=3) dR.nd rfl (Or.inl rfl) aK N7))
 (aJ (aS (iK aFG aFH aFI cF (pv 2) (aA (pv 5) aE)))))
 (aJ (aW (i:=4) dR.nd rfl (Or.inr rfl) (aQ bS (pv 5) aK))))))
 (aJ (aY (aQ lG (pv 2) (cT ["more"] ["niche"] [4] rfl (.of (show cJ (aI qB) _ ["row","creel","behind","held","niche","place"] [4] ["niche"]=true by decide +kernel)) (jK rfl B.range (aA (pv 3) aE)) (λ_ _ _=>(aL (i:=0) (show (["more","niche"]:List Str).Nodup by decide +kernel) rfl (Or.inl rfl))) (eG (by decide)) (λ_ _ _=>cK) (λ_ _ _=>(aQ bS (pv 1) (pv 0))))))))))))),?_⟩
  refine⟨_,rfl,a,row,rfl,ha,hrow,hlen,_,rfl,c,rfl,hc,by decide,λl hl=>?_⟩;refine⟨_,rfl,a,rfl,⟨_,SqL.of (Same.upd hl _ _ ha)⟩,eU (K:=K) (a:=a) (xs:=row.map V.int) (yT H a l c row)
   ⟨[],0,0,none,rfl,Same.upd hl,aB,rfl,rfl⟩ (λi σ H2 _ z_=>by obtain⟨bs,h,n,v,_,sm,_⟩:=z_;exact SqL.of (sm _ _ ha)) ?_ ?_⟩
  .rintro i x σ H2 hi ⟨bs,h,n,v,rfl,sm,el,eq,hb⟩;have hil:i<row.length:=by
    have:=(aFK.mp hi).1;simpa using this
   obtain⟨p,rfl,hz⟩:=jX hi;have hd:row.drop i=p :: row.drop (i+1):=by
    obtain⟨h1,rfl⟩:=aFK.mp hz;exact List.drop_eq_getElem_cons h1
   rw[hd]at eq;refine E6 (yU H a l c row i p)
    (fun σ _=>match σ with | [_,_,_,some (.int h),_,_]=>h.toNat | _=>0) ⟨bs,h,n,rfl,sm,el,eq,hb⟩ ?_ ?_
   .rintro σ H3 ⟨bs,h,n,rfl,sm3,el3,eq3,hb3⟩;refine⟨_,rfl,_,_,rfl,rfl,_,rfl,qP (λh0=>?_) (λh0=>?_)⟩
    .refine⟨_,rfl,_,rfl,_,_,rfl,rfl,_,rfl,qP (λh1=>?_) (λh1=>?_)⟩
     .obtain⟨h',rfl⟩:∃ h',h=h'+1:=⟨h - 1,by omega⟩;refine⟨_,rfl,.inl ⟨rfl,_,SqL.of el3⟩,_,rfl,l,_,_,rfl,rfl,el3,(by rw[aE9];exact bC (by omega)),?_⟩;refine⟨_,rfl,_,_,rfl,rfl,_,rfl,_,_,rfl,rfl,?_⟩;rw[zK h1]at eq3;refine⟨⟨bs++[n],h',n+1,?_,Same.upd' hl sm3,by rw[aB,aEo];rfl,by rw[List.append_assoc];exact eq3,by simp;omega⟩,?_⟩
      .have e1:((h'+1:Nat):Int) - 1=(h':Int):=by omega
       show [some (V.ref a),some (V.int c),some (V.ref l),some (V.int (((h'+1:Nat):Int) - 1)),some (V.int (n+1)),some (V.int p)]=_;rw[e1]
      .show (((h'+1:Nat):Int) - 1).toNat<((h'+1:Nat):Int).toNat;omega
     .rw[mQ (.inr (by omega))]at eq3;refine⟨yV H a l c row i p n,?_,?_⟩
      .refine⟨_,rfl,_,rfl,_,_,rfl,rfl,_,rfl,qP (λh2=>?_) (λh2=>?_)⟩
       .rw[if_pos h2]at eq3;exact⟨_,rfl,_,_,rfl,rfl,bs,h+1,rfl,sm3,el3,eq3,by omega⟩
       .rw[if_neg h2]at eq3;refine⟨_,rfl,.inl ⟨rfl,_,SqL.of el3⟩,_,rfl,l,_,_,rfl,rfl,el3,(by rw[aE9];exact bC (by omega)),?_⟩;exact⟨bs++[p],h,rfl,Same.upd' hl sm3,by rw[aB,aEo];rfl,by rw[List.append_assoc];exact eq3,by simp;omega⟩
      .rintro σ H4 ⟨bs,h,rfl,sm4,el4,eq4,hb4⟩;exact⟨_,rfl,_,_,rfl,rfl,bs,h,p+1,_,rfl,sm4,el4,eq4,hb4⟩
    .have h00:h=0:=by omega
     rw[mQ (.inl h00)]at eq3;refine⟨yW H a l c row i p n,?_,?_⟩
     .refine⟨_,rfl,_,rfl,_,_,rfl,rfl,_,rfl,qP (λh2=>?_) (λh2=>?_)⟩
      .rw[if_pos h2]at eq3;exact⟨_,rfl,_,_,rfl,rfl,bs,h+1,rfl,sm3,el3,eq3,by omega⟩
      .rw[if_neg h2]at eq3;refine⟨_,rfl,.inl ⟨rfl,_,SqL.of el3⟩,_,rfl,l,_,_,rfl,rfl,el3,(by rw[aE9];exact bC (by omega)),?_⟩;exact⟨bs++[p],h,rfl,Same.upd' hl sm3,by rw[aB,aEo];rfl,by rw[List.append_assoc];exact eq3,by simp;omega⟩
     .rintro σ H4 ⟨bs,h,rfl,sm4,el4,eq4,hb4⟩;exact⟨_,rfl,_,_,rfl,rfl,bs,h,p+1,_,rfl,sm4,el4,eq4,hb4⟩
   .intro σ H3 Q1 Q2 hq h;obtain⟨x,e,i1,j1,e1,e2,b1,e3,h⟩:=h;refine⟨x,e,i1,j1,e1,e2,b1,e3,?_⟩;cases b1 with
    | false=>exact hq _ _ h
    | true =>
     obtain⟨x,e,y,e',i2,j2,e4,e5,b2,e6,h⟩:=h;exact⟨x,e,y,e',i2,j2,e4,e5,b2,e6,hq _ _ h⟩
  .rintro σ H2 ⟨bs,h,n,v,rfl,sm,el,eq,hb⟩;rw[aE9]at eq hb;rw[List.drop_length]at eq;refine⟨_,rfl,_,rfl,_,rfl,by omega,by omega,nY (lo:=0) (n:=h) (λi ys H3=>H3=H2/\ys=((List.range i).map (λ(k:Nat)=>n+(k:Int))).map V.int) ⟨rfl,rfl⟩ ?_ ?_ ?_⟩
   .rintro i ys H3 hi ⟨rfl,rfl⟩;simp only[aE9,List.length_range];exact bC (by omega)
   .rintro i ys H3 hi ⟨rfl,rfl⟩;refine⟨_,rfl,_,rfl,_,_,rfl,rfl,rfl,?_⟩;rw[List.range_succ,aEo,aEo];simp
   .rintro ys H3 ⟨rfl,rfl⟩ D hD;have smD:=Same.upd (o:=.lst (((List.range h).map (λ(k:Nat)=>n+(k:Int))).map V.int)) hD;refine⟨l,D,_,_,rfl,rfl,smD _ _ el,aB,?_,λq hq=>?_⟩
    .simp only[aE9,List.length_range];exact dJ (by omega)
    .rw[<- aEo];have smH:=sm.trans smD;refine k q _ (smH.free hq) (Same.upd' (smH.free hq) smH) ?_;rw[aB,<- eq];rfl
abbrev jD:Stmt:=top 28
def vT:aN ["row","creel"] ["row","creel"] (aI jD):=⟨rfl,rfl,rfl,by decide +kernel,rfl,by decide +kernel,by decide +kernel⟩
def vU {f:Addr} {fd:FuncData} (F:Fun K "walked_back" "walked_back" jD f fd) (B:Bt mg) (z:aU P w K mg base "mirrored" 2 ["row"] hJ) (D:aU P w K mg base "walked" 2 ["row","creel"] lO):FnOk P w K mg base CX0 3 f fd ["row","creel"] zO:=by
 refine F.ok vT (λvs H Q E h=>?_) (λY A outer s H vs Q E J h=>?_)
 .obtain⟨a,r,c,rfl,_⟩:=h;rfl
 .obtain⟨a,row,c,rfl,ha,I,hlen,hc,k⟩:=h;refine⟨_,(aJ (aY (aV z J rfl (aA (aV D J rfl (aA (aV z J rfl (aA (pv 0) aE)) (aA (pv 1) aE))) aE)))),?_⟩;refine⟨_,rfl,a,row,rfl,ha,I,hlen,λq1 H1 al M e1=>?_⟩;refine⟨_,rfl,q1,fI row,c,rfl,e1,hW I,by rw[lN];exact hlen,hc,λq2 H2 am U e2=>?_⟩;refine⟨q2,_,rfl,e2,qS (hW I),by rw[qQ,lN];exact hlen,λq3 H3 L s3 e3=>?_⟩;exact k q3 H3 ((M.trans U).free L) ((M.trans U).trans s3) e3
abbrev fT:Stmt:=top 30
def fF:aN ["trains","at","size","offset"] ["trains"] (aI fT):=⟨rfl,rfl,rfl,by decide +kernel,rfl,by decide +kernel,by decide +kernel⟩
def vV {f:Addr} {fd:FuncData} {tC:Tok} (F:Fun K "look_trains" "look_trains" fT f fd) (B:Bt mg) (C:Cn mg tC):FnOk P w K mg base CX0 1 f fd ["trains"] pF:=by
 refine F.ok fF (λvs H Q E h=>?_) (λcdv A outer s H vs Q E hr h=>?_)
 .obtain⟨a,r,rfl,_⟩:=h;rfl
 .obtain⟨a,ps,rfl,⟨us,ha,pr⟩,ht,k⟩:=h;have hul:us.length<=60:=by rw[pr.len];exact ht.len
  refine⟨_,(aG (dU PassesOwn.never rfl (aBa rfl B.enumerate (aA (pv 0) aE)) (fJ rfl (aP (aL (i:=1) fF.nd rfl (Or.inl rfl)) (aP (fJ rfl (aP (aL (i:=2) fF.nd rfl (Or.inl rfl)) (aP (aL (i:=3) fF.nd rfl (Or.inl rfl)) bV))) bV)))
 (aJ (cB (bD rR (pv 2) aK (bF _))
 (aJ cE)
 bG)))
 (aJ (cB (bD nL (aO (lJ rfl) (by rfl) B.sum lI (aA (cT ["size","offset"] [] [] rfl (.of (show cJ (aI fT) _ ["trains","at","size","offset"] [] []=true by decide +kernel)) (cI (pv 0)) (λ_ _ _=>(fR (n:=2) K rfl rfl (aP (aL (i:=0) (show (["size","offset"]:List Str).Nodup by decide +kernel) rfl (Or.inl rfl)) (aP (aL (i:=1) (show (["size","offset"]:List Str).Nodup by decide +kernel) rfl (Or.inl rfl)) bV)))) (jB (bU (by decide) (bU (by decide) fQ))) (λ_ _ _=>cK) (λ_ _ _=>(pv 0))) aE)) (fP (v:=.int 60) rfl C.MOST_STONES ⟨_,rfl⟩) (bF _))
 (aJ cE)
 bG))),?_⟩
  refine⟨_,rfl,a,_,rfl,SqL.of ha,aAC (K:=K) (a:=a) (xs:=us) (λi σ H2=>∃ v1 v2 v3,σ=[some (.ref a),v1,v2,v3]/\Same H H2) ⟨none,none,none,rfl,Same.refl _⟩ (λi σ H2 _ ⟨_,_,_,_,sm⟩=>SqL.of (sm _ _ ha)) ?_ ?_⟩
  .rintro i x σ H2 t hi ⟨v1,v2,v3,rfl,sm⟩ hn;obtain⟨p,t',hp,rfl,et⟩:=fK pr hi;have sm2:Same H (upd H2 t (.tup [.int i,.ref t'])):=sm.trans (Same.upd hn);have e1:=sm2 _ _ et;refine⟨t,_,rfl,SqT.of aB,rfl,_,_,rfl,_,_,rfl,⟨t',_,rfl,SqT.of e1,rfl,_,_,rfl,_,_,rfl,rfl,rfl,?_⟩⟩;have:=ht.pos p (aEk hp);exact⟨_,rfl,_,_,rfl,rfl,_,rfl,dM (by omega) ⟨_,_,_,rfl,sm2⟩⟩
  .rintro σ H2 ⟨v1,v2,v3,rfl,sm⟩;refine⟨_,rfl,a,rfl,⟨_,SqL.of (sm _ _ ha)⟩,eN (K:=K) (a:=a) (xs:=us) (λi ys H3=>H3=H2/\ys=((ps.take i).map (·.1)).map V.int) ⟨rfl,rfl⟩ ?_ ?_ ?_⟩
   .rintro i ys H3 hi ⟨rfl,rfl⟩;exact⟨SqL.of (sm _ _ ha),pD _ _ (by omega) _⟩
   .rintro i x ys H3 hi ⟨rfl,rfl⟩;obtain⟨p,t',hp,rfl,et⟩:=fK pr hi;exact⟨t',_,rfl,SqT.of (sm _ _ et),rfl,_,_,rfl,_,_,rfl,rfl,_,rfl,rfl,uP (·.1) hp⟩
   .rintro ys H3 ⟨rfl,rfl⟩ D hD;have e:us.length=ps.length:=pr.len;refine⟨D,szs ps,rfl,by rw[aB,e,aEn];rfl,_,_,rfl,rfl,_,rfl,dM ?_ (k _ (sm.trans (Same.upd hD)))⟩;have:=ht.few;omega
abbrev rG:Stmt:=top 31
def kG:aN ["trains","offsets","size","offset"] ["trains"] (aI rG):=⟨rfl,rfl,rfl,by decide +kernel,rfl,by decide +kernel,by decide +kernel⟩
inductive vW (H:Hp) (a:Addr) (d:Addr) (l:Addr) (us':List V) (qs:Trs) (i:Nat) (σ:St) (H3:Hp):Prop
 | mk (gs:List Grp) (v1 v2:Option V) (k0_:σ=[some (.ref a),some (.ref d),v1,v2]) (k1_:Same H H3) (k2_:H3 l=some (.lst us')) (k3_:Prs H3 us' qs) (k4_:DG H3 d gs) (k5_:(∀ g∈gs,H g.2.1=none/\g.2.1≠l/\g.2.1≠d)) (k6_:((bL gs).Perm (qs.take i)/\Asc gs)) (k7_:gs.length<=i) (k8_:∀ g∈gs,g.2.2.length<=i/\g.2.2≠[]):vW H a d l us' qs i σ H3
def T4 {f:Addr} {fd:FuncData} (F:Fun K "by_size" "by_size" rG f fd) (B:Bt mg):FnOk P w K mg base CX0 1 f fd ["trains"] mW:=by
 refine F.ok kG (λvs H Q E h=>?_) (λci A outer s H vs Q E hr h=>?_)
 .obtain⟨a,r,rfl,_⟩:=h;rfl
 .obtain⟨a,ps,rfl,⟨us,ha,pr⟩,hpl,k⟩:=h;refine⟨_,(aG (aW (i:=1) kG.nd rfl (Or.inl rfl) hZ)
 (aG (dU PassesOwn.never rfl (cI (aO pG (by rfl) B.sorted eO (aA (pv 0) aE))) (fJ rfl (aP (aL (i:=2) kG.nd rfl (Or.inl rfl)) (aP (aL (i:=3) kG.nd rfl (Or.inl rfl)) bV)))
 (aJ (aS (iK aFG aFH aFI cF (W0 (pv 1) (pv 2) (cZ aE) ⟨rfl,rfl,rfl,rfl⟩) (aA (pv 3) aE)))))
 (aJ (aY (pv 1))))),?_⟩
  refine λd hd=>?_;have g1:=Same.upd (o:=.dK []) hd;have ed:(upd H d (.dK [])) d=some (.dK (kvG [])):=aB;generalize upd H d (.dK [])=H1 at g1 ed ⊢;refine⟨_,rfl,a,us,ps,rfl,g1 _ _ ha,pr.mono (TupS.same g1),by omega,λl J qs hl b_ al ax=>?_⟩;have g2:=Same.upd (o:=.lst J) hl;have el:(upd H1 l (.lst J)) l=some (.lst J):=aB;have ay:=b_.mono (TupS.same g2);have az:=g2 _ _ ed;generalize upd H1 l (.lst J)=H2 at g2 el ay az ⊢;have eu:J.length=ps.length:=by rw[ay.len,al.length_eq]
  have ca:l≠d:=bO el az (by intro z;cases z);have cb:=g1.trans g2;have cj:H l=none:=g1.free hl;refine⟨l,rfl,⟨_,SqL.of el⟩,eU (K:=K) (a:=l) (xs:=J) (vW H a d l J qs)
   ⟨[],none,none,rfl,cb,el,ay,⟨az,λg D=>(nomatch D),List.Pairwise.nil,List.Pairwise.nil⟩,λg D=>(nomatch D),⟨.refl _,λg D=>(nomatch D)⟩,Nat.le_refl _,λg D=>(nomatch D)⟩ (λi σ H3 _ z_=>by obtain⟨_,_,_,_,_,e,_⟩:=z_;exact SqL.of e) ?_ ?_⟩
  .rintro i x σ H3 hi ⟨gs,v1,v2,rfl,sm,a_,au,L,U,⟨hw,av⟩,ce,am⟩;obtain⟨p,t',hp,rfl,et⟩:=fK au hi;have aw:∀ q∈bL gs,q.1=p.1->q.2<=p.2:=λq hq e=>by
    obtain⟨k',bi,bj⟩:=List.mem_iff_getElem.mp (hw.mem_iff.mp hq);have cf:k'<i:=by rw[aEp]at bi;omega
    have cg:k'<qs.length:=by rw[aEp]at bi;omega
    have bm:=(aFK.mp hp);have h3:=List.pairwise_iff_getElem.mp ax k' i cg bm.1 cf;rw[bm.2]at h3;rw[List.getElem_take]at bj;rw[bj]at h3;unfold ple at h3;omega
   have bo:∀ l:Trs,l.Perm (p :: bL gs)->l.Perm (qs.take (i+1)):=λl hl=>by
    rw[aFE,hp];refine hl.trans ((hw.cons p).trans ?_);exact(List.perm_append_comm (l₁:=qs.take i) (l₂:=[p])).symm
   have ck:i<J.length:=(aFK.mp hi).1;refine⟨t',_,rfl,SqT.of et,rfl,_,_,rfl,_,_,rfl,rfl,_,rfl,d,rfl,.inl ⟨_,.inl L.at_⟩,_,rfl,by decide,λz hz=>?_⟩;have g4:=Same.upd (o:=.lst []) hz;have ez:(upd H3 z (.lst [])) z=some (.lst []):=aB;have bq:H z=none:=sm.free hz;have br:z≠l:=λe=>by rw[e,a_]at hz;cases hz
   have ba:z≠d:=λe=>by rw[e,L.at_]at hz;cases hz
   generalize upd H3 z (.lst [])=H4 at g4 ez ⊢;have bt:=sm.trans g4;have bu:=g4 _ _ a_;have bv:=au.mono (TupS.same g4);have ao:∀ g∈gs,H4 g.2.1=some (.lst (g.2.2.map V.int)):=λg D=>g4 _ _ (L.lst g D);have nz:∀ g∈gs,g.2.1≠z:=λg D e=>by have:=L.lst g D;rw[e,hz]at this;cases this
   refine⟨kvG gs,Sum.inl p.1,g4 _ _ L.at_,rfl,by simp only[kvG,aE9];exact bC (by omega),λv hv=>?_,λhv=>?_⟩
   .-- the size is there
    rw[eY]at hv;obtain⟨g,D,rfl⟩:=aFJ.mp hv;have Y:=List.mem_of_find?_eq_some D;have bb:g.1=p.1:=by simpa using List.find?_some D
    have eg:=ao g Y;have bc:=U g Y;refine⟨.inl ⟨rfl,_,SqL.of eg⟩,_,rfl,g.2.1,_,_,rfl,rfl,eg,(by rw[aE9];exact bC (by have:=(am g Y).1;omega)),?_⟩;have ap:∀ g'∈eR p.1 p.2 gs,∃ I∈gs,g'.2.1=I.2.1/\g'.1=I.1/\(g'.2.2=if I.1=p.1 then I.2.2++[p.2]else I.2.2):=λg' M=>by
     obtain⟨I,h0,rfl⟩:=aFN.mp M;refine⟨I,h0,?_⟩
     by_cases hk:I.1=p.1
     .rw[if_pos hk,if_pos hk];exact⟨rfl,rfl,rfl⟩
     .rw[if_neg hk,if_neg hk];exact⟨rfl,rfl,rfl⟩
    have aq:uY H4 p.1 p.2 gs (eR p.1 p.2 gs):=.inl ⟨⟨g,Y,bb⟩,rfl⟩;have uniq:∀ I∈gs,I.2.1=g.2.1->I=g:=λI h0 e=>cM (f:=λg:Grp=>g.2.1) L.adr h0 Y e;refine⟨eR p.1 p.2 gs,_,_,rfl,Same.upd' bc.1 bt,by rw[aF (Ne.symm bc.2.1)];exact bu,bv.mono (TupS.lst eg),⟨by rw[J9,aF (Ne.symm bc.2.2)];exact g4 _ _ L.at_,λg' M=>?_,by rw[K0];exact L.adr,by rw[K1];exact L.key⟩,λg' M=>?_,⟨bo _ (gT L.key aq),av.puts aq aw⟩,by rw[aA4];omega,λg' M=>?_⟩
    .obtain⟨I,h0,e1,e2,e3⟩:=ap g' M;rw[e1]
     by_cases ar:I.2.1=g.2.1
     .have:=uniq I h0 ar;subst this;rw[aB,e3,if_pos bb,aEo];rfl
     .have hk:I.1≠p.1:=λe=>ar (by rw[cM (f:=λg:Grp=>g.1) L.key h0 Y (e.trans bb.symm)]);rw[aF ar,e3,if_neg hk];exact ao I h0
    .obtain⟨I,h0,e1,_,_⟩:=ap g' M;rw[e1];exact U I h0
    .obtain⟨I,h0,_,_,e3⟩:=ap g' M;have:=am I h0;rw[e3];split
     .exact⟨by rw[aEi,List.length_singleton];omega,by simp⟩
     .exact⟨by omega,this.2⟩
   .-- the size is new
    rw[eY]at hv;have bw:∀ g∈gs,g.1≠p.1:=λg D e=>by
     have:=List.find?_eq_none.mp (Option.map_eq_none_iff.mp hv) g D;exact this (by simpa using e)
    have aq:uY H3 p.1 p.2 gs (gs++[(p.1,z,[p.2])]):=.inr ⟨bw,z,hz,rfl⟩;rw[J1 (V.ref z) (by rw[eY];exact hv)];have bx:(upd H4 d (.dK (kvG gs++[((Sum.inl p.1:Key),V.ref z)]))) z=some (.lst []):=by rw[aF ba];exact ez
    refine⟨.inl ⟨rfl,_,SqL.of bx⟩,_,rfl,z,_,_,rfl,rfl,bx,(show 0<sizeLine by decide),?_⟩;have bf:∀ b o,b≠d->b≠z->H4 b=some o->(upd (upd H4 d (.dK (kvG gs++[((Sum.inl p.1:Key),V.ref z)]))) z (.lst ([]++[V.int p.2]))) b=some o:=λb o n1 n2 e=>by rw[aF n2,aF n1];exact e
    refine⟨gs++[(p.1,z,[p.2])],_,_,rfl,Same.upd' bq (Same.upd' hd bt),bf _ _ ca (Ne.symm br) bu,bv.mono (λt xs e=>bf _ _ (bO e (g4 _ _ L.at_) (by intro z;cases z)) (bO e ez (by intro z;cases z)) e),⟨?_,λg D=>?_,?_,?_⟩,λg D=>?_,⟨bo _ (gT L.key aq),av.puts aq aw⟩,by rw[aEi,List.length_singleton];omega,λg D=>?_⟩
    .rw[aF (Ne.symm ba),aB];unfold kvG;rw[aEo];rfl
    .rcases aFM.mp D with h | h
     .exact bf _ _ (U g h).2.2 (nz g h) (ao g h)
     .rw[aFF.mp h];exact aB
    .rw[aEo,List.nodup_append];refine⟨L.adr,by simp,λx hx y hy=>?_⟩;obtain⟨g,D,rfl⟩:=aFN.mp hx;have bg:y=z:=by simpa using hy
     rw[bg];exact nz g D
    .rw[aEo,List.nodup_append];refine⟨L.key,by simp,λx hx y hy=>?_⟩;obtain⟨g,D,rfl⟩:=aFN.mp hx;have bg:y=p.1:=by simpa using hy
     rw[bg];exact bw g D
    .rcases aFM.mp D with h | h
     .exact U g h
     .rw[aFF.mp h];exact⟨bq,br,ba⟩
    .rcases aFM.mp D with h | h
     .have:=am g h;exact⟨by omega,this.2⟩
     .rw[aFF.mp h];exact⟨by show 1<=i+1;omega,by simp⟩
  .rintro σ H3 ⟨gs,v1,v2,rfl,sm,a_,au,L,U,⟨hw,av⟩,ce,am⟩;refine⟨_,rfl,k d gs H3 hd sm L ?_ av λg D=>⟨(am g D).2,(U g D).1⟩⟩;rw[show J.length=qs.length from au.len,aEn]at hw;exact hw.trans al
abbrev tR:Stmt:=top 32
def aBN:aN ["offsets","size"] ["offsets","size"] (aI tR):=⟨rfl,rfl,rfl,by decide +kernel,rfl,by decide +kernel,by decide +kernel⟩
def aBO {f:Addr} {fd:FuncData} (F:Fun K "crowd" "crowd" tR f fd) (B:Bt mg):FnOk P w K mg base CX0 1 f fd ["offsets","size"] pP:=by
 refine F.ok aBN (λvs H Q E h=>?_) (λao A outer s H vs Q E hr h=>?_)
 .obtain⟨d,r,j,rfl,_⟩:=h;rfl
 .obtain⟨d,gs,j,rfl,L,hl,M,k⟩:=h;refine⟨_,(aJ (aY (aQ jA aK (aO (lJ rfl) (by rfl) B.sum lI (aA (pJ (cT ["other","some"] ["size"] [1] rfl (.of (show cJ (aI tR) _ ["offsets","size"] [1] ["size"]=true by decide +kernel)) (lR (pv 0)) (λ_ _ _=>(fR (n:=2) K rfl rfl (aP (aL (i:=0) (show (["other","some","size"]:List Str).Nodup by decide +kernel) rfl (Or.inl rfl)) (aP (aL (i:=1) (show (["other","some","size"]:List Str).Nodup by decide +kernel) rfl (Or.inl rfl)) bV)))) (jB (bU (by decide) (bU (by decide) fQ))) (λ_ _ _=>cK) (λ_ _ _=>(aQ jA (aO (qL rfl) (by rfl) B.min uE (aA (pv 2) (aA (pv 0) aE))) (aO (nO K rfl) (by rfl) B.len PySem.boot_len (aA (pv 1) aE)))))) aE))))),?_⟩;refine⟨d,kvG gs,L.at_,_,rfl,d,kvG gs,rfl,L.at_,λod=>?_⟩;have gd:SameD d H (upd H d (.frz od (.dK (kvG gs)))):=λb o n e=>by rw[aF n];exact e
  have ed:(upd H d (.frz od (.dK (kvG gs)))) d=some (.frz od (.dK (kvG gs))):=aB;have I:∀ g∈gs,(upd H d (.frz od (.dK (kvG gs)))) g.2.1=some (.lst (g.2.2.map V.int)):=λg U=>gd _ _ (bO (L.lst g U) L.at_ (by intro z;cases z)) (L.lst g U);generalize upd H d (.frz od (.dK (kvG gs)))=H1 at gd ed I ⊢;have al:(kvG gs).length=gs.length:=by simp[kvG]
  refine oB (d:=d) (od:=od) (kvs:=kvG gs) (λi ys H2=>Same H1 H2/\ys=((gs.take i).map (λg:Grp=>gM j g.1 * (g.2.2.length:Int))).map V.int) ⟨Same.refl _,rfl⟩ ?_ ?_ ?_
  .rintro i ys H2 hi ⟨g2,rfl⟩;exact⟨g2 _ _ ed,by simp only[aE9,aEp];exact bC (by omega)⟩
  .rintro i ky x ys H2 t hx ⟨g2,rfl⟩ ht;obtain⟨g,U,am⟩:∃ g,gs[i]?=some g/\((Sum.inl g.1:Key),V.ref g.2.1)=(ky,x):=by
    unfold kvG at hx;rw[aEx]at hx;obtain⟨g,h1,h2⟩:=aFJ.mp hx;exact⟨g,h1,h2⟩
   cases am;have J:=aEk U;have g3:=g2.trans (Same.upd (o:=.tup [kV (Sum.inl g.1),V.ref g.2.1]) ht);refine⟨t,_,rfl,SqT.of aB,rfl,_,_,rfl,_,_,rfl,rfl,_,rfl,_,rfl,_,_,rfl,_,rfl,g.2.1,_,rfl,.inl (SqL.of (g3 _ _ (I g J))),_,_,rfl,rfl,.inr ⟨?_,?_⟩,g3,?_⟩
   .have:=M g J;rw[aE9];omega
   .have:=M g J;rw[aE9];omega
   .rw[aFE,U];simp[gM]
  .rintro ys H2 ⟨g2,rfl⟩ D hD;have Y:D≠d:=λz=>by rw[z,g2 _ _ ed]at hD;cases hD
   refine⟨od,by rw[aF (Ne.symm Y)];exact g2 _ _ ed,D,gs.map (λg:Grp=>gM j g.1 * (g.2.2.length:Int)),rfl,by rw[aF Y,aB,al,aEn],_,_,rfl,rfl,.inl ⟨by decide,by decide⟩,k _ λb o e=>?_⟩
   by_cases hb:b=d
   .subst hb;rw[aB,<- L.at_];exact e
   .rw[aF hb];exact(g2.trans (Same.upd hD)) _ _ (gd b o hb e)
abbrev qC:Stmt:=top 33
def dS:aN ["offsets","found","longer","total","below","size"] ["offsets"] (aI qC):=⟨rfl,rfl,rfl,by decide +kernel,rfl,by decide +kernel,by decide +kernel⟩
inductive yX (H:Hp) (d:Addr) (e:Addr) (l:Addr) (gs:List Grp) (ms:List Int) (i:Nat) (σ:St) (H6:Hp):Prop
 | mk (kvs:List (Key×V)) (b:Int) (v:Option V) (k0_:σ=[some (.ref d),some (.ref e),some (.int (lng b gs)),some (.int (2 * wgt (gM b) gs)),some (.int b),v]) (k1_:Same H H6) (k2_:H6 l=some (.lst (ms.map V.int))) (k3_:H6 e=some (.dK kvs)) (k4_:kvs.length<=i) (k5_:(∀ g∈gs,b<g.1->g.1∈ms.drop i)) (k6_:(∀ m∈ms.drop i,b<m)) (k7_:∀ m∈ms.take i,dE kvs (Sum.inl m:Key)=some (.int (2 * wgt (gM m) gs))):yX H d e l gs ms i σ H6
def m9 {f:Addr} {fd:FuncData} (F:Fun K "crowds" "crowds" qC f fd) (B:Bt mg):FnOk P w K mg base CX0 1 f fd ["offsets"] jQ:=by
 refine F.ok dS (λvs H Q E h=>?_) (λce A outer s H vs Q E hr h=>?_)
 .obtain⟨d,gs,rfl,_⟩:=h;rfl
 .obtain⟨d,gs,rfl,L,aw,hl,bo,k⟩:=h;have ay:=oW hr;refine⟨_,(aG (aW (i:=1) dS.nd rfl (Or.inl rfl) hZ)
 (aG (aW (i:=2) dS.nd rfl (Or.inl rfl) (aO (lJ rfl) (by rfl) B.sum lI (aA (pJ (cT ["some"] [] [] rfl (.of (show cJ (aI qC) _ ["offsets","found","longer","total","below","size"] [] []=true by decide +kernel)) (xZ (pv 0)) (λ_ _ _=>(aL (i:=0) (show (["some"]:List Str).Nodup by decide +kernel) rfl (Or.inl rfl))) (eG (by decide)) (λ_ _ _=>cK) (λ_ _ _=>(aO (nO K rfl) (by rfl) B.len PySem.boot_len (aA (pv 0) aE))))) aE)))
 (aG (aW (i:=3) dS.nd rfl (Or.inl rfl) aK)
 (aG (aW (i:=4) dS.nd rfl (Or.inl rfl) aK)
 (aG (dU PassesOwn.never rfl (cI (aO (pK rfl) (by rfl) B.sorted eO (aA (pv 0) aE))) (aL (i:=5) dS.nd rfl (Or.inl rfl))
 (aG (tX (i:=3) dS.nd rfl (Or.inl rfl) (aQ jA (aQ jA aK (pv 2)) (aQ gE (pv 5) (pv 4))) N7)
 (aG (zQ ay (pv 1) (pv 5) (pv 3) rfl)
 (aG (tX (i:=2) dS.nd rfl (Or.inl rfl) (aO aX (by rfl) B.len PySem.boot_len (aA (jY ay (pv 0) (pv 5) (λ_ _=>rfl)) aE)) o8)
 (aJ (aW (i:=4) dS.nd rfl (Or.inl rfl) (pv 5)))))))
 (aJ (aY (pv 1)))))))),?_⟩
  refine λe he=>?_;have g1:=Same.upd (o:=.dK []) he;have ee:(upd H e (.dK [])) e=some (.dK []):=aB;have bq:e≠d:=λz=>by rw[z,L.at_]at he;cases he
  generalize upd H e (.dK [])=H1 at g1 ee ⊢;have J:DG H1 d gs:=⟨g1 _ _ L.at_,λg I=>g1 _ _ (L.lst g I),L.adr,L.key⟩;refine⟨d,kvG gs,J.at_,_,rfl,d,kvG gs,rfl,J.at_,λod=>?_⟩;have gd:SameD d H1 (upd H1 d (.frz od (.dK (kvG gs)))):=λb o n e=>by rw[aF n];exact e
  have ed:(upd H1 d (.frz od (.dK (kvG gs)))) d=some (.frz od (.dK (kvG gs))):=aB;have au:∀ g∈gs,(upd H1 d (.frz od (.dK (kvG gs)))) g.2.1=some (.lst (g.2.2.map V.int)):=λg I=>gd _ _ (bO (J.lst g I) J.at_ (by intro z;cases z)) (J.lst g I);generalize upd H1 d (.frz od (.dK (kvG gs)))=H2 at gd ed au ⊢;have br:(kvG gs).length=gs.length:=by simp[kvG]
  refine sD (d:=d) (od:=od) (kvs:=kvG gs) (λi ys H3=>H3=H2/\ys=((gs.take i).map (λg:Grp=>(g.2.2.length:Int))).map V.int) ⟨rfl,rfl⟩ ?_ ?_ ?_
  .rintro i ys H3 hi ⟨rfl,rfl⟩;exact⟨ed,by simp only[aE9,aEp];exact bC (by omega)⟩
  .rintro i ky x ys H3 hx ⟨rfl,rfl⟩;obtain⟨g,I,bt⟩:∃ g,gs[i]?=some g/\((Sum.inl g.1:Key),V.ref g.2.1)=(ky,x):=by
    unfold kvG at hx;rw[aEx]at hx;obtain⟨g,h1,h2⟩:=aFJ.mp hx;exact⟨g,h1,h2⟩
   cases bt;have U:=aEk I;refine⟨_,rfl,g.2.1,_,rfl,.inl (SqL.of (au g U)),rfl,?_⟩;rw[aFE,I];simp
  .rintro ys H3 ⟨rfl,rfl⟩ D hD;have az:D≠d:=λz=>by rw[z,ed]at hD;cases hD
   refine⟨od,by rw[aF (Ne.symm az)];exact ed,D,gs.map (λg:Grp=>(g.2.2.length:Int)),rfl,by rw[aF az,aB,br,aEn],?_⟩;have g4:Same H1 (upd (upd H3 D (.lst (((gs.take (kvG gs).length).map (λg:Grp=>(g.2.2.length:Int))).map V.int))) d (.dK (kvG gs))):=λb o q=>by
    by_cases hb:b=d
    .subst hb;rw[aB,<- J.at_];exact q
    .rw[aF hb];exact(Same.upd hD) _ _ (gd b o hb q)
   generalize upd (upd H3 D (.lst (((gs.take (kvG gs).length).map (λg:Grp=>(g.2.2.length:Int))).map V.int))) d (.dK (kvG gs))=H4 at g4 ⊢;have bu:J5 (kvG gs) (gs.map (·.1)):=by unfold J5 kvG;simp[Function.comp]
   have bv:DG H4 d gs:=⟨g4 _ _ J.at_,λg I=>g4 _ _ (J.lst g I),L.adr,L.key⟩;have a_:=g4 _ _ ee;have ba:=g1.trans g4;have bw:=aAb aw;rw[<- bw];refine⟨_,rfl,d,kvG gs,gs.map (·.1),rfl,bv.at_,bu,by rw[aE9];omega,λl Y am hp hs=>?_⟩;have g5:=Same.upd (o:=.lst (Y.map V.int)) am;have el:(upd H4 l (.lst (Y.map V.int))) l=some (.lst (Y.map V.int)):=aB;have cf:H l=none:=ba.free am;have bx:l≠e:=λz=>by rw[z,a_]at am;cases am
   generalize upd H4 l (.lst (Y.map V.int))=H5 at g5 el ⊢;have b_:=ba.trans g5;have ca:=g5 _ _ a_;have cg:Y.length=gs.length:=by rw[hp.length_eq,aE9]
   have hst:=yI hp hs L.key;refine⟨l,rfl,⟨_,SqL.of el⟩,eU (K:=K) (a:=l) (xs:=Y.map V.int) (yX H d e l gs Y)
    ⟨[],0,none,by rw[aAc aw];rfl,b_,el,ca,Nat.le_refl _,λg I _=>hp.mem_iff.mpr (aFN.mpr ⟨g,I,rfl⟩),λm hm=>by
     obtain⟨g,I,e⟩:=aFN.mp (hp.mem_iff.mp hm);have:=(aw g I).1;have e':g.1=m:=e;omega,λm hm=>by simp at hm⟩ (λi σ H6 _ z_=>by obtain⟨_,_,_,_,_,q,_⟩:=z_;exact SqL.of q) ?_ ?_⟩
   .rintro i x σ H6 hi ⟨kvs,b,v,rfl,al,bb,ao,bc,bf,cb,M⟩;rw[aEx]at hi;obtain⟨m,hm,rfl⟩:=aFJ.mp hi;have bg:i<Y.length:=(aFK.mp hm).1;obtain⟨g,I,U⟩:=aFN.mp (hp.mem_iff.mp (aEk hm));have U:g.1=m:=U;subst U;have ap:Y.drop i=g.1 :: Y.drop (i+1):=by
     rw[List.drop_eq_getElem_cons bg];rw[aEj bg]at hm;rw[Option.some.inj hm]
    have bi:b<g.1:=cb g.1 (by rw[ap];exact aEb);have av:(g.1 :: Y.drop (i+1)).Pairwise (·<·):=by rw[<- ap];exact hst.sublist (List.drop_sublist _ _)
    have bj:∀ x∈gs,b<x.1->g.1<=x.1:=λx hx hb=>by
     have:=bf x hx hb;rw[ap]at this;rcases aFL.mp this with e | e
     .omega
     .have:=(List.pairwise_cons.mp av).1 _ e;omega
    have e1:=R3 (Int.le_of_lt bi) bj;have e2:=aAa bi bj L.key I rfl;obtain⟨ci,cj⟩:=aAf (b:=b) bo;have ax:DG H6 d gs:=⟨al _ _ L.at_,λg I=>al _ _ (L.lst g I),L.adr,L.key⟩;have e3:2 * wgt (gM b) gs+2 * lng b gs * (g.1 - b)=2 * wgt (gM g.1) gs:=by
     rw[e1,Int.mul_add,Int.mul_assoc,Int.mul_comm (lng b gs)]
    refine⟨_,rfl,_,rfl,_,_,rfl,rfl,.inl ⟨by decide,by decide⟩,_,rfl,_,rfl,_,_,rfl,rfl,_,_,rfl,rfl,.inl ⟨by omega,by omega⟩,?_⟩;refine⟨_,_,rfl,rfl,?_⟩;refine⟨_,rfl,_,rfl,_,rfl,e,_,rfl,DPut.k (k:=Sum.inl g.1) ao (bC (by omega)),?_⟩;have bm:DG (upd H6 e (.dK (dX kvs (Sum.inl g.1:Key) (V.int (2 * wgt (gM b) gs+2 * lng b gs * (g.1 - b)))))) d gs:=⟨by rw[aF (Ne.symm bq)];exact ax.at_,λx hx=>by rw[aF (bO (ax.lst x hx) ao (by intro z;cases z))];exact ax.lst x hx,L.adr,L.key⟩;refine⟨_,rfl,_,rfl,_,rfl,d,_,rfl,bm.get I,g.2.1,_,rfl,.inl (SqL.of (bm.lst g I)),?_⟩;refine⟨_,_,rfl,rfl,?_⟩;refine⟨_,rfl,?_⟩;refine⟨dX kvs (Sum.inl g.1:Key) (V.int (2 * wgt (gM b) gs+2 * lng b gs * (g.1 - b))),g.1,_,by rw[e2,<- e3,<- aE9 (as:=g.2.2) V.int];rfl,Same.upd' he al,by rw[aF bx];exact bb,aB,Nat.le_trans (iP ..) (by omega),λx hx ck=>?_,λm' aq=>(List.pairwise_cons.mp av).1 m' aq,λm' aq=>?_⟩
    .have:=bf x hx (by omega);rw[ap]at this;rcases aFL.mp this with e | e
     .omega
     .exact e
    rw[aAN]
    by_cases ar:(Sum.inl m':Key)=Sum.inl g.1
    .rw[if_pos ar,e3];rw[Sum.inl.inj ar]
    .rw[if_neg ar];rw[aFE,hm]at aq;rcases aFM.mp aq with h | h
     .exact M m' h
     .exact absurd (by have:m'=g.1:=by simpa using h
                       rw[this]) ar
   .rintro σ H6 ⟨kvs,b,v,rfl,al,bb,ao,bc,_,_,M⟩;refine⟨_,rfl,k e kvs H6 he al ao λg I=>?_⟩;rw[aE9,aEn]at M;rw[M g.1 (hp.mem_iff.mpr (aFN.mpr ⟨g,I,rfl⟩)),zT]
abbrev mC:Stmt:=top 36
def C0:aN ["offsets","size"] ["offsets","size"] (aI mC):=⟨rfl,rfl,rfl,by decide +kernel,rfl,by decide +kernel,by decide +kernel⟩
def C1 {f:Addr} {fd:FuncData} (F:Fun K "drop_last" "drop_last" mC f fd) (B:Bt mg):FnOk P w K mg base CX0 1 f fd ["offsets","size"] iA:=by
 refine F.ok C0 (λvs H Q E h=>?_) (λap A outer s H vs Q E hr h=>?_)
 .obtain⟨d,gs,g,rfl,_⟩:=h;rfl
 .obtain⟨d,gs,g,rfl,dg,M,am,k⟩:=h;have U:=oW hr;refine⟨_,(aG (aS (zF aFG PySem.F.slot_list_pop PySem.F.type_list_pop w4 (jY U (pv 0) (pv 1) (λ_ _=>rfl))))
 (aJ (cB (nX (dG (jY U (pv 0) (pv 1) (λ_ _=>rfl)) (λ_=>rfl)))
 (aJ (aBh (pv 0) (pv 1)))
 bG))),?_⟩
  have Y:g.2.2.map V.int≠[]:=by simpa using am
  have J:(g.2.2.map V.int)[(g.2.2.map V.int).length - 1]?=some ((g.2.2.map V.int).getLast Y):=by rw[<- List.getLast?_eq_getElem?];exact List.getLast?_eq_getLast Y
  refine⟨_,rfl,_,rfl,d,_,rfl,dg.get M,.inl ⟨rfl,_,SqL.of (dg.lst g M)⟩,g.2.1,_,_,rfl,rfl,dg.lst g M,J,?_⟩;rw[<- List.map_dropLast];have z:=dg.pops M;have L:StayG d gs H (upd H g.2.1 (.lst (g.2.2.dropLast.map V.int))):=λb o _ n e=>by rw[aF (n g M)];exact e
  generalize upd H g.2.1 (.lst (g.2.2.dropLast.map V.int))=H2 at z L ⊢;have D:(g.1,g.2.1,g.2.2.dropLast)∈pops g.1 gs:=aFN.mpr ⟨g,M,if_pos rfl⟩;have al:DGet H2 d (.int g.1) (some (.ref g.2.1)):=z.get (g:=(g.1,g.2.1,g.2.2.dropLast)) D;have ao:H2 g.2.1=some (.lst (g.2.2.dropLast.map V.int)):=z.lst (g.1,g.2.1,g.2.2.dropLast) D;refine⟨_,rfl,_,rfl,d,_,rfl,al,_,.inl ⟨_,SqL.of ao,rfl⟩,?_⟩;have I:((pops g.1 gs).any (λx=>decide (x.1=g.1) && x.2.2.isEmpty))=g.2.2.dropLast.isEmpty:=by
   cases hE:g.2.2.dropLast.isEmpty with
   | true=>exact List.any_eq_true.mpr ⟨_,D,by simp[hE]⟩
   | false =>
    rw[List.any_eq_false];intro x hx;simp only[Bool.and_eq_true,decide_eq_true_eq,not_and];intro e;have:x=(g.1,g.2.1,g.2.2.dropLast):=cM (f:=λg:Grp=>g.1) z.key hx D e;rw[this];simp[hE]
  have hm:(g.2.2.dropLast.map V.int).isEmpty=g.2.2.dropLast.isEmpty:=by rw[List.isEmpty_map]
  simp only[hm];cases hE:g.2.2.dropLast.isEmpty with
  | true =>
   refine⟨_,rfl,_,rfl,d,_,Sum.inl g.1,rfl,z.at_,rfl,?_,k _ (λb o n1 n2 e=>by rw[aF n1];exact L b o n1 n2 e) ?_⟩
   .rw[eY,pO z.key D];rfl
   .unfold shr;rw[I,hE,if_pos rfl];exact z.outs g.1
  | false =>
   refine k _ L ?_;unfold shr;rw[I,hE,if_neg aEm];exact z
abbrev mE:Stmt:=top 37
def qD:aN ["offsets","size","place","offset"] ["offsets","size","place"] (aI mE):=⟨rfl,rfl,rfl,by decide +kernel,rfl,by decide +kernel,by decide +kernel⟩
def C2 {f:Addr} {fd:FuncData} (F:Fun K "add_train" "add_train" mE f fd) (B:Bt mg) (M:aU P w K mg base "crowd" 1 ["offsets","size"] pP):FnOk P w K mg base CX0 2 f fd ["offsets","size","place"] fY:=by
 refine F.ok qD (λvs H Q E h=>?_) (λba A outer s H vs Q E hr h=>?_)
 .obtain⟨d,gs,k,p,rfl,_⟩:=h;rfl
 .obtain⟨d,gs,k,p,rfl,U,hl,aq,kk⟩:=h;refine⟨_,(aG (aW (i:=3) qD.nd rfl (Or.inl rfl) (aQ gE (aQ gE (pv 2) (aV M hr rfl (aA (pv 0) (aA (pv 1) aE)))) (aQ jA aK (pv 1))))
 (aJ (aS (iK aFG aFH aFI cF (W0 (pv 0) (pv 1) (cZ aE) ⟨rfl,rfl,rfl,rfl⟩) (aA (pv 3) aE))))),?_⟩
  refine⟨_,rfl,_,rfl,_,rfl,d,gs,k,rfl,U,hl,aq,λH3 sm=>?_⟩;refine⟨_,_,rfl,rfl,_,rfl,_,_,rfl,rfl,.inl ⟨by decide,by decide⟩,_,_,rfl,rfl,?_⟩;have I:DG H3 d gs:=⟨sm _ _ U.at_,λg D=>sm _ _ (U.lst g D),U.adr,U.key⟩;refine⟨_,rfl,d,rfl,.inl ⟨_,.inl I.at_⟩,_,rfl,by decide,λz hz=>?_⟩;have g4:=Same.upd (o:=.lst []) hz;have ez:(upd H3 z (.lst [])) z=some (.lst []):=aB;have ar:H z=none:=sm.free hz;have au:z≠d:=λe=>by rw[e,I.at_]at hz;cases hz
  generalize upd H3 z (.lst [])=H4 at g4 ez ⊢;have av:=sm.trans g4;have Y:∀ g∈gs,H4 g.2.1=some (.lst (g.2.2.map V.int)):=λg D=>g4 _ _ (I.lst g D);have nz:∀ g∈gs,g.2.1≠z:=λg D e=>by have:=I.lst g D;rw[e,hz]at this;cases this
  have aw:∀ g∈gs,g.2.1≠d:=λg D=>bO (I.lst g D) I.at_ (by intro z;cases z);refine⟨kvG gs,Sum.inl k,g4 _ _ I.at_,rfl,by simp only[kvG,aE9];exact bC (by omega),λv hv=>?_,λhv=>?_⟩
  .rw[eY]at hv;obtain⟨g,D,rfl⟩:=aFJ.mp hv;have L:=List.mem_of_find?_eq_some D;have am:g.1=k:=by simpa using List.find?_some D
   have eg:=Y g L;refine⟨.inl ⟨rfl,_,SqL.of eg⟩,_,rfl,g.2.1,_,_,rfl,rfl,eg,(by rw[aE9];exact bC (by have:=aq g L;omega)),?_⟩;have ax:∀ g'∈eR k (p - 2 * wgt (gM k) gs - 2 * k) gs,∃ J∈gs,g'.2.1=J.2.1/\g'.1=J.1/\(g'.2.2=if J.1=k then J.2.2++[(p - 2 * wgt (gM k) gs - 2 * k)]else J.2.2):=λg' ao=>by
    obtain⟨J,h0,rfl⟩:=aFN.mp ao;refine⟨J,h0,?_⟩
    by_cases hk:J.1=k
    .rw[if_pos hk,if_pos hk];exact⟨rfl,rfl,rfl⟩
    .rw[if_neg hk,if_neg hk];exact⟨rfl,rfl,rfl⟩
   have uniq:∀ J∈gs,J.2.1=g.2.1->J=g:=λJ h0 e=>cM (f:=λg:Grp=>g.2.1) U.adr h0 L e;refine kk (eR k (p - 2 * wgt (gM k) gs - 2 * k) gs) _ (λb u n1 n2 e=>by rw[aF (n2 g L)];exact av b u e) ⟨by rw[J9,aF (Ne.symm (aw g L))];exact g4 _ _ I.at_,λg' ao=>?_,by rw[K0];exact U.adr,by rw[K1];exact U.key⟩ (.inl ⟨⟨g,L,am⟩,rfl⟩);obtain⟨J,h0,e1,e2,e3⟩:=ax g' ao;rw[e1]
   by_cases al:J.2.1=g.2.1
   .have:=uniq J h0 al;subst this;rw[aB,e3,if_pos am,aEo];rfl
   .have hk:J.1≠k:=λe=>al (by rw[cM (f:=λg:Grp=>g.1) U.key h0 L (e.trans am.symm)]);rw[aF al,e3,if_neg hk];exact Y J h0
  .rw[eY]at hv;have ay:∀ g∈gs,g.1≠k:=λg D e=>by
    have:=List.find?_eq_none.mp (Option.map_eq_none_iff.mp hv) g D;exact this (by simpa using e)
   rw[J1 (V.ref z) (by rw[eY];exact hv)];have az:(upd H4 d (.dK (kvG gs++[((Sum.inl k:Key),V.ref z)]))) z=some (.lst []):=by rw[aF au];exact ez
   refine⟨.inl ⟨rfl,_,SqL.of az⟩,_,rfl,z,_,_,rfl,rfl,az,(show 0<sizeLine by decide),?_⟩;have a_:∀ b u,b≠d->b≠z->H4 b=some u->(upd (upd H4 d (.dK (kvG gs++[((Sum.inl k:Key),V.ref z)]))) z (.lst ([]++[V.int (p - 2 * wgt (gM k) gs - 2 * k)]))) b=some u:=λb u n1 n2 e=>by rw[aF n2,aF n1];exact e
   refine kk (gs++[(k,z,[(p - 2 * wgt (gM k) gs - 2 * k)])]) _ (λb u n1 n2 e=>a_ b u n1 (λe'=>by rw[e',ar]at e;cases e) (av b u e)) ⟨?_,λg D=>?_,?_,?_⟩ (.inr ⟨ay,z,ar,rfl⟩)
   .rw[aF (Ne.symm au),aB];unfold kvG;rw[aEo];rfl
   .rcases aFM.mp D with h | h
    .exact a_ _ _ (aw g h) (nz g h) (Y g h)
    .rw[aFF.mp h];exact aB
   .rw[aEo,List.nodup_append];refine⟨U.adr,by simp,λx hx y hy=>?_⟩;obtain⟨g,D,rfl⟩:=aFN.mp hx;have ap:y=z:=by simpa using hy
    rw[ap];exact nz g D
   .rw[aEo,List.nodup_append];refine⟨U.key,by simp,λx hx y hy=>?_⟩;obtain⟨g,D,rfl⟩:=aFN.mp hx;have ap:y=k:=by simpa using hy
    rw[ap];exact ay g D
abbrev iY:Stmt:=top 35
def gO:aN ["offsets","place","crowded","ready","size"] ["offsets","place"] (aI iY):=⟨rfl,rfl,rfl,by decide +kernel,rfl,by decide +kernel,by decide +kernel⟩
def C4 {f:Addr} {fd:FuncData} (F:Fun K "add_stone" "add_stone" iY f fd) (B:Bt mg) (am:aU P w K mg base "crowds" 1 ["offsets"] jQ)
 (L:aU P w K mg base "drop_last" 1 ["offsets","size"] iA) (M:aU P w K mg base "add_train" 2 ["offsets","size","place"] fY):FnOk P w K mg base CX0 3 f fd ["offsets","place"] jZ:=by
 refine F.ok gO (λvs H Q E h=>?_) (λcw A outer s H vs Q E hr h=>?_)
 .obtain⟨d,gs,p,H0,rfl,_⟩:=h;rfl
 .obtain⟨d,gs,p,H0,rfl,dg,gd,ac,bc,bd,cf,bf,a_,k⟩:=h;have cg:=oW hr;obtain⟨cx,ci⟩:=GoodG.bound gd;refine⟨_,(aG (aW (i:=2) gO.nd rfl (Or.inr rfl) (aV am hr rfl (aA (pv 0) aE)))
 (aG (W6 (zH (i:=3) ["size","some"] ["place","crowded"] [1,2] rfl gO.nd rfl rfl (.of (show cJ (aI iY) _ ["offsets","place","crowded","ready","size"] [1,2] ["place","crowded"]=true by decide +kernel)) (lR (pv 0)) (λ_ _ _=>(fR (n:=2) K rfl rfl (aP (aL (i:=0) (show (["size","some","place","crowded"]:List Str).Nodup by decide +kernel) rfl (Or.inl rfl)) (aP (aL (i:=1) (show (["size","some","place","crowded"]:List Str).Nodup by decide +kernel) rfl (Or.inl rfl)) bV)))) (jB (bU (by decide) (bU (by decide) fQ))) (λ_ _ _=>sX (bD P5 (bH (F8 K rfl) (pv 1) (kZ gX aK) (λ_ _=>rfl)) (aQ gE (aQ gE (pv 2) aK) (jY cg (pv 3) (pv 0) (λ_ _=>rfl))) (bF _))) (λ_ _ _=>(pv 0)) (by first | rfl | decide +kernel)))
 (aG (aW (i:=4) gO.nd rfl (Or.inl rfl) (b4 rfl rfl B.max (pv 3) aK))
 (zI (cB (bD nL (pv 4) aK (bF _))
 (aJ (aS (aV L hr rfl (aA (pv 0) (aA (pv 4) aE)))))
 bG)
 (aJ (aS (aV M hr rfl (aA (pv 0) (aA (aQ bS (pv 4) aK) (aA (pv 1) aE)))))))))),?_⟩
  refine⟨_,rfl,d,gs,rfl,dg,gd,by omega,λg U=>by have:=ci g U;omega,λe kvs H5 he ba ee bg=>?_⟩;have Y:DG H5 d gs:=⟨ba _ _ dg.at_,λg U=>ba _ _ (dg.lst g U),dg.adr,dg.key⟩;have cj:e≠d:=λz=>by rw[z,dg.at_]at he;cases he
  refine⟨d,kvG gs,Y.at_,_,rfl,d,kvG gs,rfl,Y.at_,λod=>?_⟩;have sd:SameD d H5 (upd H5 d (.frz od (.dK (kvG gs)))):=λb o n e=>by rw[aF n];exact e
  have ed:(upd H5 d (.frz od (.dK (kvG gs)))) d=some (.frz od (.dK (kvG gs))):=aB;have ax:∀ g∈gs,(upd H5 d (.frz od (.dK (kvG gs)))) g.2.1=some (.lst (g.2.2.map V.int)):=λg U=>sd _ _ (bO (Y.lst g U) Y.at_ (by intro z;cases z)) (Y.lst g U);have bi:(upd H5 d (.frz od (.dK (kvG gs)))) e=some (.dK kvs):=sd _ _ cj ee;generalize upd H5 d (.frz od (.dK (kvG gs)))=H6 at sd ed ax bi ⊢;have ck:(kvG gs).length=gs.length:=by simp[kvG]
  refine oB (d:=d) (od:=od) (kvs:=kvG gs) (λi ys H7=>Same H6 H7/\ys.length<=i/\∃ ns:List Int,ys=ns.map V.int/\(∀ n∈ns,∃ g∈gs,∃ I:g.2.2≠[],n=g.1/\g.2.2.getLast I=p - 1 - 2 * les (bL gs) g.1)/\(∀ g∈gs.take i,∀ I:g.2.2≠[],g.2.2.getLast I=p - 1 - 2 * les (bL gs) g.1->g.1∈ns)) ⟨Same.refl _,Nat.le_refl _,[],rfl,λn hn=>(nomatch hn),λg U=>by simp at U⟩ ?_ ?_ ?_
  .rintro i ys H7 hi ⟨g7,bj,_⟩;exact⟨g7 _ _ ed,bC (by omega)⟩
  .rintro i ky x ys H7 t J ⟨g7,bj,ns,rfl,au,ao⟩ cm;obtain⟨g,U,cn⟩:∃ g,gs[i]?=some g/\((Sum.inl g.1:Key),V.ref g.2.1)=(ky,x):=by
    unfold kvG at J;rw[aEx]at J;obtain⟨g,h1,h2⟩:=aFJ.mp J;exact⟨g,h1,h2⟩
   cases cn;have av:=aEk U;have g8:=g7.trans (Same.upd (o:=.tup [kV (Sum.inl g.1),V.ref g.2.1]) cm);have bm:(upd H7 t (.tup [kV (Sum.inl g.1),V.ref g.2.1])) t=some (.tup [kV (Sum.inl g.1),V.ref g.2.1]):=aB;generalize upd H7 t (.tup [kV (Sum.inl g.1),V.ref g.2.1])=H8 at g8 bm ⊢;refine⟨t,_,rfl,SqT.of bm,rfl,_,_,rfl,_,_,rfl,rfl,?_⟩;have ap:g.2.2≠[]:=(gd g av).2;have hv:atI (g.2.2.map V.int) (-1)=some (V.int (g.2.2.getLast ap)):=W7 ap;have bo:DGet H8 e (.int g.1) (some (.int (2 * les (bL gs) g.1))):=by rw[<- bg g av];exact DGet.k (k:=(Sum.inl g.1:Key)) (g8 _ _ bi)
   refine⟨_,rfl,_,rfl,g.2.1,_,_,_,rfl,rfl,SqL.of (g8 _ _ (ax g av)),hv,_,rfl,_,_,rfl,rfl,_,rfl,_,rfl,e,_,rfl,bo,_,_,rfl,rfl,_,_,rfl,rfl,_,rfl,?_⟩;have bq:∀ x∈gs.take (i+1),x∈gs.take i\/x=g:=λx J=>by
    rw[aFE,U]at J;rcases aFM.mp J with h | h
    .exact .inl h
    .exact .inr (by simpa using h)
   refine qP (λhc=>?_) (λhc=>?_)
   .refine⟨_,rfl,g8,by rw[aEi,List.length_singleton];omega,ns++[g.1],by rw[aEo];rfl,λn hn=>?_,λx J I hl=>?_⟩
    .rcases aFM.mp hn with h | h
     .exact au n h
     .exact⟨g,av,ap,by simpa using h,by omega⟩
    .rcases bq x J with h | h
     .exact aEs _ (ao x h I hl)
     .rw[h];exact aEd _ (by simp)
   .refine⟨g8,by omega,ns,rfl,au,λx J I hl=>?_⟩;rcases bq x J with h | h
    .exact ao x h I hl
    .subst h;exact absurd (by omega) hc
  .rintro ys H7 ⟨g7,bj,ns,rfl,au,ao⟩ D hD;have br:D≠d:=λz=>by rw[z,g7 _ _ ed]at hD;cases hD
   have cp:(upd H7 D (.lst (ns.map V.int))) d=some (.frz od (.dK (kvG gs))):=by rw[aF (Ne.symm br)];exact g7 _ _ ed
   have eD:(upd (upd H7 D (.lst (ns.map V.int))) d (.dK (kvG gs))) D=some (.lst (ns.map V.int)):=by rw[aF br,aB]
   have aw:Same H5 (upd (upd H7 D (.lst (ns.map V.int))) d (.dK (kvG gs))):=λb o q=>by
    by_cases hb:b=d
    .subst hb;rw[aB,<- Y.at_];exact q
    .rw[aF hb];exact(g7.trans (Same.upd hD)) _ _ (sd b o hb q)
   refine⟨od,cp,?_⟩;generalize upd (upd H7 D (.lst (ns.map V.int))) d (.dK (kvG gs))=H9 at eD aw ⊢;have bt:DG H9 d gs:=⟨aw _ _ Y.at_,λg U=>aw _ _ (Y.lst g U),dg.adr,dg.key⟩;have ay:=(cf.trans ba).trans aw;rw[ck,aEn]at ao;obtain⟨s0,es,cz,aq,bu⟩:=j7 gd au ao;refine⟨_,rfl,D,ns,rfl,SqL.of eD,?_⟩;rw[es];refine⟨λbv H'=>∃ al,bv=[some (.ref d),some (.int p),some (.ref e),some (.ref D),some (.int s0)]/\Same H0 H'/\DG H' d al/\GoodG al/\sto al<=59/\(∀ g∈al,H0 g.2.1=none)/\(s0=0/\al=gs\/1<=s0/\∃ g∈gs,∃ I:g.2.2≠[],g.1=s0/\g.2.2.getLast I=p - 1 - 2 * les (bL gs) s0/\al=shr s0 gs),?_,?_⟩
   .refine⟨_,rfl,_,_,rfl,rfl,_,rfl,?_⟩;refine qP (λhc=>?_) (λhc=>?_)
    .rcases aq with hz | ⟨hz,g,U,I,e1,e2⟩
     .omega
     .subst e1;refine⟨_,rfl,_,rfl,d,gs,g,rfl,bt,U,I,λc_ bw bx=>⟨shr g.1 gs,rfl,λb o q=>bw b o (λz=>by rw[z,bf]at q;cases q) (λx J z=>by rw[z,a_ x J]at q;cases q) (ay b o q),bx,gd.shr _,?_,λx J=>?_,.inr ⟨hz,g,U,I,rfl,e2,rfl⟩⟩⟩
      .have:sto (shr g.1 gs)=sto gs - g.1:=W2 _ dg.key U I;omega
      .obtain⟨y,hy,ez⟩:=W3 J;rw[ez];exact a_ y hy
    .rcases aq with hz | ⟨hz,_⟩
     .exact⟨gs,rfl,ay,bt,gd,bc,a_,.inl ⟨hz,rfl⟩⟩
     .omega
   .rintro bv da ⟨al,rfl,az,b_,ca,cq,ar,hs⟩;obtain⟨db,cr⟩:=GoodG.bound ca;refine⟨_,rfl,_,rfl,_,_,rfl,rfl,_,rfl,d,al,s0+1,p,rfl,b_,by omega,λx J=>by have:=cr x J;omega,λcu cv cb ce bb=>?_⟩;rw[zT]at bb;obtain⟨ha,hA,hG⟩:=R1 dg.key gd ac bd hs bu bb;refine k cu cv (λb o q=>cb b o (λz=>by rw[z,bf]at q;cases q) (λx J z=>by rw[z,ar x J]at q;cases q) (az b o q)) ce hG hA ha λx J=>?_;rcases K4 bb J with ⟨y,hy,ez⟩ | hz
    .rw[ez];exact ar y hy
    .exact az.free hz
abbrev nH:Stmt:=top 34
def oJ:aN ["row","offsets","place"] ["row"] (aI nH):=⟨rfl,rfl,rfl,by decide +kernel,rfl,by decide +kernel,by decide +kernel⟩
inductive vX (H:Hp) (a:Addr) (d:Addr) (row:List Int) (i:Nat) (σ:St) (H3:Hp):Prop
 | mk (gs:List Grp) (v:Option V) (k0_:σ=[some (.ref a),some (.ref d),v]) (k1_:Same H H3) (k2_:DG H3 d gs) (k3_:GoodG gs) (k4_:Asc gs) (k5_:Lst (row.take i) (bL gs)) (k6_:(∀ g∈gs,H g.2.1=none)):vX H a d row i σ H3
def T5 {f:Addr} {fd:FuncData} (F:Fun K "list_of" "list_of" nH f fd) (B:Bt mg) (F_look_row:aU P w K mg base "look_row" 1 ["row"] iR) (F_add_stone:aU P w K mg base "add_stone" 3 ["offsets","place"] jZ):FnOk P w K mg base CX0 4 f fd ["row"] mZ:=by
 refine F.ok oJ (λvs H Q E h=>?_) (λcdv A outer s H vs Q E hr h=>?_)
 .obtain⟨a,row,rfl,_⟩:=h;rfl
 .obtain⟨a,row,rfl,ha,hrw,k⟩:=h;obtain⟨hrow,hrl⟩:=id hrw;have hu1:=oW hr;refine⟨_,(aG (aS (aV F_look_row hr rfl (aA (pv 0) aE)))
 (aG (aW (i:=1) oJ.nd rfl (Or.inr rfl) hZ)
 (aG (dU PassesOwn.never rfl (aDF (pv 0)) (aL (i:=2) oJ.nd rfl (Or.inl rfl))
 (aJ (aS (aV F_add_stone hr rfl (aA (pv 1) (aA (pv 2) aE))))))
 (aJ (aY (aAd ["size"] ["offset"] ["offsets"] [1] rfl (.of (show cJ (aI nH) _ ["row","offsets","place"] [1] ["offsets"]=true by decide +kernel)) (cI (aO (pK rfl) (by rfl) B.sorted eO (aA (pv 1) aE))) (λ_ _ _=>(aL (i:=0) (show (["size","offset","offsets"]:List Str).Nodup by decide +kernel) rfl (Or.inl rfl))) (eG (by decide)) (λ_ _ _=>cK) (λ_ _ _=>(aAe K rfl (jY hu1 (pv 2) (pv 0) (λ_ _=>rfl)))) (λ_ _ _=>(aL (i:=1) (show (["size","offset","offsets"]:List Str).Nodup by decide +kernel) rfl (Or.inl rfl))) (aBo (by decide) (by decide)) (λ_ _ _=>cK) (λ_ _ _=>(bW (aA (pv 0) (aA (pv 1) aE)))))))))),?_⟩
  refine⟨_,rfl,a,row,rfl,ha,hrw,?_⟩;refine λd hd=>?_;have g1:=Same.upd (o:=.dK []) hd;have ed:(upd H d (.dK [])) d=some (.dK (kvG [])):=aB;generalize upd H d (.dK [])=H1 at g1 ed ⊢;refine aBv (K:=K) (a:=a) (r:=row) (j:=0) (Hb:=H) (vX H a d row) ha rfl
   ⟨[],none,rfl,g1,⟨ed,λg hg=>(nomatch hg),List.Pairwise.nil,List.Pairwise.nil⟩,λg hg=>(nomatch hg),λg hg=>(nomatch hg),.nil,λg hg=>(nomatch hg)⟩ (λi σ H3 h=>by obtain⟨_,_,_,sm,_⟩:=h;exact sm) ?_ ?_
  .rintro i z σ H3 hz ⟨gs,v,rfl,sm,dg,gd,ac,hl,hfr⟩;have hil:i<row.length:=(aFK.mp hz).1;have htk:row.take (i+1)=row.take i++[z]:=by rw[aFE,hz];rfl
   have hlt:∀ x∈row.take i,x<z:=λx hx=>by
    have hp:(row.take i++[z]).Pairwise (·<·):=by rw[<- htk];exact List.Pairwise.sublist (List.take_sublist _ _) hrow
    exact(List.pairwise_append.mp hp).2.2 x hx z (by simp)
   have hsz:sto gs=(i:Int):=by
    rw[tE,hl.sizx,aEp];omega
   refine⟨_,rfl,_,rfl,d,gs,z,H,rfl,dg,gd,ac,by omega,hl.bd λx hx=>by have:=hlt x hx;omega,sm,hd,hfr,λgs' H' sm' dg' gd' ac' hadd hfr'=>?_⟩;exact⟨gs',_,rfl,sm',dg',gd',ac',by rw[htk];exact .snoc hl hlt hadd,hfr'⟩
  .rintro σ H3 ⟨gs,v,rfl,sm,dg,gd,ac,hl,hfr⟩;rw[aEn]at hl;obtain⟨hb1,hb2⟩:=GoodG.bound gd;have hsz:sto gs=(row.length:Int):=by rw[tE,hl.sizx]
   have hks:J5 (kvG gs) (gs.map (·.1)):=by unfold J5 kvG;simp[Function.comp]
   refine⟨_,rfl,d,kvG gs,gs.map (·.1),rfl,dg.at_,hks,by rw[aE9];omega,λl ms hnl hp hs=>?_⟩;have g5:=Same.upd (o:=.lst (ms.map V.int)) hnl;have el:(upd H3 l (.lst (ms.map V.int))) l=some (.lst (ms.map V.int)):=aB;generalize upd H3 l (.lst (ms.map V.int))=H5 at g5 el ⊢;have hst:=yI hp hs dg.key;have dg5:DG H5 d gs:=⟨g5 _ _ dg.at_,λg hg=>g5 _ _ (dg.lst g hg),dg.adr,dg.key⟩;have hsize:∀ i,(laid (ms.take i) gs).length<=60:=λi=>by
    have h1:(laid (ms.take i) gs).length<=(laid ms gs).length:=by
     conv=>rhs;rw[<- List.take_append_drop i ms,sF,aEi]
     omega
    have h2:=(yG gs hp).length_eq;rw[yH dg.key]at h2;have h3:=hX hl.pos;have h4:(szs (bL gs)).sum=siz (bL gs):=rfl;have h5:=tE gs;omega
   refine⟨l,rfl,⟨_,SqL.of el⟩,R7 (K:=K) (a:=l) (xs:=ms.map V.int) (λi ys H6=>Same H5 H6/\Prs H6 ys (laid (ms.take i) gs)) ⟨Same.refl _,.nil⟩ ?_ ?_ ?_⟩
   .rintro i ys H6 hi ⟨sm6,pr6⟩;exact⟨SqL.of (sm6 _ _ el),by rw[pr6.len];exact bC (by have:=hsize i;omega)⟩
   .rintro i x ys H6 hi ⟨sm6,pr6⟩;obtain⟨m,rfl,hm⟩:=jX hi;obtain⟨g,hg,hgm⟩:=aFN.mp (hp.mem_iff.mp (aEk hm));have hgm:g.1=m:=hgm;subst hgm;have dg6:DG H6 d gs:=⟨sm6 _ _ dg5.at_,λg hg=>sm6 _ _ (dg5.lst g hg),dg.adr,dg.key⟩;have htk:laid (ms.take (i+1)) gs=laid (ms.take i) gs++g.2.2.map λo=>(g.1,o):=by
     rw[aFE,hm,sF]
     congr 1
     exact aAg dg.key hg
    have hgl:=hsize (i+1);rw[htk,aEi,aE9]at hgl;refine⟨_,rfl,_,rfl,d,_,rfl,dg6.get hg,g.2.1,rfl,⟨_,SqL.of (dg6.lst g hg)⟩,R8 (K:=K) (a:=g.2.1) (xs:=g.2.2.map V.int) (λj ys H7=>Same H6 H7/\Prs H7 ys (laid (ms.take i) gs++(g.2.2.take j).map λo=>(g.1,o))) ⟨Same.refl _,by rw[List.take_zero,List.map_nil,List.append_nil];exact pr6⟩ ?_ ?_ ?_⟩
    .rintro j ys H7 hj ⟨sm7,pr7⟩;refine⟨SqL.of (sm7 _ _ (dg6.lst g hg)),?_⟩;rw[pr7.len,aEi,aE9,aEp];exact bC (by omega)
    .rintro j x ys H7 hj ⟨sm7,pr7⟩;obtain⟨o,rfl,ho⟩:=jX hj;refine⟨_,rfl,_,rfl,(show 2<=sizeLine by decide),λt ht=>⟨sm7.trans (Same.upd ht),?_⟩⟩;rw[aFE,ho,aEo,<- List.append_assoc];exact Paired.append' (pr7.mono (TupS.new ht)) (.cons ⟨t,rfl,aB⟩ .nil)
    .rintro ys H7 ⟨sm7,pr7⟩;rw[aE9,aEn]at pr7;rw[htk];exact⟨sm6.trans sm7,pr7⟩
   .rintro ys H6 ⟨sm6,pr6⟩ D hD;rw[aE9,aEn]at pr6;have hpm:(laid ms gs).Perm (bL gs):=by rw[<- yH dg.key];exact yG gs hp
    have sm36:=(sm.trans g5).trans sm6;exact k (laid ms gs) (hl.perm hpm.symm) (sG ac hst) D ys _ (sm36.free hD) (sm36.trans (Same.upd hD)) aB (pr6.mono (TupS.new hD))
abbrev qE:Stmt:=top 38
def fN:aN ["trains","offsets","row","crowded","place","shortest","size"] ["trains"] (aI qE):=⟨rfl,rfl,rfl,by decide +kernel,rfl,by decide +kernel,by decide +kernel⟩
def n4 {f:Addr} {fd:FuncData} (F:Fun K "row_of" "row_of" qE f fd) (B:Bt mg) (F_look_trains:aU P w K mg base "look_trains" 1 ["trains"] pF) (F_by_size:aU P w K mg base "by_size" 1 ["trains"] mW) (F_crowds:aU P w K mg base "crowds" 1 ["offsets"] jQ)
 (F_drop_last:aU P w K mg base "drop_last" 1 ["offsets","size"] iA) (F_add_train:aU P w K mg base "add_train" 2 ["offsets","size","place"] fY):FnOk P w K mg base CX0 3 f fd ["trains"] pR:=by
 refine F.ok fN (λvs H Q E h=>?_) (λcdv A outer s H vs Q E hr h=>?_)
 .obtain⟨a,ps,rfl,_⟩:=h;rfl
 .obtain⟨a,ps,rfl,hps,ht,k⟩:=h;have hu1:=oW hr;have hu:=hr.units;refine⟨_,(aG (aS (aV F_look_trains hr rfl (aA (pv 0) aE)))
 (aG (aW (i:=1) fN.nd rfl (Or.inl rfl) (aV F_by_size hr rfl (aA (pv 0) aE)))
 (aG (aW (i:=2) fN.nd rfl (Or.inl rfl) (cZ aE))
 (aG (tY PassesOwn.never (i9 (pv 1) (λ_=>rfl))
 (aG (aW (i:=3) fN.nd rfl (Or.inr rfl) (aV F_crowds hr rfl (aA (pv 1) aE)))
 (aG (kY (aO (i8 rfl hu) (by rfl) B.max F7 (aA (pJ (cT ["size","some"] ["crowded"] [3] rfl (.of (show cJ (aI qE) _ ["trains","offsets","row","crowded","place","shortest","size"] [3] ["crowded"]=true by decide +kernel)) (lR (pv 1)) (λ_ _ _=>(fR (n:=2) K rfl rfl (aP (aL (i:=0) (show (["size","some","crowded"]:List Str).Nodup by decide +kernel) rfl (Or.inl rfl)) (aP (aL (i:=1) (show (["size","some","crowded"]:List Str).Nodup by decide +kernel) rfl (Or.inl rfl)) bV)))) (jB (bU (by decide) (bU (by decide) fQ))) (λ_ _ _=>cK) (λ_ _ _=>(bW (aA (aQ bS (bH (F8 K rfl) (pv 1) (kZ gX aK) (λ_ _=>rfl)) (jY hu1 (pv 2) (pv 0) (λ_ _=>rfl))) (aA (kZ gX (pv 0)) aE)))))) aE)) (fJ rfl (aP (aL (i:=4) fN.nd rfl (Or.inl rfl)) (aP (aL (i:=5) fN.nd rfl (Or.inl rfl)) bV))))
 (aG (aW (i:=6) fN.nd rfl (Or.inl rfl) (kZ gX (pv 5)))
 (aG (aS (iK aFG aFH aFI cF (pv 2) (aA (pv 4) aE)))
 (aG (aS (aV F_drop_last hr rfl (aA (pv 1) (aA (pv 6) aE))))
 (aJ (cB (bD nL (pv 6) aK (bF _))
 (aJ (aS (aV F_add_train hr rfl (aA (pv 1) (aA (aQ gE (pv 6) aK) (aA (aQ gE (pv 4) aK) aE))))))
 bG))))))))
 (aJ (aY (aO pH (by rfl) B.sorted eO (aA (pv 2) aE)))))))),?_⟩
  refine⟨_,rfl,a,ps,rfl,hps,ht,λH1 g1=>?_⟩;refine⟨_,rfl,a,ps,rfl,hps.mono g1,ht.len,λd gs H2 hd sm2 dg hfp hac hne=>?_⟩;refine⟨by decide,λr hrn=>?_⟩;have g3:=Same.upd (o:=.lst []) hrn;have er:(upd H2 r (.lst [])) r=some (.lst []):=aB;have sm3:=(g1.trans sm2).trans g3;have hHr:H r=none:=(g1.trans sm2).free hrn;have hHd:H d=none:=g1.free hd;generalize upd H2 r (.lst [])=H3 at g3 er sm3 ⊢;have dg3:DG H3 d gs:=⟨g3 _ _ dg.at_,λg hg=>g3 _ _ (dg.lst g hg),dg.adr,dg.key⟩;have gd:GoodG gs:=λg hg=>⟨by
   have hm:=List.getLast_mem (hne g hg).1;exact ht.pos (g.1,g.2.2.getLast (hne g hg).1) (hfp.mem_iff.mp (fX.mpr ⟨g,hg,rfl,hm⟩)),(hne g hg).1⟩
  have hst:sto gs=(szs ps).sum:=by rw[tE,lT hfp];rfl
  have hlo:0<=sto gs:=by have:=(GoodG.bound gd).1;omega
  refine⟨aCz H ps a d r,⟨(sto gs).toNat,gs,[],_,_,_,_,rfl,sm3,dg3,gd,hac,er,λg hg=>⟨g1.free (hne g hg).2,λe=>?_⟩,by omega,by have:=ht.few;simp only[List.length_nil];omega,λr' hr'=>by simpa using hr'.perm hfp⟩,?_⟩
  .have:=dg.lst g hg;rw[e,hrn]at this;cases this
  clear hst hlo gd dg3 sm3 er g3 hne hfp hac dg sm2 g1;rintro m σ H4 ⟨gs,row,v3,v4,v5,v6,rfl,sm,dg,gd,ac,er,hfr,hm,hcount,fin⟩;obtain⟨hb1,hb2⟩:=GoodG.bound gd;have hpos:∀ q∈bL gs,1<=q.1:=λq hq=>by
   obtain⟨x,hx,e1,_⟩:=fX.mp hq;rw[<- e1];exact(gd x hx).1
  refine⟨_,rfl,d,kvG gs,rfl,dg.at_,?_⟩
  by_cases hgs:gs=[]
  .subst hgs;have hfin:Lst row.reverse ps:=by simpa using fin [] .nil
   refine⟨_,rfl,r,row,rfl,er,by omega,λl ms hl hpm hsm=>?_⟩;have em:=R9 hpm hsm hfin.rowp;subst em;exact k row.reverse hfin l _ (sm.free hl) (sm.trans (Same.upd hl)) aB
  have hne:(!(kvG gs).isEmpty)=true:=by
   cases gs with
   | nil=>exact absurd rfl hgs
   | cons _ _=>rfl
  rw[hne];show (if true=true then _ else _);rw[if_pos rfl];refine⟨fun σ' H'=>∃ m',m'<m/\aCz H ps a d r m' σ' H',λ_ _ h=>h,?_⟩;refine⟨_,rfl,d,gs,rfl,dg,gd,by omega,λg hg=>by have:=hb2 g hg;omega,λe kvs H5 he sm5 ee hall=>?_⟩;have dg5:DG H5 d gs:=⟨sm5 _ _ dg.at_,λg hg=>sm5 _ _ (dg.lst g hg),dg.adr,dg.key⟩;refine⟨d,kvG gs,dg5.at_,_,rfl,d,kvG gs,rfl,dg5.at_,λod=>?_⟩;have hed:e≠d:=λz=>by rw[z,dg.at_]at he;cases he
  have sd:SameD d H5 (upd H5 d (.frz od (.dK (kvG gs)))):=λb o n e=>by rw[aF n];exact e
  have ed:(upd H5 d (.frz od (.dK (kvG gs)))) d=some (.frz od (.dK (kvG gs))):=aB;have hlst:∀ g∈gs,(upd H5 d (.frz od (.dK (kvG gs)))) g.2.1=some (.lst (g.2.2.map V.int)):=λg hg=>sd _ _ (bO (dg5.lst g hg) dg5.at_ (by intro z;cases z)) (dg5.lst g hg);have ee6:(upd H5 d (.frz od (.dK (kvG gs)))) e=some (.dK kvs):=sd _ _ hed ee;generalize upd H5 d (.frz od (.dK (kvG gs)))=H6 at sd ed hlst ee6 ⊢;have hkl:(kvG gs).length=gs.length:=by simp[kvG]
  refine oB (d:=d) (od:=od) (kvs:=kvG gs) (λi ys H7=>Same H6 H7/\ys.length=i/\∃ qs:List (Int×Int),Prs H7 ys qs/\(∀ q∈qs,∃ g∈gs,∃ hne:g.2.2≠[],q=(g.2.2.getLast hne+2 * les (bL gs) g.1,-g.1))/\∀ g∈gs.take i,∀ hne:g.2.2≠[],(g.2.2.getLast hne+2 * les (bL gs) g.1,-g.1)∈qs) ⟨Same.refl _,rfl,[],.nil,λq hq=>(nomatch hq),λg hg=>by simp at hg⟩ ?_ ?_ ?_
  .rintro i ys H7 hi ⟨g7,hyl,_⟩;exact⟨g7 _ _ ed,bC (by omega)⟩
  .rintro i ky x ys H7 t hx ⟨g7,hyl,qs,pr,hq,hq2⟩ htn;obtain⟨g,hg,hgx⟩:∃ g,gs[i]?=some g/\((Sum.inl g.1:Key),V.ref g.2.1)=(ky,x):=by
    unfold kvG at hx;rw[aEx]at hx;obtain⟨g,h1,h2⟩:=aFJ.mp hx;exact⟨g,h1,h2⟩
   cases hgx;have hgm:=aEk hg;have g8:=g7.trans (Same.upd (o:=.tup [kV (Sum.inl g.1),V.ref g.2.1]) htn);have pr8:=pr.mono (TupS.same (Same.upd (o:=.tup [kV (Sum.inl g.1),V.ref g.2.1]) htn));have et8:(upd H7 t (.tup [kV (Sum.inl g.1),V.ref g.2.1])) t=some (.tup [kV (Sum.inl g.1),V.ref g.2.1]):=aB;generalize upd H7 t (.tup [kV (Sum.inl g.1),V.ref g.2.1])=H8 at g8 pr8 et8 ⊢;refine⟨t,_,rfl,SqT.of et8,rfl,_,_,rfl,_,_,rfl,rfl,?_⟩;have hne2:g.2.2≠[]:=(gd g hgm).2;have hv:atI (g.2.2.map V.int) (-1)=some (V.int (g.2.2.getLast hne2)):=W7 hne2;have hget:DGet H8 e (.int g.1) (some (.int (2 * les (bL gs) g.1))):=by rw[<- hall g hgm];exact DGet.k (k:=(Sum.inl g.1:Key)) (g8 _ _ ee6)
   refine⟨_,rfl,_,rfl,g.2.1,_,_,_,rfl,rfl,SqL.of (g8 _ _ (hlst g hgm)),hv,_,rfl,_,rfl,e,_,rfl,hget,_,_,rfl,rfl,_,rfl,_,rfl,by show 2<=sizeLine;decide,λt2 ht2=>?_⟩;refine⟨g8.trans (Same.upd ht2),by rw[aEi,hyl];rfl,qs++[(g.2.2.getLast hne2+2 * les (bL gs) g.1,-g.1)],Paired.snoc (pr8.mono (TupS.same (Same.upd ht2))) ⟨t2,rfl,aB⟩,λq hq'=>?_,λx hx hnx=>?_⟩
   .rcases aFM.mp hq' with h | h
    .exact hq q h
    .rw[aFF.mp h];exact⟨g,hgm,hne2,rfl⟩
   .rw[aFE,hg]at hx;rcases aFM.mp hx with h | h
    .exact aEs _ (hq2 x h hnx)
    .have:x=g:=by simpa using h
     subst this;exact aEd _ (by simp)
  .rintro ys H7 ⟨g7,hyl,qs,pr,hq,hq2⟩ D hD;rw[hkl,aEn]at hq2;have hnD:D≠d:=λz=>by rw[z,g7 _ _ ed]at hD;cases hD
   have edD:(upd H7 D (.lst ys)) d=some (.frz od (.dK (kvG gs))):=by rw[aF (Ne.symm hnD)];exact g7 _ _ ed
   have eD:(upd (upd H7 D (.lst ys)) d (.dK (kvG gs))) D=some (.lst ys):=by rw[aF hnD,aB]
   have pr9:Prs (upd (upd H7 D (.lst ys)) d (.dK (kvG gs))) ys qs:=(pr.mono (TupS.same (Same.upd hD))).mono λt xs q=>by
    rw[aF (bO q edD (by intro z;cases z))];exact q
   have sm9:Same H5 (upd (upd H7 D (.lst ys)) d (.dK (kvG gs))):=λb o q=>by
    by_cases hb:b=d
    .subst hb;rw[aB,<- dg5.at_];exact q
    .rw[aF hb];exact(g7.trans (Same.upd hD)) _ _ (sd b o hb q)
   refine⟨od,edD,D,ys,qs,rfl,eD,pr9,λz=>?_,λj x htop hx=>?_⟩
   .rw[z]at hyl;rw[hkl]at hyl;exact hgs (List.length_eq_zero_iff.mp hyl.symm)
   generalize upd (upd H7 D (.lst ys)) d (.dK (kvG gs))=H9 at pr9 sm9 ⊢;obtain⟨p,t',hp,rfl,et⟩:=fK pr9 hx;obtain⟨g,hg,hgne,hpg,hplace,hbest⟩:=S0 gd htop hp hq hq2;have dg9:DG H9 d gs:=⟨sm9 _ _ dg5.at_,λg hg=>sm9 _ _ (dg5.lst g hg),dg.adr,dg.key⟩;have er9:=sm9 _ _ (sm5 _ _ er);have smH:=(sm.trans sm5).trans sm9;refine⟨t',_,rfl,SqT.of et,rfl,_,_,rfl,_,_,rfl,rfl,?_⟩;refine⟨_,rfl,_,rfl,?_⟩;refine⟨_,rfl,.inl ⟨rfl,_,SqL.of er9⟩,_,rfl,r,_,_,rfl,rfl,er9,by rw[aE9];exact bC (by omega),?_⟩;have hrd:r≠d:=bO er9 dg9.at_ (by intro z;cases z);have dg10:DG (upd H9 r (.lst (row.map V.int++[V.int p.1]))) d gs:=⟨by rw[aF (Ne.symm hrd)];exact dg9.at_,λg hg=>by rw[aF (hfr g hg).2];exact dg9.lst g hg,dg.adr,dg.key⟩;have er10:(upd H9 r (.lst (row.map V.int++[V.int p.1]))) r=some (.lst ((row++[p.1]).map V.int)):=by rw[aB,aEo];rfl
   have sm10:Same H (upd H9 r (.lst (row.map V.int++[V.int p.1]))):=Same.upd' hHr smH;generalize upd H9 r (.lst (row.map V.int++[V.int p.1]))=H10 at dg10 er10 sm10 ⊢;have hg1:=(gd g hg).1;have hnn:-p.2=g.1:=by omega
   refine⟨_,rfl,_,rfl,d,gs,g,by show [V.ref d,V.int (-p.2)]=_;rw[hnn],dg10,hg,hgne,λH11 st11 dg11=>?_⟩;have sm11:Same H H11:=st11.same sm10 hHd hfr;have er11:=st11 _ _ hrd (λx hx z=>(hfr x hx).2 z.symm) er10;have gd11:GoodG (shr g.1 gs):=gd.shr g.1;have hw11:sto (shr g.1 gs)=sto gs - g.1:=W2 _ dg.key hg hgne;have hfr11:∀ x∈shr g.1 gs,H x.2.1=none/\x.2.1≠r:=λx hx=>by
    obtain⟨y,hy,e⟩:=W3 hx;rw[e];exact hfr y hy
   obtain⟨hc1,hc2⟩:=GoodG.bound gd11;refine⟨_,rfl,_,_,rfl,rfl,_,rfl,?_⟩
   by_cases h1:1<g.1
   .have hd1:decide ((1:Int) < -p.2)=true:=by rw[hnn];exact aEv h1
    show (if decide ((1:Int) < -p.2)=true then _ else _);rw[hd1,if_pos rfl];refine⟨_,rfl,_,rfl,_,_,rfl,rfl,_,rfl,_,_,rfl,rfl,d,shr g.1 gs,-p.2 - 1,p.1 - 1,rfl,dg11,by omega,λx hx=>by have:=hc2 x hx;omega,λgs' H12 st12 dg12 hputs=>?_⟩;rw[zT,hnn]at hputs;have hpu:uY H11 (g.1 - 1) (p.1 - 1 - 2 * les (bL (shr g.1 gs)) (g.1 - 1) - 2 * (g.1 - 1)) (shr g.1 gs) gs':=hputs;obtain⟨hTak,hAsc,hGood⟩:=vA dg.key gd ac hg hgne hplace hbest (.inr ⟨by omega,hpu⟩);have hw12:sto gs'=sto (shr g.1 gs)+(g.1 - 1):=aA8 _ dg11.key hpu;have er12:=st12 _ _ hrd (λx hx z=>(hfr11 x hx).2 z.symm) er11;refine⟨m - 1,by omega,gs',row++[p.1],_,_,_,_,rfl,st12.same sm11 hHd hfr11,dg12,hGood,hAsc,er12,λx hx=>?_,by omega,by rw[aEi,List.length_singleton];omega,by rw[List.reverse_append];exact K8 hTak hpos fin⟩;rcases K4 hpu hx with ⟨y,hy,e⟩ | hz
    .rw[e];exact hfr11 y hy
    .exact⟨sm11.free hz,λe=>by rw[e,er11]at hz;cases hz⟩
   .have hd1:decide ((1:Int) < -p.2)=false:=by rw[hnn];exact aEu h1
    show (if decide ((1:Int) < -p.2)=true then _ else _);rw[hd1,if_neg aEm];obtain⟨hTak,hAsc,hGood⟩:=vA (H:=H11) dg.key gd ac hg hgne hplace hbest (.inl ⟨by omega,rfl⟩);exact⟨m - 1,by omega,shr g.1 gs,row++[p.1],_,_,_,_,rfl,sm11,dg11,gd11,hAsc,er11,hfr11,by omega,by rw[aEi,List.length_singleton];omega,by rw[List.reverse_append];exact K8 hTak hpos fin⟩
abbrev C5:Stmt:=top 41
def aCK:aN ["walks","size"] ["walks","size"] (aI C5):=⟨rfl,rfl,rfl,by decide +kernel,rfl,by decide +kernel,by decide +kernel⟩
def aCL {f:Addr} {fd:FuncData} (F:Fun K "gain" "gain" C5 f fd) (B:Bt mg):FnOk P w K mg base CX0 1 f fd ["walks","size"] zW:=by
 refine F.ok aCK (λvs H Q E h=>?_) (λM A outer s H vs Q E hr h=>?_)
 .obtain⟨a,r,j,rfl,_⟩:=h;rfl
 .obtain⟨a,ws,j,rfl,⟨us,I,J⟩,hl,U,Y,al,k⟩:=h;have e:us.length=ws.length:=J.len;refine⟨_,(aJ (aY (aO (lJ rfl) (by rfl) B.sum lI (aA (cT ["creel","count"] ["size"] [1] rfl (.of (show cJ (aI C5) _ ["walks","size"] [1] ["size"]=true by decide +kernel)) (cI (pv 0)) (λ_ _ _=>(fR (n:=2) K rfl rfl (aP (aL (i:=0) (show (["creel","count","size"]:List Str).Nodup by decide +kernel) rfl (Or.inl rfl)) (aP (aL (i:=1) (show (["creel","count","size"]:List Str).Nodup by decide +kernel) rfl (Or.inl rfl)) bV)))) (jB (bU (by decide) (bU (by decide) fQ))) (λ_ _ _=>cK) (λ_ _ _=>(aQ jA (pv 1) (aO (qL rfl) (by rfl) B.min uE (aA (pv 0) (aA (pv 2) aE)))))) aE)))),?_⟩;refine⟨_,rfl,a,rfl,⟨_,SqL.of I⟩,eN (K:=K) (a:=a) (xs:=us) (λi ys z=>z=H/\ys=((ws.take i).map (vC j)).map V.int) ⟨rfl,rfl⟩ ?_ ?_ ?_⟩
  .rintro i ys z hi ⟨rfl,rfl⟩;exact⟨SqL.of I,by simp only[aE9,aEp];exact bC (by omega)⟩
  .rintro i x ys z hi ⟨rfl,rfl⟩;obtain⟨p,t',L,rfl,et⟩:=fK J hi;have h1:=U p (aEk L);refine⟨t',_,rfl,SqT.of et,rfl,_,_,rfl,_,_,rfl,rfl,_,rfl,_,rfl,_,rfl,_,_,rfl,_,_,rfl,rfl,.inr ⟨?_,?_⟩,rfl,uP (vC j) L⟩
   .split <;> omega
   .split <;> omega
  .rintro ys z ⟨rfl,rfl⟩ D hD;exact⟨D,ws.map (vC j),rfl,by rw[aB,e,aEn],k _ (Same.upd hD)⟩
abbrev tS:Stmt:=top 40
def aBP:aN ["trains","walks"] ["trains","walks"] (aI tS):=⟨rfl,rfl,rfl,by decide +kernel,rfl,by decide +kernel,by decide +kernel⟩
def aBQ {f:Addr} {fd:FuncData} (F:Fun K "added" "added" tS f fd) (B:Bt mg) (F_look_trains:aU P w K mg base "look_trains" 1 ["trains"] pF) (F_look_walks:aU P w K mg base "look_walks" 2 ["walks"] tF) (F_gain:aU P w K mg base "gain" 1 ["walks","size"] zW):FnOk P w K mg base CX0 3 f fd ["trains","walks"] tG:=by
 refine F.ok aBP (λvs H Q E h=>?_) (λcdv A outer s H vs Q E hr h=>?_)
 .obtain⟨a,b,r,j,rfl,_⟩:=h;rfl
 .obtain⟨a,b,ps,ws,rfl,hps,ht,hws,hwl,hc,k⟩:=h;refine⟨_,(aG (aS (aV F_look_trains hr rfl (aA (pv 0) aE)))
 (aG (aS (aV F_look_walks hr rfl (aA (pv 1) aE)))
 (aJ (aY (aO pG (by rfl) B.sorted eO (aA (cT ["size","offset"] ["walks"] [1] rfl (.of (show cJ (aI tS) _ ["trains","walks"] [1] ["walks"]=true by decide +kernel)) (cI (pv 0)) (λ_ _ _=>(fR (n:=2) K rfl rfl (aP (aL (i:=0) (show (["size","offset","walks"]:List Str).Nodup by decide +kernel) rfl (Or.inl rfl)) (aP (aL (i:=1) (show (["size","offset","walks"]:List Str).Nodup by decide +kernel) rfl (Or.inl rfl)) bV)))) (jB (bU (by decide) (bU (by decide) fQ))) (λ_ _ _=>cK) (λ_ _ _=>(bW (aA (pv 0) (aA (aQ bS (pv 1) (aV F_gain hr rfl (aA (pv 2) (aA (pv 0) aE)))) aE))))) aE)))))),?_⟩
  refine⟨_,rfl,a,ps,rfl,hps,ht,λH1 g1=>?_⟩;have hws1:=hws.mono g1;refine⟨_,rfl,b,ws,rfl,hws1,hc,?_⟩;obtain⟨us,ha,pr⟩:=hps.mono g1;have e:us.length=ps.length:=pr.len;have hpl:=ht.len;refine⟨_,rfl,a,rfl,⟨_,SqL.of ha⟩,eN (K:=K) (a:=a) (xs:=us) (λi ys H3=>Same H1 H3/\Prs H3 ys ((eZ ps ws).take i)) ⟨Same.refl _,.nil⟩ ?_ ?_ ?_⟩
  .rintro i ys H3 hi ⟨g3,pr3⟩;refine⟨SqL.of (g3 _ _ ha),bC ?_⟩;rw[pr3.len];simp only[aEp,eZ,aE9];omega
  .rintro i x ys H3 hi ⟨g3,pr3⟩;obtain⟨p,t',hp,rfl,et⟩:=fK pr hi;have hpm:=aEk hp;have h1:=ht.pos p hpm;have h2:=aDA ht hpm;refine⟨t',_,rfl,SqT.of (g3 _ _ et),rfl,_,_,rfl,_,_,rfl,rfl,_,rfl,_,rfl,_,rfl,_,rfl,b,ws,p.1,rfl,hws1.mono g3,hwl,hc,by omega,by omega,λH4 g4=>?_⟩;refine⟨_,_,rfl,rfl,(show 2<=sizeLine by decide),λt ht'=>⟨g3.trans (g4.trans (Same.upd ht')),?_⟩⟩;have ei:(eZ ps ws).take (i+1)=(eZ ps ws).take i++[(p.1,p.2+eP ws p.1)]:=by
    rw[aFE];unfold eZ;rw[aEx,hp];rfl
   rw[ei];exact Paired.append' (Prs.mono (TupS.same (g4.trans (Same.upd ht'))) pr3) (.cons ⟨t,rfl,aB⟩ .nil)
  .rintro ys H3 ⟨g3,pr3⟩ D hD;rw[e,show ps.length=(eZ ps ws).length by simp[eZ],aEn]at pr3;have gD:=Same.upd (o:=.lst ys) hD;refine⟨D,ys,eZ ps ws,rfl,aB,Prs.mono (TupS.same gD) pr3,by simp[eZ];omega,λl us' qs hl pr' hperm hs=>?_⟩;have gA:=(g1.trans g3).trans gD;exact k qs hperm hs l us' _ (gA.free hl) (Same.upd' (gA.free hl) gA) aB (Prs.mono (TupS.new hl) pr')
abbrev aBR:Stmt:=top 42
def aDQ:aN ["row","walks"] ["row","walks"] (aI aBR):=⟨rfl,rfl,rfl,by decide +kernel,rfl,by decide +kernel,by decide +kernel⟩
def aCM {f:Addr} {fd:FuncData} (F:Fun K "far" "far" aBR f fd) (B:Bt mg) (z:aU P w K mg base "list_of" 4 ["row"] mZ) (I:aU P w K mg base "added" 3 ["trains","walks"] tG) (D:aU P w K mg base "row_of" 3 ["trains"] pR):FnOk P w K mg base CX0 5 f fd ["row","walks"] vG:=by
 refine F.ok aDQ (λvs H Q E h=>?_) (λaw A outer s H vs Q E M h=>?_)
 .obtain⟨a,b,row,ws,rfl,_⟩:=h;rfl
 .obtain⟨a,b,row,ws,rfl,ha,J,hb,Y,hc,k⟩:=h;refine⟨_,(aJ (aY (aV D M rfl (aA (aV I M rfl (aA (aV z M rfl (aA (pv 0) aE)) (aA (pv 1) aE))) aE)))),?_⟩;refine⟨_,rfl,a,row,rfl,ha,J,λqs L ax l1 al H1 ay g1 am ao=>?_⟩;refine⟨_,rfl,l1,b,qs,ws,rfl,⟨al,am,ao⟩,L.trn J.len,hb.mono g1,Y,hc,λrs U az l2 ap H2 a_ g2 aq ar=>?_⟩;have hT:=aAi (aAn (ws:=ws) (L.trn J.len)) U;refine⟨l2,rs,rfl,⟨ap,aq,ar⟩,hT,λr M l3 H3 au g3 av=>?_⟩;have er:r=wso ws row:=(M.perm U).row (L.wso hc) (.refl _);subst er;exact k l3 H3 ((g1.trans g2).free au) ((g1.trans g2).trans g3) av
abbrev vY:Stmt:=top 44
def n5:aN ["one","other","gap"] ["one","other","gap"] (aI vY):=⟨rfl,rfl,rfl,by decide +kernel,rfl,by decide +kernel,by decide +kernel⟩
def aCN {f:Addr} {fd:FuncData} {tC:Tok} (F:Fun K "behind" "behind" vY f fd) (B:Bt mg) (C:Cn mg tC) (F_look_row:aU P w K mg base "look_row" 1 ["row"] iR) (F_moved:aU P w K mg base "moved" 2 ["row","by"] pT):FnOk P w K mg base CX0 3 f fd ["one","other","gap"] B0:=by
 refine F.ok n5 (λvs H Q E h=>?_) (λcdv A outer s H vs Q E hr h=>?_)
 .obtain⟨a,b,r,r',g,rfl,_⟩:=h;rfl
 .obtain⟨a,b,one,other,gap,rfl,ha,hb,hw1,⟨e1,e2,hr2,hl,hg⟩,k⟩:=h;have hw2:Rw other:=⟨hr2,by omega⟩;refine⟨_,(aG (aS (aV F_look_row hr rfl (aA (pv 0) aE)))
 (aG (aS (aV F_look_row hr rfl (aA (pv 1) aE)))
 (aG (cB (PW.pt (E4 (nX (dG (pv 0) (λ_=>rfl))) (tV (nX (dG (pv 1) (λ_=>rfl))))))
 (aJ cE)
 bG)
 (aG (cB (bD nL (aQ bS (aO aX (by rfl) B.len PySem.boot_len (aA (pv 0) aE)) (aO aX (by rfl) B.len PySem.boot_len (aA (pv 1) aE))) (fP (v:=.int 60) rfl C.MOST_STONES ⟨_,rfl⟩) (bF _))
 (aJ cE)
 bG)
 (aG (cB (bD rR (pv 2) (aO aX (by rfl) B.len PySem.boot_len (aA (pv 1) aE)) (bF _))
 (aJ cE)
 bG)
 (aJ (aY (aQ lG (cC eW (by rfl) B.list dH (aA (pv 0) aE)) (aV F_moved hr rfl (aA (pv 1) (aA (aQ gE (aQ bS (aQ bS (bH bE (pv 0) (kZ gX aK) (λ_ _=>rfl)) (pv 2)) aK) (bH eK (pv 1) aK (λ_ _=>rfl))) aE))))))))))),?_⟩
  refine⟨_,rfl,a,one,rfl,.inl ⟨trivial,ha⟩,hw1,?_⟩;refine⟨_,rfl,b,other,rfl,.inr hb,hw2,?_⟩;refine⟨_,rfl,true,.inl ⟨_,SqL.of ha,by cases one with | nil=>exact absurd rfl e1 | cons x r=>rfl⟩,?_⟩;refine⟨_,rfl,true,.inr (.inl ⟨_,SqT.of hb,by cases other with | nil=>exact absurd rfl e2 | cons x r=>rfl⟩),?_⟩;refine⟨_,rfl,a,_,rfl,.inl (SqL.of ha),_,rfl,b,_,rfl,.inr (SqT.of hb),_,_,rfl,rfl,_,_,rfl,rfl,_,rfl,dM (by rw[aE9,aE9];omega) ?_⟩;refine⟨_,rfl,_,rfl,b,_,rfl,.inr (SqT.of hb),_,_,rfl,rfl,_,rfl,dM (by rw[aE9];omega) ?_⟩;refine⟨_,rfl,a,_,rfl,.inl (SqL.of ha),λp hp=>?_⟩;have g1:=Same.upd (o:=.lst (one.map V.int)) hp;have ep:(upd H p (.lst (one.map V.int))) p=some (.lst (one.map V.int)):=aB;generalize upd H p (.lst (one.map V.int))=H1 at g1 ep ⊢;refine⟨_,rfl,_,rfl,_,rfl,a,_,_,_,rfl,rfl,SqL.of (g1 _ _ ha),aAp e1,_,rfl,_,_,rfl,rfl,_,_,rfl,rfl,_,rfl,b,_,_,_,rfl,rfl,SqT.of (g1 _ _ hb),S2 e2,_,_,rfl,rfl,b,other,_,rfl,g1 _ _ hb,hw2,λq H2 hq g2 eq=>?_⟩;refine⟨p,q,_,_,rfl,rfl,g2 _ _ ep,eq,dJ (by rw[aE9,aE9,pE];omega),λl hl=>?_⟩;rw[<- aEo];have g12:=g1.trans g2;exact k l _ (g12.free hl) (g12.trans (Same.upd hl)) aB
abbrev dF:Stmt:=top 57
def bZ:aN ["rested","walks","row","creel","count","walk"] ["rested","walks"] (aI dF):=⟨rfl,rfl,rfl,by decide +kernel,rfl,by decide +kernel,by decide +kernel⟩
def aDR {f:Addr} {fd:FuncData} {t1 t2 t3:Tok} (F:Fun K "row_behind_walks" "row_behind_walks" dF f fd) (B:Bt mg) (C3:Cn3 mg t1 t2 t3) (aq:aU P w K mg base "far" 5 ["row","walks"] vG) (L:aU P w K mg base "walked" 2 ["row","creel"] lO) (I:aU P w K mg base "walked_back" 3 ["row","creel"] zO):FnOk P w K mg base CX0 6 f fd ["rested","walks"] X5:=by
 refine F.ok bZ (λvs H Q E h=>?_) (λcb A outer s H vs Q E hr h=>?_)
 .obtain⟨t,d,r,ws,rfl,_⟩:=h;rfl
 .obtain⟨t,d,r,ws,rfl,ht,ar,hd,hw,k⟩:=h;have ce:=hw.few;have au:(kvW ws).length=ws.length:=by simp
  have av:∀ {i:Nat} {ky:Key} {x:V},(kvW ws)[i]?=some (ky,x)->∃ q,ws[i]?=some q/\ky=.inl q.1/\x=.int q.2:=λ{i ky x} e=>by
   rw[aEx]at e;obtain⟨q,h1,h2⟩:=aFJ.mp e;cases h2;exact⟨q,h1,rfl,rfl⟩
  refine⟨_,(aG (cB (bD nL (aO (lJ rfl) (by rfl) B.sum lI (aA (pJ (cT ["count"] [] [] rfl (.of (show cJ (aI dF) _ ["rested","walks","row","creel","count","walk"] [] []=true by decide +kernel)) (xZ (pv 1)) (λ_ _ _=>(aL (i:=0) (show (["count"]:List Str).Nodup by decide +kernel) rfl (Or.inl rfl))) (eG (by decide)) (λ_ _ _=>cK) (λ_ _ _=>(aO yB (by rfl) B.abs yA (aA (pv 0) aE))))) aE)) (fP (v:=.int 10) rfl C3.FEW_WALKS ⟨_,rfl⟩) (bF _))
 (aJ (aY (aV aq hr rfl (aA (pv 0) (aA (zS rfl (by rfl) B.list (pv 1)) aE)))))
 bG)
 (aG (aW (i:=2) bZ.nd rfl (Or.inl rfl) (cC eW (by rfl) B.list dH (aA (pv 0) aE)))
 (aG (W6 (dU PassesOwn.never rfl (lR (pv 1)) (fJ rfl (aP (aL (i:=3) bZ.nd rfl (Or.inl rfl)) (aP (aL (i:=4) bZ.nd rfl (Or.inl rfl)) bV)))
 (aJ (dU PassesOwn.never rfl (jK rfl B.range (aA (aO yB (by rfl) B.abs yA (aA (pv 4) aE)) aE)) (aL (i:=5) bZ.nd rfl (Or.inl rfl))
 (aJ (aW (i:=2) bZ.nd rfl (Or.inl rfl) (zJ (oS (bD nL (pv 4) aK (bF _)) (aV L hr rfl (aA (pv 2) (aA (pv 3) aE))) (aV I hr rfl (aA (pv 2) (aA (pv 3) aE)))))))))))
 (aJ (aY (pv 2)))))),?_⟩
  refine⟨d,kvW ws,hd,_,rfl,d,kvW ws,rfl,hd,λod=>?_⟩;have gd:SameD d H (upd H d (.frz od (.dK (kvW ws)))):=SameD.frz;have ed:(upd H d (.frz od (.dK (kvW ws)))) d=some (.frz od (.dK (kvW ws))):=aB;generalize upd H d (.frz od (.dK (kvW ws)))=H1 at gd ed ⊢;refine sD (d:=d) (od:=od) (kvs:=kvW ws) (λi ys J=>J=H1/\ys=((ws.take i).map (λq:Int×Int=>if q.2<0 then -q.2 else q.2)).map V.int) ⟨rfl,rfl⟩ ?_ ?_ ?_
  .rintro i ys J hi ⟨rfl,rfl⟩;exact⟨ed,by simp only[aE9,aEp];exact bC (by omega)⟩
  .rintro i ky x ys J hx ⟨rfl,rfl⟩;obtain⟨q,hq,rfl,rfl⟩:=av hx;refine⟨_,rfl,q.2,rfl,rfl,?_⟩;rw[aFE,hq];simp
  .rintro ys J ⟨rfl,rfl⟩ D hD;have aw:D≠d:=λz=>by rw[z,ed]at hD;cases hD
   refine⟨od,by rw[aF (Ne.symm aw)];exact ed,D,ws.map (λq:Int×Int=>if q.2<0 then -q.2 else q.2),rfl,by rw[aF aw,aB,au,aEn],?_⟩;have g4:Same H (upd (upd J D (.lst (((ws.take (kvW ws).length).map (λq:Int×Int=>if q.2<0 then -q.2 else q.2)).map V.int))) d (.dK (kvW ws))):=SameD.thaw hd (gd.then (Same.upd hD));generalize upd (upd J D (.lst (((ws.take (kvW ws).length).map (λq:Int×Int=>if q.2<0 then -q.2 else q.2)).map V.int))) d (.dK (kvW ws))=H4 at g4 ⊢;clear gd ed aw hD;refine⟨_,_,rfl,rfl,_,rfl,qP (λY=>?_) (λY=>?_)⟩
   .refine⟨_,rfl,_,rfl,d,kvW ws,rfl,g4 _ _ hd,λS Ts H5 hS g5 eS bq hT=>?_⟩;have t5:=g4.trans g5;have br:LP H5 S ws:=by
     refine⟨_,eS,?_⟩;refine yO (by rw[aE9,bq,au]) λj v q h1 h2=>?_;rw[aEx]at h1;obtain⟨T,h3,rfl⟩:=aFJ.mp h1;obtain⟨ky,y,h4,h5⟩:=hT j T h3;obtain⟨q',h6,rfl,rfl⟩:=av h4;rw[h2]at h6;cases h6;exact⟨T,rfl,h5⟩
    exact⟨t,S,r,ws,rfl,ht.same t5,ar,br,by omega,hw.crl,λl H6 hl g6 el=>k l H6 (t5.free hl) (t5.trans g6) el⟩
   .refine⟨_,rfl,t,_,rfl,(ht.same g4).sq,λl0 ax=>?_⟩;have g5:=Same.upd (o:=.lst (r.map V.int)) ax;have ba:(upd H4 l0 (.lst (r.map V.int))) l0=some (.lst (r.map V.int)):=aB;generalize upd H4 l0 (.lst (r.map V.int))=H5 at g5 ba ⊢;have t5:=g4.trans g5;have al:H l0=none:=g4.free ax;clear g4 g5 ax;refine⟨d,kvW ws,t5 _ _ hd,_,rfl,d,kvW ws,rfl,t5 _ _ hd,λod=>?_⟩;have gd:SameD d H (upd H5 d (.frz od (.dK (kvW ws)))):=λb o n e=>by rw[aF n];exact t5 _ _ e
    have ed:(upd H5 d (.frz od (.dK (kvW ws)))) d=some (.frz od (.dK (kvW ws))):=aB;have bt:l0≠d:=λe=>by rw[e,hd]at al;cases al
    have bb:(upd H5 d (.frz od (.dK (kvW ws)))) l0=some (.lst (r.map V.int)):=by rw[aF bt];exact ba
    generalize upd H5 d (.frz od (.dK (kvW ws)))=H6 at gd ed bb ⊢;refine j3 (d:=d) (od:=od) (kvs:=kvW ws) (λi σ J=>∃ (l:Addr) (v3 v4 v5:Option V),σ=[some (.ref t),some (.ref d),some (.ref l),v3,v4,v5]/\SameD d H J/\J d=some (.frz od (.dK (kvW ws)))/\H l=none/\J l=some (.lst ((wso (ws.take i) r).map V.int)))
     ⟨l0,none,none,none,rfl,gd,ed,al,bb⟩ (λi σ J _ ⟨_,_,_,_,_,_,e,_⟩=>e) ?_ ?_
    .rintro i ky x σ J t' hx ⟨l,v3,v4,v5,rfl,sm,e3,am,el⟩ bu;obtain⟨q,hq,rfl,rfl⟩:=av hx;have bc:=aEk hq;have ay:=hw.crl q bc;have cf:=(aDG q bc).1;have g7:=Same.upd (o:=.tup [V.int q.1,V.int q.2]) bu;have et:(upd J t' (.tup [V.int q.1,V.int q.2])) t'=some (.tup [V.int q.1,V.int q.2]):=aB;show aBV _ _ _ _ _ (upd J t' (.tup [V.int q.1,V.int q.2])) _;generalize upd J t' (.tup [V.int q.1,V.int q.2])=H7 at g7 et ⊢;have bv:=sm.then g7;have e7:=g7 _ _ e3;have bf:=g7 _ _ el;obtain⟨U,az⟩:∃ U,U=wso (ws.take i) r:=⟨_,rfl⟩;have bw:Crl (ws.take i):=λx hx=>hw.crl x (List.mem_of_mem_take hx);have bx:Row U:=by rw[az];exact A8 ar.row bw
     have bg:U.length<=60:=by rw[az,mX];exact ar.len
     have bi:=aAo hq r;rw[<- az]at bf bi;refine⟨t',_,rfl,SqT.of et,rfl,_,_,rfl,_,_,rfl,rfl,?_⟩;refine⟨_,rfl,q.2,rfl,_,rfl,by split <;> omega,by split <;> omega,jL (lo:=0) (n:=(if q.2<0 then -q.2 else q.2).toNat) (λj σ H4=>∃ (l:Addr) (v5:Option V),σ=[some (.ref t),some (.ref d),some (.ref l),some (.int q.1),some (.int q.2),v5]/\SameD d H H4/\H4 d=some (.frz od (.dK (kvW ws)))/\H l=none/\H4 l=some (.lst ((wkn q j U).map V.int))) ⟨l,v5,rfl,bv,e7,am,bf⟩ ?_ ?_⟩
     .rintro j σ H4 hj ⟨l4,w5,rfl,M,e4,ap,ao⟩;have bj:Row (wkn q j U):=A6 ay bx j;have bm:(wkn q j U).length<=60:=by rw[A7];exact bg
      have stp:wkn q (j+1) U=wk1 q (wkn q j U):=rfl;refine⟨λv H'=>∃ l5,v=V.ref l5/\SameD d H H'/\H' d=some (.frz od (.dK (kvW ws)))/\H l5=none/\H' l5=some (.lst ((wkn q (j+1) U).map V.int)),⟨_,rfl,_,_,rfl,rfl,_,rfl,qP (λY=>?_) (λY=>?_)⟩,?_⟩
      .exact⟨_,rfl,_,rfl,l4,wkn q j U,q.1,rfl,ao,bj,bm,ay,λl5 H5 a_ g5 e5=>⟨l5,rfl,M.then g5,g5 _ _ e4,M.free e4 a_,by rw[stp];unfold wk1;rw[if_pos Y];exact e5⟩⟩
      .exact⟨_,rfl,_,rfl,l4,wkn q j U,q.1,rfl,ao,bj,bm,ay,λl5 H5 a_ g5 e5=>⟨l5,rfl,M.then g5,g5 _ _ e4,M.free e4 a_,by rw[stp];unfold wk1;rw[if_neg Y];exact e5⟩⟩
      .rintro v H5 ⟨l5,rfl,b_,e5,bo,ca⟩;exact⟨l5,_,rfl,b_,e5,bo,ca⟩
     .rintro σ H4 ⟨l4,w5,rfl,M,e4,ap,ao⟩;have e:(if q.2<0 then -q.2 else q.2).toNat=q.2.natAbs:=by split <;> omega
      rw[e,<- bi]at ao;exact⟨l4,_,_,_,rfl,M,e4,ap,ao⟩
    .rintro σ J ⟨l,v3,v4,v5,rfl,sm,e3,am,el⟩;rw[au,aEn]at el;have nl:l≠d:=λe=>by rw[e,hd]at am;cases am
     exact⟨od,e3,_,rfl,k l _ am (SameD.thaw hd sm) (by rw[aF nl];exact el)⟩
abbrev rH:Stmt:=top 56
def vZ:aN ["course","row"] ["course"] (aI rH):=⟨rfl,rfl,rfl,by decide +kernel,rfl,by decide +kernel,by decide +kernel⟩
def T6 {f:Addr} {fd:FuncData} (G:Hc K) (F:Fun K "row_now" "row_now" rH f fd) (B:Bt mg) (z:aU P w K mg base "row_behind_walks" 6 ["rested","walks"] X5) (D:aU P w K mg base "mirrored" 2 ["row"] hJ):FnOk P w K mg base CX0 7 f fd ["course"] (jR G):=by
 refine F.ok vZ (λvs H Q E h=>?_) (λal A outer s H vs Q E Y h=>?_)
 .obtain⟨a,C,rfl,_⟩:=h;rfl
 .obtain⟨a,C,rfl,⟨dx,t,d,h1,h2,h3⟩,U,k⟩:=h;refine⟨_,(aG (aW (i:=1) vZ.nd rfl (Or.inl rfl) (aV z Y rfl (aA (bJ (pv 0) rfl) (aA (bJ (pv 0) rfl) aE))))
 (aJ (aY (zJ (oS (dG (bJ (pv 0) rfl) (λ_=>rfl)) (aV D Y rfl (aA (pv 1) aE)) (pv 1)))))),?_⟩
  refine⟨_,rfl,a,_,dx,_,_,rfl,h1,G.cs,G.cRe,rfl,_,rfl,a,_,dx,_,_,rfl,h1,G.cs,G.cWa,rfl,t,d,C.rested,C.walks,rfl,h2,U.rw,h3,U.ws,λl H1 hl M el=>?_⟩;have hw:=U.wrw;refine⟨λv H'=>∃ I,v=.ref I/\H I=none/\Same H H'/\H' I=some (.lst (C.row.map V.int)),⟨_,rfl,a,_,dx,_,_,rfl,M _ _ h1,G.cs,G.cTu,rfl,C.turned,by first | rfl | exact .inl rfl | exact .inr rfl,?_⟩,?_⟩
  .cases hT:C.turned with
   | true =>
    refine x8 ⟨_,rfl,l,_,rfl,el,hw.row,hw.len,λI H2 J g2 L=>⟨I,rfl,M.free J,M.trans g2,?_⟩⟩;unfold Crs.row;rw[if_pos hT];exact L
   | false =>
    refine zG ⟨_,rfl,l,rfl,hl,M,?_⟩;unfold Crs.row;rw[if_neg (by rw[hT];exact aEm)];exact el
  .rintro v H2 ⟨I,rfl,J,g2,L⟩;exact k I H2 J g2 L
abbrev kH:Stmt:=top 59
def wO:aN ["row","place"] ["row","place"] (aI kH):=⟨rfl,rfl,rfl,by decide +kernel,rfl,by decide +kernel,by decide +kernel⟩
def wP {f:Addr} {fd:FuncData} {tC:Tok} (F:Fun K "with_stone" "with_stone" kH f fd) (B:Bt mg) (C:Cn mg tC):FnOk P w K mg base CX0 1 f fd ["row","place"] iT:=by
 refine F.ok wO (λvs H Q E h=>?_) (λal A outer s H vs Q E hr h=>?_)
 .obtain⟨a,row,p,rfl,_⟩:=h;rfl
 .obtain⟨a,row,p,rfl,I,J,⟨U,hl⟩,k⟩:=h;refine⟨_,(aG (cB (bD Z5 (pv 1) (pv 0) (by with_unfolding_all rfl))
 (aJ cE)
 bG)
 (aG (cB (bD r9 (aO aX (by rfl) B.len PySem.boot_len (aA (pv 0) aE)) (fP (v:=.int 60) rfl C.MOST_STONES ⟨_,rfl⟩) (bF _))
 (aJ cE)
 bG)
 (aJ (aY (aO pH (by rfl) B.sorted eO (aA (aQ lG (pv 0) (cZ (aA (pv 1) aE))) aE)))))),?_⟩
  refine⟨_,rfl,_,rfl,a,_,rfl,.inl (SqL.of I),rfl,by simp[nM],_,rfl,?_⟩;rw[show (if false=true then !inV (V.int p) (row.map V.int)else inV (V.int p) (row.map V.int))=decide (p∈row) from I0 _ _];refine dM U ?_;refine⟨_,rfl,a,_,rfl,.inl (SqL.of I),_,_,rfl,rfl,_,rfl,dM (by rw[aE9];omega) ?_⟩;refine⟨_,rfl,_,rfl,(show 1<=sizeLine by decide),λx hx=>?_⟩;have D:=Same.upd (o:=.lst [V.int p]) hx;have ex:(upd H x (.lst [V.int p])) x=some (.lst [V.int p]):=aB;generalize upd H x (.lst [V.int p])=H1 at D ex ⊢;refine⟨a,x,_,_,rfl,rfl,D _ _ I,ex,dJ (by rw[aE9,List.length_singleton];omega),λy hy=>?_⟩;have g2:=Same.upd (o:=.lst (row.map V.int++[V.int p])) hy;have Y:(upd H1 y (.lst (row.map V.int++[V.int p]))) y=some (.lst ((row++[p]).map V.int)):=by rw[aB,aEo];rfl
  generalize upd H1 y (.lst (row.map V.int++[V.int p]))=H2 at g2 Y ⊢;refine⟨y,row++[p],rfl,Y,by rw[aEi,List.length_singleton];omega,λl ms z L M=>?_⟩;have e:ms=L3 row p:=nR (L.trans (yJ U).symm) M ((L4 J.row).imp λh=>Int.le_of_lt h);subst e;exact k l _ ((D.trans g2).free z) ((D.trans g2).trans (Same.upd z)) aB
abbrev eI:Stmt:=top 60
def rJ:aN ["row","place"] ["row","place"] (aI eI):=⟨rfl,rfl,rfl,by decide +kernel,rfl,by decide +kernel,by decide +kernel⟩
def rK {f:Addr} {fd:FuncData} (F:Fun K "without_stone" "without_stone" eI f fd) (B:Bt mg):FnOk P w K mg base CX0 1 f fd ["row","place"] fA:=by
 refine F.ok rJ (λvs H Q E h=>?_) (λM A outer s H vs Q E hr h=>?_)
 .obtain⟨a,row,p,rfl,_⟩:=h;rfl
 .obtain⟨a,row,p,rfl,I,J,U,k⟩:=h;have hl:=J.len;refine⟨_,(aG (cB (bD oV (pv 1) (pv 0) (by with_unfolding_all rfl))
 (aJ cE)
 bG)
 (aJ (aY (cT ["stone"] ["place"] [1] rfl (.of (show cJ (aI eI) _ ["row","place"] [1] ["place"]=true by decide +kernel)) (cI (pv 0)) (λ_ _ _=>(aL (i:=0) (show (["stone","place"]:List Str).Nodup by decide +kernel) rfl (Or.inl rfl))) (eG (by decide)) (λ_ _ _=>sX (bD aCi (pv 0) (pv 1) (bF _))) (λ_ _ _=>(pv 0)))))),?_⟩
  refine⟨_,rfl,_,rfl,a,_,rfl,.inl (SqL.of I),rfl,by simp[nM],_,rfl,?_⟩;rw[show (if true=true then !inV (V.int p) (row.map V.int)else inV (V.int p) (row.map V.int))=!decide (p∈row)by rw[if_pos rfl,I0]];refine aDc U ?_;refine⟨_,rfl,a,rfl,⟨_,SqL.of I⟩,eN (xs:=row.map V.int) (λi ys H2=>H2=H/\ys=((row.take i).filter (λx=>decide (x≠p))).map V.int) ⟨rfl,rfl⟩ ?_ ?_ ?_⟩
  .rintro i ys H2 hi ⟨rfl,rfl⟩;refine⟨SqL.of I,?_⟩;have:=List.length_filter_le (λx=>decide (x≠p)) (row.take i);rw[aEp]at this;rw[aE9];exact bC (by omega)
  .rintro i x ys H2 hi ⟨rfl,rfl⟩;obtain⟨z,rfl,Y⟩:=jX hi;refine⟨_,rfl,_,rfl,_,_,rfl,rfl,_,rfl,?_⟩;dsimp only;rw[aFE,Y]
   by_cases c:z=p
   .rw[if_neg (by simp[c])];exact⟨rfl,by simp[c]⟩
   .rw[if_pos (by simp[c])];exact⟨_,rfl,rfl,by simp[c]⟩
  .rintro ys H2 ⟨rfl,rfl⟩ D L;refine k D _ L (Same.upd L) ?_;rw[aB,aE9,aEn];rfl
abbrev kI:Stmt:=top 58
def nU:aN ["row","entry","word"] ["row","entry"] (aI kI):=⟨rfl,rfl,rfl,by decide +kernel,rfl,by decide +kernel,by decide +kernel⟩
def wQ {f:Addr} {fd:FuncData} (F:Fun K "row_behind" "row_behind" kI f fd) (B:Bt mg) (D:aU P w K mg base "with_stone" 1 ["row","place"] iT) (z:aU P w K mg base "without_stone" 1 ["row","place"] fA) (I:aU P w K mg base "behind" 3 ["one","other","gap"] B0):FnOk P w K mg base CX0 4 f fd ["row","entry"] iU:=by
 refine F.ok nU (λvs H Q E h=>?_) (λal A outer s H vs Q E L h=>?_)
 .obtain⟨a,v,row,e,rfl,_⟩:=h;rfl
 .obtain⟨a,v,row,e,rfl,M,J,U,hst,Y,k⟩:=h;refine⟨_,(aG (aW (i:=2) nU.nd rfl (Or.inl rfl) (bH eK (pv 1) aK (λ_ _=>rfl)))
 (aG (cB (bD E7 (pv 2) bP (bF _))
 (aJ (aY (aV D L rfl (aA (pv 0) (aA (bH eK (pv 1) aK (λ_ _=>rfl)) aE)))))
 bG)
 (aG (cB (bD E7 (pv 2) bP (bF _))
 (aJ (aY (aV z L rfl (aA (pv 0) (aA (bH eK (pv 1) aK (λ_ _=>rfl)) aE)))))
 bG)
 (aJ (aY (aV I L rfl (aA (pv 0) (aA (bH eK (pv 1) aK (λ_ _=>rfl)) (aA (bH eK (pv 1) aK (λ_ _=>rfl)) aE))))))))),?_⟩
  cases e with
  | walk c n=>exact hst.elim
  | mir=>exact hst.elim
  | put p =>
   obtain⟨t,rfl,ht⟩:=aAu U;refine⟨_,rfl,t,_,_,_,rfl,rfl,SqT.of ht,rfl,?_⟩;refine⟨_,rfl,rfl,_,rfl,uF rfl ?_⟩;exact⟨_,rfl,_,rfl,t,_,_,_,rfl,rfl,SqT.of ht,rfl,a,row,p,rfl,M,J,Y,k⟩
  | take p =>
   obtain⟨t,rfl,ht⟩:=X2 U;refine⟨_,rfl,t,_,_,_,rfl,rfl,SqT.of ht,rfl,?_⟩;refine⟨_,rfl,rfl,_,rfl,dM (by decide +kernel) ?_⟩;refine⟨_,rfl,rfl,_,rfl,uF rfl ?_⟩;exact⟨_,rfl,_,rfl,t,_,_,_,rfl,rfl,SqT.of ht,rfl,a,row,p,rfl,M,J,Y,k⟩
  | lay o g =>
   obtain⟨t,u,rfl,ht,hu⟩:=aAw U;refine⟨_,rfl,t,_,_,_,rfl,rfl,SqT.of ht,rfl,?_⟩;refine⟨_,rfl,rfl,_,rfl,dM (by decide +kernel) ?_⟩;refine⟨_,rfl,rfl,_,rfl,dM (by decide +kernel) ?_⟩;exact⟨_,rfl,_,rfl,t,_,_,_,rfl,rfl,SqT.of ht,rfl,_,rfl,t,_,_,_,rfl,rfl,SqT.of ht,rfl,a,u,row,o,g,rfl,M,hu,J,Y,k⟩
abbrev oK:Stmt:=top 55
def sM:aN ["course","creel","count","useful"] ["course","creel","count"] (aI oK):=⟨rfl,rfl,rfl,by decide +kernel,rfl,by decide +kernel,by decide +kernel⟩
def M9 {f:Addr} {fd:FuncData} {tC:Tok} (G:Hc K) (F:Fun K "add_walk" "add_walk" oK f fd) (B:Bt mg) (C:Cn mg tC) (F_look_creel:aU P w K mg base "look_creel" 1 ["creel"] dN):FnOk P w K mg base CX0 2 f fd ["course","creel","count"] (nA G):=by
 refine F.ok sM (λvs H Q E h=>?_) (λcdv A outer s H vs Q E hr h=>?_)
 .obtain⟨N,Hb,a,c,n,C,rfl,_⟩:=h;rfl
 .obtain⟨N,Hb,a,c,n,Cr,rfl,⟨sm,hba,dx,t,d,hbd,h1,h2,h3⟩,hc,hC,k⟩:=h;have hu1:=oW hr;refine⟨_,(aG (aS (aV F_look_creel hr rfl (aA (pv 1) aE)))
 (aG (aW (i:=3) sM.nd rfl (Or.inl rfl) (aO (qL rfl) (by rfl) B.min uE (aA (pv 1) (aA (fP (v:=.int 60) rfl C.MOST_STONES ⟨_,rfl⟩) aE))))
 (aJ (zQ hu1 (bJ (pv 0) rfl) (pv 3) (aQ bS (aAQ hu1 (bJ (pv 0) rfl) (pv 3) aK ⟨rfl,rfl,rfl,rfl⟩) (zJ (oS (dG (bJ (pv 0) rfl) (λ_=>rfl)) (kZ gX (pv 2)) (pv 2)))) rfl)))),?_⟩
  refine⟨_,rfl,c,rfl,hc,?_⟩;refine⟨_,rfl,_,_,rfl,?_⟩;have em:(if (60:Int)<c then 60 else c)=min c 60:=by split <;> omega
  rw[em];obtain⟨z,e1,e2⟩:=W9 (min c 60) (if Cr.turned=true then -n else n) hC.ws.nd;have hl:=hC.ws.few;refine⟨_,rfl,a,_,dx,_,_,rfl,h1,G.cs,G.cWa,rfl,d,rfl,.inl ⟨_,.inl h3⟩,_,rfl,_,DGet.k (k:=Sum.inl (min c 60)) h3,?_⟩;refine⟨λv H'=>v=.int (if Cr.turned=true then -n else n)/\H'=H,⟨_,rfl,a,_,dx,_,_,rfl,h1,G.cs,G.cTu,rfl,Cr.turned,by first | rfl | exact .inl rfl | exact .inr rfl,?_⟩,?_⟩
  .cases hT:Cr.turned with
   | true=>exact x8 ⟨_,rfl,_,rfl,rfl,rfl⟩
   | false=>exact zG ⟨_,rfl,rfl,rfl⟩
  .rintro v H' ⟨rfl,rfl⟩;refine⟨_,_,e1,rfl,_,rfl,a,_,dx,_,_,rfl,h1,G.cs,G.cWa,rfl,_,rfl,d,_,rfl,DPut.k (k:=Sum.inl (min c 60)) h3 (bC (by rw[aE9];omega)),?_⟩;rw[e2];have nad:a≠d:=bO h1 h3 (by intro z;cases z);refine k _ ⟨sm.upd' hbd,hba,dx,t,d,hbd,by rw[aF nad];exact h1,?_,aB⟩ (λx hx=>by
    by_cases z:x=d
    .rw[z,aB]at hx;cases hx
    .rw[aF z]at hx;exact hx)
   rcases h2 with ⟨n1,h2⟩ | h2
   .exact .inl ⟨n1,by rw[aF (bO h2 h3 (by intro z;cases z))];exact h2⟩
   .exact .inr (by rw[aF (bO h2 h3 (by intro z;cases z))];exact h2)
abbrev C7:Stmt:=top 54
def N0:aN ["course","entry","word"] ["course","entry"] (aI C7):=⟨rfl,rfl,rfl,by decide +kernel,rfl,by decide +kernel,by decide +kernel⟩
def aBS {f:Addr} {fd:FuncData} (G:Hc K) (F:Fun K "go_on" "go_on" C7 f fd) (B:Bt mg) (F_add_walk:aU P w K mg base "add_walk" 2 ["course","creel","count"] (nA G)) (F_row_behind:aU P w K mg base "row_behind" 4 ["row","entry"] iU) (F_row_now:aU P w K mg base "row_now" 7 ["course"] (jR G)):FnOk P w K mg base CX0 8 f fd ["course","entry"] (vH G):=by
 refine F.ok N0 (λvs H Q E h=>?_) (λcdv A outer s H vs Q E hr h=>?_)
 .obtain⟨N,Hb,a,v,e,C,rfl,_⟩:=h;rfl
 .obtain⟨N,Hb,a,v,e,C,rfl,hN,hO,hv,hC,ho,k⟩:=h;have sm:Same Hb H:=hO.1;have hvH:=hv.mono (TupS.same sm);refine⟨_,(aG (aW (i:=2) N0.nd rfl (Or.inl rfl) (bH eK (pv 1) aK (λ_ _=>rfl)))
 (aJ (cB (bD E7 (pv 2) bP (bF _))
 (aJ (aS (aV F_add_walk hr rfl (aA (pv 0) (aA (bH eK (pv 1) aK (λ_ _=>rfl)) (aA (bH eK (pv 1) aK (λ_ _=>rfl)) aE))))))
 (aJ (cB (bD E7 (pv 2) bP (bF _))
 (aJ (dW (pv 0) (aC5 (bJ (pv 0) rfl)) rfl))
 (aG (dW (pv 0) (aV F_row_behind hr rfl (aA (aV F_row_now hr rfl (aA (pv 0) aE)) (aA (pv 1) aE))) rfl)
 (aG (dW (pv 0) hZ rfl)
 (aJ (dW (pv 0) rQ rfl))))))))),?_⟩
  by_cases hw:∃ c n,e=.walk c n
  .obtain⟨c,n,rfl⟩:=hw;obtain⟨t,rfl,ht⟩:=X1 hvH;refine⟨_,rfl,t,_,_,_,rfl,rfl,SqT.of ht,rfl,?_⟩;refine⟨_,rfl,rfl,_,rfl,uF rfl ?_⟩;refine⟨_,rfl,_,rfl,t,_,_,_,rfl,rfl,SqT.of ht,rfl,_,rfl,t,_,_,_,rfl,rfl,SqT.of ht,rfl,N,Hb,a,c,n,C,rfl,hO,ho,hC,λH' hO' hf=>?_⟩;exact k _ H' hO' (Crs.walk_ok hC ho n) (Crs.walk_row hC ho n) (λz=>z.elim) λx hx=>hN x (hf x hx)
  .by_cases hm:e=.mir
   .subst hm;obtain⟨t,rfl,ht⟩:=aAv hvH;obtain⟨_,hba,dx,tr,d,hbd,h1,h2,h3⟩:=hO;refine⟨_,rfl,t,_,_,_,rfl,rfl,SqT.of ht,rfl,?_⟩;refine⟨_,rfl,rfl,_,rfl,dM (by decide +kernel) ?_⟩;refine⟨_,rfl,rfl,_,rfl,uF rfl ?_⟩;refine⟨_,rfl,a,_,dx,_,_,rfl,h1,G.cs,G.cTu,rfl,C.turned,rfl,_,rfl,a,_,dx,_,rfl,h1,G.cs,G.cTu,(show 3<1000 by decide),?_⟩;have nd:d≠a:=bO h3 h1 (by intro z;cases z);refine k { C with turned:=!C.turned } _ ⟨sm.upd' hba,hba,dx,tr,d,hbd,aB,h2.out h1,by rw[aF nd];exact h3⟩ ⟨hC.rw,hC.ws⟩ (Crs.turn_row C) (λz=>z.elim) λx hx=>hN x ?_
    by_cases z:x=a
    .rw[z,aB]at hx;cases hx
    .rw[aF z]at hx;exact hx
   .have hs:e.still:=by
     cases e with
     | walk c n=>exact absurd ⟨c,n,rfl⟩ hw
     | mir=>exact absurd rfl hm
     | put p=>trivial
     | take p=>trivial
     | lay o g=>trivial
    obtain⟨w1,w2⟩:=S4 hs;obtain⟨t,xs,rfl,ht⟩:=X3 hvH;obtain⟨_,hba,dx,tr,d,hbd,h1,h2,h3⟩:=id hO;refine⟨_,rfl,t,_,_,_,rfl,rfl,SqT.of ht,at0,?_⟩;refine⟨_,rfl,rfl,_,rfl,dM w1 ?_⟩;refine⟨_,rfl,rfl,_,rfl,dM w2 ?_⟩;refine⟨_,rfl,a,C,rfl,⟨dx,tr,d,h1,h2.nt,h3⟩,hC,λl H1 hl g1 el=>?_⟩;refine⟨_,rfl,l,.ref t,C.row,e,rfl,el,hC.row,hvH.mono (TupS.same g1),hs,ho,λl2 H2 hl2 g2 el2=>?_⟩;have g12:=g1.trans g2;have nl2:l2≠a:=λz=>by rw[z,g1 _ _ h1]at hl2;cases hl2
    refine⟨_,rfl,a,_,dx,_,rfl,g12 _ _ h1,G.cs,G.cRe,(show 3<1000 by decide),?_⟩;refine λd2 hd2=>?_;have nd2:d2≠a:=λz=>by rw[z,aB]at hd2;cases hd2
    have hd2':H2 d2=none:=by rw[aF nd2]at hd2;exact hd2
    refine⟨_,rfl,a,_,dx,_,rfl,(aF (Ne.symm nd2)).trans aB,G.cs,G.cWa,(show 3<1000 by decide),?_⟩;refine⟨_,rfl,a,_,dx,_,rfl,aB,G.cs,G.cTu,(show 3<1000 by decide),?_⟩;have nld:l2≠d2:=λz=>by rw[z,hd2']at el2;cases el2
    have s2:=sm.trans g12;rw[iH];refine k ⟨e.app C.row,[],false⟩ _ ⟨((s2.upd' hba).upd' (s2.free hd2')).upd' hba,hba,dx,l2,d2,s2.free hd2',aB,.inl ⟨hN l2 (g1.free hl2),by rw[aF nl2,aF nld,aF nl2];exact el2⟩,by rw[aF nd2,aB];rfl⟩ (Crs.new_ok (Ent.app_row hC.row ho)) rfl (λ_=>rfl) λx hx=>hN x ?_
    by_cases z:x=a
    .rw[z,aB]at hx;cases hx
    .rw[aF z]at hx
     by_cases z2:x=d2
     .rw[z2,aB]at hx;cases hx
     .rw[aF z2,aF z]at hx;exact g12.free hx
abbrev rL:Stmt:=top 53
def T7:aN ["rests","number","entry"] ["rests","number","entry"] (aI rL):=⟨rfl,rfl,rfl,by decide +kernel,rfl,by decide +kernel,by decide +kernel⟩
def T8 {f:Addr} {fd:FuncData} {t1 t2 M:Tok} (F:Fun K "is_rest" "is_rest" rL f fd) (B:Bt mg) (U:Cn3 mg t1 t2 M):FnOk P w K mg base CX0 1 f fd ["rests","number","entry"] (lV (K:=K)):=by
 refine F.ok T7 (λvs H Q E h=>?_) (λY A outer s H vs Q E hr h=>?_)
 .obtain⟨r,t,n,v,u,qs,m,e,rfl,_⟩:=h;rfl
 .obtain⟨r,t,n,v,u,qs,m,e,rfl,hq,L,ht,hv,k⟩:=h;obtain⟨x,xs,rfl,hx⟩:=X3 hv;refine⟨_,(aJ (aY (qI (eV r9 (pv 1) (aQ bS (bH eK (bH zC (pv 0) (kZ gX aK) (λ_ _=>rfl)) aK (λ_ _=>rfl)) (fP (v:=.int 16) rfl U.REST_APART ⟨_,rfl⟩)) (bF _)) (tW (eV oV (bH eK (pv 2) aK (λ_ _=>rfl)) (bW (aA bP (aA bP aE))) (by with_unfolding_all rfl)))))),?_⟩;have D:∀ I,I (V.ref t) H->rIx K (.ref r) (.int (-1)) H I:=λI q=>by
   rcases hq with hq | hq
   .exact .inl ⟨r,_,-1,_,rfl,rfl,hq,L,q⟩
   .exact .inr (.inl ⟨r,_,-1,_,rfl,rfl,hq,L,q⟩)
  refine⟨_,rfl,_,rfl,_,rfl,D _ ⟨t,_,_,_,rfl,rfl,SqT.of ht,rfl,_,_,rfl,rfl,_,_,rfl,rfl,_,rfl,?_⟩⟩;refine qP (λJ=>?_) (λJ=>?_)
  .refine⟨_,rfl,x,_,_,_,rfl,rfl,SqT.of hx,at0,(show 2<=sizeLine by decide),λy hy=>?_⟩;refine⟨y,_,rfl,.inr (SqT.of aB),rfl,rfl,?_⟩;exact k _ _ (λz=>⟨by omega,L8 z⟩) (Same.upd hy)
  .exact k false H (λz=>nomatch z) (Same.refl _)
abbrev oM:Stmt:=top 50
def N1:aN ["row"] ["row"] (aI oM):=⟨rfl,rfl,rfl,by decide +kernel,rfl,by decide +kernel,by decide +kernel⟩
def N2 {f:Addr} {fd:FuncData} (G:Hc K) (F:Fun K "new_road" "new_road" oM f fd) (B:Bt mg) (D:jO P w K mg base "Road" G.Rd 1 ["self","entries","rests","course"] (kB G)) (z:jO P w K mg base "Course" G.Cs 1 ["self","rested","walks","turned"] (oF G)):FnOk P w K mg base CX0 3 f fd ["row"] (nB G):=by
 refine F.ok N1 (λvs H Q E h=>?_) (λaq A outer s H vs Q E hr h=>?_)
 .obtain⟨N,t,row,rfl,_⟩:=h;rfl
 .obtain⟨N,t,row,rfl,ht,I,k⟩:=h;refine⟨_,(aJ (aY (oC D hr rfl (aA (bW aE) (aA (bW (aA (bW (aA aK (aA (cC cW (by rfl) B.tuple cX (aA (pv 0) aE)) aE))) aE)) (aA (oC z hr rfl (aA (cC cW (by rfl) B.tuple cX (aA (pv 0) aE)) (aA hZ (aA rQ aE)))) aE)))))),?_⟩;refine⟨(show 0<=sizeLine by decide),λe he=>?_⟩;have Y:=Same.upd (o:=.tup []) he;have ee:(upd H e (.tup [])) e=some (.tup []):=aB;generalize upd H e (.tup [])=H1 at Y ee ⊢;refine⟨_,rfl,t,_,rfl,.inr ⟨SqT.of (Y _ _ ht),(show 2<=sizeLine by decide),λx hx=>?_⟩⟩;have g2:=Same.upd (o:=.tup [V.int 0,V.ref t]) hx;have ex:(upd H1 x (.tup [V.int 0,V.ref t])) x=some (.tup [V.int 0,V.ref t]):=aB;generalize upd H1 x (.tup [V.int 0,V.ref t])=H2 at g2 ex ⊢;refine⟨(show 1<=sizeLine by decide),λr al=>?_⟩;have g3:=Same.upd (o:=.tup [V.ref x]) al;have er:(upd H2 r (.tup [V.ref x])) r=some (.tup [V.ref x]):=aB;generalize upd H2 r (.tup [V.ref x])=H3 at g3 er ⊢;have t3:=(Y.trans g2).trans g3;refine⟨_,rfl,t,_,rfl,.inr ⟨SqT.of (t3 _ _ ht),λd hd=>?_⟩⟩;have M:=Same.upd (o:=.dK []) hd;have ed:(upd H3 d (.dK [])) d=some (.dK []):=aB;generalize upd H3 d (.dK [])=H4 at M ed ⊢;refine λc dc hc am ao=>aAx G hc am ao λH5 U ec=>?_;refine λa dx ha ap J=>X4 G ha ap J λH6 L ea=>?_;have t6:=((t3.trans M).trans U).trans L;have s2:=((g3.trans M).trans U).trans L;refine k _ H6 t6 ⟨a,dx,e,r,c,_,_,[(0,row)],⟨row,[],false⟩,rfl,ea,(g2.trans s2) _ _ ee,.nil,((M.trans U).trans L) _ _ er,.cons ⟨x,t,rfl,s2 _ _ ex,.inr (t6 _ _ ht)⟩ .nil,⟨dc,t,d,L _ _ ec,.inr (t6 _ _ ht),(U.trans L) _ _ ed⟩,?_⟩;exact⟨I,rfl,λq hq=>by rw[aFF.mp hq];exact⟨Nat.le_refl _,.nil⟩,List.pairwise_singleton _ _,Crs.new_ok I,.nil,Nat.zero_le _⟩
abbrev kJ:Stmt:=top 51
def jE:aN ["road","entry","course","entries"] ["road","entry"] (aI kJ):=⟨rfl,rfl,rfl,by decide +kernel,rfl,by decide +kernel,by decide +kernel⟩
def wR {f:Addr} {fd:FuncData} (G:Hc K) (F:Fun K "with_entry" "with_entry" kJ f fd) (B:Bt mg) (B6:Bt6 mg) (I:jO P w K mg base "Road" G.Rd 1 ["self","entries","rests","course"] (kB G)) (J:jO P w K mg base "Course" G.Cs 1 ["self","rested","walks","turned"] (oF G))
 (M:aU P w K mg base "go_on" 8 ["course","entry"] (vH G)) (D:aU P w K mg base "is_rest" 1 ["rests","number","entry"] (lV (K:=K))):FnOk P w K mg base CX0 9 f fd ["road","entry"] (fZ G):=by
 refine F.ok jE (λvs H Q E h=>?_) (λcu A outer s H vs Q E hr h=>?_)
 .obtain⟨N,v,x,first,ents,r,e,rfl,_⟩:=h;rfl
 .obtain⟨N,v,x,first,ents,r,e,rfl,hN,⟨a,dx,en,re,c,us,qs,rests,C,rfl,ha,bv,az,aq,al,⟨dc,tr,d,h1,h2,h3⟩,hR⟩,hx,bw,ho,cq,k⟩:=h;have er:r=C.row:=bw.det hR.go;subst er;refine⟨_,(aG (aW (i:=2) jE.nd rfl (Or.inl rfl) (oC J hr rfl (aA (bJ (bJ (pv 0) rfl) rfl) (aA (cC uW (by rfl) B6.dict PyProof.Rows.boot_dict (aA (bJ (bJ (pv 0) rfl) rfl) aE)) (aA (bJ (bJ (pv 0) rfl) rfl) aE)))))
 (aG (aS (aV M hr rfl (aA (pv 2) (aA (pv 1) aE))))
 (aG (aW (i:=3) jE.nd rfl (Or.inl rfl) (aQ pL (bJ (pv 0) rfl) (bW (aA (pv 1) aE))))
 (aG (cB (dG (aV D hr rfl (aA (bJ (pv 0) rfl) (aA (aO aX (by rfl) B.len PySem.boot_len (aA (pv 3) aE)) (aA (pv 1) aE)))) (λ_=>rfl))
 (aJ (aY (oC I hr rfl (aA (pv 3) (aA (aQ pL (bJ (pv 0) rfl) (bW (aA (bW (aA (aO aX (by rfl) B.len PySem.boot_len (aA (pv 3) aE)) (aA (bJ (pv 2) rfl) aE))) aE))) (aA (pv 2) aE))))))
 bG)
 (aJ (aY (oC I hr rfl (aA (pv 3) (aA (bJ (pv 0) rfl) (aA (pv 2) aE)))))))))),?_⟩
  refine⟨_,rfl,a,_,dx,_,_,rfl,ha,G.rd,G.rCo,rfl,c,_,dc,_,_,rfl,h1,G.cs,G.cRe,rfl,_,rfl,a,_,dx,_,_,rfl,ha,G.rd,G.rCo,rfl,c,_,dc,_,_,rfl,h1,G.cs,G.cWa,rfl,d,_,rfl,h3,λd2 a_=>?_⟩;have g1:=Same.upd (o:=.dK (kvW C.walks)) a_;have ba:(upd H d2 (.dK (kvW C.walks))) d2=some (.dK (kvW C.walks)):=aB;generalize upd H d2 (.dK (kvW C.walks))=H1 at g1 ba ⊢;refine⟨_,rfl,a,_,dx,_,_,rfl,g1 _ _ ha,G.rd,G.rCo,rfl,c,_,dc,_,_,rfl,g1 _ _ h1,G.cs,G.cTu,rfl,λc2 bx bb bc bf=>aAx G bb bc bf λH2 g2 b_=>?_⟩;have ar:=g1.trans g2;refine⟨_,rfl,_,rfl,N,H,c2,x,e,C,rfl,λt ht=>hN t (ar.free ht),⟨ar,g1.free bb,bx,tr,d2,a_,b_,h2.same ar,g2 _ _ ba⟩,hx,hR.cok,ho,λC' H3 hO ca bg bi cv=>?_⟩;have g3:Same H H3:=hO.1;obtain⟨_,cr,bj,L,d3,_,y1,y2,y3⟩:=id hO;have cb:=az.length;rw[aE9]at cb;refine⟨_,rfl,a,_,dx,_,_,rfl,g3 _ _ ha,G.rd,G.rEn,rfl,_,rfl,(show 1<=sizeLine by decide),λp hp=>?_⟩;have g4:=Same.upd (o:=.tup [x]) hp;have ep:(upd H3 p (.tup [x])) p=some (.tup [x]):=aB;generalize upd H3 p (.tup [x])=H4 at g4 ep ⊢;have t4:=g3.trans g4;refine⟨en,p,us,[x],rfl,rfl,t4 _ _ bv,ep,dJ (by rw[List.length_singleton];omega),λam H5 g5 ao=>?_⟩;have t5:=t4.trans g5;have D5:DTs H5 (us++[x]) ((ents++[e]).map Ent.data):=by
   rw[aEo];exact(az.mono (TupS.same t5)).append (.cons (hx.mono (TupS.same t5)) .nil)
  have ap:∀ H',Same H3 H'->CrsAt G N H' c2 C':=λH' g=>⟨bj,L,d3,g _ _ y1,y2.same g,g _ _ y3⟩;have bm:Go first (ents++[e]) C'.row:=by rw[bg];exact hR.go.snoc ho
  have ce:=al.length;have cw:rests.length<=ents.length+1:=hR.few;have bo:RoadOk first (ents++[e]) rests C':=hR.more ca bm (by rw[aEi,List.length_singleton];omega)
  obtain⟨lq,bq,cx⟩:∃ lq,rests[rests.length - 1]?=some lq/\lq∈rests:=by
   have h0:=(aFK.mp hR.hd).1;exact⟨rests[rests.length - 1],by simp,List.getElem_mem _⟩
  obtain⟨lv,cf,lt,lu,rfl,elt,cz⟩:=cV al bq;have cg:atI qs (-1)=some (.ref lt):=tK (by rw[ce];exact cf);refine⟨_,rfl,a,_,dx,_,_,rfl,t5 _ _ ha,G.rd,G.rRe,rfl,_,rfl,am,_,rfl,.inr (SqT.of ao),_,rfl,re,lt,(us++[x]).length,x,_,qs,lq.1,e,rfl,.inr (SqT.of (t5 _ _ aq)),cg,t5 _ _ elt,hx.mono (TupS.same t5),λb H6 hb g6=>?_⟩;have t6:=t5.trans g6;have q6:=(g4.trans g5).trans g6;refine⟨b,by first | rfl | exact .inl rfl | exact .inr rfl,?_⟩;cases b with
  | true =>
   refine x8 ?_;refine⟨_,rfl,_,rfl,a,_,dx,_,_,rfl,t6 _ _ ha,G.rd,G.rRe,rfl,_,rfl,am,_,rfl,.inr (SqT.of (g6 _ _ ao)),_,rfl,c2,_,bj,_,_,rfl,q6 _ _ y1,G.cs,G.cRe,rfl,(show 2<=sizeLine by decide),λp2 ci=>?_⟩;have g7:=Same.upd (o:=.tup [V.int ((us++[x]).length:Int),V.ref L]) ci;have br:(upd H6 p2 (.tup [V.int ((us++[x]).length:Int),V.ref L])) p2=some (.tup [V.int ((us++[x]).length:Int),V.ref L]):=aB;generalize upd H6 p2 (.tup [V.int ((us++[x]).length:Int),V.ref L])=H7 at g7 br ⊢;refine⟨(show 1<=sizeLine by decide),λp3 cj=>?_⟩;have g8:=Same.upd (o:=.tup [V.ref p2]) cj;have bt:(upd H7 p3 (.tup [V.ref p2])) p3=some (.tup [V.ref p2]):=aB;generalize upd H7 p3 (.tup [V.ref p2])=H8 at g8 bt ⊢;have t8:=(t6.trans g7).trans g8;refine⟨re,p3,qs,[V.ref p2],rfl,rfl,t8 _ _ aq,bt,dJ (by rw[List.length_singleton];omega),λck H9 g9 cm=>?_⟩;refine⟨_,rfl,λx2 au av U aw=>X4 G av U aw λcn ax ay=>?_⟩;have Y:=((g7.trans g8).trans g9).trans ax;have bu:=t6.trans Y;have hlen:(us++[x]).length=(ents++[e]).length:=by rw[aEi,aEi];simp;omega
   refine k _ cn bu ⟨x2,au,am,ck,c2,_,_,rests++[((us++[x]).length,C'.rested)],C',rfl,ay,(g6.trans Y) _ _ ao,D5.mono (TupS.same (g6.trans Y)),ax _ _ cm,Paired.append' (Paired.mapP al λ_ _ z=>z.kp (Kp.same (G:=G) bu)) (.cons ⟨p2,L,rfl,((g8.trans g9).trans ax) _ _ br,y2.same (q6.trans Y)⟩ .nil),ap _ (q6.trans Y),?_⟩;obtain⟨c_,cp⟩:=hb rfl;exact bo.rest hlen (bi cp) bq (by omega)
  | false =>
   refine zG ?_;refine⟨_,rfl,_,rfl,a,_,dx,_,_,rfl,t6 _ _ ha,G.rd,G.rRe,rfl,_,rfl,λx2 au av U aw=>X4 G av U aw λH7 g7 ay=>?_⟩;have t7:=t6.trans g7;exact k _ H7 t7 ⟨x2,au,am,re,c2,_,_,rests,C',rfl,ay,(g6.trans g7) _ _ ao,D5.mono (TupS.same (g6.trans g7)),t7 _ _ aq,Paired.mapP al λ_ _ z=>z.kp (Kp.same (G:=G) t7),ap _ (q6.trans g7),bo⟩
abbrev kK:Stmt:=top 52
def eQ:aN ["road","at","entries","rests","start","rested","course","number"] ["road","at","entries"] (aI kK):=⟨rfl,rfl,rfl,by decide +kernel,rfl,by decide +kernel,by decide +kernel⟩
def N3 {f:Addr} {fd:FuncData} (G:Hc K) (F:Fun K "with_log" "with_log" kK f fd) (B:Bt mg) (av:jO P w K mg base "Road" G.Rd 1 ["self","entries","rests","course"] (kB G)) (U:jO P w K mg base "Course" G.Cs 1 ["self","rested","walks","turned"] (oF G))
 (al:aU P w K mg base "go_on" 8 ["course","entry"] (vH G)) (M:aU P w K mg base "is_rest" 1 ["rests","number","entry"] (lV (K:=K))):FnOk P w K mg base CX0 9 f fd ["road","at","entries"] (nC G):=by
 refine F.ok eQ (λvs H Q E h=>?_) (λfu A outer s H vs Q E hr h=>?_)
 .obtain⟨N,v,k,x,us,first,ents,es,r,rfl,_⟩:=h;rfl
 .obtain⟨N,v,k,x,us,first,ents,es,r,rfl,hN,⟨a,dx,en,re,c,fw,qs,rests,C,rfl,ha,f_,fq,bo,bq,ga,hR⟩,hx,ba,cz,c_,da,db,ax,kk⟩:=h;have de:=hR.lim;have fr:=hR.few;have df:=bq.length;have br:=ba.length;rw[aE9]at br;refine⟨_,(aG (zH (i:=3) ["number","row"] ["at"] [1] rfl eQ.nd rfl rfl (.of (show cJ (aI kK) _ ["road","at","entries","rests","start","rested","course","number"] [1] ["at"]=true by decide +kernel)) (O0 (bJ (pv 0) rfl)) (λ_ _ _=>(fR (n:=2) K rfl rfl (aP (aL (i:=0) (show (["number","row","at"]:List Str).Nodup by decide +kernel) rfl (Or.inl rfl)) (aP (aL (i:=1) (show (["number","row","at"]:List Str).Nodup by decide +kernel) rfl (Or.inl rfl)) bV)))) (jB (bU (by decide) (bU (by decide) fQ))) (λ_ _ _=>sX (bD p9 (pv 0) (pv 2) (bF _))) (λ_ _ _=>(bW (aA (pv 0) (aA (pv 1) aE)))) (by first | rfl | decide +kernel))
 (aG (kY (bH bE (pv 3) (kZ gX aK) (λ_ _=>rfl)) (fJ rfl (aP (aL (i:=4) eQ.nd rfl (Or.inl rfl)) (aP (aL (i:=5) eQ.nd rfl (Or.inl rfl)) bV))))
 (aG (aW (i:=6) eQ.nd rfl (Or.inl rfl) (oC U hr rfl (aA (pv 5) (aA hZ (aA rQ aE)))))
 (aG (dU PassesOwn.never rfl (xI rfl B.range (aA (pv 4) (aA (aO aX (by rfl) B.len PySem.boot_len (aA (pv 2) aE)) aE))) (aL (i:=7) eQ.nd rfl (Or.inl rfl))
 (aG (aBn (λ_ _ z=>z) (aV al hr rfl (aA (pv 6) (aA (bH eK (pv 2) (pv 7) (λ_ _=>rfl)) aE))))
 (aJ (cB (dG (aV M hr rfl (aA (pv 3) (aA (aQ bS (pv 7) aK) (aA (bH eK (pv 2) (pv 7) (λ_ _=>rfl)) aE)))) (λ_=>rfl))
 (aJ (aS (iK aFG aFH aFI cF (pv 3) (aA (bW (aA (aQ bS (pv 7) aK) (aA (bJ (pv 6) rfl) aE))) aE))))
 bG))))
 (aJ (aY (oC av hr rfl (aA (pv 2) (aA (cC cW (by rfl) B.tuple cX (aA (pv 3) aE)) (aA (pv 6) aE)))))))))),?_⟩
  refine⟨_,rfl,a,_,dx,_,_,rfl,ha,G.rd,G.rRe,rfl,re,rfl,⟨_,SqT.of bo⟩,L7 (K:=K) (a:=re) (xs:=qs) (λi ys H2=>Same H H2/\Paired (RestAt N H2) ys ((rests.take i).filter λq=>decide (q.1<=k))) ⟨Same.refl _,.nil⟩ ?_ ?_ ?_⟩
  .rintro i ys H2 hi ⟨g,pr⟩;refine⟨SqT.of (g _ _ bo),?_⟩;have:=pr.length;have h2:=List.length_filter_le (λq:Nat×List Int=>decide (q.1<=k)) (rests.take i);rw[aEp]at h2;exact bC (by omega)
  .rintro i y ys H2 hi ⟨g,pr⟩;obtain⟨q,hq⟩:∃ q,rests[i]?=some q:=⟨rests[i]'(by have:=(aFK.mp hi).1;omega),by simp⟩;obtain⟨y',bt,t,u,rfl,et,eu⟩:=cV bq hq;rw[hi]at bt;cases bt;refine⟨t,_,rfl,SqT.of (g _ _ et),rfl,_,_,rfl,_,_,rfl,rfl,_,rfl,_,rfl,_,_,rfl,rfl,_,rfl,?_⟩;dsimp only;rw[aFE,hq]
   by_cases hc:q.1<=k
   .rw[if_pos (by simpa using hc)];refine⟨_,rfl,_,rfl,(show 2<=sizeLine by decide),λp hp=>⟨g.trans (Same.upd hp),?_⟩⟩;rw[List.filter_append];refine Paired.append' (Paired.mapP pr λ_ _ z=>z.same (Same.upd hp)) ?_;show Paired _ _ ([q].filter λq=>decide (q.1<=k));rw[List.filter_cons_of_pos (by simpa using hc)];exact .cons ⟨p,u,rfl,aB,eu.same (g.trans (Same.upd hp))⟩ .nil
   .rw[if_neg (by simpa using hc)];refine⟨g,?_⟩;rw[List.filter_append];show Paired _ _ (_++([q].filter λq=>decide (q.1<=k)));rw[List.filter_cons_of_neg (by simpa using hc)];rw[List.filter_nil,List.append_nil];exact pr
  .rintro ys H2 ⟨g2,pr⟩ D hD;rw[df,aEn]at pr;have gb:H D=none:=g2.free hD;obtain⟨L,bu,gc,bv⟩:=hR.cut cz c_ da ax;generalize (rests.filter λq=>decide (q.1<=k))=fl at pr bu bv;have g3:=Same.upd (o:=.lst ys) hD;have eD:(upd H2 D (.lst ys)) D=some (.lst ys):=aB;generalize upd H2 D (.lst ys)=H3 at g3 eD ⊢;have pl:=pr.length;obtain⟨lv,dh,lt,lu,rfl,elt,di⟩:=cV pr bu;have dj:atI ys (-1)=some (.ref lt):=tK (by rw[pl];exact dh);refine⟨_,rfl,_,rfl,D,_,_,_,rfl,rfl,SqL.of eD,dj,lt,_,rfl,SqT.of (g3 _ _ elt),rfl,_,_,rfl,_,_,rfl,rfl,?_⟩;refine⟨_,rfl,λd hd=>?_⟩;have g4:=Same.upd (o:=.dK []) hd;have ed:(upd H3 d (.dK [])) d=some (.dK []):=aB;generalize upd H3 d (.dK [])=H4 at g4 ed ⊢;refine λc2 dm bw bx b_=>aAx G bw bx b_ λH5 g5 dn=>?_;have bb:=(g3.trans g4).trans g5;have t5:=g2.trans bb;have am:Same H2 (wo [c2,d,D] H5):=X6 bb λy hy=>by
    rcases aFL.mp hy with e | hy
    .rw[e];exact(g3.trans g4).free bw
    .rcases aFL.mp hy with e | hy
     .rw[e];exact g3.free hd
     .rw[aFF.mp hy];exact hD
   have dq:∀ t,H5 t=none->N t/\t≠D:=λt ht=>⟨hN t (t5.free ht),λz=>by rw[z,(g4.trans g5) _ _ eD]at ht;cases ht⟩;have ca:∀ t xs,N t->H2 t=some (.lst xs)->N t/\t≠D:=λt xs hn ht=>⟨hn,λz=>by rw[z,hD]at ht;cases ht⟩;refine⟨_,rfl,_,rfl,x,_,rfl,.inr (SqT.of (t5 _ _ hx)),_,_,rfl,⟨by omega,by omega,by omega,by rw[br];omega⟩,jL (lo:=(L.1:Int)) (λi σ H'=>∃ (Hb:Hp) (C':Crs) (rs:List (Nat×List Int)) (zs:List V) (v7:Option V),σ=[some (.ref a),some (.int k),some (.ref x),some (.ref D),some (.int L.1),some (.ref lu),some (.ref c2),v7]/\Same H Hb/\Hb D=none/\COwn G (λt=>N t/\t≠D) Hb H' c2 C'/\H' D=some (.lst zs)/\Paired (RestAt (λt=>N t/\t≠D) Hb) zs rs/\RoadOk first (es.take (L.1+i)) rs C'/\∀ t,H' t=none->N t/\t≠D)
    ⟨wo [c2,d,D] H5,⟨L.2,[],false⟩,fl,ys,none,rfl,g2.trans am,iV (by simp),⟨tL,iV (by simp),dm,lu,d,iV (by simp),dn,(di.imp ca).same bb,g5 _ _ ed⟩,(g4.trans g5) _ _ eD,Paired.mapP pr λ_ _ z=>(z.imp ca).same am,bv,dq⟩ ?_ ?_⟩
   .rintro i σ H' hi ⟨Hb,C',rs,zs,v7,rfl,sH,aw,hO,ao,Y,I,ay⟩;have dr:L.1+i<es.length:=by omega
    obtain⟨e,he⟩:∃ e,es[L.1+i]?=some e:=⟨es[L.1+i],by simp[dr]⟩;obtain⟨v,hv,cb⟩:=ba.get (i:=L.1+i) (d:=e.data) (by rw[aEx,he];rfl);have az:atI us ((L.1:Int)+(i:Int))=some v:=by rw[<- Int.natCast_add];exact jV hv
    obtain⟨r',dt,hok,du⟩:=db.at he;have er:=dt.det I.go;subst er;have sb:Same Hb H':=hO.1;obtain⟨_,dv,dc,tr,d',dw,y1,y2,y3⟩:=id hO;have dz:c2≠D:=bO y1 ao (by intro z;cases z);have d_:d'≠D:=bO y3 ao (by intro z;cases z);have s1:Same Hb (upd Hb D (.lst zs)):=Same.upd aw;have ef:COwn G (λt=>N t/\t≠D) (upd Hb D (.lst zs)) H' c2 C':=⟨λb o h=>by
     by_cases z:b=D
     .subst z;rw[aB]at h;cases h;exact ao
     .rw[aF z]at h;exact sb _ _ h,by rw[aF dz];exact dv,dc,tr,d',by rw[aF d_];exact dw,y1,y2,y3⟩
    have tH:=sH.trans sb;refine⟨_,rfl,_,rfl,_,rfl,x,_,_,_,rfl,rfl,SqT.of (tH _ _ hx),az,_,_,c2,v,e,C',rfl,ay,ef,cb.mono (TupS.same (sH.trans s1)),I.cok,hok,λC6 H6 ce eh bc cf ek=>?_⟩;have s6:Same (upd Hb D (.lst zs)) H6:=ce.1;have bf:H6 D=some (.lst zs):=s6 _ _ aB;have cg:=s1.trans s6;have t6:=sH.trans cg;have zl:=Y.length;obtain⟨bg,a_⟩:∃ bg,rs[rs.length - 1]?=some bg:=⟨rs[rs.length - 1]'(by have:=(aFK.mp I.hd).1;omega),by simp⟩;obtain⟨_,ci,cj,gf,rfl,ck,ft⟩:=cV Y a_;have cm:atI zs (-1)=some (.ref cj):=tK (by rw[zl];exact ci);refine⟨_,rfl,_,rfl,_,_,rfl,rfl,_,rfl,_,rfl,x,_,_,_,rfl,rfl,SqT.of (t6 _ _ hx),az,D,cj,L.1+i+1,v,_,zs,bg.1,e,rfl,.inl (SqL.of bf),cm,cg _ _ ck,cb.mono (TupS.same t6),λb H7 hb g7=>?_⟩;have ap:RoadOk first (es.take (L.1+i+1)) rs C6:=I.step he eh (by rw[bc];exact du) ax
    have bi:=ce.same g7;have cn:∀ t,H7 t=none->N t/\t≠D:=λt ht=>ek t (g7.free ht);refine⟨b,by first | rfl | exact .inl rfl | exact .inr rfl,?_⟩;cases b with
    | false=>exact zG ⟨Hb,C6,rs,zs,_,rfl,sH,aw,bi.weak s1,g7 _ _ bf,Y,ap,cn⟩
    | true =>
     refine x8 ?_;obtain⟨gg,e_⟩:=hb rfl;obtain⟨_,cp,cq,J,d7,cr,y1,y2,y3⟩:=id bi;have bj:=g7 _ _ bf;have bm:=ap.few;rw[aEp]at bm;refine⟨_,rfl,.inl ⟨rfl,_,SqL.of bj⟩,_,rfl,_,_,rfl,rfl,_,rfl,c2,_,cq,_,_,rfl,y1,G.cs,G.cRe,rfl,(show 2<=sizeLine by decide),λp hp=>?_⟩;have g8:=Same.upd (o:=.tup [V.int ((L.1:Int)+(i:Int)+1),V.ref J]) hp;have ep:(upd H7 p (.tup [V.int ((L.1:Int)+(i:Int)+1),V.ref J])) p=some (.tup [V.int ((L.1+i+1:Nat):Int),V.ref J]):=aB;generalize upd H7 p (.tup [V.int ((L.1:Int)+(i:Int)+1),V.ref J])=H8 at g8 ep ⊢;refine⟨D,_,_,rfl,rfl,g8 _ _ bj,bC (by omega),?_⟩;have aq:=g8 _ _ bj;have ar:=g8 _ _ y1;have cu:=y2.same g8;have au:=g8 _ _ y3;have nc:c2≠D:=bO ar aq (by intro z;cases z);have nd:d7≠D:=bO au aq (by intro z;cases z);have fb:p≠c2:=bO ep ar (by intro z;cases z);have fc:p≠d7:=bO ep au (by intro z;cases z);have fe:p≠D:=bO ep aq (by intro z;cases z);have ff:Same Hb H8:=(s1.trans bi.1).trans g8;have cv:Same Hb (wo [c2,d7,D] H8):=X6 ff λy hy=>by
      rcases aFL.mp hy with e | hy
      .rw[e];exact s1.free cp
      .rcases aFL.mp hy with e | hy
       .rw[e];exact s1.free cr
       .rw[aFF.mp hy];exact aw
     have out:∀ y:Addr,y≠c2->y≠d7->y≠D->wo [c2,d7,D] H8 y=H8 y:=λy a1 a2 a3=>rB (by simp[a1,a2,a3]);have fg:RowA (λt=>N t/\t≠D) (wo [c2,d7,D] H8) J C6.rested:=by
      rcases cu with ⟨n1,h⟩ | h
      .exact .inl ⟨n1,by rw[out J (bO h ar (by intro z;cases z)) (bO h au (by intro z;cases z)) n1.2];exact h⟩
      .exact .inr (by rw[out J (bO h ar (by intro z;cases z)) (bO h au (by intro z;cases z)) (bO h aq (by intro z;cases z))];exact h)
     refine⟨wo [c2,d7,D] H8,C6,rs++[(L.1+i+1,C6.rested)],zs++[.ref p],_,rfl,sH.trans cv,iV (by simp),⟨tL.upd' (iV (by simp)),iV (by simp),cq,J,d7,iV (by simp),by rw[aF nc];exact ar,?_,by rw[aF nd];exact au⟩,aB,?_,?_,λt ht=>?_⟩
     .rcases cu with ⟨n1,h⟩ | h
      .exact .inl ⟨n1,by rw[aF n1.2];exact h⟩
      .exact .inr (by rw[aF (bO h aq (by intro z;cases z))];exact h)
     .exact Paired.append' (Paired.mapP Y λ_ _ z=>z.same cv) (.cons ⟨p,J,rfl,by rw[out p fb fc fe];exact ep,fg⟩ .nil)
     .exact ap.rest (by rw[aEp];omega) (cf e_) a_ (by omega)
     .by_cases z:t=D
      .rw[z,aB]at ht;cases ht
      .rw[aF z]at ht;exact cn t (g8.free ht)
   .rintro σ H' ⟨Hb,C',rs,zs,v7,rfl,sH,aw,hO,ao,Y,I,ay⟩;have en:L.1+((us.length:Int) - (L.1:Int)).toNat=es.length:=by omega
    rw[en,aEn]at I;have sb:Same Hb H':=hO.1;refine⟨_,rfl,_,rfl,D,_,rfl,.inl ⟨SqL.of ao,λtp fh=>?_⟩⟩;have g7:=Same.upd (o:=.tup zs) fh;have cw:(upd H' tp (.tup zs)) tp=some (.tup zs):=aB;generalize upd H' tp (.tup zs)=H7 at g7 cw ⊢;refine⟨_,rfl,λx2 fi fj cx fk=>X4 G fj cx fk λH8 g8 fm=>?_⟩;have s8:=(sb.trans g7).trans g8;have t8:=sH.trans s8;have impN:∀ (Hx:Hp) t xs,(N t/\t≠D)->Hx t=some (.lst xs)->N t:=λ_ _ _ h _=>h.1;exact kk _ H8 t8 ⟨x2,fi,x,tp,c2,us,zs,rs,C',rfl,fm,t8 _ _ hx,ba.mono (TupS.same t8),g8 _ _ cw,Paired.mapP Y λ_ _ z=>(z.same s8).imp (impN _),((hO.same (g7.trans g8)).at).imp (impN _),I⟩
abbrev gP:Stmt:=top 65
def wS:aN ["text","signs","most"] ["text","signs","most"] (aI gP):=⟨rfl,rfl,rfl,by decide +kernel,rfl,by decide +kernel,by decide +kernel⟩
def aCO {f:Addr} {fd:FuncData} (F:Fun K "is_made_of" "is_made_of" gP f fd) (B:Bt mg):FnOk P w K mg base CX0 1 f fd ["text","signs","most"] A9:=by
 refine F.ok wS (λvs H Q E h=>?_) (λal A outer s H vs Q E hr h=>?_)
 .obtain⟨t,I,m,rfl,_⟩:=h;rfl
 .obtain⟨t,I,m,rfl,ht,k⟩:=h;have hu:=hr.units;refine⟨_,(aJ (aY (qI (eV (P3 hu) (pv 0) bP (bF _)) (qI (eV p9 (aO zE (by rfl) B.len PySem.boot_len (aA (pv 0) aE)) (pv 2) (bF _)) (tW (aO (F2 rfl) (by rfl) B.all F6 (aA (cT ["sign"] ["signs"] [1] rfl (.of (show cJ (aI gP) _ ["text","signs","most"] [1] ["signs"]=true by decide +kernel)) (aCt (pv 0)) (λ_ _ _=>(aL (i:=0) (show (["sign","signs"]:List Str).Nodup by decide +kernel) rfl (Or.inl rfl))) (eG (by decide)) (λ_ _ _=>cK) (λ_ _ _=>(eV Y8 (pv 0) (pv 1) (by with_unfolding_all rfl)))) aE))))))),?_⟩;have U:=aAt ht.asc;refine⟨_,rfl,_,_,Den.str _,Den.str _,U,(by decide +kernel),?_⟩;rw[aDs];have J:yC t I m=(decide (t≠"") && (decide ((t.length:Int)<=m) && (kU t).all λc=>decide (c∈kU I))):=rfl;refine⟨_,rfl,?_⟩
  by_cases L:t=""
  .rw[if_neg (by simp[L])];have:=k H (Same.refl _);rw[J,aEu (λz=>z L),Bool.false_and]at this;exact this
  rw[if_pos (by simp[L])];rw[aEv L,Bool.true_and]at J;have h5:=ht.len;refine⟨_,rfl,t,rfl,dJ (by omega),_,rfl,_,_,rfl,rfl,_,rfl,?_⟩
  by_cases c1:(t.length:Int)<=m
  .rw[if_pos (by simpa using c1)];rw[aEv c1,Bool.true_and]at J;refine⟨_,rfl,t,rfl,ht.asc,aAV (z:=t) (λi ys M=>M=H/\ys=(((kU t).take i).map λc=>decide (c∈kU I)).map V.bl) ⟨rfl,rfl⟩ ?_ ?_ ?_⟩
   .rintro i ys M hi ⟨rfl,rfl⟩;rw[aE9,aE9,aEp];exact bC (by have:t.cps.size=t.length:=rfl;omega)
   .rintro i c ys M hi ⟨rfl,rfl⟩;refine⟨_,rfl,_,rfl,_,_,rfl,rfl,rfl,?_⟩;have Y:(kU t)[i]?=some c:=by rw[Array.getElem?_toList];exact hi
    rw[StrLaws.found_one,List.take_add_one,Y];simp
   .rintro ys M ⟨rfl,rfl⟩ D hD;refine⟨D,(kU t).map λc=>decide (c∈kU I),rfl,?_,?_⟩
    .rw[aB,List.take_of_length_le (by rw[j4];exact Nat.le_refl _)]
    .have:=k _ (Same.upd (o:=.lst ((((kU t).take t.cps.size).map λc=>decide (c∈kU I)).map V.bl)) hD);rw[J]at this;rw[List.all_map];exact this
  .rw[if_neg (by simpa using c1)];have:=k H (Same.refl _);rw[J,aEu c1,Bool.false_and]at this;exact this
abbrev rM:Stmt:=top 64
def T9:aN ["text"] ["text"] (aI rM):=⟨rfl,rfl,rfl,by decide +kernel,rfl,by decide +kernel,by decide +kernel⟩
def U0 {f:Addr} {fd:FuncData} (F:Fun K "is_name" "is_name" rM f fd) (B:Bt mg) (G:Wl mg) (z:aU P w K mg base "is_made_of" 1 ["text","signs","most"] A9):FnOk P w K mg base CX0 2 f fd ["text"] tJ:=by
 refine F.ok T9 (λvs H Q E h=>?_) (λD A outer s H vs Q E I h=>?_)
 .obtain⟨t,rfl,_⟩:=h;rfl
 .obtain⟨t,rfl,ht,k⟩:=h;refine⟨_,(aJ (aY (aV z I rfl (aA (pv 0) (aA (aAY rfl G.LETTERS) (aA (aAZ rfl G.MOST_LETTERS) aE)))))),?_⟩;exact⟨_,rfl,t,j5,8,rfl,ht,k⟩
abbrev kL:Stmt:=top 68
def wT:aN ["roads","name"] ["roads","name"] (aI kL):=⟨rfl,rfl,rfl,by decide +kernel,rfl,by decide +kernel,by decide +kernel⟩
def wU {f:Addr} {fd:FuncData} (G:Hc K) (F:Fun K "road_named" "road_named" kL f fd) (B:Bt mg):FnOk P w K mg base CX0 1 f fd ["roads","name"] (gN G):=by
 refine F.ok wT (λvs H Q E h=>?_) (λI A outer s H vs Q E J h=>?_)
 .obtain⟨N,d,n,std,first,ents,rfl,_⟩:=h;rfl
 .obtain⟨N,d,n,std,first,ents,rfl,⟨_,kvs,hd,L⟩,M,k⟩:=h;have z:=oW J;obtain⟨v,D,U⟩:=X8 L M;refine⟨_,(aG (cB (o6 (i6 z (pv 1) (pv 0)))
 (aJ cE)
 bG)
 (aJ (aY (jY z (pv 0) (pv 1) (λ_ _=>rfl))))),?_⟩
  refine⟨_,rfl,_,rfl,d,_,rfl,DGet.k (k:=Sum.inr n) hd,_,rfl,?_⟩;rw[D];refine zG ?_;refine⟨_,rfl,_,rfl,d,v,rfl,?_,k v U⟩;rw[<- D];exact DGet.k (k:=Sum.inr n) hd
abbrev mF:Stmt:=top 69
def qF:aN ["roads","name","road","changed"] ["roads","name","road"] (aI mF):=⟨rfl,rfl,rfl,by decide +kernel,rfl,by decide +kernel,by decide +kernel⟩
def C8 {f:Addr} {fd:FuncData} (G:Hc K) (F:Fun K "with_road" "with_road" mF f fd) (B:Bt mg) (U:Bt6 mg):FnOk P w K mg base CX0 1 f fd ["roads","name","road"] (eM G):=by
 refine F.ok qF (λvs H Q E h=>?_) (λY A outer s H vs Q E hr h=>?_)
 .obtain⟨N,d,n,v,std,first,ents,rfl,_⟩:=h;rfl
 .obtain⟨N,d,n,v,std,first,ents,rfl,⟨⟨h8,D⟩,kvs,hd,L⟩,hR,hl,k⟩:=h;have I:=oW hr;have kl:=L.length;refine⟨_,(aG (aW (i:=3) qF.nd rfl (Or.inl rfl) (cC uW (by rfl) U.dict PyProof.Rows.boot_dict (aA (pv 0) aE)))
 (aG (zQ I (pv 3) (pv 1) (pv 2) rfl)
 (aJ (aY (pv 3))))),?_⟩
  refine⟨_,rfl,d,kvs,rfl,hd,λM J=>?_⟩;refine⟨_,rfl,_,rfl,_,rfl,M,_,rfl,DPut.k (k:=Sum.inr n) aB (bC (by omega)),?_⟩;rw[iH];have g:=Same.upd (o:=.dK (dX kvs (Sum.inr n) v)) J;exact⟨_,rfl,k M _ g ⟨⟨hl,vJ D⟩,_,aB,aBA (hR.kp (.same g)) (Paired.mapP L λ_ _ z=>⟨z.1,z.2.kp (.same g)⟩)⟩⟩
abbrev C9:Stmt:=top 70
def qG:aN ["roads","deed","word","name","row"] ["roads","deed"] (aI C9):=⟨rfl,rfl,rfl,by decide +kernel,rfl,by decide +kernel,by decide +kernel⟩
def N4 {f:Addr} {fd:FuncData} {t1 t2 t3:Tok} (G:Hc K) (F:Fun K "built" "built" C9 f fd) (B:Bt mg) (C3:Cn3 mg t1 t2 t3) (F_is_name:aU P w K mg base "is_name" 2 ["text"] tJ) (F_look_row:aU P w K mg base "look_row" 1 ["row"] iR) (F_new_road:aU P w K mg base "new_road" 3 ["row"] (nB G)) (F_with_road:aU P w K mg base "with_road" 1 ["roads","name","road"] (eM G)):FnOk P w K mg base CX0 10 f fd ["roads","deed"] (cP G ["build"]):=by
 refine F.ok qG (λvs H Q E h=>?_) (λcdv A outer s H vs Q E hr h=>?_)
 .obtain⟨N,d,v,x,std,std',D,rfl,_⟩:=h;rfl
 .obtain⟨N,d,v,x,std,std',D,rfl,hw,hN,hdi,hv,hD,k⟩:=h;obtain⟨⟨h8',_⟩,kvs,hd,pr⟩:=id hdi;have hu1:=oW hr;obtain⟨n,row,hn,ht,h0,hrw,h8,rfl,rfl⟩:=aBB hw hD;obtain⟨a,t,rfl,ha,hta⟩:=aBC hv;refine⟨_,(aG (kY (pv 1) (fJ rfl (aP (aL (i:=2) qG.nd rfl (Or.inl rfl)) (aP (aL (i:=3) qG.nd rfl (Or.inl rfl)) (aP (aL (i:=4) qG.nd rfl (Or.inl rfl)) bV)))))
 (aG (cB (nX (dG (aV F_is_name hr rfl (aA (pv 3) aE)) (λ_=>rfl)))
 (aJ cE)
 bG)
 (aG (cB (o6 (aCn hu1 (pv 3) (pv 0)))
 (aJ cE)
 bG)
 (aG (aS (aV F_look_row hr rfl (aA (pv 4) aE)))
 (aG (cB (bD r9 (aO j0 (by rfl) B.len PySem.boot_len (aA (pv 0) aE)) (fP (v:=.int 8) rfl C3.MOST_ROADS ⟨_,rfl⟩) (bF _))
 (aJ cE)
 bG)
 (aJ (aY (aV F_with_road hr rfl (aA (pv 0) (aA (pv 3) (aA (aV F_new_road hr rfl (aA (pv 4) aE)) aE))))))))))),?_⟩
  refine⟨_,rfl,a,_,rfl,SqT.of ha,rfl,_,_,rfl,_,_,rfl,_,_,rfl,rfl,?_⟩;refine⟨_,rfl,n,rfl,ht,λH1 g1=>?_⟩;refine⟨_,by first | rfl | exact .inl rfl | exact .inr rfl,?_⟩;rw[hn];refine zG ?_;refine⟨_,rfl,_,rfl,d,_,rfl,DGet.k (k:=Sum.inr n) (g1 _ _ hd),_,rfl,?_⟩;rw[yQ pr h0];refine zG ?_;refine⟨_,rfl,t,row,rfl,.inr (g1 _ _ hta),hrw,?_⟩;have kl:=pr.length;refine⟨_,rfl,d,_,rfl,g1 _ _ hd,_,_,rfl,rfl,_,rfl,dM (by omega) ?_⟩;refine⟨_,rfl,_,rfl,_,rfl,N,t,row,rfl,g1 _ _ hta,hrw,λv2 H2 g2 hR=>?_⟩;have g12:=g1.trans g2;have e:=aAy (r:=(row,[])) h0;refine⟨N,d,n,v2,std,row,[],rfl,hdi.kp (.same g12),hR,by rw[e,aEi,List.length_singleton];omega,λd' H3 g3 hd3=>?_⟩;rw[e]at hd3;exact k d' H3 (g12.trans g3) hd3
abbrev rN:Stmt:=top 72
def kM:aN ["roads","deed","word","name","rest"] ["roads","deed"] (aI rN):=⟨rfl,rfl,rfl,by decide +kernel,rfl,by decide +kernel,by decide +kernel⟩
def oN {f:Addr} {fd:FuncData} (G:Hc K) (F:Fun K "entered" "entered" rN f fd) (B:Bt mg) (I:aU P w K mg base "road_named" 1 ["roads","name"] (gN G)) (L:aU P w K mg base "with_road" 1 ["roads","name","road"] (eM G)) (J:aU P w K mg base "with_entry" 9 ["road","entry"] (fZ G)):FnOk P w K mg base CX0 10 f fd ["roads","deed"] (cP G ["walk","put","take","mirror"]):=by
 refine F.ok kM (λvs H Q E h=>?_) (λav A outer s H vs Q E hr h=>?_)
 .obtain⟨N,d,v,x,std,U,D,rfl,_⟩:=h;rfl
 .obtain⟨N,d,v,x,std,U,D,rfl,hw,hN,M,hv,hD,k⟩:=h;obtain⟨n,first,r,ents,e,h0,hg,hp,ho,hl,rfl,rfl⟩:=aDJ hw hD;obtain⟨a,xs,ds,rfl,ha,al,am,aw⟩:=vK hp hv;refine⟨_,(aG (kY (pv 1) (aA2 (n:=3) (i:=2) rfl (aP (aL (i:=2) kM.nd rfl (Or.inl rfl)) (aP (aL (i:=3) kM.nd rfl (Or.inl rfl)) (aAW (aL (i:=4) kM.nd rfl (Or.inl rfl)) bV)))))
 (aJ (aY (aV L hr rfl (aA (pv 0) (aA (pv 3) (aA (aV J hr rfl (aA (aV I hr rfl (aA (pv 0) (aA (pv 3) aE))) (aA (aQ pL (bW (aA (pv 2) aE)) (cC cW (by rfl) B.tuple cX (aA (pv 4) aE))) aE))) aE))))))),?_⟩
  refine⟨_,rfl,a,_,rfl,SqT.of ha,by decide,by show 3<=(xs.length+1+1)+1;omega,by show (xs.length+1+1)<=16384;omega,λy hy=>?_⟩;have ey:((V.str e.word :: V.str n :: xs).drop 2).take ((V.str e.word :: V.str n :: xs).length+1 - 3)=xs:=by simp
  have ao:(V.str e.word :: V.str n :: xs).take 2++[V.ref y]++((V.str e.word :: V.str n :: xs).drop 2).drop ((V.str e.word :: V.str n :: xs).length+1 - 3)=[V.str e.word,V.str n,V.ref y]:=by simp
  rw[ey,ao];have g1:=Same.upd (o:=.lst xs) hy;have Y:(upd H y (.lst xs)) y=some (.lst xs):=aB;generalize upd H y (.lst xs)=H1 at g1 Y ⊢;refine⟨_,_,rfl,_,_,rfl,_,_,rfl,rfl,?_⟩;refine⟨_,rfl,_,rfl,_,rfl,_,rfl,N,d,n,std,first,ents,rfl,M.kp (.same g1),h0,λv2 hR=>?_⟩;refine⟨_,rfl,(show 1<=sizeLine by decide),λp ap=>?_⟩;have g2:=Same.upd (o:=.tup [V.str e.word]) ap;have ep:(upd H1 p (.tup [V.str e.word])) p=some (.tup [V.str e.word]):=aB;generalize upd H1 p (.tup [V.str e.word])=H2 at g2 ep ⊢;refine⟨_,rfl,y,_,rfl,.inl ⟨SqL.of (g2 _ _ Y),λz hz=>?_⟩⟩;have g3:=Same.upd (o:=.tup xs) hz;have ez:(upd H2 z (.tup xs)) z=some (.tup xs):=aB;generalize upd H2 z (.tup xs)=H3 at g3 ez ⊢;refine⟨p,z,_,_,rfl,rfl,g3 _ _ ep,ez,dJ (by simp;omega),λq H4 g4 eq=>?_⟩;have t4:=((g1.trans g2).trans g3).trans g4;have aq:DT H4 (.ref q) e.data:=by rw[am];exact .tup eq (.cons (.str _) (al.mono (TupS.same t4)))
  refine⟨N,v2,.ref q,first,ents,r,e,rfl,λt ht=>hN t (t4.free ht),hR.kp (.same ((g2.trans g3).trans g4)),aq,hg,ho,hl,λv3 H5 g5 ar=>?_⟩;have t5:=t4.trans g5;exact⟨N,d,n,v3,std,first,ents++[e],rfl,M.kp (.same t5),ar,by rw[vI h0];exact M.1.1,λd' H6 g6 au=>k d' H6 (t5.trans g6) au⟩
abbrev U1:Stmt:=top 73
def kN:aN ["roads","deed","word","name","other","gap","road","row"] ["roads","deed"] (aI U1):=⟨rfl,rfl,rfl,by decide +kernel,rfl,by decide +kernel,by decide +kernel⟩
def Y0 {f:Addr} {fd:FuncData} (G:Hc K) (F:Fun K "laid" "laid" U1 f fd) (B:Bt mg) (z:aU P w K mg base "road_named" 1 ["roads","name"] (gN G)) (L:aU P w K mg base "row_now" 7 ["course"] (jR G)) (J:aU P w K mg base "with_road" 1 ["roads","name","road"] (eM G)) (I:aU P w K mg base "with_entry" 9 ["road","entry"] (fZ G)):FnOk P w K mg base CX0 10 f fd ["roads","deed"] (cP G ["lay"]):=by
 refine F.ok kN (λvs H Q E h=>?_) (λax A outer s H vs Q E hr h=>?_)
 .obtain⟨N,d,v,x,std,al,D,rfl,_⟩:=h;rfl
 .obtain⟨N,d,v,x,std,al,D,rfl,hw,hN,M,hv,hD,k⟩:=h;obtain⟨n,m,g,first,r,U,r2,ents,Y,h0,hg,h1,ao,ho,hl,rfl,rfl⟩:=aDM hw hD;obtain⟨a,rfl,ha⟩:=aCA hv;refine⟨_,(aG (kY (pv 1) (fJ rfl (aP (aL (i:=2) kN.nd rfl (Or.inl rfl)) (aP (aL (i:=3) kN.nd rfl (Or.inl rfl)) (aP (aL (i:=4) kN.nd rfl (Or.inl rfl)) (aP (aL (i:=5) kN.nd rfl (Or.inl rfl)) bV))))))
 (aG (aW (i:=6) kN.nd rfl (Or.inl rfl) (aV z hr rfl (aA (pv 0) (aA (pv 3) aE))))
 (aG (aW (i:=7) kN.nd rfl (Or.inl rfl) (aV L hr rfl (aA (bJ (aV z hr rfl (aA (pv 0) (aA (pv 4) aE))) rfl) aE)))
 (aJ (aY (aV J hr rfl (aA (pv 0) (aA (pv 3) (aA (aV I hr rfl (aA (pv 6) (aA (bW (aA bP (aA (cC cW (by rfl) B.tuple cX (aA (pv 7) aE)) (aA (pv 5) aE)))) aE))) aE))))))))),?_⟩
  refine⟨_,rfl,a,_,rfl,SqT.of ha,rfl,_,_,rfl,_,_,rfl,_,_,rfl,_,_,rfl,rfl,?_⟩;refine⟨_,rfl,_,rfl,N,d,n,std,first,ents,rfl,M,h0,λv2 hR=>?_⟩;refine⟨_,rfl,_,rfl,N,d,m,std,U,Y,rfl,M,h1,λv3 ap=>?_⟩;obtain⟨b,dy,en,re,cc,ay,qs,rests,C,rfl,hb,az,aw,a_,ba,aq,am⟩:=id ap;have er:=ao.det am.go;subst er;refine⟨b,_,dy,_,_,rfl,hb,G.rd,G.rCo,rfl,cc,C,rfl,aq.imp (λ_ _ _ _=>trivial),am.cok,λl H1 bb g1 el=>?_⟩;refine⟨_,rfl,_,rfl,_,rfl,_,rfl,l,_,rfl,.inl ⟨SqL.of el,λt ht=>?_⟩⟩;have g2:=Same.upd (o:=.tup (C.row.map V.int)) ht;have et:(upd H1 t (.tup (C.row.map V.int))) t=some (.tup (C.row.map V.int)):=aB;generalize upd H1 t (.tup (C.row.map V.int))=H2 at g2 et ⊢;refine⟨_,rfl,(show 3<=sizeLine by decide),λq hq=>?_⟩;have g3:=Same.upd (o:=.tup [V.str "lay",V.ref t,V.int g]) hq;have eq:(upd H2 q (.tup [V.str "lay",V.ref t,V.int g])) q=some (.tup [V.str "lay",V.ref t,V.int g]):=aB;generalize upd H2 q (.tup [V.str "lay",V.ref t,V.int g])=H3 at g3 eq ⊢;have t3:=(g1.trans g2).trans g3;have ar:DT H3 (.ref q) (Ent.lay C.row g).data:=.tup eq (.cons (.str _) (.cons (.tup (g3 _ _ et) (DTs.ints _)) (.cons (.int _) .nil)));refine⟨N,v2,.ref q,first,ents,r,.lay C.row g,rfl,λt ht=>hN t (t3.free ht),hR.kp (.same t3),ar,hg,ho,hl,λv4 H5 g5 au=>?_⟩;have t5:=t3.trans g5;exact⟨N,d,n,v4,std,first,ents++[.lay C.row g],rfl,M.kp (.same t5),au,by rw[vI h0];exact M.1.1,λd' H6 g6 av=>k d' H6 (t5.trans g6) av⟩
abbrev D0:Stmt:=top 71
def D1:aN ["roads","deed","word","name"] ["roads","deed"] (aI D0):=⟨rfl,rfl,rfl,by decide +kernel,rfl,by decide +kernel,by decide +kernel⟩
def Y1 {f:Addr} {fd:FuncData} (G:Hc K) (F:Fun K "shut" "shut" D0 f fd) (B:Bt mg) (I:aU P w K mg base "road_named" 1 ["roads","name"] (gN G)):FnOk P w K mg base CX0 10 f fd ["roads","deed"] (cP G ["shut"]):=by
 refine F.ok D1 (λvs H Q E h=>?_) (λap A outer s H vs Q E hr h=>?_)
 .obtain⟨N,d,v,x,std,M,D,rfl,_⟩:=h;rfl
 .obtain⟨N,d,v,x,std,M,D,rfl,hw,hN,U,hv,hD,k⟩:=h;obtain⟨n,r,h0,rfl,rfl⟩:=aBz hw hD;obtain⟨a,rfl,ha⟩:=aCB hv;obtain⟨⟨h8,Y⟩,kvs,hd,pr⟩:=id U;have kl:=pr.length;have am:=k9 pr Y;refine⟨_,(aG (kY (pv 1) (fJ rfl (aP (aL (i:=2) D1.nd rfl (Or.inl rfl)) (aP (aL (i:=3) D1.nd rfl (Or.inr rfl)) bV))))
 (aG (aS (aV I hr rfl (aA (pv 0) (aA (pv 3) aE))))
 (aJ (aY (pJ (aBF ["other","road"] ["name"] [3] rfl (.of (show cJ (aI D0) _ ["roads","deed","word","name"] [3] ["name"]=true by decide +kernel)) (lR (pv 0)) (λ_ _ _=>(fR (n:=2) K rfl rfl (aP (aL (i:=0) (show (["other","road","name"]:List Str).Nodup by decide +kernel) rfl (Or.inl rfl)) (aP (aL (i:=1) (show (["other","road","name"]:List Str).Nodup by decide +kernel) rfl (Or.inl rfl)) bV)))) (jB (bU (by decide) (bU (by decide) fQ))) (λ_ _ _=>sX (bD E8 (pv 0) (pv 2) (bF _))) (λ_ _ _=>(pv 0)) (λ_ _ _=>(pv 1)))))))),?_⟩
  refine⟨_,rfl,a,_,rfl,SqT.of ha,rfl,_,_,rfl,_,_,rfl,rfl,?_⟩;refine⟨_,rfl,_,rfl,N,d,n,std,r.1,r.2,rfl,U,h0,λv2 _=>?_⟩;refine⟨d,kvs,hd,_,rfl,d,kvs,rfl,hd,λod=>?_⟩;have gd:SameD d H (upd H d (.frz od (.dK kvs))):=SameD.frz;have ed:(upd H d (.frz od (.dK kvs))) d=some (.frz od (.dK kvs)):=aB;generalize upd H d (.frz od (.dK kvs))=H1 at gd ed ⊢;refine M0 (d:=d) (od:=od) (kvs:=kvs) (λi ys H2=>SameD d H H2/\H2 d=some (.frz od (.dK kvs))/\ys=(kvs.take i).filter λJ=>decide (J.1≠Sum.inr n)) ⟨gd,ed,rfl⟩ ?_ ?_ ?_
  .rintro i ys H2 hi ⟨g2,e2,rfl⟩;refine⟨e2,?_⟩;have:=List.length_filter_le (λJ:Key×V=>decide (J.1≠Sum.inr n)) (kvs.take i);rw[aEp]at this;exact bC (by omega)
  .rintro i ky y ys H2 t hi ⟨g2,e2,rfl⟩ ht;obtain⟨s,hs,ao⟩:∃ s,std[i]?=some s/\ky=.inr s.1:=by
    obtain⟨hl,e⟩:=aFK.mp hi;obtain⟨J,h1,h2⟩:=cV pr (j:=i) (y:=std[i]'(by omega)) (by simp);rw[hi]at h1;cases h1;exact⟨_,by simp,h2.1⟩
   subst ao;have g3:=Same.upd (o:=.tup [kV (.inr s.1),y]) ht;have et:(upd H2 t (.tup [kV (.inr s.1),y])) t=some (.tup [V.str s.1,y]):=aB;generalize upd H2 t (.tup [kV (.inr s.1),y])=H3 at g3 et ⊢;refine⟨t,_,rfl,SqT.of et,rfl,_,_,rfl,_,_,rfl,rfl,_,rfl,_,rfl,rfl,_,rfl,?_⟩;dsimp only;have e3:=g3 _ _ e2;have al:(Sum.inr s.1:Key)∉((kvs.take i).filter λJ=>decide (J.1≠Sum.inr n)).map (·.1):=λz=>by
    obtain⟨q,hq,e⟩:=aFN.mp z;exact m5 am hi (aFN.mpr ⟨q,(aFO.mp hq).1,e⟩)
   rw[aFE,hi]
   by_cases c:s.1=n
   .rw[if_neg (by simp[c])];refine⟨g2.then g3,e3,?_⟩;rw[List.filter_append];simp[c]
   .rw[if_pos (by simp[c])];refine⟨_,rfl,_,rfl,.inr s.1,rfl,g2.then g3,e3,?_⟩;rw[k7 al,List.filter_append];simp[c]
  .rintro ys H2 ⟨g2,e2,rfl⟩ D L;rw[aEn];have nD:D≠d:=λz=>by rw[z,e2]at L;cases L
   have g4:Same H (upd (upd H2 D (.dK (kvs.filter λJ=>decide (J.1≠Sum.inr n)))) d (.dK kvs)):=SameD.thaw hd (g2.then (Same.upd L));refine⟨od,by rw[aF (Ne.symm nD)];exact e2,k D _ g4 ⟨⟨?_,?_⟩,_,by rw[aF nD,aB],B3 (Paired.mapP pr λ_ _ z=>⟨z.1,z.2.kp (.same g4)⟩)⟩⟩
   .exact Nat.le_trans (List.length_filter_le _ _) h8
   .exact Y.sublist ((List.filter_sublist).map _)
abbrev kO:Stmt:=top 74
def cL:aN ["roads","deed","word","name","at","creel","count","road","entries"] ["roads","deed"] (aI kO):=⟨rfl,rfl,rfl,by decide +kernel,rfl,by decide +kernel,by decide +kernel⟩
def nV {f:Addr} {fd:FuncData} (G:Hc K) (F:Fun K "found_late" "found_late" kO f fd) (B:Bt mg) (F_road_named:aU P w K mg base "road_named" 1 ["roads","name"] (gN G)) (F_look_creel:aU P w K mg base "look_creel" 1 ["creel"] dN) (F_with_road:aU P w K mg base "with_road" 1 ["roads","name","road"] (eM G)) (F_with_log:aU P w K mg base "with_log" 9 ["road","at","entries"] (nC G)):FnOk P w K mg base CX0 10 f fd ["roads","deed"] (cP G ["late"]):=by
 refine F.ok cL (λvs H Q E h=>?_) (λcdv A outer s H vs Q E hr h=>?_)
 .obtain⟨N,d,v,x,std,std',D,rfl,_⟩:=h;rfl
 .obtain⟨N,d,v,x,std,std',D,rfl,hw,hN,hdi,hv,hD,k⟩:=h;obtain⟨n,j,c,m,first,r,ents,es,h0,hj,hc,he,hg,hl,rfl,rfl⟩:=aBw hw hD;obtain⟨a,rfl,ha⟩:=aBx hv;refine⟨_,(aG (kY (pv 1) (fJ rfl (aP (aL (i:=2) cL.nd rfl (Or.inl rfl)) (aP (aL (i:=3) cL.nd rfl (Or.inl rfl)) (aP (aL (i:=4) cL.nd rfl (Or.inl rfl)) (aP (aL (i:=5) cL.nd rfl (Or.inl rfl)) (aP (aL (i:=6) cL.nd rfl (Or.inl rfl)) bV)))))))
 (aG (aW (i:=7) cL.nd rfl (Or.inl rfl) (aV F_road_named hr rfl (aA (pv 0) (aA (pv 3) aE))))
 (aG (cB (PW.pt (E4 (bD rR (pv 4) aK (bF _)) (tV (bD nL (pv 4) (aO aX (by rfl) B.len PySem.boot_len (aA (bJ (pv 7) rfl) aE)) (bF _)))))
 (aJ cE)
 bG)
 (aG (aS (aV F_look_creel hr rfl (aA (pv 5) aE)))
 (aG (aW (i:=8) cL.nd rfl (Or.inl rfl) (aQ pL (aQ pL (fV W1 (bJ (pv 7) rfl) iI (iJ (pv 4))) (bW (aA (bW (aA bP (aA (pv 5) (aA (pv 6) aE)))) aE))) (fV W1 (bJ (pv 7) rfl) (iJ (pv 4)) iI)))
 (aJ (aY (aV F_with_road hr rfl (aA (pv 0) (aA (pv 3) (aA (aV F_with_log hr rfl (aA (pv 7) (aA (pv 4) (aA (pv 8) aE)))) aE))))))))))),?_⟩
  refine⟨_,rfl,a,_,rfl,SqT.of ha,rfl,_,_,rfl,_,_,rfl,_,_,rfl,_,_,rfl,_,_,rfl,rfl,?_⟩;refine⟨_,rfl,_,rfl,N,d,n,std,first,ents,rfl,hdi,h0,λv2 hR=>?_⟩;obtain⟨b,dx,en,re,cc,us,qs,rests,C,rfl,hb,hen,hus,hre,hqs,hcr,hOk⟩:=id hR;have hul:=hus.length;rw[aE9]at hul;have hlim:=hOk.lim;refine⟨_,rfl,_,_,rfl,rfl,_,rfl,dM (by omega) ?_⟩;refine⟨_,rfl,_,rfl,b,_,dx,_,_,rfl,hb,G.rd,G.rEn,rfl,en,_,rfl,.inr (SqT.of hen),_,_,rfl,rfl,_,rfl,dM (by omega) ?_⟩;refine⟨_,rfl,c,rfl,hc,?_⟩;refine⟨_,rfl,b,_,dx,_,_,rfl,hb,G.rd,G.rEn,rfl,_,rfl,_,rfl,en,_,rfl,hen,λp1 H1 g1 e1=>?_⟩;rw[aBc us j]at e1;refine⟨_,rfl,_,rfl,(show 3<=sizeLine by decide),λp2 hp2=>?_⟩;have g2:=Same.upd (o:=.tup [V.str "walk",V.int c,V.int m]) hp2;have e2:(upd H1 p2 (.tup [V.str "walk",V.int c,V.int m])) p2=some (.tup [V.str "walk",V.int c,V.int m]):=aB;generalize upd H1 p2 (.tup [V.str "walk",V.int c,V.int m])=H2 at g2 e2 ⊢;refine⟨(show 1<=sizeLine by decide),λp3 hp3=>?_⟩;have g3:=Same.upd (o:=.tup [V.ref p2]) hp3;have e3:(upd H2 p3 (.tup [V.ref p2])) p3=some (.tup [V.ref p2]):=aB;generalize upd H2 p3 (.tup [V.ref p2])=H3 at g3 e3 ⊢;refine⟨p1,p3,_,_,rfl,rfl,(g2.trans g3) _ _ e1,e3,dJ (by rw[aEp,List.length_singleton];omega),λp4 H4 g4 e4=>?_⟩;have t4:=((g1.trans g2).trans g3).trans g4;refine⟨_,rfl,b,_,dx,_,_,rfl,t4 _ _ hb,G.rd,G.rEn,rfl,_,rfl,_,rfl,en,_,rfl,t4 _ _ hen,λp5 H5 g5 e5=>?_⟩;rw[c9 us j]at e5;have hesl:es.length=ents.length+1:=by rw[he,aEi,aFC,aEp,List.length_drop];omega
  refine⟨p4,p5,_,_,rfl,rfl,g5 _ _ e4,e5,dJ (by rw[aEi,aEp,List.length_drop,List.length_singleton];omega),λp6 H6 g6 e6=>?_⟩;have t6:=(t4.trans g5).trans g6;have D6:DTs H6 (us.take j++[V.ref p2]++us.drop j) (es.map Ent.data):=by
   have hm:=hus.mono (TupS.same t6);have q2:=((g3.trans g4).trans g5).trans g6;rw[he,aEo,aEy,List.map_take,List.map_drop,List.append_assoc];exact(hm.take j).append (.cons (.tup (q2 _ _ e2) (.cons (.str _) (.cons (.int _) (.cons (.int _) .nil)))) (hm.drop j))
  have htk:es.take j=ents.take j:=by rw[he,List.take_append_of_le_length (by rw[aEp];omega),List.take_take,Nat.min_self]
  refine⟨_,rfl,_,rfl,_,rfl,_,rfl,_,rfl,N,.ref b,j,p6,_,first,ents,es,r,rfl,λt ht=>hN t (t6.free ht),hR.kp (.same t6),e6,D6,hj,htk,by omega,hg,hl,λv3 H7 g7 hR7=>?_⟩;have t7:=t6.trans g7;exact⟨N,d,n,v3,std,first,es,rfl,hdi.kp (.same t7),hR7,by rw[vI h0];exact hdi.1.1,λd' H8 g8 hd8=>k d' H8 (t7.trans g8) hd8⟩
abbrev iC:Stmt:=top 77
def kW:aN ["roads","deed","act"] ["roads","deed"] (aI iC):=⟨rfl,rfl,rfl,by decide +kernel,rfl,by decide +kernel,by decide +kernel⟩
def sS {f:Addr} {fd:FuncData} {L:Addr} {I:List (Key×Value)} {ks:List Str} (G:Hc K) (F:Fun K "roads_behind" "roads_behind" iC f fd) (B:Bt mg) (Y:GDict P w K L I) (mD:mg "DEEDS"=some (.ref L))
 (FD:∀ x∈ks,∃ g,valueAt I (Sum.inr x)=some (.ref g)/\pM P w K mg base g 10 ["roads","deed"] (cP G [x])):FnOk P w K mg base CX0 11 f fd ["roads","deed"] (cP G ks):=by
 refine F.ok kW (λvs H Q E h=>?_) (λal A outer s H vs Q E hr h=>?_)
 .obtain⟨N,d,v,x,std,z,D,rfl,_⟩:=h;rfl
 .obtain⟨N,d,v,x,std,z,D,rfl,hw,hN,J,M,U,k⟩:=h;obtain⟨a,xs,rfl,ha⟩:=aBy U M;obtain⟨g,hg,hF⟩:=FD x hw;refine⟨_,(aG (aW (i:=2) kW.nd rfl (Or.inl rfl) (aBl Y rfl mD (bH eK (pv 1) aK (λ_ _=>rfl)) (λ_ _=>rfl)))
 (aJ (aY (aA3 2 hr (aA (pv 0) (aA (pv 1) aE)))))),?_⟩
  refine⟨_,rfl,a,_,_,_,rfl,rfl,SqT.of ha,at0,x,g,rfl,hg,?_⟩;exact⟨g,_,_,rfl,hF,_,rfl,_,rfl,N,d,.ref a,x,std,z,D,rfl,aFF.mpr rfl,hN,J,M,U,k⟩
abbrev oO:Stmt:=cY (top 79) 10
def sN:aN ["self","deed","changed"] ["self","deed"] (aI oO):=⟨rfl,rfl,rfl,by decide +kernel,rfl,by decide +kernel,by decide +kernel⟩
def N5 {f:Addr} {fd:FuncData} {ks:List Str} (G:Hc K) (F:Fun K "do" "House.do" oO f fd) (B:Bt mg) (I:aU P w K mg base "roads_behind" 11 ["roads","deed"] (cP G ks)):FnOk P w K mg base CX0 12 f fd ["self","deed"] (B1 G ks):=by
 refine F.ok sN (λvs H Q E h=>?_) (λba A outer s H vs Q E hr h=>?_)
 .obtain⟨N,Hb,a,v,x,m,al,D,rfl,_⟩:=h;rfl
 .obtain⟨N,Hb,a,v,x,m,al,D,rfl,hw,⟨sm,am,⟨p,q,aq,bb,⟨dx,d,us,ws,bc,ha,hd,hp,ar,hq,bf⟩⟩,hN⟩,hv,hD,hl,k⟩:=h;refine⟨_,(aG (aW (i:=2) sN.nd rfl (Or.inl rfl) (aV I hr rfl (aA (bJ (pv 0) rfl) (aA (pv 1) aE))))
 (aG (aS (iK aFG aFH aFI cF (bJ (pv 0) rfl) (aA (bW (aA (pv 1) (aA (bJ (pv 0) rfl) aE))) aE)))
 (aG (dW (pv 0) (pv 2) rfl)
 (aJ (dW (pv 0) (cZ aE) rfl))))),?_⟩
  refine⟨_,rfl,a,_,dx,_,_,rfl,ha,G.hs,G.hSt,rfl,_,rfl,_,d,v,x,m.std,al,D,rfl,hw,λt ht=>⟨hN t ht,(λz=>by rw[z,hp]at ht;cases ht),(λz=>by rw[z,hq]at ht;cases ht)⟩,hd,hv,hD,λd' H1 g1 ay=>?_⟩;have ul:=ar.length;refine⟨_,rfl,a,_,dx,_,_,rfl,g1 _ _ ha,G.hs,G.hPa,rfl,.inl ⟨rfl,_,SqL.of (g1 _ _ hp)⟩,_,rfl,_,rfl,a,_,dx,_,_,rfl,g1 _ _ ha,G.hs,G.hSt,rfl,(show 2<=sizeLine by decide),λt ht=>?_⟩;have g2:=Same.upd (o:=.tup [v,V.ref d]) ht;have et:(upd H1 t (.tup [v,V.ref d])) t=some (.tup [v,V.ref d]):=aB;generalize upd H1 t (.tup [v,V.ref d])=H2 at g2 et ⊢;have J:=g1.trans g2;have M:=J _ _ ha;have Y:=J _ _ hp;have bg:=J _ _ hq;refine⟨p,_,_,rfl,rfl,Y,bC (by omega),?_⟩;have ao:a≠p:=bO M Y (by intro z;cases z);have bi:t≠p:=bO et Y (by intro z;cases z);have bj:t≠a:=bO et M (by intro z;cases z);refine⟨_,rfl,_,rfl,a,_,dx,_,rfl,(aF ao).trans M,G.hs,G.hSt,(show 3<1000 by decide),?_⟩;refine⟨(show 0<=sizeLine by decide),λL au=>?_⟩;have av:a≠L:=aM aB au;have aw:=bM au;have ax:p≠L:=aM aB aw;have U:=bM aw;have bm:t≠L:=aM et U;refine⟨_,rfl,a,_,dx,_,rfl,(aF av).trans aB,G.hs,G.hAh,(show 3<1000 by decide),?_⟩;have ap:∀ t xs,(N t/\t≠p/\t≠q)->H2 t=some (.lst xs)->(N t/\t≠p/\t≠L):=λt xs h e=>⟨h.1,h.2.1,aM e U⟩;have kp:Kp G (λt=>N t/\t≠p/\t≠L) H2 (upd (upd (upd (upd H2 p (.lst (us++[V.ref t]))) a (.ins G.Hs dx (fL d' p q))) L (.lst [])) a (.ins G.Hs dx (fL d' p L))) :=
   (((Kp.refl.updL Y λz=>z.2.1 rfl).updI M).updN U).updI M
  have az:=((ay.kp (.same g2)).imp ap).kp kp;have past:Paired (PastAt G (λt=>N t/\t≠p/\t≠L) (upd (upd (upd (upd H2 p (.lst (us++[V.ref t]))) a (.ins G.Hs dx (fL d' p q))) L (.lst [])) a (.ins G.Hs dx (fL d' p L)))) (us++[V.ref t]) (m.past++[(D,m.std)]):=by
   refine Paired.append' (Paired.mapP ar λ_ _ z=>((z.kp (.same J)).imp ap).kp kp) (.cons ⟨t,v,d,rfl,kp.tup _ _ et,(hv.mono (TupS.same J)).mono kp.tup,((hd.kp (.same J)).imp ap).kp kp⟩ .nil)
  have a_:Same Hb (upd (upd (upd (upd H2 p (.lst (us++[V.ref t]))) a (.ins G.Hs dx (fL d' p q))) L (.lst [])) a (.ins G.Hs dx (fL d' p L))) :=
   ((((sm.trans J).upd' aq).upd' am).upd' ((sm.trans J).free U)).upd' am
  refine k _ ⟨a_,am,⟨p,L,aq,(sm.trans J).free U,⟨dx,d',us++[V.ref t],[],ax,aB,az,?_,past,?_,.nil⟩⟩,λy hy=>hN y (J.free (bM (bM (bM (bM hy)))))⟩
  .rw[aF (Ne.symm ao),aF ax,aF (Ne.symm ao),aB]
  .rw[aF (Ne.symm av),aB]
abbrev jF:Stmt:=cY (top 79) 1
def wA:aN ["self","name","row"] ["self","name","row"] (aI jF):=⟨rfl,rfl,rfl,by decide +kernel,rfl,by decide +kernel,by decide +kernel⟩
def wB {f:Addr} {fd:FuncData} {ks:List Str} (U:("build":Str)∈ks) (G:Hc K) (F:Fun K "build" "House.build" jF f fd) (B:Bt mg) (z:bN P w K mg base G.Hs "do" 12 ["self","deed"] (B1 G ks)):FnOk P w K mg base CX0 13 f fd ["self","name","row"] (tN G):=by
 refine F.ok wA (λvs H Q E h=>?_) (λY A outer s H vs Q E hr h=>?_)
 .obtain⟨N,Hb,a,l,n,row,m,rfl,_⟩:=h;rfl
 .obtain⟨N,Hb,a,l,n,row,m,rfl,J,hl,hn,ht,h0,D,h8,hp,k⟩:=h;obtain⟨dx,d,p,q,ha⟩:=J.ins;refine⟨_,(aJ (aS (cR z G.hs hr (pv 0) (aA (bW (aA bP (aA (pv 1) (aA (cC cW (by rfl) B.tuple cX (aA (pv 2) aE)) aE)))) aE)))),?_⟩;refine⟨_,rfl,a,dx,_,rfl,ha,rfl,_,rfl,_,rfl,l,_,rfl,.inl ⟨SqL.of hl,λt I=>?_⟩⟩;have L:=Same.upd (o:=.tup (row.map V.int)) I;have M:(upd H t (.tup (row.map V.int))) t=some (.tup (row.map V.int)):=aB;generalize upd H t (.tup (row.map V.int))=H1 at L M ⊢;refine⟨(show 3<=sizeLine by decide),λu hu=>?_⟩;have g2:=Same.upd (o:=.tup [V.str "build",V.str n,V.ref t]) hu;exact⟨N,Hb,a,.ref u,"build",m,_,_,rfl,U,J.same (L.trans g2),.tup aB (.cons (.str _) (.cons (.str _) (.cons (.tup (g2 _ _ M) (DTs.ints row)) .nil))),.build hn ht h0 D h8,hp,k⟩
abbrev kP:Stmt:=cY (top 79) 2
def wV:aN ["self","name"] ["self","name"] (aI kP):=⟨rfl,rfl,rfl,by decide +kernel,rfl,by decide +kernel,by decide +kernel⟩
def wW {f:Addr} {fd:FuncData} {ks:List Str} (U:("shut":Str)∈ks) (G:Hc K) (F:Fun K "shut" "House.shut" kP f fd) (B:Bt mg) (z:bN P w K mg base G.Hs "do" 12 ["self","deed"] (B1 G ks)):FnOk P w K mg base CX0 13 f fd ["self","name"] (cG G "shut" 1):=by
 refine F.ok wV (λvs H Q E h=>?_) (λY A outer s H vs Q E hr h=>?_)
 .obtain⟨N,Hb,a,xs,ds,m,D,rfl,I,_⟩:=h;exact congrArg Nat.succ I
 .obtain⟨N,Hb,a,xs,ds,m,D,rfl,I,L,J,hD,hp,k⟩:=h;obtain⟨dx,d,p,q,ha⟩:=L.ins;obtain⟨x1,rfl⟩:=aE5 I;refine⟨_,(aJ (aS (cR z G.hs hr (pv 0) (aA (bW (aA bP (aA (pv 1) aE))) aE)))),?_⟩;refine⟨_,rfl,a,dx,_,rfl,ha,rfl,_,rfl,(show 2<=sizeLine by decide),λu hu=>?_⟩;have M:=Same.upd (o:=.tup [V.str "shut",x1]) hu;exact⟨N,Hb,a,.ref u,"shut",m,_,_,rfl,U,L.same M,.tup aB (.cons (.str _) (J.mono (TupS.same M))),hD,hp,k⟩
abbrev kQ:Stmt:=cY (top 79) 3
def wX:aN ["self","name","creel","count"] ["self","name","creel","count"] (aI kQ):=⟨rfl,rfl,rfl,by decide +kernel,rfl,by decide +kernel,by decide +kernel⟩
def wY {f:Addr} {fd:FuncData} {ks:List Str} (U:("walk":Str)∈ks) (G:Hc K) (F:Fun K "walk" "House.walk" kQ f fd) (B:Bt mg) (z:bN P w K mg base G.Hs "do" 12 ["self","deed"] (B1 G ks)):FnOk P w K mg base CX0 13 f fd ["self","name","creel","count"] (cG G "walk" 3):=by
 refine F.ok wX (λvs H Q E h=>?_) (λY A outer s H vs Q E hr h=>?_)
 .obtain⟨N,Hb,a,xs,ds,m,D,rfl,I,_⟩:=h;exact congrArg Nat.succ I
 .obtain⟨N,Hb,a,xs,ds,m,D,rfl,I,L,J,hD,hp,k⟩:=h;obtain⟨dx,d,p,q,ha⟩:=L.ins;obtain⟨x1,x2,x3,rfl⟩:=aDx I;refine⟨_,(aJ (aS (cR z G.hs hr (pv 0) (aA (bW (aA bP (aA (pv 1) (aA (pv 2) (aA (pv 3) aE))))) aE)))),?_⟩;refine⟨_,rfl,a,dx,_,rfl,ha,rfl,_,rfl,_,rfl,_,rfl,(show 4<=sizeLine by decide),λu hu=>?_⟩;have M:=Same.upd (o:=.tup [V.str "walk",x1,x2,x3]) hu;exact⟨N,Hb,a,.ref u,"walk",m,_,_,rfl,U,L.same M,.tup aB (.cons (.str _) (J.mono (TupS.same M))),hD,hp,k⟩
abbrev kR:Stmt:=cY (top 79) 5
def wZ:aN ["self","name","place"] ["self","name","place"] (aI kR):=⟨rfl,rfl,rfl,by decide +kernel,rfl,by decide +kernel,by decide +kernel⟩
def xB {f:Addr} {fd:FuncData} {ks:List Str} (U:("take":Str)∈ks) (G:Hc K) (F:Fun K "take" "House.take" kR f fd) (B:Bt mg) (z:bN P w K mg base G.Hs "do" 12 ["self","deed"] (B1 G ks)):FnOk P w K mg base CX0 13 f fd ["self","name","place"] (cG G "take" 2):=by
 refine F.ok wZ (λvs H Q E h=>?_) (λY A outer s H vs Q E hr h=>?_)
 .obtain⟨N,Hb,a,xs,ds,m,D,rfl,I,_⟩:=h;exact congrArg Nat.succ I
 .obtain⟨N,Hb,a,xs,ds,m,D,rfl,I,L,J,hD,hp,k⟩:=h;obtain⟨dx,d,p,q,ha⟩:=L.ins;obtain⟨x1,x2,rfl⟩:=aDw I;refine⟨_,(aJ (aS (cR z G.hs hr (pv 0) (aA (bW (aA bP (aA (pv 1) (aA (pv 2) aE)))) aE)))),?_⟩;refine⟨_,rfl,a,dx,_,rfl,ha,rfl,_,rfl,_,rfl,(show 3<=sizeLine by decide),λu hu=>?_⟩;have M:=Same.upd (o:=.tup [V.str "take",x1,x2]) hu;exact⟨N,Hb,a,.ref u,"take",m,_,_,rfl,U,L.same M,.tup aB (.cons (.str _) (J.mono (TupS.same M))),hD,hp,k⟩
abbrev mG:Stmt:=cY (top 79) 7
def D2:aN ["self","name","other","gap"] ["self","name","other","gap"] (aI mG):=⟨rfl,rfl,rfl,by decide +kernel,rfl,by decide +kernel,by decide +kernel⟩
def D3 {f:Addr} {fd:FuncData} {ks:List Str} (U:("lay":Str)∈ks) (G:Hc K) (F:Fun K "lay" "House.lay" mG f fd) (B:Bt mg) (z:bN P w K mg base G.Hs "do" 12 ["self","deed"] (B1 G ks)):FnOk P w K mg base CX0 13 f fd ["self","name","other","gap"] (cG G "lay" 3):=by
 refine F.ok D2 (λvs H Q E h=>?_) (λY A outer s H vs Q E hr h=>?_)
 .obtain⟨N,Hb,a,xs,ds,m,D,rfl,I,_⟩:=h;exact congrArg Nat.succ I
 .obtain⟨N,Hb,a,xs,ds,m,D,rfl,I,L,J,hD,hp,k⟩:=h;obtain⟨dx,d,p,q,ha⟩:=L.ins;obtain⟨x1,x2,x3,rfl⟩:=aDx I;refine⟨_,(aJ (aS (cR z G.hs hr (pv 0) (aA (bW (aA bP (aA (pv 1) (aA (pv 2) (aA (pv 3) aE))))) aE)))),?_⟩;refine⟨_,rfl,a,dx,_,rfl,ha,rfl,_,rfl,_,rfl,_,rfl,(show 4<=sizeLine by decide),λu hu=>?_⟩;have M:=Same.upd (o:=.tup [V.str "lay",x1,x2,x3]) hu;exact⟨N,Hb,a,.ref u,"lay",m,_,_,rfl,U,L.same M,.tup aB (.cons (.str _) (J.mono (TupS.same M))),hD,hp,k⟩
abbrev kS:Stmt:=cY (top 79) 8
def xC:aN ["self","name","at","creel","count"] ["self","name","at","creel","count"] (aI kS):=⟨rfl,rfl,rfl,by decide +kernel,rfl,by decide +kernel,by decide +kernel⟩
def xD {f:Addr} {fd:FuncData} {ks:List Str} (U:("late":Str)∈ks) (G:Hc K) (F:Fun K "late" "House.late" kS f fd) (B:Bt mg) (z:bN P w K mg base G.Hs "do" 12 ["self","deed"] (B1 G ks)):FnOk P w K mg base CX0 13 f fd ["self","name","at","creel","count"] (cG G "late" 4):=by
 refine F.ok xC (λvs H Q E h=>?_) (λY A outer s H vs Q E hr h=>?_)
 .obtain⟨N,Hb,a,xs,ds,m,D,rfl,I,_⟩:=h;exact congrArg Nat.succ I
 .obtain⟨N,Hb,a,xs,ds,m,D,rfl,I,L,J,hD,hp,k⟩:=h;obtain⟨dx,d,p,q,ha⟩:=L.ins;obtain⟨x1,x2,x3,x4,rfl⟩:=aE6 I;refine⟨_,(aJ (aS (cR z G.hs hr (pv 0) (aA (bW (aA bP (aA (pv 1) (aA (pv 2) (aA (pv 3) (aA (pv 4) aE)))))) aE)))),?_⟩;refine⟨_,rfl,a,dx,_,rfl,ha,rfl,_,rfl,_,rfl,_,rfl,_,rfl,(show 5<=sizeLine by decide),λu hu=>?_⟩;have M:=Same.upd (o:=.tup [V.str "late",x1,x2,x3,x4]) hu;exact⟨N,Hb,a,.ref u,"late",m,_,_,rfl,U,L.same M,.tup aB (.cons (.str _) (J.mono (TupS.same M))),hD,hp,k⟩
abbrev kT:Stmt:=cY (top 79) 11
def jG:aN ["self","deed","earlier"] ["self"] (aI kT):=⟨rfl,rfl,rfl,by decide +kernel,rfl,by decide +kernel,by decide +kernel⟩
def xE {f:Addr} {fd:FuncData} (G:Hc K) (F:Fun K "back" "House.back" kT f fd) (B:Bt mg):FnOk P w K mg base CX0 2 f fd ["self"] (pW G):=by
 refine F.ok jG (λvs H Q E h=>?_) (λbi A outer s H vs Q E hr h=>?_)
 .obtain⟨N,Hb,a,m,mp,D,al,rfl,_⟩:=h;rfl
 .obtain⟨N,Hb,a,m,mp,D,al,rfl,⟨sm,am,⟨p,q,ao,ap,⟨dx,d,us,ws,L,M,hd,U,aq,hq,ar⟩⟩,hN⟩,hm,hl,k⟩:=h;rw[hm]at aq;obtain⟨I,v,rfl,au,t,u,d0,rfl,ht,hu,a_⟩:=sK aq;refine⟨_,(aG (cB (nX (dG (bJ (pv 0) rfl) (λ_=>rfl)))
 (aJ cE)
 bG)
 (aG (kY (zF aFG PySem.F.slot_list_pop PySem.F.type_list_pop w4 (bJ (pv 0) rfl)) (fJ rfl (aP (aL (i:=1) jG.nd rfl (Or.inl rfl)) (aP (aL (i:=2) jG.nd rfl (Or.inl rfl)) bV))))
 (aG (aS (iK aFG aFH aFI cF (bJ (pv 0) rfl) (aA (bW (aA (pv 1) (aA (bJ (pv 0) rfl) aE))) aE)))
 (aG (dW (pv 0) (pv 2) rfl)
 (aJ (aY (pv 1))))))),?_⟩
  have ne:(I++[V.ref t]).isEmpty=false:=by simp
  refine⟨_,rfl,a,_,dx,_,_,rfl,M,G.hs,G.hPa,rfl,true,.inl ⟨_,SqL.of U,by rw[ne];rfl⟩,?_⟩;refine⟨_,rfl,a,_,dx,_,_,rfl,M,G.hs,G.hPa,rfl,.inl ⟨rfl,_,SqL.of U⟩,p,_,V.ref t,rfl,rfl,U,by simp,?_⟩;rw[List.dropLast_concat];have av:a≠p:=bO M U (by intro z;cases z);have ba:t≠p:=bO ht U (by intro z;cases z);have bb:q≠p:=Ne.symm L;have aw:a≠q:=bO M hq (by intro z;cases z);have Y:(upd H p (.lst I)) a=some (.ins G.Hs dx (fL d p q)):=by rw[aF av];exact M
  have bc:(upd H p (.lst I)) t=some (.tup [u,V.ref d0]):=by rw[aF ba];exact ht
  have ax:(upd H p (.lst I)) q=some (.lst ws):=by rw[aF bb];exact hq
  refine⟨t,_,rfl,SqT.of bc,rfl,_,_,rfl,_,_,rfl,rfl,?_⟩;refine⟨_,rfl,a,_,dx,_,_,rfl,Y,G.hs,G.hAh,rfl,.inl ⟨rfl,_,SqL.of ax⟩,_,rfl,_,rfl,a,_,dx,_,_,rfl,Y,G.hs,G.hSt,rfl,(show 2<=sizeLine by decide),λy hy=>?_⟩;have J:H y=none:=bM hy;have bf:p≠y:=aM U J;have ay:a≠y:=aM M J;have az:q≠y:=aM hq J;have bj:=ar.length;refine⟨q,_,_,rfl,rfl,(aF az).trans ax,bC (by omega),?_⟩;refine⟨_,rfl,_,rfl,a,_,dx,_,rfl,(aF aw).trans ((aF ay).trans Y),G.hs,G.hSt,(show 3<1000 by decide),?_⟩;have kp:Kp G (λt=>N t/\t≠p/\t≠q) H (upd (upd (upd (upd H p (.lst I)) y (.tup [u,V.ref d])) q (.lst (ws++[V.ref y]))) a (.ins G.Hs dx (fL d0 p q))) :=
   (((Kp.refl.updL U λz=>z.2.1 rfl).updN J).updL hq λz=>z.2.2 rfl).updI M
  have bg:(upd (upd (upd (upd H p (.lst I)) y (.tup [u,V.ref d])) q (.lst (ws++[V.ref y]))) a (.ins G.Hs dx (fL d0 p q))) y=some (.tup [u,V.ref d]):=by
   rw[aF (Ne.symm ay),aF (Ne.symm az),aB]
  refine⟨_,rfl,k u _ (hu.mono kp.tup) ⟨(((sm.upd' ao).upd' (sm.free J)).upd' ap).upd' am,am,⟨p,q,ao,ap,⟨dx,d0,I,ws++[V.ref y],L,aB,a_.kp kp,?_,Paired.mapP au λ_ _ z=>z.kp kp,?_,Paired.append' (Paired.mapP ar λ_ _ z=>z.kp kp) (.cons ⟨y,u,d,rfl,bg,hu.mono kp.tup,hd.kp kp⟩ .nil)⟩⟩,λz hz=>hN z (bM (bM (bM (bM hz))))⟩⟩
  .rw[aF (Ne.symm av),aF L,aF bf,aB]
  .rw[aF (Ne.symm aw),aB]
abbrev jH:Stmt:=cY (top 79) 14
def wC:aN ["self"] ["self"] (aI jH):=⟨rfl,rfl,rfl,by decide +kernel,rfl,by decide +kernel,by decide +kernel⟩
def wD {f:Addr} {fd:FuncData} (G:Hc K) (F:Fun K "roads" "House.roads" jH f fd) (B:Bt mg):FnOk P w K mg base CX0 2 f fd ["self"] (pX G):=by
 refine F.ok wC (λvs H Q E h=>?_) (λD A outer s H vs Q E hr h=>?_)
 .obtain⟨N,Hb,a,m,rfl,_⟩:=h;rfl
 .obtain⟨N,Hb,a,m,rfl,⟨sm,I,⟨p,q,J,L,⟨dx,d,us,ws,M,U,⟨_,kvs,hd,Y⟩,hp,al,hq,am⟩⟩,hN⟩,k⟩:=h;refine⟨_,(aJ (aY (cC (T3 rfl) (by rfl) B.list dH (aA (bJ (pv 0) rfl) aE)))),?_⟩;refine⟨_,rfl,a,_,dx,_,_,rfl,U,G.hs,G.hSt,rfl,d,kvs,rfl,hd,λl z=>?_⟩;rw[M3 Y];exact k l _ z (Same.upd z) aB
abbrev mH:Stmt:=cY (top 79) 15
def D4:aN ["self","name"] ["self","name"] (aI mH):=⟨rfl,rfl,rfl,by decide +kernel,rfl,by decide +kernel,by decide +kernel⟩
def D7 {f:Addr} {fd:FuncData} (G:Hc K) (F:Fun K "row" "House.row" mH f fd) (B:Bt mg) (z:aU P w K mg base "road_named" 1 ["roads","name"] (gN G)) (D:aU P w K mg base "row_now" 7 ["course"] (jR G)):FnOk P w K mg base CX0 8 f fd ["self","name"] (oG G):=by
 refine F.ok D4 (λvs H Q E h=>?_) (λU A outer s H vs Q E L h=>?_)
 .obtain⟨N,Hb,a,n,m,first,r,ents,rfl,_⟩:=h;rfl
 .obtain⟨N,Hb,a,n,m,first,r,ents,rfl,⟨sm,Y,⟨p,q,al,am,⟨dx,d,us,ws,ao,ha,hd,hp,ap,hq,aq⟩⟩,hN⟩,h0,hg,k⟩:=h;refine⟨_,(aJ (aY (aV D L rfl (aA (bJ (aV z L rfl (aA (bJ (pv 0) rfl) (aA (pv 1) aE))) rfl) aE)))),?_⟩;refine⟨_,rfl,a,_,dx,_,_,rfl,ha,G.hs,G.hSt,rfl,_,rfl,_,d,n,m.std,first,ents,rfl,hd,h0,λv hR=>?_⟩;obtain⟨b,dy,en,re,cc,ar,qs,rests,C,rfl,hb,au,M,av,aw,J,I⟩:=id hR;have er:=hg.det I.go;subst er;exact⟨b,_,dy,_,_,rfl,hb,G.rd,G.rCo,rfl,cc,C,rfl,J.imp (λ_ _ _ _=>trivial),I.cok,k⟩
abbrev mI:Stmt:=cY (top 79) 16
def D8:aN ["self","name"] ["self","name"] (aI mI):=⟨rfl,rfl,rfl,by decide +kernel,rfl,by decide +kernel,by decide +kernel⟩
def D9 {f:Addr} {fd:FuncData} (G:Hc K) (F:Fun K "log" "House.log" mI f fd) (B:Bt mg) (z:aU P w K mg base "road_named" 1 ["roads","name"] (gN G)):FnOk P w K mg base CX0 2 f fd ["self","name"] (rC G):=by
 refine F.ok D8 (λvs H Q E h=>?_) (λM A outer s H vs Q E U h=>?_)
 .obtain⟨N,Hb,a,n,m,first,ents,rfl,_⟩:=h;rfl
 .obtain⟨N,Hb,a,n,m,first,ents,rfl,⟨sm,Y,⟨p,q,al,am,⟨dx,d,us,ws,ao,ha,hd,hp,ap,hq,aq⟩⟩,hN⟩,h0,k⟩:=h;refine⟨_,(aJ (aY (cC eW (by rfl) B.list dH (aA (bJ (aV z U rfl (aA (bJ (pv 0) rfl) (aA (pv 1) aE))) rfl) aE)))),?_⟩;refine⟨_,rfl,a,_,dx,_,_,rfl,ha,G.hs,G.hSt,rfl,_,rfl,_,d,n,m.std,first,ents,rfl,hd,h0,λv hR=>?_⟩;obtain⟨b,dy,en,re,cc,D,qs,rests,C,rfl,hb,J,I,ar,au,av,aw⟩:=id hR;refine⟨b,_,dy,_,_,rfl,hb,G.rd,G.rEn,rfl,en,_,rfl,.inr (SqT.of J),λl L=>?_⟩;have g:=Same.upd (o:=.lst D) L;exact k l D _ L g aB (I.mono (TupS.same g))
abbrev fU:Stmt:=cY (top 79) 17
def wE:aN ["self"] ["self"] (aI fU):=⟨rfl,rfl,rfl,by decide +kernel,rfl,by decide +kernel,by decide +kernel⟩
def wF {f:Addr} {fd:FuncData} (G:Hc K) (F:Fun K "deeds" "House.deeds" fU f fd) (B:Bt mg):FnOk P w K mg base CX0 2 f fd ["self"] (lX G):=by
 refine F.ok wE (λvs H Q E h=>?_) (λY A outer s H vs Q E hr h=>?_)
 .obtain⟨N,Hb,a,m,rfl,_⟩:=h;rfl
 .obtain⟨N,Hb,a,m,rfl,⟨sm,al,⟨p,q,am,ao,⟨dx,d,us,ws,ap,ha,hd,M,I,hq,aq⟩⟩,hN⟩,hl,k⟩:=h;have J:=I.length;refine⟨_,(aJ (aY (cT ["deed","earlier"] [] [] rfl (.of (show cJ (aI fU) _ ["self"] [] []=true by decide +kernel)) (cI (bJ (pv 0) rfl)) (λ_ _ _=>(fR (n:=2) K rfl rfl (aP (aL (i:=0) (show (["deed","earlier"]:List Str).Nodup by decide +kernel) rfl (Or.inl rfl)) (aP (aL (i:=1) (show (["deed","earlier"]:List Str).Nodup by decide +kernel) rfl (Or.inl rfl)) bV)))) (jB (bU (by decide) (bU (by decide) fQ))) (λ_ _ _=>cK) (λ_ _ _=>(pv 0))))),?_⟩;refine⟨_,rfl,a,_,dx,_,_,rfl,ha,G.hs,G.hPa,rfl,p,rfl,⟨_,SqL.of M⟩,eN (K:=K) (a:=p) (xs:=us) (λi ys H2=>H2=H/\DTs H ys ((m.past.take i).map (·.1))) ⟨rfl,.nil⟩ ?_ ?_ ?_⟩
  .rintro i ys H2 hi ⟨rfl,z⟩;have:=z.length;rw[aE9,aEp]at this;exact⟨SqL.of M,bC (by omega)⟩
  .rintro i x ys H2 hi ⟨rfl,z⟩;have L:i<m.past.length:=by have:=(aFK.mp hi).1;omega
   obtain⟨x',h1,t,u,e,rfl,ht,hu,_⟩:=cV I (j:=i) (y:=m.past[i]) (by simp);rw[hi]at h1;cases h1;refine⟨t,_,rfl,SqT.of ht,rfl,_,_,rfl,_,_,rfl,rfl,_,rfl,rfl,?_⟩;rw[aFE,aEj L,aEo];exact z.append (.cons hu .nil)
  .rintro ys H2 ⟨rfl,z⟩ D U;rw[J,aEn]at z;have g:=Same.upd (o:=.lst ys) U;exact k D ys _ U g aB (z.mono (TupS.same g))
abbrev fG:Stmt:=cY (top 79) 18
def sT:aN ["self"] ["self"] (aI fG):=⟨rfl,rfl,rfl,by decide +kernel,rfl,by decide +kernel,by decide +kernel⟩
def sU {f:Addr} {fd:FuncData} (G:Hc K) (F:Fun K "undone" "House.undone" fG f fd) (B:Bt mg):FnOk P w K mg base CX0 2 f fd ["self"] (nF G):=by
 refine F.ok sT (λvs H Q E h=>?_) (λal A outer s H vs Q E hr h=>?_)
 .obtain⟨N,Hb,a,m,rfl,_⟩:=h;rfl
 .obtain⟨N,Hb,a,m,rfl,⟨sm,am,⟨p,q,ao,ap,⟨dx,d,us,ws,aq,ha,hd,hp,ar,U,I⟩⟩,hN⟩,hl,k⟩:=h;have L:=I.length;have M:=vO I;refine⟨_,(aJ (aY (cT ["deed","later"] [] [] rfl (.of (show cJ (aI fG) _ ["self"] [] []=true by decide +kernel)) (aAA rfl B.reversed (aA (bJ (pv 0) rfl) aE)) (λ_ _ _=>(fR (n:=2) K rfl rfl (aP (aL (i:=0) (show (["deed","later"]:List Str).Nodup by decide +kernel) rfl (Or.inl rfl)) (aP (aL (i:=1) (show (["deed","later"]:List Str).Nodup by decide +kernel) rfl (Or.inl rfl)) bV)))) (jB (bU (by decide) (bU (by decide) fQ))) (λ_ _ _=>cK) (λ_ _ _=>(pv 0))))),?_⟩;refine⟨_,rfl,a,_,dx,_,_,rfl,ha,G.hs,G.hAh,rfl,q,_,rfl,SqL.of U,F3 (K:=K) (a:=q) (xs:=ws) (λi ys H2=>H2=H/\DTs H ys ((m.ahead.reverse.take i).map (·.1))) ⟨rfl,.nil⟩ ?_ ?_ ?_⟩
  .rintro i ys H2 hi ⟨rfl,z⟩;have:=z.length;rw[aE9,aEp,List.length_reverse]at this;exact⟨SqL.of U,bC (by omega)⟩
  .rintro i x ys H2 hi ⟨rfl,z⟩;have J:i<m.ahead.reverse.length:=by have:=(aFK.mp hi).1;rw[List.length_reverse]at this ⊢;omega
   obtain⟨x',h1,t,u,e,rfl,ht,hu,_⟩:=cV M (j:=i) (y:=m.ahead.reverse[i]) (aEj J);rw[hi]at h1;cases h1;refine⟨t,_,rfl,SqT.of ht,rfl,_,_,rfl,_,_,rfl,rfl,_,rfl,rfl,?_⟩;rw[aFE,aEj J,aEo];exact z.append (.cons hu .nil)
  .rintro ys H2 ⟨rfl,z⟩ D Y;rw[L,<- List.length_reverse,aEn]at z;have g:=Same.upd (o:=.lst ys) Y;exact k D ys _ Y g aB (z.mono (TupS.same g))
abbrev jI:Stmt:=top 81
def bX:aN ["_law_script","_law_many","_law_row_here","_law_seed","_law_cell","_law_rest","_law_k"] ["_law_script","_law_many"] (aI jI):=⟨rfl,rfl,rfl,by decide +kernel,rfl,by decide +kernel,by decide +kernel⟩
inductive mJ (H:Hp) (a:Addr) (l:Addr) (p:Addr) (m:Nat) (ms:List Int) (i:Nat) (σ:St) (H2:Hp):Prop
 | mk (seed:Int) (xs:List Int) (v1 v2 v3:Option V) (k0_:σ=[some (.ref a),some (.int m),some (.ref l),some (.int seed),v1,v2,v3]) (k1_:Same H H2) (k2_:H2 p=some (.lst (ms.map V.int))) (k3_:H2 l=some (.lst (xs.map V.int))) (k4_:P8 xs) (k5_:xs.length<=61 * i) (k6_:0<=seed) (k7_:seed<2147483629):mJ H a l p m ms i σ H2
inductive mK (H:Hp) (a:Addr) (l:Addr) (p:Addr) (m:Nat) (ms:List Int) (i:Nat) (seed:Int) (z:Int) (v3:Option V) (σ:St) (H3:Hp):Prop
 | mk (ys:List Int) (k0_:σ=[some (.ref a),some (.int m),some (.ref l),some (.int (sd1 seed z)),some (.int z),some (.int (rs1 z)),v3]) (k1_:Same H H3) (k2_:H3 p=some (.lst (ms.map V.int))) (k3_:H3 l=some (.lst (ys.map V.int))) (k4_:P8 ys) (k5_:ys.length<=61 * i+1):mK H a l p m ms i seed z v3 σ H3
inductive mL (H:Hp) (a:Addr) (l:Addr) (p:Addr) (m:Nat) (ms:List Int) (i:Nat) (seed:Int) (z:Int) (j:Nat) (σ:St) (H4:Hp):Prop
 | mk (r:Int) (ys:List Int) (v:Option V) (k0_:σ=[some (.ref a),some (.int m),some (.ref l),some (.int (sd1 seed z)),some (.int z),some (.int r),v]) (k1_:Same H H4) (k2_:H4 p=some (.lst (ms.map V.int))) (k3_:H4 l=some (.lst (ys.map V.int))) (k4_:P8 ys) (k5_:ys.length<=61 * i+1+j):mL H a l p m ms i seed z j σ H4
inductive mM (H:Hp) (a:Addr) (l:Addr) (m:Nat) (v1:Option V) (v2:Option V) (v3:Option V) (σ:St) (H3:Hp):Prop
 | mk (seed:Int) (ys:List Int) (k0_:σ=[some (.ref a),some (.int m),some (.ref l),some (.int seed),v1,v2,v3]) (k1_:Same H H3) (k2_:H3 l=some (.lst (ys.map V.int))) (k3_:P8 ys) (k4_:ys.length<=5000) (k5_:0<=seed) (k6_:seed<2147483629):mM H a l m v1 v2 v3 σ H3
def U2 {f:Addr} {fd:FuncData} (F:Fun K "_law_numbers" "_law_numbers" jI f fd) (B:Bt mg):FnOk P w K mg base CX0 1 f fd ["_law_script","_law_many"] (mR K):=by
 refine F.ok bX (λvs H Q E h=>?_) (λay A outer s H vs Q E hr h=>?_)
 .obtain⟨a,sc,m,rfl,_⟩:=h;rfl
 .obtain⟨a,sc,m,rfl,hS,hlen,hm,k⟩:=h;refine⟨_,(aZ (aW (i:=2) bX.nd rfl (Or.inl rfl) (cZ aE))
 (aZ (aW (i:=3) bX.nd rfl (Or.inl rfl) aK)
 (aZ (dU PassesOwn.never rfl (cI (fV mO (pv 0) iI (iJ aK))) (aL (i:=4) bX.nd rfl (Or.inl rfl))
 (aZ (aW (i:=3) bX.nd rfl (Or.inl rfl) (aQ cQ (aQ bS (aQ bS (aQ jA (pv 3) aK) (aQ cQ (pv 4) aK)) aK) aK))
 (aZ (aW (i:=5) bX.nd rfl (Or.inl rfl) (aQ gE (pv 4) (aQ tZ aK aK)))
 (zI (cB (bD rR (pv 5) aK (bF _))
 (aJ (aS (iK aFG aFH aFI cF (pv 2) (aA (aQ cQ (pv 4) aK) aE))))
 bG)
 (aJ (dU PassesOwn.never rfl (jK rfl B.range (aA aK aE)) (aL (i:=6) bX.nd rfl (Or.inl rfl))
 (aJ (cB (bD nL (pv 5) aK (bF _))
 (aZ (aS (iK aFG aFH aFI cF (pv 2) (aA (aQ cQ (pv 5) aK) aE)))
 (aJ (aW (i:=5) bX.nd rfl (Or.inl rfl) (aQ oT (pv 5) aK))))
 bG))))))))
 (aG (tY PassesOwn.never (bD rR (aO aX (by rfl) B.len PySem.boot_len (aA (pv 2) aE)) (pv 1) (bF _))
 (aZ (aW (i:=3) bX.nd rfl (Or.inl rfl) (aQ cQ (aQ bS (aQ bS (aQ bS (aQ jA (pv 3) (pv 3)) (aQ jA aK (pv 3))) (aQ jA aK (aO aX (by rfl) B.len PySem.boot_len (aA (pv 2) aE)))) aK) aK))
 (aJ (aS (iK aFG aFH aFI cF (pv 2) (aA (aQ cQ (aQ oT (pv 3) aK) aK) aE))))))
 (aJ (aY (fV mO (pv 2) iI (iJ (pv 1))))))))),?_⟩
  refine λM1 I=>?_;refine⟨by decide,λl hl=>?_⟩;refine I [some (.ref a),some (.int m),some (.ref l),none,none,none,none] _ ?_;clear I M1;refine λM1 I=>?_;refine I [some (.ref a),some (.int m),some (.ref l),some (.int 59),none,none,none] _ ?_;clear I M1;refine λM1 I=>?_;refine⟨_,rfl,_,rfl,a,sc.map V.int,rfl,(Same.upd hl).seq hS,λp hp=>?_⟩;obtain⟨ms,ec,az,a_⟩:=c7 sc none (some 63);rw[ec];have hpl:p≠l:=λe=>by subst e;rw[aB]at hp;cases hp
  have ar:H p=none:=by rw[<- hp,aF hpl]
  refine⟨p,rfl,⟨_,SqL.of aB⟩,eU (K:=K) (a:=p) (xs:=ms.map V.int) (mJ H a l p m ms) ?_ ?_ ?_ ?_⟩
  .exact⟨59,[],none,none,none,rfl,Same.upd' ar (Same.upd hl),aB,by rw[aF (Ne.symm hpl),aB];rfl,λ_ h=>(by cases h),Nat.le_refl _,by decide,by decide⟩
  .rintro i σ H2 _ ⟨D,xs,v1,v2,Y,_,_,e,_⟩;exact SqL.of e
  .rintro i x σ H2 hi ⟨D,xs,v1,v2,Y,rfl,sm,ep,el,nx,lx,s0,s1⟩;have ba:i<ms.length:=by
    have:=(aFK.mp hi).1;simpa using this
   obtain⟨z,rfl⟩:∃ z,x=V.int z:=by
    rw[aEx]at hi;cases e:ms[i]? with
    | none=>rw[e]at hi;cases hi
    | some z=>rw[e]at hi;exact⟨z,(Option.some.inj hi).symm⟩
   clear I;refine λM2 J=>?_;refine⟨_,rfl,_,_,rfl,rfl,.inr ⟨by decide,by decide⟩,_,rfl,_,_,rfl,rfl,(by show (0:Int)<999983;decide),_,_,rfl,rfl,_,_,rfl,rfl,_,_,rfl,rfl,(by show (0:Int)<2147483563;decide),?_⟩;have t0:0<=sd1 D z:=Int.emod_nonneg _ (by decide);have t1:sd1 D z<2147483563:=Int.emod_lt_of_pos _ (by decide);refine J [some (.ref a),some (.int m),some (.ref l),some (.int (sd1 D z)),some (.int z),v2,Y] _ ?_;clear J M2;refine λM2 J=>?_;refine⟨_,rfl,_,_,rfl,rfl,⟨by decide,by decide,by decide⟩,_,_,rfl,rfl,?_⟩;refine J [some (.ref a),some (.int m),some (.ref l),some (.int (sd1 D z)),some (.int z),some (.int (rs1 z)),Y] _ ?_;clear J M2;refine⟨mK H a l p m ms i D z Y,?_,?_⟩
   .refine⟨_,rfl,_,_,rfl,rfl,_,rfl,qP (λ_=>?_) (λ_=>⟨xs,rfl,sm,ep,el,nx,by omega⟩)⟩;refine⟨_,rfl,.inl ⟨rfl,_,SqL.of el⟩,_,rfl,_,_,rfl,rfl,(by show (0:Int)<9967;decide),l,_,_,rfl,rfl,el,(by rw[aE9];exact bC (by omega)),?_⟩;refine⟨xs++[z % 9967],rfl,Same.upd' hl sm,by rw[aF hpl];exact ep,by rw[aB];simp,?_,by simp;omega⟩;intro n hn;rcases aFM.mp hn with h | h
    .exact nx n h
    .rw[aFF.mp h];exact⟨Int.emod_nonneg _ (by decide),Int.emod_lt_of_pos _ (by decide)⟩
   .rintro σ H3 ⟨ys,rfl,M,au,L,al,av⟩;refine⟨60,rfl,by decide,by decide,jL (lo:=0) (n:=60) (mL H a l p m ms i D z)
     ⟨rs1 z,ys,Y,rfl,M,au,L,al,by omega⟩ ?_ ?_⟩
    .rintro j σ H4 hj ⟨r,ys,v,rfl,am,ao,U,ap,aw⟩;refine⟨_,rfl,_,_,rfl,rfl,_,rfl,qP (λbb=>?_) (λ_=>⟨r,ys,_,rfl,am,ao,U,ap,by omega⟩)⟩;refine λM2 J=>?_;refine⟨_,rfl,.inl ⟨rfl,_,SqL.of U⟩,_,rfl,_,_,rfl,rfl,(by show (0:Int)<1013;decide),l,_,_,rfl,rfl,U,(by rw[aE9];exact bC (by omega)),?_⟩;refine J [some (.ref a),some (.int m),some (.ref l),some (.int (sd1 D z)),some (.int z),some (.int r),some (.int (0+(j:Int)))] _ ?_;clear J M2;refine⟨_,rfl,_,_,rfl,rfl,⟨by decide,by decide⟩,?_⟩;refine⟨r / 1013,ys++[r % 1013],_,rfl,Same.upd' hl am,by rw[aF hpl];exact ao,by rw[aB];simp,?_,by simp;omega⟩;intro n hn;rcases aFM.mp hn with h | h
     .exact ap n h
     .rw[aFF.mp h];have a1:=Int.emod_nonneg r (show (1013:Int)≠0 by decide);have a2:=Int.emod_lt_of_pos r (show (0:Int)<1013 by decide);exact⟨a1,by omega⟩
    .rintro σ H4 ⟨r,ys,v,rfl,am,ao,U,ap,aw⟩;exact⟨sd1 D z,ys,_,_,_,rfl,am,ao,U,ap,by omega,t0,by omega⟩
  .rintro σ H2 ⟨D,xs,v1,v2,Y,rfl,sm,ep,el,nx,lx,s0,s1⟩;have bc:xs.length<=61 * 63:=by
    have:(ms.map V.int).length<=63:=by rw[aE9];omega
    omega
   refine I [some (.ref a),some (.int m),some (.ref l),some (.int D),v1,v2,Y] _ ?_;clear I M1;refine E6 (mM H a l m v1 v2 Y)
    (λ_ H3=>match H3 l with | some (.lst ys)=>m - ys.length | _=>0) ⟨D,xs,rfl,sm,el,nx,by omega,s0,s1⟩ ?_ ?_
   .rintro σ H3 ⟨D,ys,rfl,M,L,al,av,q0,q1⟩;refine⟨_,rfl,l,_,rfl,.inl (SqL.of L),_,rfl,_,_,rfl,rfl,_,rfl,qP (λhc=>?_) (λhc=>?_)⟩
    .rw[aE9]at hc;refine λM1 I=>?_;refine⟨_,rfl,_,rfl,_,_,rfl,rfl,.inl ⟨by omega,by omega⟩,_,rfl,_,_,rfl,rfl,.inl ⟨by decide,by decide⟩,_,_,rfl,rfl,_,rfl,l,_,rfl,.inl (SqL.of L),_,_,rfl,rfl,.inl ⟨by decide,by decide⟩,_,_,rfl,rfl,_,_,rfl,rfl,_,_,rfl,rfl,(by show (0:Int)<2147483629;decide),?_⟩;refine I [some (.ref a),some (.int m),some (.ref l),some (.int (sd2 D ys)),v1,v2,Y] _ ?_;clear I M1;have t0:0<=sd2 D ys:=Int.emod_nonneg _ (by decide);have t1:sd2 D ys<2147483629:=Int.emod_lt_of_pos _ (by decide);refine⟨_,rfl,.inl ⟨rfl,_,SqL.of L⟩,_,rfl,_,_,rfl,rfl,⟨by decide,by decide⟩,_,_,rfl,rfl,(by show (0:Int)<9967;decide),l,_,_,rfl,rfl,L,(by rw[aE9];exact bC (by omega)),?_⟩;refine⟨⟨sd2 D ys,ys++[sd2 D ys / 1019 % 9967],rfl,Same.upd' hl M,by rw[aB,aEo];rfl,?_,by simp;omega,t0,t1⟩,?_⟩
     .intro n hn;rcases aFM.mp hn with h | h
      .exact al n h
      .rw[aFF.mp h];exact⟨Int.emod_nonneg _ (by decide),Int.emod_lt_of_pos _ (by decide)⟩
     .simp only[aB,L,aEi,aE9,List.length_singleton];omega
    .rw[aE9]at hc;refine⟨_,rfl,_,rfl,_,rfl,l,_,rfl,SqL.of L,λp2 aq=>?_⟩;rw[aAJ ys m (by omega)];exact k p2 (ys.take m) _ (by simp;omega) (λn hn=>al n (List.mem_of_mem_take hn)) (M.free aq) (Same.upd' (M.free aq) M) aB
   .intro σ H3 Q1 Q2 hq h;obtain⟨x,e,p2,ys,e2,ax,z,e3,i,j,e4,e5,b,e6,q⟩:=h;exact⟨x,e,p2,ys,e2,ax,z,e3,i,j,e4,e5,b,e6,hq _ _ q⟩
abbrev iD:Stmt:=top 82
def N6:aN ["_law_found","_law_due"] ["_law_found","_law_due"] (aI iD):=⟨rfl,rfl,rfl,by decide +kernel,rfl,by decide +kernel,by decide +kernel⟩
def yY {f:Addr} {fd:FuncData} {n k:Nat} {spR:Sp} (F:Fun K "_law_same" "_law_same" iD f fd) (B:Bt mg) (M:aU P w K mg base "_law_same" k ["_law_found","_law_due"] spR)
 (ap:∀ m,m+1=n->∀ vs H Q E,qR m vs H Q E->spR vs H Q E):FnOk P w K mg base CX0 (k+1) f fd ["_law_found","_law_due"] (qR n):=by
 refine F.ok N6 (λvs H Q E h=>?_) (λay A outer s H vs Q E hr h=>?_)
 .obtain⟨x,y,d,rfl,_⟩:=h;rfl
 .obtain⟨x,y,d,rfl,h1,h2,al,I,aq,kk⟩:=h;have hu:=hr.units;refine⟨_,(aG (cB (bD u0 (pv 1) o5 (bF _))
 (aJ (aY (eV u0 (pv 0) o5 (bF _))))
 bG)
 (aG (cB (dG (aO Z8 (by rfl) B.isinstance bK (aA (pv 1) (aA (bW (aA (eF (v:=.ty "list") rfl B.list dH rfl) (aA (eF (v:=.ty "tuple") rfl B.tuple cX rfl) aE))) aE))) (λ_=>rfl))
 (aG (cB (PW.pt (E4 (bD E8 (aO dZ (by rfl) B.isinstance bK (aA (pv 0) (aA (eF (v:=.ty "list") rfl B.list dH rfl) aE))) (aO dZ (by rfl) B.isinstance bK (aA (pv 1) (aA (eF (v:=.ty "list") rfl B.list dH rfl) aE))) (bF _)) (tV (bD E8 (aO dZ (by rfl) B.isinstance bK (aA (pv 0) (aA (eF (v:=.ty "tuple") rfl B.tuple cX rfl) aE))) (aO dZ (by rfl) B.isinstance bK (aA (pv 1) (aA (eF (v:=.ty "tuple") rfl B.tuple cX rfl) aE))) (bF _)))))
 (aJ (aY rQ))
 bG)
 (aJ (aY (qI (eV P5 (aO aX (by rfl) B.len PySem.boot_len (aA (pv 0) aE)) (aO aX (by rfl) B.len PySem.boot_len (aA (pv 1) aE)) (bF _)) (tW (aO (F2 rfl) (by rfl) B.all F6 (aA (cT ["_law_k"] ["_law_found","_law_due"] [0,1] rfl (.of (show cJ (aI iD) _ ["_law_found","_law_due"] [0,1] ["_law_found","_law_due"]=true by decide +kernel)) (jK rfl B.range (aA (aO aX (by rfl) B.len PySem.boot_len (aA (pv 1) aE)) aE)) (λ_ _ _=>(aL (i:=0) (show (["_law_k","_law_found","_law_due"]:List Str).Nodup by decide +kernel) rfl (Or.inl rfl))) (eG (by decide)) (λ_ _ _=>cK) (λ_ _ _=>(aV M hr rfl (aA (bH (V2 K rfl) (pv 1) (pv 0) (λ_ _=>rfl)) (aA (bH (V2 K rfl) (pv 2) (pv 0) (λ_ _=>rfl)) aE)) (hj:=Nat.le_refl _)))) aE)))))))
 bG)
 (aG (cB (PW.pt (E4 (bD E8 (aO dZ (by rfl) B.isinstance bK (aA (pv 0) (aA (eF (v:=.ty "bool") rfl B.bool xS rfl) aE))) (aO dZ (by rfl) B.isinstance bK (aA (pv 1) (aA (eF (v:=.ty "bool") rfl B.bool xS rfl) aE))) (bF _)) (tV (bD E8 (aO dZ (by rfl) B.isinstance bK (aA (pv 0) (aA (eF (v:=.ty "str") rfl B.str F4 rfl) aE))) (aO dZ (by rfl) B.isinstance bK (aA (pv 1) (aA (eF (v:=.ty "str") rfl B.str F4 rfl) aE))) (bF _)))))
 (aJ (aY rQ))
 bG)
 (aJ (aY (qI (eV E7 (aO dZ (by rfl) B.isinstance bK (aA (pv 0) (aA (eF (v:=.ty "int") rfl B.int F5 rfl) aE))) (aO dZ (by rfl) B.isinstance bK (aA (pv 1) (aA (eF (v:=.ty "int") rfl B.int F5 rfl) aE))) (bF _)) (tW (eV (P2 hu) (pv 0) (pv 1) (bF _))))))))),?_⟩
  cases h1 with
  | non =>
   cases h2;exact⟨_,rfl,rfl,_,rfl,uF rfl ⟨_,rfl,rfl,kk H (Same.refl H)⟩⟩
  | bl b =>
   cases h2;refine⟨_,rfl,rfl,_,rfl,dM (by intro h;cases h) ?_⟩;refine⟨_,rfl,(show 2<=sizeLine by decide),λtp J=>⟨_,tp,["list","tuple"],.bool b,false,rfl,aB,.bl b,rfl,false,rfl,?_⟩⟩;refine⟨_,rfl,_,"bool",.bool b,true,rfl,.bl b,rfl,_,rfl,_,"bool",.bool b,true,rfl,.bl b,rfl,rfl,_,rfl,?_⟩;refine⟨_,rfl,_,"str",.bool b,false,rfl,.bl b,rfl,_,rfl,_,"str",.bool b,false,rfl,.bl b,rfl,rfl,_,rfl,?_⟩;refine⟨_,rfl,_,"int",.bool b,true,rfl,.bl b,rfl,_,rfl,_,"int",.bool b,true,rfl,.bl b,rfl,rfl,_,rfl,?_⟩;refine⟨_,rfl,_,rfl,_,_,.bl b,.bl b,I,I,?_⟩;rw[hU I];exact kk _ (Same.upd J)
  | int b =>
   cases h2;refine⟨_,rfl,rfl,_,rfl,dM (by intro h;cases h) ?_⟩;refine⟨_,rfl,(show 2<=sizeLine by decide),λtp J=>⟨_,tp,["list","tuple"],.int b,false,rfl,aB,.int b,rfl,false,rfl,?_⟩⟩;refine⟨_,rfl,_,"bool",.int b,false,rfl,.int b,rfl,_,rfl,_,"bool",.int b,false,rfl,.int b,rfl,rfl,_,rfl,?_⟩;refine⟨_,rfl,_,"str",.int b,false,rfl,.int b,rfl,_,rfl,_,"str",.int b,false,rfl,.int b,rfl,rfl,_,rfl,?_⟩;refine⟨_,rfl,_,"int",.int b,true,rfl,.int b,rfl,_,rfl,_,"int",.int b,true,rfl,.int b,rfl,rfl,_,rfl,?_⟩;refine⟨_,rfl,_,rfl,_,_,.int b,.int b,I,I,?_⟩;rw[hU I];exact kk _ (Same.upd J)
  | str b =>
   cases h2;refine⟨_,rfl,rfl,_,rfl,dM (by intro h;cases h) ?_⟩;refine⟨_,rfl,(show 2<=sizeLine by decide),λtp J=>⟨_,tp,["list","tuple"],.str b,false,rfl,aB,.str b,rfl,false,rfl,?_⟩⟩;refine⟨_,rfl,_,"bool",.str b,false,rfl,.str b,rfl,_,rfl,_,"bool",.str b,false,rfl,.str b,rfl,rfl,_,rfl,?_⟩;refine⟨_,rfl,_,"str",.str b,true,rfl,.str b,rfl,_,rfl,_,"str",.str b,true,rfl,.str b,rfl,rfl,_,rfl,?_⟩;refine⟨_,rfl,_,"int",.str b,false,rfl,.str b,rfl,_,rfl,_,"int",.str b,false,rfl,.str b,rfl,rfl,_,rfl,?_⟩;refine⟨_,rfl,_,rfl,_,_,.str b,.str b,I,I,?_⟩;rw[hU I];exact kk _ (Same.upd J)
  | @lst a1 us ds ea ta =>
   cases h2 with
   | @lst a2 ws _ eb tb =>
    have ar:=ta.length;have au:=tb.length;have U:=aq;simp only[sml,Bool.and_eq_true,decide_eq_true_eq]at U;have am:ws.length<=5000:=by omega
    have av:(5000:Nat)<sizeLine:=by decide
    refine⟨_,rfl,rfl,_,rfl,dM (by intro h;cases h) ?_⟩;refine⟨_,rfl,(show 2<=sizeLine by decide),λtp J=>?_⟩;have z:=Same.upd (o:=.tup [V.ty "list",V.ty "tuple"]) J;refine⟨_,tp,["list","tuple"],.list ds,true,rfl,aB,(Den.lst eb tb).mono z,rfl,true,rfl,?_⟩;generalize upd H tp (.tup [V.ty "list",V.ty "tuple"])=H0 at z ⊢;have d1:=(Den.lst ea ta).mono z;have d2:=(Den.lst eb tb).mono z;refine⟨_,rfl,_,"list",.list ds,true,rfl,d1,rfl,_,rfl,_,"list",.list ds,true,rfl,d2,rfl,rfl,_,rfl,?_⟩;refine⟨_,rfl,_,"tuple",.list ds,false,rfl,d1,rfl,_,rfl,_,"tuple",.list ds,false,rfl,d2,rfl,rfl,_,rfl,?_⟩;refine⟨_,rfl,a1,_,rfl,.inl (SqL.of (z _ _ ea)),_,rfl,a2,_,rfl,.inl (SqL.of (z _ _ eb)),_,_,rfl,rfl,_,rfl,uF (by omega) ?_⟩;refine⟨_,rfl,a2,_,rfl,.inl (SqL.of (z _ _ eb)),_,rfl,by omega,by omega,nY (lo:=0) (λi ys H2=>Same H0 H2/\ys=List.replicate i (V.bl true)) ⟨Same.refl _,rfl⟩ ?_ ?_ ?_⟩
    .rintro i ys H2 hi ⟨sm,rfl⟩;rw[aEt];omega
    .rintro i ys H2 hi ⟨sm,rfl⟩;have Y:i<ds.length:=by omega
     obtain⟨v1,e1,q1⟩:=ta.get (i:=i) (d:=ds[i]) (by simp[Y]);obtain⟨v2,e2,q2⟩:=tb.get (i:=i) (d:=ds[i]) (by simp[Y]);have em:ds[i]∈ds:=List.getElem_mem Y;have L:Same H H2:=z.trans sm;have ez:(0:Int)+(i:Int)=(i:Int):=by omega
     refine⟨_,rfl,_,rfl,.inl ⟨a1,_,_,_,rfl,rfl,SqL.of (L _ _ ea),(by rw[ez];exact jV e1),_,rfl,_,rfl,.inl ⟨a2,_,_,_,rfl,rfl,SqL.of (L _ _ eb),(by rw[ez];exact jV e2),?_⟩⟩⟩;have aw:=xU em;have ax:PyData.depthAll ds+1<=n:=al;refine ap (n - 1) (by omega) _ _ _ _ ⟨v1,v2,ds[i],rfl,q1.mono L,q2.mono L,by omega,?_,V8 em U.2,λH3 ao=>⟨sm.trans ao,by rw[List.replicate_succ']⟩⟩;have c1:PyData.canLayAll0 ds=true:=SeqAt.canLay_of_shaped I;have c2:=SeqAt.depth_of_shaped I;have c3:PyData.depthAll ds+1<=64:=c2;simp only[SeqAt.shaped,uN em c1,Bool.true_and];exact aEv (by omega)
    .rintro ys H2 ⟨sm,rfl⟩ D hD;refine⟨D,List.replicate _ true,rfl,by rw[aB,List.map_replicate],?_⟩;have:∀ k:Nat,(List.replicate k true).all id=true:=λk=>by simp
     rw[this];exact kk _ ((z.trans sm).trans (Same.upd hD))
  | @tup a1 us ds ea ta =>
   cases h2 with
   | @tup a2 ws _ eb tb =>
    have ar:=ta.length;have au:=tb.length;have U:=aq;simp only[sml,Bool.and_eq_true,decide_eq_true_eq]at U;have am:ws.length<=5000:=by omega
    have av:(5000:Nat)<sizeLine:=by decide
    refine⟨_,rfl,rfl,_,rfl,dM (by intro h;cases h) ?_⟩;refine⟨_,rfl,(show 2<=sizeLine by decide),λtp J=>?_⟩;have z:=Same.upd (o:=.tup [V.ty "list",V.ty "tuple"]) J;refine⟨_,tp,["list","tuple"],.tuple ds,true,rfl,aB,(Den.tup eb tb).mono z,rfl,true,rfl,?_⟩;generalize upd H tp (.tup [V.ty "list",V.ty "tuple"])=H0 at z ⊢;have d1:=(Den.tup ea ta).mono z;have d2:=(Den.tup eb tb).mono z;refine⟨_,rfl,_,"list",.tuple ds,false,rfl,d1,rfl,_,rfl,_,"list",.tuple ds,false,rfl,d2,rfl,rfl,_,rfl,?_⟩;refine⟨_,rfl,_,"tuple",.tuple ds,true,rfl,d1,rfl,_,rfl,_,"tuple",.tuple ds,true,rfl,d2,rfl,rfl,_,rfl,?_⟩;refine⟨_,rfl,a1,_,rfl,.inr (SqT.of (z _ _ ea)),_,rfl,a2,_,rfl,.inr (SqT.of (z _ _ eb)),_,_,rfl,rfl,_,rfl,uF (by omega) ?_⟩;refine⟨_,rfl,a2,_,rfl,.inr (SqT.of (z _ _ eb)),_,rfl,by omega,by omega,nY (lo:=0) (λi ys H2=>Same H0 H2/\ys=List.replicate i (V.bl true)) ⟨Same.refl _,rfl⟩ ?_ ?_ ?_⟩
    .rintro i ys H2 hi ⟨sm,rfl⟩;rw[aEt];omega
    .rintro i ys H2 hi ⟨sm,rfl⟩;have Y:i<ds.length:=by omega
     obtain⟨v1,e1,q1⟩:=ta.get (i:=i) (d:=ds[i]) (by simp[Y]);obtain⟨v2,e2,q2⟩:=tb.get (i:=i) (d:=ds[i]) (by simp[Y]);have em:ds[i]∈ds:=List.getElem_mem Y;have L:Same H H2:=z.trans sm;have ez:(0:Int)+(i:Int)=(i:Int):=by omega
     refine⟨_,rfl,_,rfl,.inr (.inl ⟨a1,_,_,_,rfl,rfl,SqT.of (L _ _ ea),(by rw[ez];exact jV e1),_,rfl,_,rfl,.inr (.inl ⟨a2,_,_,_,rfl,rfl,SqT.of (L _ _ eb),(by rw[ez];exact jV e2),?_⟩)⟩)⟩;have aw:=xU em;have ax:PyData.depthAll ds+1<=n:=al;refine ap (n - 1) (by omega) _ _ _ _ ⟨v1,v2,ds[i],rfl,q1.mono L,q2.mono L,by omega,?_,V8 em U.2,λH3 ao=>⟨sm.trans ao,by rw[List.replicate_succ']⟩⟩;have c1:PyData.canLayAll0 ds=true:=SeqAt.canLay_of_shaped I;have c2:=SeqAt.depth_of_shaped I;have c3:PyData.depthAll ds+1<=64:=c2;simp only[SeqAt.shaped,uN em c1,Bool.true_and];exact aEv (by omega)
    .rintro ys H2 ⟨sm,rfl⟩ D hD;refine⟨D,List.replicate _ true,rfl,by rw[aB,List.map_replicate],?_⟩;have:∀ k:Nat,(List.replicate k true).all id=true:=λk=>by simp
     rw[this];exact kk _ ((z.trans sm).trans (Same.upd hD))
def aCP {f:Addr} {fd:FuncData} (F:Fun K "_law_same" "_law_same" iD f fd) (B:Bt mg) (z:mg "_law_same"=some (.ref f)) (D:Binds K fd ["_law_found","_law_due"] []) :
 ∀ n,FnOk P w K mg base CX0 (n+1) f fd ["_law_found","_law_due"] (qR n):=by
 intro n
 induction n with
 | zero =>
  refine yY (k:=0) (spR:=λ_ _ _ _=>False) F B ⟨f,fd,⟨λ_ _ _ _ h=>h.elim,λ_ _ _ _ _ _ _ _ _ _ _ _ _ h=>h.elim⟩,z,F.kp,D⟩ λm I=>?_;omega
 | succ n J =>
  refine yY F B ⟨f,fd,J,z,F.kp,D⟩ λm I vs H Q E h=>?_;obtain rfl:m=n:=by omega
  exact h
abbrev rO:Stmt:=top 83
def fO:aN ["_law_d","_law_most","_law_place","_law_row_here","_law_k","_law_step"] ["_law_d","_law_most"] (aI rO):=⟨rfl,rfl,rfl,by decide +kernel,rfl,by decide +kernel,by decide +kernel⟩
inductive wG (H:Hp) (a:Addr) (l:Addr) (m:Nat) (i:Nat) (σ:St) (H2:Hp):Prop
 | mk (place:Int) (row:List Int) (v1 v2:Option V) (k0_:σ=[some (.ref a),some (.int m),some (.int place),some (.ref l),v1,v2]) (k1_:Same H H2) (k2_:H2 l=some (.lst (row.map V.int))) (k3_:Row row) (k4_:row.length=i) (k5_:-15<=place) (k6_:place<=15+12 * i) (k7_:∀ x∈row,-15<=x/\x<=place):wG H a l m i σ H2
def aDS {f:Addr} {fd:FuncData} (F:Fun K "_law_row" "_law_row" rO f fd) (B:Bt mg):FnOk P w K mg base CX0 1 f fd ["_law_d","_law_most"] vP:=by
 refine F.ok fO (λvs H Q E h=>?_) (λap A outer s H vs Q E hr h=>?_)
 .obtain⟨a,ns,m,rfl,_⟩:=h;rfl
 .obtain⟨a,ns,m,rfl,ha,aq,hlen,hm,k⟩:=h;refine⟨_,(aG (aW (i:=2) fO.nd rfl (Or.inl rfl) (aQ gE (aQ cQ (bH bE (pv 0) aK (λ_ _=>rfl)) aK) aK))
 (aG (aW (i:=3) fO.nd rfl (Or.inl rfl) (cZ aE))
 (aG (dU PassesOwn.never rfl (jK rfl B.range (aA (aQ cQ (bH bE (pv 0) aK (λ_ _=>rfl)) (aQ bS (pv 1) aK)) aE)) (aL (i:=4) fO.nd rfl (Or.inl rfl))
 (aG (aW (i:=5) fO.nd rfl (Or.inl rfl) (bH bE (pv 0) (aQ bS aK (pv 4)) (λ_ _=>rfl)))
 (aG (aW (i:=2) fO.nd rfl (Or.inl rfl) (aQ bS (aQ bS (pv 2) aK) (zJ (oS (bD P5 (aQ cQ (pv 5) aK) aK (bF _)) aK (aQ cQ (aQ oT (pv 5) aK) (bH bE (cZ (aA aK (aA aK (aA aK (aA aK aE))))) (aQ cQ (bH bE (pv 0) aK (λ_ _=>rfl)) aK) (λ_ _=>rfl)))))))
 (aJ (aS (iK aFG aFH aFI cF (pv 3) (aA (pv 2) aE)))))))
 (aJ (aY (pv 3)))))),?_⟩
  obtain⟨n0,m0,_,e0⟩:=eX (ns:=ns) (i:=0) (by omega) (by omega);obtain⟨n1,m1,_,e1⟩:=eX (ns:=ns) (i:=1) (by omega) (by omega);obtain⟨n2,m2,_,e2⟩:=eX (ns:=ns) (i:=2) (by omega) (by omega);have p1:(0:Int)<(m:Int)+1:=by omega
  have q1:=Int.emod_nonneg n1 (show ((m:Int)+1)≠0 by omega);have q2:=Int.emod_lt_of_pos n1 p1;have r1:=Int.emod_nonneg n0 (show (31:Int)≠0 by decide);have r2:=Int.emod_lt_of_pos n0 (show (0:Int)<31 by decide);refine⟨_,rfl,a,_,_,_,rfl,rfl,SqL.of ha,e0,_,_,rfl,rfl,(by show (0:Int)<31;decide),_,_,rfl,rfl,by decide,λl hl=>?_⟩;have al:=Same.upd (o:=.lst []) hl _ _ ha;refine⟨_,rfl,a,_,_,_,rfl,rfl,SqL.of al,e1,_,rfl,_,_,rfl,rfl,_,_,rfl,rfl,p1,_,rfl,by omega,by omega,
   jL (lo:=0) (n:=(n1 % ((m:Int)+1)).toNat) (wG H a l m) ⟨_,[],none,none,rfl,Same.upd hl,aB,List.Pairwise.nil,rfl,by omega,by omega,λx D=>by cases D⟩ ?_ ?_⟩
  .rintro i σ H2 hi ⟨place,row,v1,v2,rfl,sm,J,z,L,h1,h2,D⟩;obtain⟨st,ms,_,es⟩:=eX (ns:=ns) (i:=3+(0+(i:Int))) (by omega) (by omega);refine⟨_,rfl,_,rfl,_,_,rfl,rfl,a,_,_,_,rfl,rfl,SqL.of (sm _ _ ha),es,?_⟩;refine⟨_,rfl,_,_,rfl,rfl,λv M=>∃ d:Int,v=.int d/\0<=d/\d<=11/\(M=H2\/∃ p xs,H2 p=none/\M=upd H2 p (.lst xs)),?_,?_⟩
   .refine⟨_,rfl,_,_,rfl,rfl,(by show (0:Int)<3;decide),_,_,rfl,rfl,_,rfl,qP (λ_=>⟨0,rfl,by decide,by decide,.inl rfl⟩) (λ_=>?_)⟩;refine⟨_,rfl,_,_,rfl,rfl,⟨by decide,by decide⟩,(by show 4<=sizeLine;decide),λp I=>?_⟩;obtain⟨w',mw,_,ew⟩:=eX (ns:=[2,3,5,12]) (i:=n2 % 4) (Int.emod_nonneg _ (by decide)) (Int.emod_lt_of_pos _ (by decide));refine⟨_,rfl,a,_,_,_,rfl,rfl,SqL.of ((Same.upd I) _ _ (sm _ _ ha)),e2,_,_,rfl,rfl,(by show (0:Int)<4;decide),p,_,_,_,rfl,rfl,SqL.of aB,ew,_,_,rfl,rfl,?_,_,rfl,?_,?_,.inr ⟨p,_,I,rfl⟩⟩
    .simp at mw;omega
    .exact Int.emod_nonneg _ (by simp at mw;omega)
    .have:=Int.emod_lt_of_pos (st / 3) (show (0:Int)<w' by simp at mw;omega);simp at mw;show st / 3 % w'<=11;omega
   .rintro v M ⟨d,rfl,d0,d1,U⟩;have am:Same H M:=by
     rcases U with e | ⟨p,xs,I,e⟩
     .rw[e];exact sm
     .rw[e];exact Same.upd' (sm.free I) sm
    have Y:M l=some (.lst (row.map V.int)):=by
     rcases U with e | ⟨p,xs,I,e⟩
     .rw[e];exact J
     .rw[e,aF (aM J I)];exact J
    refine⟨_,_,rfl,rfl,_,rfl,.inl ⟨rfl,_,SqL.of Y⟩,_,rfl,l,_,_,rfl,rfl,Y,(by rw[aE9];exact bC (by omega)),?_⟩;refine⟨place+1+d,row++[place+1+d],_,_,rfl,Same.upd' hl am,by rw[aB,aEo];rfl,lL z λy hy=>?_,by simp[L],by omega,by omega,λx ao=>?_⟩
    .have:=D y hy;omega
    .rcases aFM.mp ao with h | h
     .have:=D x h;omega
     .rw[aFF.mp h];omega
  .rintro σ H2 ⟨place,row,v1,v2,rfl,sm,J,z,L,h1,h2,D⟩;exact⟨_,rfl,k row z (by omega) (λx h=>by have:=D x h;refine⟨this.1,?_⟩;omega) l H2 hl sm J⟩
abbrev fH:Stmt:=top 84
def eJ:aN ["_law_d","_law_most","_law_row_here","_law_cut","_law_by"] ["_law_d","_law_most"] (aI fH):=⟨rfl,rfl,rfl,by decide +kernel,rfl,by decide +kernel,by decide +kernel⟩
def aCQ {f:Addr} {fd:FuncData} (F:Fun K "_law_long_row" "_law_long_row" fH f fd) (B:Bt mg) (I:aU P w K mg base "_law_row" 1 ["_law_d","_law_most"] vP):FnOk P w K mg base CX0 2 f fd ["_law_d","_law_most"] tI:=by
 refine F.ok eJ (λvs H Q E h=>?_) (λbb A outer s H vs Q E hr h=>?_)
 .obtain⟨a,ns,m,rfl,_⟩:=h;rfl
 .obtain⟨a,ns,m,rfl,ha,ay,hlen,hm,k⟩:=h;refine⟨_,(aG (aW (i:=2) eJ.nd rfl (Or.inl rfl) (aV I hr rfl (aA (pv 0) (aA (pv 1) aE))))
 (aG (aW (i:=3) eJ.nd rfl (Or.inl rfl) (aQ cQ (aQ oT (bH bE (pv 0) aK (λ_ _=>rfl)) aK) (aQ bS (aO aX (by rfl) B.len PySem.boot_len (aA (pv 2) aE)) aK)))
 (aG (aW (i:=4) eJ.nd rfl (Or.inr rfl) (bH bE (cZ (aA aK (aA (aQ tZ aK aK) (aA (aQ tZ aK aK) (aA (aQ tZ aK aK) aE))))) (aQ cQ (aQ oT (bH bE (pv 0) aK (λ_ _=>rfl)) aK) aK) (λ_ _=>rfl)))
 (aJ (aY (aQ lG (fV mO (pv 2) iI (iJ (pv 3))) (cT ["_law_place"] ["_law_by"] [4] rfl (.of (show cJ (aI fH) _ ["_law_d","_law_most","_law_row_here","_law_cut","_law_by"] [4] ["_law_by"]=true by decide +kernel)) (cI (fV mO (pv 2) (iJ (pv 3)) iI)) (λ_ _ _=>(aL (i:=0) (show (["_law_place","_law_by"]:List Str).Nodup by decide +kernel) rfl (Or.inl rfl))) (eG (by decide)) (λ_ _ _=>cK) (λ_ _ _=>(aQ bS (pv 0) (pv 1)))))))))),?_⟩
  obtain⟨J,m2,_,e2⟩:=eX (ns:=ns) (i:=2) (by omega) (by omega);refine⟨_,rfl,_,rfl,a,ns,m,rfl,ha,ay,hlen,hm,λrow am bc ao l H1 hl sm el=>?_⟩;have p1:(0:Int)<(row.length:Int)+1:=by omega
  refine⟨_,rfl,a,_,_,_,rfl,rfl,SqL.of (sm _ _ ha),e2,_,_,rfl,rfl,⟨by decide,by decide⟩,_,rfl,l,_,rfl,.inl (SqL.of el),_,_,rfl,rfl,_,_,rfl,rfl,(by rw[aE9];exact p1),?_⟩;have c0:0<=J / 4 % ((row.length:Int)+1):=Int.emod_nonneg _ (by omega);have c1:J / 4 % ((row.length:Int)+1)<(row.length:Int)+1:=Int.emod_lt_of_pos _ p1;obtain⟨c,hc⟩:∃ c:Nat,J / 4 % (((row.map V.int).length:Int)+1)=(c:Int):=⟨(J / 4 % (((row.map V.int).length:Int)+1)).toNat,by rw[aE9];omega⟩;have ap:c<=row.length:=by rw[aE9]at hc;omega
  refine⟨_,_,rfl,rfl,⟨by decide,by decide,by decide⟩,_,_,rfl,rfl,⟨by decide,by decide,by decide⟩,_,_,rfl,rfl,⟨by decide,by decide,by decide⟩,(show 4<=sizeLine by decide),λp hp=>?_⟩;obtain⟨b,mb,_,eb⟩:=eX (ns:=[0,10 ^ (3:Int).toNat,10 ^ (12:Int).toNat,10 ^ (40:Int).toNat]) (i:=J / 64 % 4) (Int.emod_nonneg _ (by decide)) (Int.emod_lt_of_pos _ (by decide));have hb:0<=b:=by
   simp only[aFL,List.mem_nil_iff,or_false]at mb;rcases mb with h | h | h | h <;> rw[h] <;> decide
  have L:=Same.upd (o:=.lst [V.int 0,V.int (10 ^ (3:Int).toNat),V.int (10 ^ (12:Int).toNat),V.int (10 ^ (40:Int).toNat)]) hp;refine⟨_,rfl,a,_,_,_,rfl,rfl,SqL.of (L _ _ (sm _ _ ha)),e2,_,_,rfl,rfl,⟨by decide,by decide⟩,_,_,rfl,rfl,(by show (0:Int)<4;decide),p,_,_,_,rfl,rfl,SqL.of aB,eb,?_⟩;have M:=L _ _ el;have aq:Same H (upd H1 p (.lst [V.int 0,V.int (10 ^ (3:Int).toNat),V.int (10 ^ (12:Int).toNat),V.int (10 ^ (40:Int).toNat)])):=sm.trans L;generalize upd H1 p (.lst [V.int 0,V.int (10 ^ (3:Int).toNat),V.int (10 ^ (12:Int).toNat),V.int (10 ^ (40:Int).toNat)])=H2 at M aq ⊢;refine⟨_,rfl,_,rfl,_,rfl,l,_,rfl,SqL.of M,λp1 ar=>?_⟩;have az:gI (row.map V.int) none (some (J / 4 % (((row.map V.int).length:Int)+1)))=(row.take c).map V.int:=by rw[hc];exact aAJ row c ap
  rw[show gI (row.map V.int) none (some ((λi j=>i % j) (J / 4) (((row.map V.int).length:Int)+1)))=(row.take c).map V.int from az];have au:=Same.upd (o:=.lst ((row.take c).map V.int)) ar _ _ M;have av:Same H (upd H2 p1 (.lst ((row.take c).map V.int))):=aq.trans (Same.upd ar);have aw:(upd H2 p1 (.lst ((row.take c).map V.int))) p1=some (.lst ((row.take c).map V.int)):=aB;generalize upd H2 p1 (.lst ((row.take c).map V.int))=H3 at au av aw ⊢;refine⟨_,rfl,_,rfl,_,rfl,l,_,rfl,SqL.of au,λp2 a_=>?_⟩;have ba:gI (row.map V.int) (some (J / 4 % (((row.map V.int).length:Int)+1))) none=(row.drop c).map V.int:=by rw[hc];exact uL row c ap
  rw[show gI (row.map V.int) (some ((λi j=>i % j) (J / 4) (((row.map V.int).length:Int)+1))) none=(row.drop c).map V.int from ba];have U:=Same.upd (o:=.lst ((row.drop c).map V.int)) a_;have Y:(upd H3 p2 (.lst ((row.drop c).map V.int))) p2=some (.lst ((row.drop c).map V.int)):=aB;generalize upd H3 p2 (.lst ((row.drop c).map V.int))=H4 at U Y ⊢;have bf:(row.drop c).length<=60:=by simp;omega
  refine⟨p2,rfl,⟨_,SqL.of Y⟩,eN (xs:=(row.drop c).map V.int) (λi ys H5=>H5=H4/\ys=(((row.drop c).take i).map (λz=>z+b)).map V.int) ⟨rfl,rfl⟩ ?_ ?_ ?_⟩
  .rintro i ys H5 hi ⟨rfl,rfl⟩;exact⟨SqL.of Y,pD _ _ (by rw[aE9]at hi;omega) _⟩
  .rintro i x ys H5 hi ⟨rfl,rfl⟩;obtain⟨z,rfl,hz⟩:=jX hi;exact⟨_,rfl,_,rfl,_,_,rfl,rfl,rfl,pC _ hz⟩
  .rintro ys H5 ⟨rfl,rfl⟩ D hD;rw[aE9,aEn];have ax:=Same.upd (o:=.lst (((row.drop c).map (λz=>z+b)).map V.int)) hD;refine⟨p1,D,_,_,rfl,rfl,ax _ _ (U _ _ aw),aB,?_,λq hq=>?_⟩
   .simp only[aE9,aEp,List.length_drop];exact dJ (by omega)
   .rw[<- aEo];have al:=(av.trans U).trans ax;refine k _ (aAK (c:=c) am hb) ?_ (λx hx=>?_) q _ (al.free hq) (Same.upd' (al.free hq) al) aB
    .simp only[aEi,aE9,aEp,List.length_drop];omega
    .have bg:b<=10 ^ (40:Int).toNat:=by
      simp only[aFL,List.mem_nil_iff,or_false]at mb;rcases mb with h | h | h | h <;> rw[h] <;> decide
     rcases aFM.mp hx with hx | hx
     .have:=(ao x (List.mem_of_mem_take hx)).2;omega
     .obtain⟨z,hz,rfl⟩:=aFN.mp hx;have:=(ao z (List.mem_of_mem_drop hz)).2;omega
abbrev gQ:Stmt:=top 85
def nW:aN ["_law_one","_law_other","_law_gap","_law_by"] ["_law_one","_law_other","_law_gap"] (aI gQ):=⟨rfl,rfl,rfl,by decide +kernel,rfl,by decide +kernel,by decide +kernel⟩
def U3 {f:Addr} {fd:FuncData} (F:Fun K "_law_behind" "_law_behind" gQ f fd) (B:Bt mg):FnOk P w K mg base CX0 1 f fd ["_law_one","_law_other","_law_gap"] rD:=by
 refine F.ok nW (λvs H Q E h=>?_) (λY A outer s H vs Q E hr h=>?_)
 .obtain⟨a,b,r,r',g,rfl,_⟩:=h;rfl
 .obtain⟨a,b,one,other,I,rfl,M,J,al,am,e1,e2,k⟩:=h;refine⟨_,(aG (aW (i:=3) nW.nd rfl (Or.inr rfl) (aQ gE (aQ bS (aQ bS (bH bE (pv 0) (kZ gX aK) (λ_ _=>rfl)) aK) (pv 2)) (bH bE (pv 1) aK (λ_ _=>rfl))))
 (aJ (aY (aQ lG (pv 0) (cT ["_law_place"] ["_law_by"] [3] rfl (.of (show cJ (aI gQ) _ ["_law_one","_law_other","_law_gap","_law_by"] [3] ["_law_by"]=true by decide +kernel)) (cI (pv 1)) (λ_ _ _=>(aL (i:=0) (show (["_law_place","_law_by"]:List Str).Nodup by decide +kernel) rfl (Or.inl rfl))) (eG (by decide)) (λ_ _ _=>cK) (λ_ _ _=>(aQ bS (pv 0) (pv 1)))))))),?_⟩
  refine⟨_,rfl,_,rfl,a,_,_,_,rfl,rfl,SqL.of M,aAp e1,_,_,rfl,rfl,_,rfl,_,_,rfl,rfl,_,rfl,b,_,_,_,rfl,rfl,SqL.of J,S2 e2,_,_,rfl,rfl,?_⟩;refine⟨_,rfl,_,rfl,b,rfl,⟨_,SqL.of J⟩,eN (K:=K) (a:=b) (xs:=other.map V.int) (λi ys H2=>H2=H/\ys=((other.take i).map (λz=>z+(one.getLastD 0+1+I - other.headD 0))).map V.int) ⟨rfl,rfl⟩ ?_ ?_ ?_⟩
  .rintro i ys H2 hi ⟨rfl,rfl⟩;exact⟨SqL.of J,by simp only[aE9,aEp];exact bC (by omega)⟩
  .rintro i x ys H2 hi ⟨rfl,rfl⟩;obtain⟨z,rfl,hz⟩:=jX hi;exact⟨_,rfl,_,rfl,_,_,rfl,rfl,rfl,pC _ hz⟩
  .rintro ys H2 ⟨rfl,rfl⟩ D hD;rw[aE9,aEn];have L:=Same.upd (o:=.lst ((other.map (λz=>z+(one.getLastD 0+1+I - other.headD 0))).map V.int)) hD;refine⟨a,D,_,_,rfl,rfl,L _ _ M,aB,dJ (by simp only[aE9];omega),λl U=>?_⟩;rw[<- aEo];refine k l _ (L.free U) (L.trans (Same.upd U)) ?_;rw[aB];unfold lU P9;rw[show one.getLastD 0+1+I - other.headD 0=one.getLastD 0+I+1 - other.headD 0 by omega]
abbrev oP:Stmt:=top 86
def iZ:aN ["_law_house","_law_some","_law_name"] ["_law_house"] (aI oP):=⟨rfl,rfl,rfl,by decide +kernel,rfl,by decide +kernel,by decide +kernel⟩
def n8 {f:Addr} {fd:FuncData} (G:Hc K) (F:Fun K "_law_view" "_law_view" oP f fd) (B:Bt mg) (J:bN P w K mg base G.Hs "roads" 2 ["self"] (pX G)) (U:bN P w K mg base G.Hs "deeds" 2 ["self"] (lX G)) (M:bN P w K mg base G.Hs "undone" 2 ["self"] (nF G)) (am:bN P w K mg base G.Hs "row" 8 ["self","name"] (oG G)) (ao:bN P w K mg base G.Hs "log" 2 ["self","name"] (rC G)):FnOk P w K mg base CX0 9 f fd ["_law_house"] (lY G):=by
 refine F.ok iZ (λvs H Q E h=>?_) (λbm A outer s H vs Q E hr h=>?_)
 .obtain⟨N,Hb,a,m,rows,rfl,_⟩:=h;rfl
 .obtain⟨N,Hb,a,m,rows,rfl,hO,hV,kk⟩:=h;refine⟨_,(aG (aW (i:=1) iZ.nd rfl (Or.inl rfl) (cZ (aA (mU J G.hs hr (pv 0)) (aA (mU U G.hs hr (pv 0)) (aA (mU M G.hs hr (pv 0)) aE)))))
 (aG (dU PassesOwn.never rfl (cI (mU J G.hs hr (pv 0))) (aL (i:=2) iZ.nd rfl (Or.inl rfl))
 (aJ (aW (i:=1) iZ.nd rfl (Or.inl rfl) (aQ lG (pv 1) (cZ (aA (cR am G.hs hr (pv 0) (aA (pv 2) aE)) (aA (cR ao G.hs hr (pv 0) (aA (pv 2) aE)) aE)))))))
 (aJ (aY (pv 1))))),?_⟩
  obtain⟨dx,d,p,q,ha⟩:=hO.ins;refine⟨_,rfl,a,dx,_,rfl,ha,rfl,N,Hb,a,m,rfl,hO,λl1 H1 ap g1 e1=>?_⟩;refine⟨_,rfl,a,dx,_,rfl,g1 _ _ ha,rfl,N,Hb,a,m,rfl,hO.same g1,(by have:=hV.past;omega),λl2 bo H2 aq g2 e2 d2=>?_⟩;have t2:=g1.trans g2;refine⟨_,rfl,a,dx,_,rfl,t2 _ _ ha,rfl,N,Hb,a,m,rfl,hO.same t2,(by have:=hV.ahead;omega),λl3 bq H3 ar g3 e3 d3=>?_⟩;have t3:=t2.trans g3;refine⟨(show 3<=sizeLine by decide),λl4 I=>?_⟩;have g4:=Same.upd (o:=.lst [V.ref l1,V.ref l2,V.ref l3]) I;have e4:(upd H3 l4 (.lst [V.ref l1,V.ref l2,V.ref l3])) l4=some (.lst [V.ref l1,V.ref l2,V.ref l3]):=aB;generalize upd H3 l4 (.lst [V.ref l1,V.ref l2,V.ref l3])=H4 at g4 e4 ⊢;have t4:=t3.trans g4;have P4:Paired (ND H H4) [V.ref l1,V.ref l2,V.ref l3] [.list (m.std.map λs=>PyData.str s.1),.list (m.past.map (·.1)),.list (m.ahead.reverse.map (·.1))]:=by
   refine .cons ⟨l1,_,_,rfl,rfl,ap,((g2.trans g3).trans g4) _ _ e1,?_⟩ (.cons ⟨l2,_,_,rfl,rfl,g1.free aq,(g3.trans g4) _ _ e2,d2.mono (TupS.same (g3.trans g4))⟩ (.cons ⟨l3,_,_,rfl,rfl,t2.free ar,g4 _ _ e3,d3.mono (TupS.same g4)⟩ .nil));have:=DTs.strs (H:=H4) (m.std.map (·.1));rw[aFD,aFD]at this;exact this
  have au:∀ v∈[V.ref l1,V.ref l2,V.ref l3],v≠.ref l4:=λv hv e=>by
   rw[e]at hv;rcases aFL.mp hv with z | hv
   .injection z with z;rw[z,(g2.trans g3) _ _ e1]at I;cases I
   .rcases aFL.mp hv with z | hv
    .injection z with z;rw[z,g3 _ _ e2]at I;cases I
    .have z:=aFF.mp hv;injection z with z;rw[z,e3]at I;cases I
  have av:H l4=none:=t3.free I;clear e1 e2 e3 d2 d3 ap aq ar g1 g2 g3 g4 t2 t3 I;refine⟨_,rfl,a,dx,_,rfl,t4 _ _ ha,rfl,N,Hb,a,m,rfl,hO.same t4,λl5 H5 br g5 e5=>?_⟩;have t5:=t4.trans g5;have ba:=hV.go.length;refine⟨l5,rfl,⟨_,SqL.of e5⟩,eU (K:=K) (a:=l5) (xs:=m.std.map λs=>V.str s.1) (λi σ Hx=>∃ (l:Addr) (us:List V) (v2:Option V),σ=[some (.ref a),some (.ref l),v2]/\Same H5 Hx/\H l=none/\Hx l=some (.lst us)/\us.length<=3+2 * i/\Paired (ND H Hx) us ([.list (m.std.map λs=>PyData.str s.1),.list (m.past.map (·.1)),.list (m.ahead.reverse.map (·.1))]++iX (m.std.take i) (rows.take i))/\∀ v∈us,v≠.ref l)
   ⟨l4,_,none,rfl,Same.refl _,av,g5 _ _ e4,Nat.le_refl _,Paired.mapP P4 λ_ _ z=>z.same g5,au⟩ (λi σ Hx _ ⟨_,_,_,_,sx,_⟩=>SqL.of (sx _ _ e5)) ?_ ?_⟩
  .rintro i y σ Hx hi ⟨l,us,v2,rfl,sx,hl,ex,bb,pr,aw⟩;rw[aEx]at hi;obtain⟨s0,al,rfl⟩:=aFJ.mp hi;have bt:i<m.std.length:=(aFK.mp al).1;obtain⟨r,ax⟩:∃ r,rows[i]?=some r:=⟨rows[i]'(by omega),by simp⟩;have bc:Go s0.2.1 s0.2.2 r:=by
    obtain⟨s1,h1,h2⟩:=cV hV.go ax;rw[al]at h1;cases h1;exact h2
   have ay:=hV.look s0 (aEk al);have az:=hO.same (t5.trans sx);have a_:=(t5.trans sx) _ _ ha;refine⟨_,rfl,_,rfl,a,dx,_,rfl,a_,rfl,_,rfl,N,Hb,a,s0.1,m,s0.2.1,r,s0.2.2,rfl,az,ay,bc,λY H6 bf g6 e6=>?_⟩;refine⟨_,rfl,a,dx,_,rfl,g6 _ _ a_,rfl,_,rfl,N,Hb,a,s0.1,m,s0.2.1,s0.2.2,rfl,az.same g6,ay,λl7 bu H7 bg g7 e7 d7=>?_⟩;refine⟨(show 2<=sizeLine by decide),λl8 bi=>?_⟩;have g8:=Same.upd (o:=.lst [V.ref Y,V.ref l7]) bi;have e8:(upd H7 l8 (.lst [V.ref Y,V.ref l7])) l8=some (.lst [V.ref Y,V.ref l7]):=aB;generalize upd H7 l8 (.lst [V.ref Y,V.ref l7])=H8 at g8 e8 ⊢;have t8:=(g6.trans g7).trans g8;have bj:=hV.few;refine⟨l,l8,_,_,rfl,rfl,t8 _ _ ex,e8,dJ (by show us.length+2<=10000;omega),λl9 L=>?_⟩;have g9:=Same.upd (o:=.lst (us++[V.ref Y,V.ref l7])) L;have e9:(upd H8 l9 (.lst (us++[V.ref Y,V.ref l7]))) l9=some (.lst (us++[V.ref Y,V.ref l7])):=aB;generalize upd H8 l9 (.lst (us++[V.ref Y,V.ref l7]))=H9 at g9 e9 ⊢;have t9:=t8.trans g9;have sH:=(t5.trans sx);have n6:H Y=none:=sH.free bf;have n7:H l7=none:=(sH.trans g6).free bg;have n9:H l9=none:=(sH.trans t8).free L;refine⟨l9,us++[V.ref Y,V.ref l7],_,rfl,sx.trans t9,n9,e9,by rw[aEi];show us.length+2<=_;omega,?_,λv hv e=>?_⟩
   .have ev:iX (m.std.take (i+1)) (rows.take (i+1))=iX (m.std.take i) (rows.take i)++[.list (r.map PyData.int),.list (s0.2.2.map Ent.data)]:=by
     rw[aFE,al,aFE,ax];exact vN (by rw[aEp,aEp];omega)
    rw[ev,<- List.append_assoc];exact Paired.append' (Paired.mapP pr λ_ _ z=>z.same t9) (.cons ⟨Y,_,_,rfl,rfl,n6,((g7.trans g8).trans g9) _ _ e6,DTs.ints r⟩ (.cons ⟨l7,_,_,rfl,rfl,n7,(g8.trans g9) _ _ e7,d7.mono (TupS.same (g8.trans g9))⟩ .nil))
   .rw[e]at hv;rcases aFM.mp hv with hv | hv
    .obtain⟨j,hj⟩:=List.getElem?_of_mem hv;obtain⟨D,_,ly,wy,dy,z1,_,_,z2,_⟩:=lZ pr hj
     injection z1 with z1
     rw[z1,t8 _ _ z2]at L;cases L
    .rcases aFL.mp hv with z | hv
     .injection z with z;rw[z,(g7.trans g8) _ _ e6]at L;cases L
     .have z:=aFF.mp hv;injection z with z;rw[z,g8 _ _ e7]at L;cases L
  .rintro σ Hx ⟨l,us,v2,rfl,sx,hl,ex,bb,pr,aw⟩;rw[aE9,aEn,ba,aEn]at pr;exact⟨_,rfl,kk l us Hx hl (t5.trans sx) ex pr aw⟩
abbrev mN:Stmt:=top 87
def qH:aN ["_law_house","_law_one"] ["_law_house"] (aI mN):=⟨rfl,rfl,rfl,by decide +kernel,rfl,by decide +kernel,by decide +kernel⟩
def U4 {f:Addr} {fd:FuncData} (G:Hc K) (F:Fun K "_law_spoil" "_law_spoil" mN f fd) (B:Bt mg) (z:aU P w K mg base "_law_view" 9 ["_law_house"] (lY G)):FnOk P w K mg base CX0 10 f fd ["_law_house"] (jT G):=by
 refine F.ok qH (λvs H Q E h=>?_) (λar A outer s H vs Q E hr h=>?_)
 .obtain⟨N,Hb,a,m,rows,rfl,_⟩:=h;rfl
 .obtain⟨N,Hb,a,m,rows,rfl,hO,hV,kk⟩:=h;refine⟨_,(aJ (dU PassesOwn.never rfl (cI (aV z hr rfl (aA (pv 0) aE))) (aL (i:=1) qH.nd rfl (Or.inl rfl))
 (aG (aS (zF aFG PySem.F.slot_list_reverse PySem.F.type_list_reverse uD (pv 1)))
 (aJ (aS (iK aFG aFH aFI cF (pv 1) (aA (bW (aA aK (aA aK aE))) aE))))))),?_⟩
  refine⟨_,rfl,N,Hb,a,m,rows,rfl,hO,hV,λl us H1 hl g1 e1 pr al=>?_⟩;have hlen:us.length<=19:=by
   have h1:=pr.length;have h2:=rE m.std rows;have h3:=hV.few;have h4:(vM m rows).length=3+(iX m.std rows).length:=by unfold vM;rw[aEi];rfl
   omega
  refine⟨l,rfl,⟨_,SqL.of e1⟩,eU (K:=K) (a:=l) (xs:=us) (λi σ J=>∃ v1:Option V,σ=[some (.ref a),v1]/\Same H J/\J l=some (.lst us)/\∀ v∈us,∃ y xs,v=.ref y/\H y=none/\y≠l/\J y=some (.lst xs)/\xs.length<=100+i)
   ⟨none,rfl,g1,e1,λv hv=>?_⟩ (λi σ J _ ⟨_,_,_,ex,_⟩=>SqL.of ex) ?_ ?_⟩
  .obtain⟨j,hj⟩:=List.getElem?_of_mem hv;obtain⟨D,hD,ly,wy,dy,rfl,z0,z1,z2,z3⟩:=lZ pr hj;have hd:=hV.small D (aEk hD) dy z0;exact⟨ly,wy,rfl,z1,λe=>al _ hv (by rw[e]),z2,by rw[z3.length];omega⟩
  .rintro i v σ J hi ⟨v1,rfl,sx,ex,L⟩;have am:=aEk hi;have au:i<us.length:=(aFK.mp hi).1;obtain⟨y,xs,rfl,hy,U,ey,av⟩:=L v am;refine⟨_,rfl,.inl ⟨rfl,_,SqL.of ey⟩,y,_,rfl,rfl,ey,?_⟩;refine⟨_,rfl,.inl ⟨rfl,_,SqL.of aB⟩,(show 2<=sizeLine by decide),λt ht=>?_⟩;have ty:y≠t:=aM aB ht;refine⟨y,_,_,rfl,rfl,(aF ty).trans aB,bC (by rw[List.length_reverse];omega),?_⟩;have hH:J t=none:=bM ht;refine⟨_,rfl,((sx.upd' hy).upd' (sx.free hH)).upd' hy,?_,λv2 ao=>?_⟩
   .rw[aF (Ne.symm U),aF (aM ex hH),aF (Ne.symm U)];exact ex
   .obtain⟨y2,ap,rfl,Y,M,I,aq⟩:=L v2 ao
    by_cases c:y2=y
    .subst c;exact⟨y2,_,rfl,Y,M,aB,by rw[aEi,List.length_reverse,List.length_singleton];rw[ey]at I;cases I;omega⟩
    .exact⟨y2,ap,rfl,Y,M,by rw[aF c,aF (aM I hH),aF c];exact I,by omega⟩
  .rintro σ J ⟨v1,rfl,sx,_⟩;exact kk J sx
abbrev Y2:Stmt:=top 88
def jJ:aN ["_law_script","_law_numbers_here","_law_rows","_law_house","_law_handed","_law_one","_law_first","_law_both","_law_ahead","_law_again"] ["_law_script"] (aI Y2):=⟨rfl,rfl,rfl,by decide +kernel,rfl,by decide +kernel,by decide +kernel⟩
def aDT {f:Addr} {fd:FuncData} (G:Hc K) (F:Fun K "law" "law" Y2 f fd) (B:Bt mg) (au:aU P w K mg base "_law_numbers" 1 ["_law_script","_law_many"] (mR K)) (ap:aU P w K mg base "_law_long_row" 2 ["_law_d","_law_most"] tI) (bf:aU P w K mg base "_law_row" 1 ["_law_d","_law_most"] vP)
 (am:aU P w K mg base "_law_same" 7 ["_law_found","_law_due"] (qR 6)) (U:aU P w K mg base "_law_behind" 1 ["_law_one","_law_other","_law_gap"] rD) (ao:aU P w K mg base "_law_view" 9 ["_law_house"] (lY G)) (J:aU P w K mg base "_law_spoil" 10 ["_law_house"] (jT G)) (ff:aU P w K mg base "far" 5 ["row","walks"] vG) (bw:jO P w K mg base "House" G.Hs 1 ["self"] (lW G))
 (a_:bN P w K mg base G.Hs "build" 13 ["self","name","row"] (tN G)) (bx:bN P w K mg base G.Hs "lay" 13 ["self","name","other","gap"] (cG G "lay" 3)) (c_:bN P w K mg base G.Hs "walk" 13 ["self","name","creel","count"] (cG G "walk" 3)) (da:bN P w K mg base G.Hs "take" 13 ["self","name","place"] (cG G "take" 2)) (db:bN P w K mg base G.Hs "late" 13 ["self","name","at","creel","count"] (cG G "late" 4)) (de:bN P w K mg base G.Hs "shut" 13 ["self","name"] (cG G "shut" 1))
 (df:bN P w K mg base G.Hs "back" 2 ["self"] (pW G)) (av:bN P w K mg base G.Hs "row" 8 ["self","name"] (oG G)) (fg:bN P w K mg base G.Hs "log" 2 ["self","name"] (rC G)) (b_:bN P w K mg base G.Hs "deeds" 2 ["self"] (lX G)) :
 FnOk P w K mg base CX0 14 f fd ["_law_script"] (G9 K):=by
 refine F.ok jJ (λvs H Q E h=>?_) (λmy A outer s H vs Q E hr h=>?_)
 .obtain⟨a,ns,rfl,_⟩:=h;rfl
 .obtain⟨sa,sc,rfl,hS,hlen,kk⟩:=h;have hu:=hr.units;refine⟨_,(aZ (aW (i:=1) jJ.nd rfl (Or.inl rfl) (aV au hr rfl (aA (pv 0) (aA aK aE))))
 (aZ (aW (i:=2) jJ.nd rfl (Or.inl rfl) (cZ (aA (aQ lG (aV ap hr rfl (aA (fV mO (pv 1) (iJ aK) iI) (aA aK aE))) (cZ (aA (aQ tZ aK aK) aE))) (aA (aQ lG (aV bf hr rfl (aA (fV mO (pv 1) (iJ aK) iI) (aA aK aE))) (cZ (aA aK (aA aK aE)))) aE))))
 (aZ (aW (i:=3) jJ.nd rfl (Or.inl rfl) (aBm bw hr rfl))
 (aZ (zH (i:=4) ["_law_row_here"] [] [] rfl jJ.nd rfl rfl (.of (show cJ (aI Y2) _ ["_law_script","_law_numbers_here","_law_rows","_law_house","_law_handed","_law_one","_law_first","_law_both","_law_ahead","_law_again"] [] []=true by decide +kernel)) (cI (pv 2)) (λ_ _ _=>(aL (i:=0) (show (["_law_row_here"]:List Str).Nodup by decide +kernel) rfl (Or.inl rfl))) (eG (by decide)) (λ_ _ _=>cK) (λ_ _ _=>(cC (wJ K rfl) (by rfl) B.list dH (aA (pv 0) aE))) (by first | rfl | decide +kernel))
 (aZ (aS (cR a_ G.hs hr (pv 3) (aA bP (aA (bH bE (pv 4) aK (λ_ _=>rfl)) aE))))
 (aZ (aS (cR a_ G.hs hr (pv 3) (aA bP (aA (bH bE (pv 4) aK (λ_ _=>rfl)) aE))))
 (aG (dU PassesOwn.never rfl (cI (pv 4)) (aL (i:=5) jJ.nd rfl (Or.inl rfl))
 (aZ (aS (iK aFG aFH aFI cF (pv 5) (aA aK aE)))
 (aJ (aS (zF aFG PySem.F.slot_list_reverse PySem.F.type_list_reverse uD (pv 5))))))
 (aZ (cB (nX (dG (aV am hr rfl (aA (cZ (aA (cR av G.hs hr (pv 3) (aA bP aE)) (aA (cR av G.hs hr (pv 3) (aA bP aE)) aE))) (aA (pv 2) aE))) (λ_=>rfl)))
 (aJ (aY rQ))
 bG)
 (aZ (aW (i:=6) jJ.nd rfl (Or.inl rfl) (aV ao hr rfl (aA (pv 3) aE)))
 (aZ (aS (aV J hr rfl (aA (pv 3) aE)))
 (aZ (cB (nX (dG (aV am hr rfl (aA (aV ao hr rfl (aA (pv 3) aE)) (aA (pv 6) aE))) (λ_=>rfl)))
 (aJ (aY rQ))
 bG)
 (aZ (aS (cR bx G.hs hr (pv 3) (aA bP (aA bP (aA (aQ bS (aO aX (by rfl) B.len PySem.boot_len (aA (bH bE (pv 2) aK (λ_ _=>rfl)) aE)) (aQ cQ (bH bE (pv 1) aK (λ_ _=>rfl)) aK)) aE)))))
 (aZ (aW (i:=7) jJ.nd rfl (Or.inl rfl) (aV U hr rfl (aA (bH bE (pv 2) aK (λ_ _=>rfl)) (aA (bH bE (pv 2) aK (λ_ _=>rfl)) (aA (aQ bS (aO aX (by rfl) B.len PySem.boot_len (aA (bH bE (pv 2) aK (λ_ _=>rfl)) aE)) (aQ cQ (bH bE (pv 1) aK (λ_ _=>rfl)) aK)) aE)))))
 (aZ (aS (cR c_ G.hs hr (pv 3) (aA bP (aA (aQ bS aK (aQ cQ (bH bE (pv 1) aK (λ_ _=>rfl)) aK)) (aA (bH bE (pv 1) aK (λ_ _=>rfl)) aE)))))
 (aZ (aS (cR da G.hs hr (pv 3) (aA bP (aA (bH bE (cR av G.hs hr (pv 3) (aA bP aE)) aK (λ_ _=>rfl)) aE))))
 (aZ (aS (cR bx G.hs hr (pv 3) (aA bP (aA bP (aA (aQ bS aK (aQ cQ (bH bE (pv 1) aK (λ_ _=>rfl)) aK)) aE)))))
 (aZ (aS (aV J hr rfl (aA (pv 3) aE)))
 (aZ (cB (PW.pt (E4 (bD (P3 hu) (cR av G.hs hr (pv 3) (aA bP aE)) (pv 7) (bF _)) (tV (bD (P3 hu) (cR fg G.hs hr (pv 3) (aA bP aE)) (cZ (aA (bW (aA bP (aA (cC cW (by rfl) B.tuple cX (aA (bH bE (pv 2) aK (λ_ _=>rfl)) aE)) (aA (aQ bS (aO aX (by rfl) B.len PySem.boot_len (aA (bH bE (pv 2) aK (λ_ _=>rfl)) aE)) (aQ cQ (bH bE (pv 1) aK (λ_ _=>rfl)) aK)) aE)))) aE)) (bF _)))))
 (aJ (aY rQ))
 bG)
 (aZ (aS (cR de G.hs hr (pv 3) (aA bP aE)))
 (aZ (aS (mU df G.hs hr (pv 3)))
 (aZ (aS (cR db G.hs hr (pv 3) (aA bP (aA aK (aA aK (aA (aQ cQ (bH bE (pv 1) aK (λ_ _=>rfl)) aK) aE))))))
 (aZ (aW (i:=8) jJ.nd rfl (Or.inl rfl) (aV ff hr rfl (aA (cC eW (by rfl) B.list dH (aA (bH bE (pv 2) aK (λ_ _=>rfl)) aE)) (aA (cZ (aA (bW (aA aK (aA (aQ cQ (bH bE (pv 1) aK (λ_ _=>rfl)) aK) aE))) aE)) aE))))
 (aZ (aS (aV J hr rfl (aA (pv 3) aE)))
 (aZ (aW (i:=9) jJ.nd rfl (Or.inl rfl) (aV U hr rfl (aA (pv 8) (aA (bH bE (pv 2) aK (λ_ _=>rfl)) (aA (aQ bS (aO aX (by rfl) B.len PySem.boot_len (aA (bH bE (pv 2) aK (λ_ _=>rfl)) aE)) (aQ cQ (bH bE (pv 1) aK (λ_ _=>rfl)) aK)) aE)))))
 (aJ (aY (qI (eV (P2 hu) (cR av G.hs hr (pv 3) (aA bP aE)) (pv 9) (bF _)) (tW (eV (P2 hu) (bH bE (mU b_ G.hs hr (pv 3)) (kZ gX aK) (λ_ _=>rfl)) (bW (aA bP (aA bP (aA aK (aA aK (aA (aQ cQ (bH bE (pv 1) aK (λ_ _=>rfl)) aK) aE)))))) (bF _)))))))))))))))))))))))))))))),?_⟩
  refine λM1 D=>?_;refine⟨_,rfl,sa,sc,60,rfl,hS,hlen,by decide,λL nums H1 mz ca m_ k0 dh=>?_⟩;refine D [some (.ref sa),some (.ref L),none,none,none,none,none,none,none,none] _ ?_;clear D M1;refine λM1 D=>?_;refine⟨_,rfl,_,rfl,L,_,rfl,SqL.of dh,λp1 di=>?_⟩;have ec:gI (nums.map V.int) (some 5) none=(nums.drop 5).map V.int:=uL nums 5 (by omega);rw[ec];have a1:=Same.upd (o:=.lst ((nums.drop 5).map V.int)) di;have bg:(upd H1 p1 (.lst ((nums.drop 5).map V.int))) p1=some (.lst ((nums.drop 5).map V.int)):=aB;generalize upd H1 p1 (.lst ((nums.drop 5).map V.int))=H2 at a1 bg ⊢;refine⟨p1,nums.drop 5,8,rfl,bg,λn hn=>ca n (List.mem_of_mem_drop hn),by simp;omega,by decide,λra gl gm ef la H3 k3 a2 gn=>?_⟩;refine⟨_,_,rfl,rfl,⟨by decide,by decide,by decide⟩,(show 1<=sizeLine by decide),λp2 dj=>?_⟩;obtain⟨aq,cb⟩:∃ aq:Int,aq=10 ^ (41:Int).toNat:=⟨_,rfl⟩;have ce:(λi j:Int=>V.int (i ^ j.toNat)) 10 41=V.int aq:=by rw[cb]
  rw[ce];have a3:=Same.upd (o:=.lst [V.int aq]) dj;have bi:(upd H3 p2 (.lst [V.int aq])) p2=some (.lst [V.int aq]):=aB;generalize upd H3 p2 (.lst [V.int aq])=H4 at a3 bi ⊢;refine⟨la,p2,_,_,rfl,rfl,a3 _ _ gn,bi,dJ (by rw[aE9,List.length_singleton];omega),λar eh=>?_⟩;have a4:=Same.upd (o:=.lst (ra.map V.int++[V.int aq])) eh;have fh:(upd H4 ar (.lst (ra.map V.int++[V.int aq]))) ar=some (.lst ((ra++[aq]).map V.int)):=by rw[aB,aEo];rfl
  generalize upd H4 ar (.lst (ra.map V.int++[V.int aq]))=H5 at a4 fh ⊢;have b5:=((a1.trans a2).trans a3).trans a4;refine⟨_,rfl,_,rfl,L,_,rfl,SqL.of (b5 _ _ dh),λp3 dm=>?_⟩;have gq:gI (nums.map V.int) (some 20) none=(nums.drop 20).map V.int:=uL nums 20 (by omega);rw[gq];have a5:=Same.upd (o:=.lst ((nums.drop 20).map V.int)) dm;have bj:(upd H5 p3 (.lst ((nums.drop 20).map V.int))) p3=some (.lst ((nums.drop 20).map V.int)):=aB;generalize upd H5 p3 (.lst ((nums.drop 20).map V.int))=H6 at a5 bj ⊢;refine⟨p3,nums.drop 20,8,rfl,bj,λn hn=>ca n (List.mem_of_mem_drop hn),by simp;omega,by decide,λrb gr gt cf lb H7 k5 a6 gu=>?_⟩;refine⟨(show 2<=sizeLine by decide),λp4 gv=>?_⟩;have a7:=Same.upd (o:=.lst [V.int 300,V.int 302]) gv;have fi:(upd H7 p4 (.lst [V.int 300,V.int 302])) p4=some (.lst [V.int 300,V.int 302]):=aB;generalize upd H7 p4 (.lst [V.int 300,V.int 302])=H8 at a7 fi ⊢;refine⟨lb,p4,_,_,rfl,rfl,a7 _ _ gu,fi,dJ (by rw[aE9];show rb.length+2<=10000;omega),λM ek=>?_⟩;have a8:=Same.upd (o:=.lst (rb.map V.int++[V.int 300,V.int 302])) ek;have fj:(upd H8 M (.lst (rb.map V.int++[V.int 300,V.int 302]))) M=some (.lst ((rb++[300,302]).map V.int)):=by rw[aB,aEo];rfl
  generalize upd H8 M (.lst (rb.map V.int++[V.int 300,V.int 302]))=H9 at a8 fj ⊢;refine⟨(show 2<=sizeLine by decide),λI gw=>?_⟩;have a9:=Same.upd (o:=.lst [V.ref ar,V.ref M]) gw;have fk:(upd H9 I (.lst [V.ref ar,V.ref M])) I=some (.lst [V.ref ar,V.ref M]):=aB;generalize upd H9 I (.lst [V.ref ar,V.ref M])=H0 at a9 fk ⊢;have b9:=((a5.trans a6).trans a7).trans a8;have gx:=((b5.trans b9).trans a9) _ _ dh;have bo:=(b9.trans a9) _ _ fh;have bq:=a9 _ _ fj;obtain⟨r1,cg⟩:∃ r1,r1=ra++[aq]:=⟨_,rfl⟩;obtain⟨r2,ci⟩:∃ r2,r2=rb++[300,302]:=⟨_,rfl⟩;have w1:Rw r1:=by
   rw[cg];refine⟨lL gl λy hy=>?_,by rw[aEi,List.length_singleton];omega⟩;have h1:=ef y hy;have h2:(800:Int)+10 ^ (40:Int).toNat<10 ^ (41:Int).toNat:=by decide
   rw[cb];omega
  have w2:Rw r2:=by
   rw[ci];refine⟨?_,by rw[aEi];show rb.length+2<=60;omega⟩;have h1:Row (rb++[300]):=lL gr λy hy=>by have:=(cf y hy).2;omega
   have h2:Row ((rb++[300])++[302]):=lL h1 λy hy=>by
    rcases aFM.mp hy with hy | hy
    .have:=(cf y hy).2;omega
    .rw[aFF.mp hy];decide
   rw[List.append_assoc]at h2;exact h2
  have n1:r1≠[]:=by rw[cg];simp
  have ng:r1.length<=9:=by rw[cg,aEi,List.length_singleton];omega
  have l2:r2.length<=10:=by rw[ci,aEi];show rb.length+2<=10;omega
  have dn:2<=r2.length:=by rw[ci,aEi];show 2<=rb.length+2;omega
  have n2:r2≠[]:=λe=>by rw[e]at dn;exact absurd dn (by decide)
  rw[<- cg]at bo;rw[<- ci]at bq;refine D [some (.ref sa),some (.ref L),some (.ref I),none,none,none,none,none,none,none] _ ?_;clear D M1 a1 a2 a3 a4 a5 a6 a7 a8 a9 b5 b9 bg bi bj fi gn gu fh fj ef cf gl gr di dj dm gv k3 k5 eh ek gw cb ce ec gq k0 dh cg ci gm gt;refine λM1 D=>?_;refine λx dx hx ka kd=>aDy hx ka kd λH5 cj=>?_;refine D [some (.ref sa),some (.ref L),some (.ref I),some (.ref x),none,none,none,none,none,none] _ ?_;clear D M1;refine λM1 D=>?_;have aw:=cj.sm _ _ fk;refine⟨_,rfl,I,rfl,⟨_,SqL.of aw⟩,eN (K:=K) (a:=I) (xs:=[V.ref ar,V.ref M]) (λi ys Hx=>Same H5 Hx/\ys.length=i/\∀ (j:Nat) v,ys[j]?=some v->∃ h row,v=.ref h/\[r1,r2][j]?=some row/\H5 h=none/\Hx h=some (.lst (row.map V.int))) ⟨Same.refl _,rfl,λj v e=>by simp at e⟩ ?_ ?_ ?_⟩
  .rintro i ys Hx hi ⟨sx,hy,_⟩;exact⟨SqL.of (sx _ _ aw),bC (by have:i<=2:=hi;omega)⟩
  .rintro i v ys Hx hi ⟨sx,hy,ba⟩;obtain⟨lr,row,rfl,gy,ke⟩:∃ lr row,v=V.ref lr/\[r1,r2][i]?=some row/\H0 lr=some (.lst (row.map V.int)):=by
    match i,hi with
    | 0,hi=>cases hi;exact⟨ar,r1,rfl,rfl,bo⟩
    | 1,hi=>cases hi;exact⟨M,r2,rfl,rfl,bq⟩
   refine⟨_,rfl,lr,_,rfl,.inl (SqL.of ((cj.sm.trans sx) _ _ ke)),λh hh=>?_⟩;refine⟨sx.trans (Same.upd hh),by rw[aEi,List.length_singleton,hy],λj u e=>?_⟩
   by_cases c:j<ys.length
   .rw[List.getElem?_append_left c]at e;obtain⟨h',gz,q1,q2,q3,q4⟩:=ba j u e;exact⟨h',gz,q1,q2,q3,Same.upd hh _ _ q4⟩
   .have ej:j=ys.length:=by
     have:=(aFK.mp e).1;rw[aEi,List.length_singleton]at this;omega
    subst ej;rw[List.getElem?_append_right (Nat.le_refl _),Nat.sub_self]at e;cases e;exact⟨h,row,rfl,by rw[hy];exact gy,sx.free hh,aB⟩
  .rintro ys Hx ⟨sx,hy,ba⟩ Y bm;have g_:ys.length=2:=hy;obtain⟨v0,v1,rfl⟩:=aDw g_;obtain⟨h0,_,rfl,q0,n0,e0⟩:=ba 0 _ rfl;obtain⟨h1,_,rfl,q1,dq,e1⟩:=ba 1 _ rfl;cases q0;cases q1;have g6:=Same.upd (o:=.lst [V.ref h0,V.ref h1]) bm;have h_:(upd Hx Y (.lst [V.ref h0,V.ref h1])) Y=some (.lst [V.ref h0,V.ref h1]):=aB;have kf:Y≠h0:=λe=>by rw[e,e0]at bm;cases bm
   have kg:Y≠h1:=λe=>by rw[e,e1]at bm;cases bm
   have ia:H5 Y=none:=sx.free bm;generalize upd Hx Y (.lst [V.ref h0,V.ref h1])=H6 at g6 h_ ⊢;have s6:=sx.trans g6;have e0:=g6 _ _ e0;have e1:=g6 _ _ e1;refine D [some (.ref sa),some (.ref L),some (.ref I),some (.ref x),some (.ref Y),none,none,none,none,none] _ ?_;clear D M1 ba hy g_ sx g6 bm;obtain⟨Hb,ck,sb,dr⟩:=cj.avoid s6 n0 dq e0 e1;have b0:=dr _ _ n0 e0;have b1:=dr _ _ dq e1;have bh:=dr _ _ ia h_;have bz:=sb _ _ fk;have bn:=sb _ _ gx;have bb:=sb _ _ bo;have al:=sb _ _ bq;have kh:I≠h0:=λe=>by rw[e,n0]at aw;cases aw
   have ki:I≠h1:=λe=>by rw[e,dq]at aw;cases aw
   have nr:∀ {y o},H0 y=some o->y≠h0/\y≠h1:=λ{y o} e=>⟨λz=>(by rw[z]at e;have:=cj.sm _ _ e;rw[n0]at this;cases this),λz=>(by rw[z]at e;have:=cj.sm _ _ e;rw[dq]at this;cases this)⟩;have ib:=nr bo;have ic:=nr bq;have ie:=nr gx;clear dr s6 sb nr;refine λM1 D=>?_;obtain⟨fm,d6,p6,q6,cm⟩:=ck.ins;refine⟨_,rfl,x,fm,_,rfl,cm,rfl,_,rfl,Y,_,_,_,rfl,rfl,SqL.of (ck.sm _ _ bh),rfl,?_⟩;refine⟨_,Hb,x,h0,"one",r1,_,rfl,ck,ck.sm _ _ b0,by decide +kernel,aCD,rfl,w1,by decide,by decide,λH7 cn=>?_⟩;refine D [some (.ref sa),some (.ref L),some (.ref I),some (.ref x),some (.ref Y),none,none,none,none,none] _ ?_;clear D M1 cm ck;refine λM1 D=>?_;obtain⟨fq,d7,p7,q7,cp⟩:=cn.ins;refine⟨_,rfl,x,fq,_,rfl,cp,rfl,_,rfl,Y,_,_,_,rfl,rfl,SqL.of (cn.sm _ _ bh),rfl,?_⟩;refine⟨_,Hb,x,h1,"two",r2,_,rfl,cn,cn.sm _ _ b1,by decide +kernel,aCE,gW (s:=(("one":Str),r1,([]:List Ent))) aBH,w2,(show 1<8 by decide),(show 1<9000 by decide),λH8 bt=>?_⟩;refine D [some (.ref sa),some (.ref L),some (.ref I),some (.ref x),some (.ref Y),none,none,none,none,none] _ ?_;clear D M1 cp cn;have kj:∃ m,HOwn G (λt=>t≠h0/\t≠h1) Hb H8 x m/\m.std=[(("one":Str),r1,[]),(("two":Str),r2,[])]/\(∀ d∈m.past.map (·.1),Okd 3 d)/\m.past.length=2/\m.ahead=[]:=⟨_,bt,rfl,(by
    intro d hd;rcases aFL.mp hd with e | hd
    .rw[e];exact yS tP (by omega)
    .rw[aFF.mp hd];exact yS B5 (by omega)),rfl,rfl⟩
   clear bt;obtain⟨m,bt,cq,e_,km,ax⟩:=kj;refine⟨_,rfl,Y,rfl,⟨_,SqL.of (bt.sm _ _ bh)⟩,eU (K:=K) (a:=Y) (xs:=[V.ref h0,V.ref h1]) (λi σ Hx=>∃ (Hc:Hp) (v5:Option V),σ=[some (.ref sa),some (.ref L),some (.ref I),some (.ref x),some (.ref Y),v5,none,none,none,none]/\HOwn G (λt=>t≠h0/\t≠h1) Hc Hx x m/\(∀ b o,b≠h0->b≠h1->Hb b=some o->Hc b=some o)/\∀ h,h=h0\/h=h1->∃ xs,Hc h=some (.lst xs)/\xs.length<=20+i)
    ⟨Hb,none,rfl,bt,λ_ _ _ _ e=>e,λh hh=>?_⟩ (λi σ Hx _ ⟨Hc,_,_,ay,kx,_⟩=>SqL.of (ay.sm _ _ (kx _ _ kf kg bh))) ?_ ?_⟩
   .rcases hh with e | e
    .rw[e];exact⟨_,b0,by rw[aE9];omega⟩
    .rw[e];exact⟨_,b1,by rw[aE9];omega⟩
   .rintro i v σ Hx hi ⟨Hc,v5,rfl,ay,kx,ig⟩;obtain⟨y,rfl,hy⟩:∃ y,v=.ref y/\(y=h0\/y=h1):=by
     have:=aEk hi;rcases aFL.mp this with e | e
     .exact⟨h0,e,.inl rfl⟩
     .exact⟨h1,aFF.mp e,.inr rfl⟩
    have nh:i<2:=(aFK.mp hi).1;have ii:¬ (y≠h0/\y≠h1):=λz=>hy.elim (λe=>z.1 e) λe=>z.2 e;obtain⟨xs,cy,ni⟩:=ig y hy;refine λM1 D=>?_;refine⟨_,rfl,.inl ⟨rfl,_,SqL.of (ay.sm _ _ cy)⟩,y,_,_,rfl,rfl,ay.sm _ _ cy,bC (by omega),?_⟩;refine D [some (.ref sa),some (.ref L),some (.ref I),some (.ref x),some (.ref Y),some (.ref y),none,none,none,none] _ ?_;clear D M1;have cr:=ay.updL (ys:=xs++[V.int 5]) cy ii;refine⟨_,rfl,.inl ⟨rfl,_,SqL.of aB⟩,y,_,rfl,rfl,aB,?_⟩;have ko:=cr.updL (ys:=(xs++[V.int 5]).reverse) aB ii;refine⟨_,_,rfl,ko,λb o n0 n1 e=>?_,λh hh=>?_⟩
    .have nb:b≠y:=by rcases hy with e | e <;> (rw[e];assumption)
     rw[aF nb,aF nb];exact kx b o n0 n1 e
    .by_cases c:h=y
     .rw[c];exact⟨_,aB,by rw[List.length_reverse,aEi,List.length_singleton];omega⟩
     .obtain⟨kq,e2,nj⟩:=ig h hh;exact⟨kq,by rw[aF c,aF c];exact e2,by omega⟩
   .rintro σ Hx ⟨Hc,v5,rfl,ay,kx,_⟩;have bz:=kx _ _ kh ki bz;have bn:=kx _ _ ie.1 ie.2 bn;have bb:=kx _ _ ib.1 ib.2 bb;have al:=kx _ _ ic.1 ic.2 al;clear b0 b1 bh kx bt;have Sx:S46 G (λt=>t≠h0/\t≠h1) Hc Hx x r1 r2 [] [] 2:=⟨m,ay,cq,by omega,by rw[ax];decide⟩;have hV:VOk m [r1,r2]:=aDN cq .nil .nil (by omega) (by rw[ax];decide) (by decide) (by decide) w1.len w2.len;have ij:r1.length<=5000:=by omega
    have ik:r2.length<=5000:=by omega
    have fr:Okd 3 (.list [.list (r1.map PyData.int),.list (r2.map PyData.int)]):=fB (by decide:2<=5000) λd hd=>by
     rcases aFL.mp hd with e | hd
     .rw[e];exact pZ ij
     .rw[aFF.mp hd];exact pZ ik
    refine λM1 D=>?_;obtain⟨dt,d1,y1,z1,bu⟩:=Sx.ins;refine⟨_,rfl,x,dt,_,rfl,bu,rfl,B8 Sx .nil λlA HA ft gA eA=>?_⟩;refine⟨_,rfl,x,dt,_,rfl,gA _ _ bu,rfl,X9 (Sx.same gA) .nil λlB HB il gB eB=>?_⟩;refine⟨(show 2<=sizeLine by decide),λlC kr=>?_⟩;have gC:=Same.upd (o:=.lst [V.ref lA,V.ref lB]) kr;have eC:(upd HB lC (.lst [V.ref lA,V.ref lB])) lC=some (.lst [V.ref lA,V.ref lB]):=aB;generalize upd HB lC (.lst [V.ref lA,V.ref lB])=HC at gC eC ⊢;have tC:=(gA.trans gB).trans gC;have sC:=Sx.sm.trans tC;refine⟨_,rfl,_,_,_,rfl,.lst eC (.cons (Den.ints ((gB.trans gC) _ _ eA)) (.cons (Den.ints (gC _ _ eB)) .nil)),.lst (sC _ _ bz) (.cons (Den.ints (sC _ _ bb)) (.cons (Den.ints (sC _ _ al)) .nil)),Nat.le_trans fr.dep (by decide),fr.sh (by decide),fr.sm,λHD gD=>⟨true,by first | rfl | exact .inl rfl | exact .inr rfl,?_⟩⟩;have tD:=tC.trans gD;refine D [some (.ref sa),some (.ref L),some (.ref I),some (.ref x),some (.ref Y),v5,none,none,none,none] _ ?_;clear D M1;have du:=ay.same tD;have SD:=Sx.same tD;clear tC gA gB gC gD eA eB eC sC tD ay Sx bu;refine λM1 D=>?_;refine⟨_,rfl,_,Hc,x,m,_,rfl,du,hV,λl6 nk H6 nn g6 e6 im io=>?_⟩;refine D [some (.ref sa),some (.ref L),some (.ref I),some (.ref x),some (.ref Y),v5,some (.ref l6),none,none,none] _ ?_;clear D M1;refine λM1 D=>?_;refine⟨_,rfl,_,Hc,x,m,_,rfl,du.same g6,hV,λH7 g7=>?_⟩;refine D [some (.ref sa),some (.ref L),some (.ref I),some (.ref x),some (.ref Y),v5,some (.ref l6),none,none,none] _ ?_;clear D M1;have fu:=g6.trans g7;refine λM1 D=>?_;refine⟨_,rfl,_,Hc,x,m,_,rfl,du.same fu,hV,λl8 no H8 fw g8 e8 ip iq=>?_⟩;have dv:Okd 5 (.list (vM m [r1,r2])):=by
     refine fB ?_ λd hd=>?_
     .have h1:=rE m.std [r1,r2];have h2:=hV.few;unfold vM;rw[aEi];show 3+(iX m.std [r1,r2]).length<=5000;omega
     .unfold vM at hd;rw[cq,ax]at hd;rcases aFM.mp hd with hd | hd
      .rcases aFL.mp hd with e | hd
       .rw[e];refine(fB (n:=1) (by show 2<=5000;decide) λd hd=>?_).mono (by decide);rcases aFL.mp hd with e | hd
        .rw[e];exact kC tP
        .rw[aFF.mp hd];exact kC B5
       .rcases aFL.mp hd with e | hd
        .rw[e];exact fB (by rw[aE9];omega) e_
        .rw[aFF.mp hd];exact(fB (n:=1) (by simp) λd hd=>absurd hd (by simp)).mono (by decide)
      .rcases aFL.mp hd with e | hd
       .rw[e];exact(pZ ij).mono (by decide)
       .rcases aFL.mp hd with e | hd
        .rw[e];exact(fB (n:=1) (by simp) λd hd=>absurd hd (by simp)).mono (by decide)
        .rcases aFL.mp hd with e | hd
         .rw[e];exact(pZ ik).mono (by decide)
         .rw[aFF.mp hd];exact(fB (n:=1) (by simp) λd hd=>absurd hd (by simp)).mono (by decide)
    have f_:=g7.trans g8;refine⟨_,rfl,_,_,_,rfl,.lst e8 (B7 ip),.lst (f_ _ _ e6) (B7 (Paired.mapP im λ_ _ z=>z.same f_)),Nat.le_trans dv.dep (by decide),dv.sh (by decide),dv.sm,λH9 g9=>⟨true,by first | rfl | exact .inl rfl | exact .inr rfl,?_⟩⟩;refine D [some (.ref sa),some (.ref L),some (.ref I),some (.ref x),some (.ref Y),v5,some (.ref l6),none,none,none] _ ?_;clear D M1;have S9:=((SD.same fu).same g8).same g9;clear im ip e6 e8 g6 g7 g8 g9 fu f_ du SD hV e_ dv io iq;obtain⟨az,_,_,dw⟩:=eX (ns:=nums) (i:=0) (by omega) (by omega);obtain⟨m1,_,_,kt⟩:=eX (ns:=nums) (i:=1) (by omega) (by omega);obtain⟨m2,_,_,ku⟩:=eX (ns:=nums) (i:=2) (by omega) (by omega);obtain⟨m3,_,_,kz⟩:=eX (ns:=nums) (i:=3) (by omega) (by omega);obtain⟨m4,_,_,ga⟩:=eX (ns:=nums) (i:=4) (by omega) (by omega);obtain⟨gp,cu⟩:∃ gp:Int,gp=((r2.map V.int).length:Int)+az % 9:=⟨_,rfl⟩;have k_:(r2.length:Int)<=gp:=by rw[cu,aE9];have:=Int.emod_nonneg az (show (9:Int)≠0 by decide);omega
    have gb:∀ s1:List Int,s1.length=r1.length->(Ent.lay r2 gp).ok s1:=λs1 hs=>⟨λe=>by rw[e]at hs;exact n1 (List.length_eq_zero_iff.mp hs.symm),n2,w2.row,by omega,k_⟩;have cv:∀ s1:List Int,s1.length=r1.length->(lU s1 r2 gp).length<=60:=λs1 hs=>by unfold lU;rw[aEi,pE];omega
    refine λM1 D=>?_;obtain⟨dt,d1,y1,z1,bu⟩:=S9.ins;refine⟨_,rfl,x,dt,_,rfl,bu,rfl,_,rfl,I,_,_,_,rfl,rfl,SqL.of (S9.sm _ _ bz),rfl,M,_,rfl,.inl (SqL.of (S9.sm _ _ al)),_,rfl,L,_,_,_,rfl,rfl,SqL.of (S9.sm _ _ bn),dw,_,_,rfl,rfl,(by show (0:Int)<9;decide),_,_,rfl,rfl,?_⟩;show cG G "lay" 3 [V.ref x,V.str "one",V.str "two",V.int (((r2.map V.int).length:Int)+az % 9)] _ _ _;rw[<- cu];refine aCI S9 .nil .nil (gb r1 rfl) (by decide) (by decide) λHa Sa=>?_;refine D [some (.ref sa),some (.ref L),some (.ref I),some (.ref x),some (.ref Y),v5,some (.ref l6),none,none,none] _ ?_;clear D M1 S9 bu;refine λM1 D=>?_;refine⟨_,rfl,I,_,_,_,rfl,rfl,SqL.of (Sa.sm _ _ bz),rfl,_,rfl,I,_,_,_,rfl,rfl,SqL.of (Sa.sm _ _ bz),rfl,_,rfl,I,_,_,_,rfl,rfl,SqL.of (Sa.sm _ _ bz),rfl,M,_,rfl,.inl (SqL.of (Sa.sm _ _ al)),_,rfl,L,_,_,_,rfl,rfl,SqL.of (Sa.sm _ _ bn),dw,_,_,rfl,rfl,(by show (0:Int)<9;decide),_,_,rfl,rfl,?_⟩;show rD [V.ref ar,V.ref M,V.int (((r2.map V.int).length:Int)+az % 9)] _ _ _;rw[<- cu];refine⟨ar,M,r1,r2,gp,rfl,Sa.sm _ _ bb,Sa.sm _ _ al,by omega,by omega,n1,n2,λl7 H7 ir g7 e7=>?_⟩;refine D [some (.ref sa),some (.ref L),some (.ref I),some (.ref x),some (.ref Y),v5,some (.ref l6),some (.ref l7),none,none] _ ?_;clear D M1;obtain⟨mm,iu,iw,iy,iz⟩:=Sa.ex;obtain⟨Hd,i_,sd,cw,_⟩:=iu.rebase g7;have b7:=cw _ _ ir e7;have bz:=sd _ _ bz;have bn:=sd _ _ bn;have bb:=sd _ _ bb;have al:=sd _ _ al;have S7:S46 G (λt=>t≠h0/\t≠h1) Hd H7 x r1 r2 ([]++[.lay r2 gp]) [] 3:=⟨mm,i_,iw,iy,iz⟩;clear iu iw iy iz i_ sd cw Sa e7 g7 ir;have G1:Go r1 ([]++[.lay r2 gp]) (lU r1 r2 gp):=.cons (gb r1 rfl) .nil;refine λM1 D=>?_;obtain⟨lg,d2,y2,z2,ja⟩:=S7.ins;have jb:1<=1+m1 % 9:=by have:=Int.emod_nonneg m1 (show (9:Int)≠0 by decide);omega
    refine⟨_,rfl,x,lg,_,rfl,ja,rfl,_,rfl,L,_,_,_,rfl,rfl,SqL.of (S7.sm _ _ bn),kt,_,_,rfl,rfl,(by show (0:Int)<9;decide),_,_,rfl,rfl,_,rfl,L,_,_,_,rfl,rfl,SqL.of (S7.sm _ _ bn),ku,aBJ S7 .nil jb (by decide) (by decide) λnu Sb=>?_⟩;refine D [some (.ref sa),some (.ref L),some (.ref I),some (.ref x),some (.ref Y),v5,some (.ref l6),some (.ref l7),none,none] _ ?_;clear D M1 ja;obtain⟨t2,jc⟩:∃ t2,t2=wso [(1+m1 % 9,m2)] r2:=⟨_,rfl⟩;have G2:Go r2 ([]++[.walk (1+m1 % 9) m2]) t2:=by rw[jc];exact .cons jb .nil
    have lj:Rw t2:=G2.rw w2;have fb:t2.length=r2.length:=by rw[jc,mX]
    have cx:t2≠[]:=λe=>by rw[e]at fb;rw[<- fb]at dn;exact absurd dn (by decide)
    refine λM1 D=>?_;obtain⟨jd,d3,y3,z3,gc⟩:=Sb.ins;refine⟨_,rfl,x,jd,_,rfl,gc,rfl,_,rfl,x,jd,_,rfl,gc,rfl,X9 Sb G2 λlA HA ft gA eA=>⟨lA,_,_,_,rfl,rfl,SqL.of eA,S2 cx,?_⟩⟩;have gf:t2.headD 0∈t2:=by cases t2 with | nil=>exact absurd rfl cx | cons a r=>exact aEb
    refine aBK (Sb.same gA) G2 gf (by simp) (by decide) λnv Sc=>?_;refine D [some (.ref sa),some (.ref L),some (.ref I),some (.ref x),some (.ref Y),v5,some (.ref l6),some (.ref l7),none,none] _ ?_;clear D M1 gc gA eA Sb;have G3:Go r2 ([]++[.walk (1+m1 % 9) m2]++[.take (t2.headD 0)]) (aAq t2 (t2.headD 0)):=G2.snoc (e:=.take (t2.headD 0)) gf;generalize hq:t2.headD 0=q at gf G3 Sc;obtain⟨t3,je⟩:∃ t3,t3=aAq t2 q:=⟨_,rfl⟩;rw[<- je]at G3;have ll:Rw t3:=G3.rw w2;have fc:t3.length+1=t2.length:=by
     rw[je];cases t2 with
     | nil=>exact absurd rfl cx
     | cons a r =>
      have e:a=q:=hq;subst e;have lm:∀ y∈r,y≠a:=λy hy e=>by
       have:=(List.pairwise_cons.mp lj.row).1 y hy;omega
      unfold aAq;rw[List.filter_cons_of_neg (by simp),List.filter_eq_self.mpr (λy hy=>by simpa using lm y hy),aFC]
    have fe:t3≠[]:=λe=>by rw[e]at fc;have:t2.length=1:=fc.symm;omega
    refine λM1 D=>?_;obtain⟨ln,d4,y4,z4,jf⟩:=Sc.ins;have jg:(Ent.lay t3 (20+m3 % 9)).ok t3:=⟨fe,fe,ll.row,by omega,by have:=Int.emod_nonneg m3 (show (9:Int)≠0 by decide);omega⟩;refine⟨_,rfl,x,ln,_,rfl,jf,rfl,_,rfl,L,_,_,_,rfl,rfl,SqL.of (Sc.sm _ _ bn),kz,_,_,rfl,rfl,(by show (0:Int)<9;decide),_,_,rfl,rfl,aCJ Sc G3 jg (by simp) (by decide) λnw Sd=>?_⟩;refine D [some (.ref sa),some (.ref L),some (.ref I),some (.ref x),some (.ref Y),v5,some (.ref l6),some (.ref l7),none,none] _ ?_;clear D M1 jf Sc;have G4:=G3.snoc jg;have l4:(lU t3 t3 (20+m3 % 9)).length<=60:=by unfold lU;rw[aEi,pE];omega
    refine λM1 D=>?_;refine⟨_,rfl,aCH Sd G1 G4 (cv r1 rfl) l4 (by simp) (by simp) (by decide) λHe Se _=>?_⟩;refine D [some (.ref sa),some (.ref L),some (.ref I),some (.ref x),some (.ref Y),v5,some (.ref l6),some (.ref l7),none,none] _ ?_;clear D M1 Sd;refine λM1 D=>?_;have bv:=λns:List Int=>G8 ns;obtain⟨jh,d5,y5,z5,gg⟩:=Se.ins;refine⟨_,rfl,x,jh,_,rfl,gg,rfl,B8 Se G1 λlA HA ft gA eA=>?_⟩;refine⟨_,rfl,_,_,Den.ints eA,Den.ints ((Se.sm.trans gA) _ _ b7),bv _,bv _,?_⟩;rw[hU (bv _)];refine⟨_,rfl,zG ?_⟩;refine⟨_,rfl,x,jh,_,rfl,gA _ _ gg,rfl,aCG (Se.same gA) λlB us HB il gB eB dB=>?_⟩;have SB:=(Se.same gA).same gB;refine⟨_,rfl,I,_,_,_,rfl,rfl,SqL.of (SB.sm _ _ bz),rfl,M,_,rfl,.inl ⟨SqL.of (SB.sm _ _ al),λp1 di=>?_⟩⟩;have f1:=Same.upd (o:=.tup (r2.map V.int)) di;have bg:(upd HB p1 (.tup (r2.map V.int))) p1=some (.tup (r2.map V.int)):=aB;generalize upd HB p1 (.tup (r2.map V.int))=HC at f1 bg ⊢;refine⟨_,rfl,I,_,_,_,rfl,rfl,SqL.of ((SB.sm.trans f1) _ _ bz),rfl,M,_,rfl,.inl (SqL.of ((SB.sm.trans f1) _ _ al)),_,rfl,L,_,_,_,rfl,rfl,SqL.of ((SB.sm.trans f1) _ _ bn),dw,_,_,rfl,rfl,(by show (0:Int)<9;decide),_,_,rfl,rfl,(show 3<=sizeLine by decide),λp2 dj=>?_⟩;have ji:(λi j:Int=>V.int (i+j)) ((r2.map V.int).length:Int) (az % 9)=V.int gp:=by rw[cu]
    have f2:=Same.upd (o:=.tup [V.str "lay",V.ref p1,(λi j:Int=>V.int (i+j)) ((r2.map V.int).length:Int) (az % 9)]) dj;have bi:(upd HC p2 (.tup [V.str "lay",V.ref p1,(λi j:Int=>V.int (i+j)) ((r2.map V.int).length:Int) (az % 9)])) p2=some (.tup [V.str "lay",V.ref p1,V.int gp]):=by rw[aB,ji]
    generalize upd HC p2 (.tup [V.str "lay",V.ref p1,(λi j:Int=>V.int (i+j)) ((r2.map V.int).length:Int) (az % 9)])=HD at f2 bi ⊢;refine⟨(show 1<=sizeLine by decide),λp3 dm=>?_⟩;have f3:=Same.upd (o:=.lst [V.ref p2]) dm;have bj:(upd HD p3 (.lst [V.ref p2])) p3=some (.lst [V.ref p2]):=aB;generalize upd HD p3 (.lst [V.ref p2])=HE at f3 bj ⊢;have bc:=(f1.trans f2).trans f3;have gh:Okd 4 (.list [(Ent.lay r2 gp).data]):=fB (by decide:1<=5000) λd hd=>by rw[aFF.mp hd];exact aCF (by omega)
    refine⟨_,_,.lst (bc _ _ eB) (dB.mono (TupS.same bc)).dens,.lst bj (.cons (.tup (f3 _ _ bi) (.cons (.str _) (.cons (.tup ((f2.trans f3) _ _ bg) (Dens.ints r2)) (.cons (.int _) .nil)))) .nil),gh.sh (by decide),gh.sh (by decide),?_⟩;have lp:PyData.eqv (.list (([]++[Ent.lay r2 gp]).map Ent.data)) (.list [.tuple [.str "lay",.tuple (r2.map PyData.int),.int gp]])=true:=hU (gh.sh (by decide));rw[lp];refine⟨_,rfl,?_⟩;have SE:=SB.same bc;refine D [some (.ref sa),some (.ref L),some (.ref I),some (.ref x),some (.ref Y),v5,some (.ref l6),some (.ref l7),none,none] _ ?_;clear D M1 f1 f2 f3 bc bg bi bj eA eB dB gA gB gg SB Se;refine λM1 D=>?_;obtain⟨fm,d6,y6,z6,cm⟩:=SE.ins;refine⟨_,rfl,x,fm,_,rfl,cm,rfl,aDO SE (by decide) λHf mf mp Df mx gi jj jk jl jm=>?_⟩;refine D [some (.ref sa),some (.ref L),some (.ref I),some (.ref x),some (.ref Y),v5,some (.ref l6),some (.ref l7),none,none] _ ?_;clear D M1 cm SE;refine λM1 D=>?_;obtain⟨fq,d7,y7,z7,cp⟩:=gi.ins;refine⟨_,rfl,x,fq,_,rfl,cp,rfl,aDP gi jj jk jl jm λv Hg Sg=>?_⟩;refine D [some (.ref sa),some (.ref L),some (.ref I),some (.ref x),some (.ref Y),v5,some (.ref l6),some (.ref l7),none,none] _ ?_;clear D M1 cp gi jj jk jl jm;obtain⟨s1,dz⟩:∃ s1,s1=wso [(2,m4 % 90)] r1:=⟨_,rfl⟩;have br:s1.length=r1.length:=by rw[dz,mX]
    have G5:Go r1 (.walk 2 (m4 % 90) :: ([]++[.lay r2 gp])) (lU s1 r2 gp):=by
     refine .cons (show (1:Int)<=2 by decide) (.cons ?_ ?_)
     .show (Ent.lay r2 gp).ok (wso [(2,m4 % 90)] r1);rw[<- dz];exact gb s1 br
     .show Go (lU (wso [(2,m4 % 90)] r1) r2 gp) [] _;rw[<- dz];exact .nil
    refine λM1 D=>?_;obtain⟨ls,d8,y8,z8,jn⟩:=Sg.ins;refine⟨_,rfl,x,ls,_,rfl,jn,rfl,_,rfl,L,_,_,_,rfl,rfl,SqL.of (Sg.sm _ _ bn),ga,_,_,rfl,rfl,(by show (0:Int)<90;decide),aBL Sg G5 (by simp) (by decide) λHh mh mp cz jo lw l_ ny jp=>?_⟩;subst lw;refine D [some (.ref sa),some (.ref L),some (.ref I),some (.ref x),some (.ref Y),v5,some (.ref l6),some (.ref l7),none,none] _ ?_;clear D M1 jn Sg;refine λM1 D=>?_;refine⟨_,rfl,I,_,_,_,rfl,rfl,SqL.of (cz.sm _ _ bz),rfl,ar,_,rfl,.inl (SqL.of (cz.sm _ _ bb)),λq1 ma=>?_⟩;have f1:=Same.upd (o:=.lst (r1.map V.int)) ma;have gj:(upd Hh q1 (.lst (r1.map V.int))) q1=some (.lst (r1.map V.int)):=aB;generalize upd Hh q1 (.lst (r1.map V.int))=Hi at f1 gj ⊢;have jq:=cz.sm.trans f1;refine⟨_,rfl,L,_,_,_,rfl,rfl,SqL.of (jq _ _ bn),ga,_,_,rfl,rfl,(by show (0:Int)<90;decide),(show 2<=sizeLine by decide),λq2 md=>?_⟩;refine B2 md λHj f2 d_=>?_;have d_:Hj q2=some (.tup [V.int 2,V.int (m4 % 90)]):=d_;refine⟨(show 1<=sizeLine by decide),λq3 mi=>?_⟩;refine B2 mi λHk f3 jr=>?_;have bc:=(f1.trans f2).trans f3;have mj:Crl [(2,m4 % 90)]:=λq hq=>by rw[aFF.mp hq];exact(show (1:Int)<=2 by decide)
    refine⟨q1,q3,r1,[(2,m4 % 90)],rfl,.inl ⟨trivial,(f2.trans f3) _ _ gj⟩,w1,⟨_,jr,.cons ⟨q2,rfl,f3 _ _ d_⟩ .nil⟩,(show 1<=200 by decide),mj,λl8 H8 fw g8 e8=>?_⟩;rw[<- dz]at e8;refine D [some (.ref sa),some (.ref L),some (.ref I),some (.ref x),some (.ref Y),v5,some (.ref l6),some (.ref l7),some (.ref l8),none] _ ?_;clear D M1;have jt:=bc.trans g8;obtain⟨gk,cr,sd,cw,_⟩:=cz.rebase jt;have b8:=cw _ _ (bc.free fw) e8;have bz:=sd _ _ bz;have bn:=sd _ _ bn;have al:=sd _ _ al;clear cw sd e8 g8 fw bc jt f1 f2 f3 gj d_ jr jq b7 bb cz;have S8:S46 G (λt=>t≠h0/\t≠h1) gk H8 x r1 r2 (.walk 2 (m4 % 90) :: ([]++[.lay r2 gp])) ([]++[.walk (1+m1 % 9) m2]++[.take q]++[.lay t3 (20+m3 % 9)]) 50:=⟨mh,cr,jo,by omega,by rw[jp];decide⟩;have hV:VOk mh [lU s1 r2 gp,lU t3 t3 (20+m3 % 9)]:=aDN jo G5 G4 (by omega) (by rw[jp];decide) (by simp) (by simp) (cv s1 br) l4;refine λM1 D=>?_;refine⟨_,rfl,_,gk,x,mh,_,rfl,cr,hV,λH9 g9=>?_⟩;refine D [some (.ref sa),some (.ref L),some (.ref I),some (.ref x),some (.ref Y),v5,some (.ref l6),some (.ref l7),some (.ref l8),none] _ ?_;clear D M1;have S9:=S8.same g9;have ml:=cr.same g9;refine λM1 D=>?_;refine⟨_,rfl,_,rfl,I,_,_,_,rfl,rfl,SqL.of (S9.sm _ _ bz),rfl,_,rfl,I,_,_,_,rfl,rfl,SqL.of (S9.sm _ _ bz),rfl,M,_,rfl,.inl (SqL.of (S9.sm _ _ al)),_,rfl,L,_,_,_,rfl,rfl,SqL.of (S9.sm _ _ bn),dw,_,_,rfl,rfl,(by show (0:Int)<9;decide),_,_,rfl,rfl,?_⟩;show rD [V.ref l8,V.ref M,V.int (((r2.map V.int).length:Int)+az % 9)] _ _ _;rw[<- cu];have ju:s1≠[]:=λe=>by rw[e]at br;exact n1 (List.length_eq_zero_iff.mp br.symm)
    refine⟨l8,M,s1,r2,gp,rfl,S9.sm _ _ b8,S9.sm _ _ al,by omega,by omega,ju,n2,λl9 HL n_ gL eL=>?_⟩;refine D [some (.ref sa),some (.ref L),some (.ref I),some (.ref x),some (.ref Y),v5,some (.ref l6),some (.ref l7),some (.ref l8),some (.ref l9)] _ ?_;clear D M1;have SL:=S9.same gL;have jv:=ml.same gL;obtain⟨jw,d9,y9,z9,jx⟩:=SL.ins;refine⟨_,rfl,x,jw,_,rfl,jx,rfl,B8 SL G5 λlA HA ft gA eA=>?_⟩;refine⟨_,rfl,_,_,Den.ints eA,Den.ints (gA _ _ eL),bv _,bv _,?_⟩;rw[hU (bv _)];refine⟨_,rfl,x8 ?_⟩;obtain⟨jy,oa,jz⟩:=l_;refine⟨_,rfl,x,jw,_,rfl,gA _ _ jx,rfl,_,gk,x,mh,rfl,jv.same gA,by omega,λlB us HB il gB eB dB=>?_⟩;have mn:=dB.length;rw[jz,aEo]at dB;have j_:us.length=jy.length+1:=by rw[mn,jz];simp
    obtain⟨v,mq,mr⟩:=dB.get (i:=jy.length) (d:=.tuple [.str "late",.str "one",.int 0,.int 2,.int (m4 % 90)]) (by rw[List.getElem?_append_right (by rw[aE9];exact Nat.le_refl _)];simp);refine⟨_,rfl,lB,_,_,_,rfl,rfl,SqL.of eB,tK (by rw[j_];exact mq),?_⟩;have sB:=(jv.sm.trans gA).trans gB;refine⟨_,rfl,L,_,_,_,rfl,rfl,SqL.of (sB _ _ bn),ga,_,_,rfl,rfl,(by show (0:Int)<90;decide),(show 5<=sizeLine by decide),λq5 mv=>?_⟩;refine B2 mv λHZ fz ez=>?_;have ez:HZ q5=some (.tup [V.str "late",V.str "one",V.int 0,V.int 2,V.int (m4 % 90)]):=ez;refine⟨_,_,(mr.mono (TupS.same fz)).den,.tup ez (.cons (.str _) (.cons (.str _) (.cons (.int _) (.cons (.int _) (.cons (.int _) .nil))))),vQ.sh (by decide),vQ.sh (by decide),?_⟩;rw[hU (vQ.sh (by decide))];exact kk _
end
def all_mk {l:PySem.W.OpenLaw} {w:World} {K:PySem.W.Frag} {h:Heap} {mg:Str->Option Value} {fa:Addr} (X:K.In h) (Gm:h.Ns mainGlobals mg) (hfa:mg "law"=some (.ref fa))
 {C_Road C_Course C_House:Addr}
 {f0:Addr} {d0:FuncData}
 {f1:Addr} {d1:FuncData}
 {f2:Addr} {d2:FuncData}
 {f3:Addr} {d3:FuncData}
 {f4:Addr} {d4:FuncData}
 {f5:Addr} {d5:FuncData}
 {f6:Addr} {d6:FuncData}
 {f7:Addr} {d7:FuncData}
 {f8:Addr} {d8:FuncData}
 {f9:Addr} {d9:FuncData}
 {f10:Addr} {d10:FuncData}
 {f11:Addr} {d11:FuncData}
 {f12:Addr} {d12:FuncData}
 {f13:Addr} {d13:FuncData}
 {f14:Addr} {d14:FuncData}
 {f15:Addr} {d15:FuncData}
 {f16:Addr} {d16:FuncData}
 {f17:Addr} {d17:FuncData}
 {f18:Addr} {d18:FuncData}
 {f19:Addr} {d19:FuncData}
 {f20:Addr} {d20:FuncData}
 {f21:Addr} {d21:FuncData}
 {f22:Addr} {d22:FuncData}
 {f23:Addr} {d23:FuncData}
 {f24:Addr} {d24:FuncData}
 {f25:Addr} {d25:FuncData}
 {f26:Addr} {d26:FuncData}
 {f27:Addr} {d27:FuncData}
 {f28:Addr} {d28:FuncData}
 {f29:Addr} {d29:FuncData}
 {f30:Addr} {d30:FuncData}
 {f31:Addr} {d31:FuncData}
 {f32:Addr} {d32:FuncData}
 {f33:Addr} {d33:FuncData}
 {f34:Addr} {d34:FuncData}
 {f35:Addr} {d35:FuncData}
 {f36:Addr} {d36:FuncData}
 {f37:Addr} {d37:FuncData}
 {f38:Addr} {d38:FuncData}
 {f39:Addr} {d39:FuncData}
 {f40:Addr} {d40:FuncData}
 {f41:Addr} {d41:FuncData}
 {f42:Addr} {d42:FuncData}
 {f43:Addr} {d43:FuncData}
 {f44:Addr} {d44:FuncData}
 {f45:Addr} {d45:FuncData}
 {f46:Addr} {d46:FuncData}
 {f47:Addr} {d47:FuncData}
 {f48:Addr} {d48:FuncData}
 {i_Road:Addr} {j_Road:FuncData}
 {i_Course:Addr} {j_Course:FuncData}
 {i_House:Addr} {j_House:FuncData}
 {m_do:Addr} {n_do:FuncData}
 {m_build:Addr} {n_build:FuncData}
 {m_shut:Addr} {n_shut:FuncData}
 {m_walk:Addr} {n_walk:FuncData}
 {m_take:Addr} {n_take:FuncData}
 {m_lay:Addr} {n_lay:FuncData}
 {S5:Addr} {n_late:FuncData}
 {m_back:Addr} {n_back:FuncData}
 {m_roads:Addr} {n_roads:FuncData}
 {m_row:Addr} {n_row:FuncData}
 {m_log:Addr} {n_log:FuncData}
 {m_deeds:Addr} {n_deeds:FuncData}
 {m_undone:Addr} {n_undone:FuncData}
 {t_MOST_STONES:Tok}
 {t_FEW_WALKS:Tok}
 {t_REST_APART:Tok}
 {t_MOST_ROADS:Tok}
 {t_LETTERS:Tok}
 {t_MOST_LETTERS:Tok}
 {dD:Addr} {epD:Nat} {td0 td1 td2 td3 td4 td5 td6 td7 td8:Tok} {rd8:Addr}
 (hG:HcIn K C_Road C_Course C_House)
 (h0:DefIn K "look_row" oI f0 d0)
 (h1:DefIn K "mirrored" kD f1 d1)
 (h2:DefIn K "moved" tQ f2 d2)
 (h3:DefIn K "look_creel" kE f3 d3)
 (h4:DefIn K "look_walks" kF f4 d4)
 (h5:DefIn K "walked" qB f5 d5)
 (h6:DefIn K "walked_back" jD f6 d6)
 (h7:DefIn K "look_trains" fT f7 d7)
 (h8:DefIn K "by_size" rG f8 d8)
 (h9:DefIn K "crowd" tR f9 d9)
 (h10:DefIn K "crowds" qC f10 d10)
 (h11:DefIn K "drop_last" mC f11 d11)
 (h12:DefIn K "add_train" mE f12 d12)
 (h13:DefIn K "add_stone" iY f13 d13)
 (h14:DefIn K "list_of" nH f14 d14)
 (h15:DefIn K "row_of" qE f15 d15)
 (h16:DefIn K "gain" C5 f16 d16)
 (h17:DefIn K "added" tS f17 d17)
 (h18:DefIn K "far" aBR f18 d18)
 (h19:DefIn K "behind" vY f19 d19)
 (h20:DefIn K "row_behind_walks" dF f20 d20)
 (h21:DefIn K "row_now" rH f21 d21)
 (h22:DefIn K "with_stone" kH f22 d22)
 (h23:DefIn K "without_stone" eI f23 d23)
 (h24:DefIn K "row_behind" kI f24 d24)
 (h25:DefIn K "add_walk" oK f25 d25)
 (h26:DefIn K "go_on" C7 f26 d26)
 (h27:DefIn K "is_rest" rL f27 d27)
 (h28:DefIn K "new_road" oM f28 d28)
 (h29:DefIn K "with_entry" kJ f29 d29)
 (h30:DefIn K "with_log" kK f30 d30)
 (h31:DefIn K "is_made_of" gP f31 d31)
 (h32:DefIn K "is_name" rM f32 d32)
 (h33:DefIn K "road_named" kL f33 d33)
 (h34:DefIn K "with_road" mF f34 d34)
 (h35:DefIn K "built" C9 f35 d35)
 (h36:DefIn K "entered" rN f36 d36)
 (h37:DefIn K "laid" U1 f37 d37)
 (h38:DefIn K "shut" D0 f38 d38)
 (h39:DefIn K "found_late" kO f39 d39)
 (h40:DefIn K "roads_behind" iC f40 d40)
 (h41:DefIn K "_law_numbers" jI f41 d41)
 (h42:DefIn K "_law_same" iD f42 d42)
 (h43:DefIn K "_law_row" rO f43 d43)
 (h44:DefIn K "_law_long_row" fH f44 d44)
 (h45:DefIn K "_law_behind" gQ f45 d45)
 (h46:DefIn K "_law_view" oP f46 d46)
 (h47:DefIn K "_law_spoil" mN f47 d47)
 (h48:DefIn K "law" Y2 f48 d48)
 (hi_Road:InitIn K C_Road "Road.__init__" gF i_Road j_Road)
 (hi_Course:InitIn K C_Course "Course.__init__" fE i_Course j_Course)
 (hi_House:InitIn K C_House "House.__init__" fM i_House j_House)
 (hm_do:MethIn K C_House "do" "House.do" oO m_do n_do)
 (hm_build:MethIn K C_House "build" "House.build" jF m_build n_build)
 (hm_shut:MethIn K C_House "shut" "House.shut" kP m_shut n_shut)
 (hm_walk:MethIn K C_House "walk" "House.walk" kQ m_walk n_walk)
 (hm_take:MethIn K C_House "take" "House.take" kR m_take n_take)
 (hm_lay:MethIn K C_House "lay" "House.lay" mG m_lay n_lay)
 (hm_late:MethIn K C_House "late" "House.late" kS S5 n_late)
 (hm_back:MethIn K C_House "back" "House.back" kT m_back n_back)
 (hm_roads:MethIn K C_House "roads" "House.roads" jH m_roads n_roads)
 (hm_row:MethIn K C_House "row" "House.row" mH m_row n_row)
 (hm_log:MethIn K C_House "log" "House.log" mI m_log n_log)
 (hm_deeds:MethIn K C_House "deeds" "House.deeds" fU m_deeds n_deeds)
 (hm_undone:MethIn K C_House "undone" "House.undone" fG m_undone n_undone)
 (z_len:PySem.W.nsIn K mainGlobals "len"=some none)
 (z_range:PySem.W.nsIn K mainGlobals "range"=some none)
 (z_list:PySem.W.nsIn K mainGlobals "list"=some none)
 (z_tuple:PySem.W.nsIn K mainGlobals "tuple"=some none)
 (z_bool:PySem.W.nsIn K mainGlobals "bool"=some none)
 (z_str:PySem.W.nsIn K mainGlobals "str"=some none)
 (z_int:PySem.W.nsIn K mainGlobals "int"=some none)
 (z_isinstance:PySem.W.nsIn K mainGlobals "isinstance"=some none)
 (z_all:PySem.W.nsIn K mainGlobals "all"=some none)
 (z_sorted:PySem.W.nsIn K mainGlobals "sorted"=some none)
 (z_max:PySem.W.nsIn K mainGlobals "max"=some none)
 (z_min:PySem.W.nsIn K mainGlobals "min"=some none)
 (z_set:PySem.W.nsIn K mainGlobals "set"=some none)
 (z_reversed:PySem.W.nsIn K mainGlobals "reversed"=some none)
 (z_sum:PySem.W.nsIn K mainGlobals "sum"=some none)
 (z_enumerate:PySem.W.nsIn K mainGlobals "enumerate"=some none)
 (z_zip:PySem.W.nsIn K mainGlobals "zip"=some none)
 (z_any:PySem.W.nsIn K mainGlobals "any"=some none)
 (z_abs:PySem.W.nsIn K mainGlobals "abs"=some none)
 (z_dict:PySem.W.nsIn K mainGlobals "dict"=some none)
 (y_MOST_STONES:PySem.W.nsIn K mainGlobals "MOST_STONES"=some (some (.int 60 t_MOST_STONES)))
 (y_FEW_WALKS:PySem.W.nsIn K mainGlobals "FEW_WALKS"=some (some (.int 10 t_FEW_WALKS)))
 (y_REST_APART:PySem.W.nsIn K mainGlobals "REST_APART"=some (some (.int 16 t_REST_APART)))
 (y_MOST_ROADS:PySem.W.nsIn K mainGlobals "MOST_ROADS"=some (some (.int 8 t_MOST_ROADS)))
 (y_LETTERS:PySem.W.nsIn K mainGlobals "LETTERS"=some (some (.str "abcdefghijklmnopqrstuvwxyz" t_LETTERS)))
 (y_MOST_LETTERS:PySem.W.nsIn K mainGlobals "MOST_LETTERS"=some (some (.int 8 t_MOST_LETTERS)))
 (aD:PySem.W.nsIn K mainGlobals "DEEDS"=some (some (.ref dD)))
 (lD:K.lookup dD=some ⟨.type "dict",none,.dict #[⟨PyData.keyHash w.params "build",.str "build" td0,.ref f35⟩,⟨PyData.keyHash w.params "shut",.str "shut" td1,.ref f38⟩,⟨PyData.keyHash w.params "walk",.str "walk" td2,.ref f36⟩,⟨PyData.keyHash w.params "put",.str "put" td3,.ref f36⟩,⟨PyData.keyHash w.params "take",.str "take" td4,.ref f36⟩,⟨PyData.keyHash w.params "mirror",.str "mirror" td5,.ref f36⟩,⟨PyData.keyHash w.params "lay",.str "lay" td6,.ref f37⟩,⟨PyData.keyHash w.params "late",.str "late" td7,.ref f39⟩,⟨PyData.keyHash w.params "strike",.str "strike" td8,.ref rd8⟩] epD,#[]⟩)
 (sysD:(dD == sysModules)=false) :
 ∃ fd:FuncData,(∀ (s:Shared) (v:Value),BindsTo s fd ⟨[v],[]⟩ [("_law_script",v)])/\∀ base:Heap,K.In base->base.Ns mainGlobals mg->FnOk l.prog w K mg base CX0 14 fa fd ["_law_script"] (G9 K):=by
 have e:=hfa.symm.trans (PySem.W.mg_of X Gm h48.a);cases e;have B:Bt mg:=⟨PySem.W.mg_none_of X Gm z_len,PySem.W.mg_none_of X Gm z_range,PySem.W.mg_none_of X Gm z_list,PySem.W.mg_none_of X Gm z_tuple,PySem.W.mg_none_of X Gm z_bool,PySem.W.mg_none_of X Gm z_str,PySem.W.mg_none_of X Gm z_int,PySem.W.mg_none_of X Gm z_isinstance,PySem.W.mg_none_of X Gm z_all,PySem.W.mg_none_of X Gm z_sorted,PySem.W.mg_none_of X Gm z_max,PySem.W.mg_none_of X Gm z_min,PySem.W.mg_none_of X Gm z_set,PySem.W.mg_none_of X Gm z_reversed,PySem.W.mg_none_of X Gm z_sum,PySem.W.mg_none_of X Gm z_enumerate,PySem.W.mg_none_of X Gm z_zip,PySem.W.mg_none_of X Gm z_any,PySem.W.mg_none_of X Gm z_abs⟩;have B6:Bt6 mg:=⟨PySem.W.mg_none_of X Gm z_dict⟩;have C:Cn mg t_MOST_STONES:=⟨PySem.W.mg_of X Gm y_MOST_STONES⟩;have C3:Cn3 mg t_FEW_WALKS t_REST_APART t_MOST_ROADS:=⟨PySem.W.mg_of X Gm y_FEW_WALKS,PySem.W.mg_of X Gm y_REST_APART,PySem.W.mg_of X Gm y_MOST_ROADS⟩;have WL:Wl mg:=⟨⟨_,PySem.W.mg_of X Gm y_LETTERS⟩,⟨_,PySem.W.mg_of X Gm y_MOST_LETTERS⟩⟩;have mD:=PySem.W.mg_of X Gm aD;obtain⟨kvD,DD,v_build,v_shut,v_walk,v_put,v_take,v_mirror,v_lay,v_late,v_strike⟩:=aBE (P:=l.prog) (w:=w) lD sysD
 let G:Hc K:=hG.g
 have bl:∀ (s:Shared) (v:Value),BindsTo s d48 ⟨[v],[]⟩ [("_law_script",v)]:=by
  obtain⟨_,_,_,_,_,_,_,_,_,rfl,_,_⟩:=h48.F.ex;exact λs v=>.of_eq rfl
 refine⟨d48,bl,λbase _ _=>?_⟩;have N_Road:jO l.prog w K mg base "Road" C_Road 1 ["self","entries","rests","course"] (kB G):=hi_Road.at (PySem.W.mg_of X Gm hG.aR) (hi_Road.F.binds4 (p1:="self") (p2:="entries") (p3:="rests") (p4:="course") λ_ _ _ _ _ _ _ _ _ _=>rfl) (B9 G hi_Road.F);have N_Course:jO l.prog w K mg base "Course" C_Course 1 ["self","rested","walks","turned"] (oF G):=hi_Course.at (PySem.W.mg_of X Gm hG.aC) (hi_Course.F.binds4 (p1:="self") (p2:="rested") (p3:="walks") (p4:="turned") λ_ _ _ _ _ _ _ _ _ _=>rfl) (vS G hi_Course.F);have N_House:jO l.prog w K mg base "House" C_House 1 ["self"] (lW G):=hi_House.at (PySem.W.mg_of X Gm hG.aH) (hi_House.F.binds1 (p1:="self") λ_ _ _ _ _ _ _=>rfl) (wK G hi_House.F);have t0:=h0.d5 l.prog w base X Gm (h0.F.binds1 (p1:="row") λ_ _ _ _ _ _ _=>rfl);have A_look_row:aU l.prog w K mg base "look_row" 1 ["row"] iR:=t0.fn (M6 h0.F B C);have A_look_rowL:aU l.prog w K mg base "look_row" 1 ["row"] uM:=t0.fn ((M6 h0.F B C).imp λ_ _ _ _=>aDH);have t1:=h1.d5 l.prog w base X Gm (h1.F.binds1 (p1:="row") λ_ _ _ _ _ _ _=>rfl);have A_mirrored:aU l.prog w K mg base "mirrored" 2 ["row"] hJ:=t1.fn (M8 h1.F B A_look_rowL);have t2:=h2.d5 l.prog w base X Gm (h2.F.binds2 (p1:="row") (p2:="by") λ_ _ _ _ _ _ _ _=>rfl);have A_moved:aU l.prog w K mg base "moved" 2 ["row","by"] pT:=t2.fn (m7 h2.F B A_look_row);have t3:=h3.d5 l.prog w base X Gm (h3.F.binds1 (p1:="creel") λ_ _ _ _ _ _ _=>rfl);have A_look_creel:aU l.prog w K mg base "look_creel" 1 ["creel"] dN:=t3.fn (wM h3.F B);have t4:=h4.d5 l.prog w base X Gm (h4.F.binds1 (p1:="walks") λ_ _ _ _ _ _ _=>rfl);have A_look_walks:aU l.prog w K mg base "look_walks" 2 ["walks"] tF:=t4.fn (wN h4.F B A_look_creel);have t5:=h5.d5 l.prog w base X Gm (h5.F.binds2 (p1:="row") (p2:="creel") λ_ _ _ _ _ _ _ _=>rfl);have A_walked:aU l.prog w K mg base "walked" 2 ["row","creel"] lO:=t5.fn (m8 h5.F B A_look_rowL A_look_creel);have t6:=h6.d5 l.prog w base X Gm (h6.F.binds2 (p1:="row") (p2:="creel") λ_ _ _ _ _ _ _ _=>rfl);have A_walked_back:aU l.prog w K mg base "walked_back" 3 ["row","creel"] zO:=t6.fn (vU h6.F B A_mirrored A_walked);have t7:=h7.d5 l.prog w base X Gm (h7.F.binds1 (p1:="trains") λ_ _ _ _ _ _ _=>rfl);have A_look_trains:aU l.prog w K mg base "look_trains" 1 ["trains"] pF:=t7.fn (vV h7.F B C);have t8:=h8.d5 l.prog w base X Gm (h8.F.binds1 (p1:="trains") λ_ _ _ _ _ _ _=>rfl);have A_by_size:aU l.prog w K mg base "by_size" 1 ["trains"] mW:=t8.fn (T4 h8.F B);have t9:=h9.d5 l.prog w base X Gm (h9.F.binds2 (p1:="offsets") (p2:="size") λ_ _ _ _ _ _ _ _=>rfl);have A_crowd:aU l.prog w K mg base "crowd" 1 ["offsets","size"] pP:=t9.fn (aBO h9.F B);have t10:=h10.d5 l.prog w base X Gm (h10.F.binds1 (p1:="offsets") λ_ _ _ _ _ _ _=>rfl);have A_crowds:aU l.prog w K mg base "crowds" 1 ["offsets"] jQ:=t10.fn (m9 h10.F B);have t11:=h11.d5 l.prog w base X Gm (h11.F.binds2 (p1:="offsets") (p2:="size") λ_ _ _ _ _ _ _ _=>rfl);have A_drop_last:aU l.prog w K mg base "drop_last" 1 ["offsets","size"] iA:=t11.fn (C1 h11.F B);have t12:=h12.d5 l.prog w base X Gm (h12.F.binds3 (p1:="offsets") (p2:="size") (p3:="place") λ_ _ _ _ _ _ _ _ _=>rfl);have A_add_train:aU l.prog w K mg base "add_train" 2 ["offsets","size","place"] fY:=t12.fn (C2 h12.F B A_crowd);have t13:=h13.d5 l.prog w base X Gm (h13.F.binds2 (p1:="offsets") (p2:="place") λ_ _ _ _ _ _ _ _=>rfl);have A_add_stone:aU l.prog w K mg base "add_stone" 3 ["offsets","place"] jZ:=t13.fn (C4 h13.F B A_crowds A_drop_last A_add_train);have t14:=h14.d5 l.prog w base X Gm (h14.F.binds1 (p1:="row") λ_ _ _ _ _ _ _=>rfl)
 have A_list_of:aU l.prog w K mg base "list_of" 4 ["row"] mZ:=t14.fn (T5 h14.F B A_look_row A_add_stone);have t15:=h15.d5 l.prog w base X Gm (h15.F.binds1 (p1:="trains") λ_ _ _ _ _ _ _=>rfl);have A_row_of:aU l.prog w K mg base "row_of" 3 ["trains"] pR:=t15.fn (n4 h15.F B A_look_trains A_by_size A_crowds A_drop_last A_add_train);have t16:=h16.d5 l.prog w base X Gm (h16.F.binds2 (p1:="walks") (p2:="size") λ_ _ _ _ _ _ _ _=>rfl);have A_gain:aU l.prog w K mg base "gain" 1 ["walks","size"] zW:=t16.fn (aCL h16.F B);have t17:=h17.d5 l.prog w base X Gm (h17.F.binds2 (p1:="trains") (p2:="walks") λ_ _ _ _ _ _ _ _=>rfl);have A_added:aU l.prog w K mg base "added" 3 ["trains","walks"] tG:=t17.fn (aBQ h17.F B A_look_trains A_look_walks A_gain);have t18:=h18.d5 l.prog w base X Gm (h18.F.binds2 (p1:="row") (p2:="walks") λ_ _ _ _ _ _ _ _=>rfl);have A_far:aU l.prog w K mg base "far" 5 ["row","walks"] vG:=t18.fn (aCM h18.F B A_list_of A_added A_row_of);have t19:=h19.d5 l.prog w base X Gm (h19.F.binds3 (p1:="one") (p2:="other") (p3:="gap") λ_ _ _ _ _ _ _ _ _=>rfl);have A_behind:aU l.prog w K mg base "behind" 3 ["one","other","gap"] B0:=t19.fn (aCN h19.F B C A_look_row A_moved);have t20:=h20.d5 l.prog w base X Gm (h20.F.binds2 (p1:="rested") (p2:="walks") λ_ _ _ _ _ _ _ _=>rfl);have A_row_behind_walks:aU l.prog w K mg base "row_behind_walks" 6 ["rested","walks"] X5:=t20.fn (aDR h20.F B C3 A_far A_walked A_walked_back);have t21:=h21.d5 l.prog w base X Gm (h21.F.binds1 (p1:="course") λ_ _ _ _ _ _ _=>rfl);have A_row_now:aU l.prog w K mg base "row_now" 7 ["course"] (jR G):=t21.fn (T6 G h21.F B A_row_behind_walks A_mirrored);have t22:=h22.d5 l.prog w base X Gm (h22.F.binds2 (p1:="row") (p2:="place") λ_ _ _ _ _ _ _ _=>rfl);have A_with_stone:aU l.prog w K mg base "with_stone" 1 ["row","place"] iT:=t22.fn (wP h22.F B C);have t23:=h23.d5 l.prog w base X Gm (h23.F.binds2 (p1:="row") (p2:="place") λ_ _ _ _ _ _ _ _=>rfl);have A_without_stone:aU l.prog w K mg base "without_stone" 1 ["row","place"] fA:=t23.fn (rK h23.F B);have t24:=h24.d5 l.prog w base X Gm (h24.F.binds2 (p1:="row") (p2:="entry") λ_ _ _ _ _ _ _ _=>rfl);have A_row_behind:aU l.prog w K mg base "row_behind" 4 ["row","entry"] iU:=t24.fn (wQ h24.F B A_with_stone A_without_stone A_behind);have t25:=h25.d5 l.prog w base X Gm (h25.F.binds3 (p1:="course") (p2:="creel") (p3:="count") λ_ _ _ _ _ _ _ _ _=>rfl);have A_add_walk:aU l.prog w K mg base "add_walk" 2 ["course","creel","count"] (nA G):=t25.fn (M9 G h25.F B C A_look_creel);have t26:=h26.d5 l.prog w base X Gm (h26.F.binds2 (p1:="course") (p2:="entry") λ_ _ _ _ _ _ _ _=>rfl);have A_go_on:aU l.prog w K mg base "go_on" 8 ["course","entry"] (vH G):=t26.fn (aBS G h26.F B A_add_walk A_row_behind A_row_now);have t27:=h27.d5 l.prog w base X Gm (h27.F.binds3 (p1:="rests") (p2:="number") (p3:="entry") λ_ _ _ _ _ _ _ _ _=>rfl);have A_is_rest:aU l.prog w K mg base "is_rest" 1 ["rests","number","entry"] (lV (K:=K)):=t27.fn (T8 h27.F B C3);have t28:=h28.d5 l.prog w base X Gm (h28.F.binds1 (p1:="row") λ_ _ _ _ _ _ _=>rfl);have A_new_road:aU l.prog w K mg base "new_road" 3 ["row"] (nB G):=t28.fn (N2 G h28.F B N_Road N_Course);have t29:=h29.d5 l.prog w base X Gm (h29.F.binds2 (p1:="road") (p2:="entry") λ_ _ _ _ _ _ _ _=>rfl);have A_with_entry:aU l.prog w K mg base "with_entry" 9 ["road","entry"] (fZ G):=t29.fn (wR G h29.F B B6 N_Road N_Course A_go_on A_is_rest);have t30:=h30.d5 l.prog w base X Gm (h30.F.binds3 (p1:="road") (p2:="at") (p3:="entries") λ_ _ _ _ _ _ _ _ _=>rfl);have A_with_log:aU l.prog w K mg base "with_log" 9 ["road","at","entries"] (nC G):=t30.fn (N3 G h30.F B N_Road N_Course A_go_on A_is_rest)
 have t31:=h31.d5 l.prog w base X Gm (h31.F.binds3 (p1:="text") (p2:="signs") (p3:="most") λ_ _ _ _ _ _ _ _ _=>rfl);have A_is_made_of:aU l.prog w K mg base "is_made_of" 1 ["text","signs","most"] A9:=t31.fn (aCO h31.F B);have t32:=h32.d5 l.prog w base X Gm (h32.F.binds1 (p1:="text") λ_ _ _ _ _ _ _=>rfl);have A_is_name:aU l.prog w K mg base "is_name" 2 ["text"] tJ:=t32.fn (U0 h32.F B WL A_is_made_of);have t33:=h33.d5 l.prog w base X Gm (h33.F.binds2 (p1:="roads") (p2:="name") λ_ _ _ _ _ _ _ _=>rfl);have A_road_named:aU l.prog w K mg base "road_named" 1 ["roads","name"] (gN G):=t33.fn (wU G h33.F B);have t34:=h34.d5 l.prog w base X Gm (h34.F.binds3 (p1:="roads") (p2:="name") (p3:="road") λ_ _ _ _ _ _ _ _ _=>rfl);have A_with_road:aU l.prog w K mg base "with_road" 1 ["roads","name","road"] (eM G):=t34.fn (C8 G h34.F B B6);have t35:=h35.d5 l.prog w base X Gm (h35.F.binds2 (p1:="roads") (p2:="deed") λ_ _ _ _ _ _ _ _=>rfl);have A_built:aU l.prog w K mg base "built" 10 ["roads","deed"] (cP G ["build"]):=t35.fn (N4 G h35.F B C3 A_is_name A_look_row A_new_road A_with_road);have t36:=h36.d5 l.prog w base X Gm (h36.F.binds2 (p1:="roads") (p2:="deed") λ_ _ _ _ _ _ _ _=>rfl);have A_entered:aU l.prog w K mg base "entered" 10 ["roads","deed"] (cP G ["walk","put","take","mirror"]):=t36.fn (oN G h36.F B A_road_named A_with_road A_with_entry);have t37:=h37.d5 l.prog w base X Gm (h37.F.binds2 (p1:="roads") (p2:="deed") λ_ _ _ _ _ _ _ _=>rfl);have A_laid:aU l.prog w K mg base "laid" 10 ["roads","deed"] (cP G ["lay"]):=t37.fn (Y0 G h37.F B A_road_named A_row_now A_with_road A_with_entry);have t38:=h38.d5 l.prog w base X Gm (h38.F.binds2 (p1:="roads") (p2:="deed") λ_ _ _ _ _ _ _ _=>rfl);have A_shut:aU l.prog w K mg base "shut" 10 ["roads","deed"] (cP G ["shut"]):=t38.fn (Y1 G h38.F B A_road_named);have t39:=h39.d5 l.prog w base X Gm (h39.F.binds2 (p1:="roads") (p2:="deed") λ_ _ _ _ _ _ _ _=>rfl);have A_found_late:aU l.prog w K mg base "found_late" 10 ["roads","deed"] (cP G ["late"]):=t39.fn (nV G h39.F B A_road_named A_look_creel A_with_road A_with_log);have t40:=h40.d5 l.prog w base X Gm (h40.F.binds2 (p1:="roads") (p2:="deed") λ_ _ _ _ _ _ _ _=>rfl);have R_build:pM l.prog w K mg base f35 10 ["roads","deed"] (cP G ["build"]):=t35.ref (N4 G h35.F B C3 A_is_name A_look_row A_new_road A_with_road);have R_shut:pM l.prog w K mg base f38 10 ["roads","deed"] (cP G ["shut"]):=t38.ref (Y1 G h38.F B A_road_named);have R_walk:pM l.prog w K mg base f36 10 ["roads","deed"] (cP G ["walk"]):=t36.ref ((oN G h36.F B A_road_named A_with_road A_with_entry).imp λ_ _ _ _=>vL (by decide +kernel));have R_take:pM l.prog w K mg base f36 10 ["roads","deed"] (cP G ["take"]):=t36.ref ((oN G h36.F B A_road_named A_with_road A_with_entry).imp λ_ _ _ _=>vL (by decide +kernel));have R_lay:pM l.prog w K mg base f37 10 ["roads","deed"] (cP G ["lay"]):=t37.ref (Y0 G h37.F B A_road_named A_row_now A_with_road A_with_entry);have R_late:pM l.prog w K mg base f39 10 ["roads","deed"] (cP G ["late"]):=t39.ref (nV G h39.F B A_road_named A_look_creel A_with_road A_with_log);have A_roads_behind:aU l.prog w K mg base "roads_behind" 11 ["roads","deed"] (cP G ["build","shut","walk","take","lay","late"]):=t40.fn (sS G h40.F B DD mD (nE ⟨_,v_build,R_build⟩ (nE ⟨_,v_shut,R_shut⟩ (nE ⟨_,v_walk,R_walk⟩ (nE ⟨_,v_take,R_take⟩ (nE ⟨_,v_lay,R_lay⟩ (nE ⟨_,v_late,R_late⟩ aDK)))))));have t41:=h41.d5 l.prog w base X Gm (h41.F.binds2 (p1:="_law_script") (p2:="_law_many") λ_ _ _ _ _ _ _ _=>rfl);have A_law_numbers:aU l.prog w K mg base "_law_numbers" 1 ["_law_script","_law_many"] (mR K):=t41.fn (U2 h41.F B)
 have t42:=h42.d5 l.prog w base X Gm (h42.F.binds2 (p1:="_law_found") (p2:="_law_due") λ_ _ _ _ _ _ _ _=>rfl);have A_law_same:aU l.prog w K mg base "_law_same" 7 ["_law_found","_law_due"] (qR 6):=t42.fn (aCP h42.F B t42.m t42.b 6);have t43:=h43.d5 l.prog w base X Gm (h43.F.binds2 (p1:="_law_d") (p2:="_law_most") λ_ _ _ _ _ _ _ _=>rfl);have A_law_row:aU l.prog w K mg base "_law_row" 1 ["_law_d","_law_most"] vP:=t43.fn (aDS h43.F B);have t44:=h44.d5 l.prog w base X Gm (h44.F.binds2 (p1:="_law_d") (p2:="_law_most") λ_ _ _ _ _ _ _ _=>rfl);have A_law_long_row:aU l.prog w K mg base "_law_long_row" 2 ["_law_d","_law_most"] tI:=t44.fn (aCQ h44.F B A_law_row);have t45:=h45.d5 l.prog w base X Gm (h45.F.binds3 (p1:="_law_one") (p2:="_law_other") (p3:="_law_gap") λ_ _ _ _ _ _ _ _ _=>rfl);have A_law_behind:aU l.prog w K mg base "_law_behind" 1 ["_law_one","_law_other","_law_gap"] rD:=t45.fn (U3 h45.F B);have M_do:bN l.prog w K mg base C_House "do" 12 ["self","deed"] (B1 G ["build","shut","walk","take","lay","late"]):=hm_do.at (hm_do.F.binds2 (p1:="self") (p2:="deed") λ_ _ _ _ _ _ _ _=>rfl) (N5 G hm_do.F B A_roads_behind)
 have M_build:bN l.prog w K mg base C_House "build" 13 ["self","name","row"] (tN G):=hm_build.at (hm_build.F.binds3 (p1:="self") (p2:="name") (p3:="row") λ_ _ _ _ _ _ _ _ _=>rfl) (wB (by decide +kernel) G hm_build.F B M_do);have M_shut:bN l.prog w K mg base C_House "shut" 13 ["self","name"] (cG G "shut" 1):=hm_shut.at (hm_shut.F.binds2 (p1:="self") (p2:="name") λ_ _ _ _ _ _ _ _=>rfl) (wW (by decide +kernel) G hm_shut.F B M_do);have M_walk:bN l.prog w K mg base C_House "walk" 13 ["self","name","creel","count"] (cG G "walk" 3):=hm_walk.at (hm_walk.F.binds4 (p1:="self") (p2:="name") (p3:="creel") (p4:="count") λ_ _ _ _ _ _ _ _ _ _=>rfl) (wY (by decide +kernel) G hm_walk.F B M_do);have M_take:bN l.prog w K mg base C_House "take" 13 ["self","name","place"] (cG G "take" 2):=hm_take.at (hm_take.F.binds3 (p1:="self") (p2:="name") (p3:="place") λ_ _ _ _ _ _ _ _ _=>rfl) (xB (by decide +kernel) G hm_take.F B M_do);have M_lay:bN l.prog w K mg base C_House "lay" 13 ["self","name","other","gap"] (cG G "lay" 3):=hm_lay.at (hm_lay.F.binds4 (p1:="self") (p2:="name") (p3:="other") (p4:="gap") λ_ _ _ _ _ _ _ _ _ _=>rfl) (D3 (by decide +kernel) G hm_lay.F B M_do);have M_late:bN l.prog w K mg base C_House "late" 13 ["self","name","at","creel","count"] (cG G "late" 4):=hm_late.at (hm_late.F.binds (ps:=["self","name","at","creel","count"]) λ_ _ _ _ _ _ us hl=>match us,hl with | [_,_,_,_,_],_=>rfl) (xD (by decide +kernel) G hm_late.F B M_do);have M_back:bN l.prog w K mg base C_House "back" 2 ["self"] (pW G):=hm_back.at (hm_back.F.binds1 (p1:="self") λ_ _ _ _ _ _ _=>rfl) (xE G hm_back.F B);have M_roads:bN l.prog w K mg base C_House "roads" 2 ["self"] (pX G):=hm_roads.at (hm_roads.F.binds1 (p1:="self") λ_ _ _ _ _ _ _=>rfl) (wD G hm_roads.F B);have M_row:bN l.prog w K mg base C_House "row" 8 ["self","name"] (oG G):=hm_row.at (hm_row.F.binds2 (p1:="self") (p2:="name") λ_ _ _ _ _ _ _ _=>rfl) (D7 G hm_row.F B A_road_named A_row_now);have M_log:bN l.prog w K mg base C_House "log" 2 ["self","name"] (rC G):=hm_log.at (hm_log.F.binds2 (p1:="self") (p2:="name") λ_ _ _ _ _ _ _ _=>rfl) (D9 G hm_log.F B A_road_named);have M_deeds:bN l.prog w K mg base C_House "deeds" 2 ["self"] (lX G):=hm_deeds.at (hm_deeds.F.binds1 (p1:="self") λ_ _ _ _ _ _ _=>rfl) (wF G hm_deeds.F B);have M_undone:bN l.prog w K mg base C_House "undone" 2 ["self"] (nF G):=hm_undone.at (hm_undone.F.binds1 (p1:="self") λ_ _ _ _ _ _ _=>rfl) (sU G hm_undone.F B);have t46:=h46.d5 l.prog w base X Gm (h46.F.binds1 (p1:="_law_house") λ_ _ _ _ _ _ _=>rfl);have A_law_view:aU l.prog w K mg base "_law_view" 9 ["_law_house"] (lY G):=t46.fn (n8 G h46.F B M_roads M_deeds M_undone M_row M_log);have t47:=h47.d5 l.prog w base X Gm (h47.F.binds1 (p1:="_law_house") λ_ _ _ _ _ _ _=>rfl);have A_law_spoil:aU l.prog w K mg base "_law_spoil" 10 ["_law_house"] (jT G):=t47.fn (U4 G h47.F B A_law_view);exact aDT G h48.F B A_law_numbers A_law_long_row A_law_row A_law_same A_law_behind A_law_view A_law_spoil A_far N_House M_build M_lay M_walk M_take M_late M_shut M_back M_row M_log M_deeds
def walk {l:PySem.W.OpenLaw} {q:Program} {loose:List Str} {XP:(Str->Option Value)->Heap->Prop} {YP:World->Heap->Prop} {d:DefRec} {K:Params->PySem.W.Frag} (hn:l.most=some 63) (hdf:d.params.defaults=[])
 (hY:∀ (w:World) (h:Heap),YP w h->(K w.params).In h)
 (F:∀ (w:World) (mg:Str->Option Value) (fa:Addr) (h:Heap),(K w.params).In h->h.Ns mainGlobals mg->mg d.name=some (.ref fa) ->
  ∃ fd:FuncData,(∀ (s:Shared) (u:Value),BindsTo s fd ⟨[u],[]⟩ [("_law_script",u)])/\∀ base:Heap,(K w.params).In base->base.Ns mainGlobals mg->FnOk l.prog w (K w.params) mg base CX0 14 fa fd ["_law_script"] (G9 (K w.params))) :
 PySem.W.WalkO q loose XP YP l.row.toRowW d [] (λf vs=>PySem.call f vs) :=
 L2.walk_of (n:=63) (k:=14) (x:="_law_script") (CX:=λ_=>CX0) (sp:=λw=>G9 (K w.params)) hn (by decide) hdf ⟨rfl,by decide,by decide⟩ hY F (λ_ _ a ns hl _ hS=>⟨a,ns,rfl,hS,hl,λ_=>rfl⟩) λ_ _ _ _ _ z=>z
end CW
namespace PySem.W.Fast
def tw1662722832422185318:=()
def tw9131549693226571032:=()
def tw11813123744200782202:=()
def tw5168908648373398598:=()
def tw14889104300842182384:=()
def tw7017838656079507488:=()
def tw1250985638575697084:=()
def tw2066351046471417518:=()
def tw13884652939408229720:=()
def tw1644685568791681374:=()
def tw414008236428054933:=()
def tw4837098460490476928:=()
def tw9942482744935591586:=()
def tw3481693486707031531:=()
def tw7722171685957802839:=()
def tw13147869390581723523:=()
def tw12372387486338445089:=()
def tw6156796368185595505:=()
def tw2855637581377793493:=()
def tw387453669999625313:=()
def tw1644787161880201755:=()
def tw2496978653997174643:=()
def tw1723208204291111903:=()
def tw16413602805680061619:=()
def tw11591727355124930104:=()
def tw14088062772488199995:=()
def tw4623087732725802581:=()
def tw8280914047985078161:=()
def tw2149764828127146446:=()
def tw7260591887101644035:=()
def tw13029447517100593523:=()
def tw10189564529735708058:=()
def tw8475697717979520185:=()
def tw3538933131275035058:=()
def tw15237481622712675588:=()
def tw13924234863375957531:=()
def tw16382375157434072885:=()
def tw12481377896033519509:=()
def tw12666187353982350788:=()
def tw5062038582210219786:=()
def tw16561078183497326972:=()
def tw3931090754223042927:=()
def tw4779828620321793573:=()
def tw3610291735289690009:=()
def tw8647771637003768264:=()
def tw3520998618167427365:=()
def tw3467613817887669834:=()
def tw12149098546538381449:=()
def tw7781472390401595653:=()
def tw2614905318963820203:=()
def tw11746434642199096149:=()
def tw2735700186328882467:=()
def tw5395741877631603609:=()
def tw1086018291031408839:=()
def tw4465217678926258274:=()
def tw16263060643593672756:=()
def tw3704640636335553644:=()
def tw928491635451840081:=()
def tw11420824356982177046:=()
def tw2515006790549315348:=()
def tw9055305370726141130:=()
def tw402796646796016050:=()
def tw2881641899973957945:=()
def tw14672363660288630093:=()
def tw11456287882022978347:=()
def tw384618764001286719:=()
def tw16377152395128547672:=()
def tw15302511224186863284:=()
def tw139182695265740924:=()
def tw12729569192840557689:=()
def tw14079854770382207287:=()
def tw3902517657716877049:=()
def tw13781185384834416096:=()
def tw6987203647403084171:=()
def tw8359574893063517820:=()
def tw2244828122917976859:=()
def tw3387323203603655661:=()
def tw4172236794879796734:=()
def tw9838486288338626566:=()
def tw15945011660083034141:=()
def tw11828182923138669130:=()
def tw11936018506380876688:=()
def tw6275400185291320980:=()
def tw16414906990141628517:=()
def tw18269693840341474064:=()
def tw2407451373976241689:=()
def tw17312364216643875211:=()
def tw9290947825872850693:=()
def tw6938605726974427931:=()
def tw16417922768122843378:=()
def tw907261039769208327:=()
def tw695813968802316542:=()
def tw5509769918342330926:=()
def tw11292209297957762341:=()
def tw17335882600001235444:=()
def tw17315881955835626930:=()
def tw10365577580775503253:=()
def tw1564731054331539462:=()
def tw8561916087114592747:=()
def tw6990214445752763271:=()
def tw17504748918272862668:=()
def tw18012109208206696457:=()
def tw2144618299569637365:=()
def tw4971223986487084623:=()
def tw14609146545016123871:=()
def tw10369792525327622171:=()
def tw2188693507783410063:=()
def tw4171285323693793520:=()
def tw4752007444432325611:=()
def tw1119297908055759216:=()
def tw9958883267526929838:=()
def tw5482315261857495080:=()
def tw11299989929820944413:=()
def tw17181753320306327889:=()
def tw4485036721795002155:=()
def tw12648966164164971314:=()
def tw15465600909313766940:=()
def tw4336274737320396749:=()
def tw13304549450708554850:=()
def tw10293435807997285266:=()
def tw16002413494683474141:=()
def tw11702730426364542449:=()
def tw15489030492751414404:=()
def tw3884176022339021823:=()
def tw8342750140396262018:=()
def tw4169054208901859461:=()
def tw8046844527768430884:=()
def tw12655890342631148636:=()
def tw6619982312678797772:=()
def tw11536566466027181594:=()
def tw18075535858855400461:=()
def tw7039253536244892659:=()
def tw7075309497468929704:=()
def tw2686461430906471964:=()
def tw17078356702520704942:=()
def tw9994068383288665561:=()
def tw17547129283282491899:=()
def tw16284065029269442922:=()
def tw7318673577701140045:=()
def tw5336624115900542658:=()
def tw12545655875004723314:=()
def tw10472600741592455571:=()
def tw6718114834135172051:=()
def tw15526289814056527220:=()
def tw9767091952422908420:=()
def tw3410257040443996074:=()
def tw9554582141156873189:=()
def tw17689657385479308738:=()
def tw13974041379872117446:=()
def tw17084589399259198117:=()
def tw14511253984188889383:=()
def tw1995822782688175314:=()
def tw9878970185520133128:=()
def tw1251101829637239388:=()
def tw912912068644489828:=()
def tw18143863614919599048:=()
def tw9213104921168351198:=()
def tw4031534024266090968:=()
def tw16818376083536682871:=()
def tw12646708072695389763:=()
def tw18239034888478481154:=()
def tw9293831070923945383:=()
def tw13504303885324114301:=()
def tw5510037811562903584:=()
def tw6354958503038007866:=()
def tw13430986201079271012:=()
def tw14509299660827552222:=()
def tw13420626730371060903:=()
def tw2615772135249951468:=()
def tw10641276286974864225:=()
def tw3178614719147178931:=()
def tw3444226947332416896:=()
def tw17782242922565765971:=()
def tw2138734921784596652:=()
def tw14765418580979460962:=()
def tw6244408453315740154:=()
def tw17210606092835013726:=()
def tw236805304284714809:=()
def tw11932357354662467100:=()
def tw6886256329233709969:=()
def tw10365839185372862233:=()
def tw17594149421939162289:=()
def tw17698323036669760808:=()
def tw2618980493470958036:=()
def tw7351733091509905909:=()
def tw10733239740374709235:=()
def tw16760127178698711295:=()
def tw1810524139488402087:=()
def tw5134116336347415017:=()
def tw2626609671409954063:=()
def tw3694496883973732212:=()
def tw9595537943125770555:=()
def tw3851198243176408180:=()
def tw3752782123856752947:=()
def tw1405532477090247898:=()
def tw10736695578925979545:=()
def tw14972696649238119914:=()
def tw4913149368545052511:=()
def tw7968870243067306319:=()
def tw4716317045786438081:=()
def tw9060720254333170177:=()
def tw1543354269998544554:=()
def tw6880031023374122211:=()
def tw5058416283810271877:=()
def tw12408403877475877377:=()
def tw9451792917084757497:=()
def tw483106414054185144:=()
def tw3740635048633766608:=()
def tw11891193536292311778:=()
def tw16261251981333954702:=()
def tw2736860599703107866:=()
def tw5728091763222508026:=()
def tw15616095120120662352:=()
def tw14046436703486969054:=()
def tw3330248500329868933:=()
def tw927546733307394444:=()
def tw5429598979960179653:=()
def tw6636641127323842914:=()
def tw5070584484095333397:=()
def tw12938300306640381311:=()
def tw5231860992354222575:=()
def tw1111388659401228466:=()
def tw8548379454668904043:=()
def tw9341411448762783405:=()
def tw10762076953230409561:=()
def tw13274971765722721664:=()
def tw9501196692787692078:=()
def tw8387718461814700535:=()
def tw4102744259726156622:=()
def tw6665473202345945261:=()
def tw9468997489312087512:=()
def tw16956504840961472422:=()
def tw10958715605054637774:=()
def tw9109305167403704205:=()
def tw9798116606671261813:=()
def tw7421147399992264293:=()
def tw11495827389876055993:=()
def tw12339589180397617240:=()
def tw10086450874918855500:=()
def tw17281219392977155636:=()
def tw4571558001637528239:=()
def tw5250658341412021968:=()
def tw14647526781354075595:=()
def tw7391338540788066836:=()
def tw517703517492290075:=()
def tw125500099111338947:=()
def tw6199518448489878804:=()
def tw11705340940946664657:=()
def tw6808694954212095489:=()
def tw9118420783182701743:=()
def tw503616186157430148:=()
def tw1807963328704609523:=()
def tw11635265865886654101:=()
def tw15988543323066029585:=()
def tw11076686575883636515:=()
def tw18248637537732786165:=()
def tw11214038929831707572:=()
def tw5204719914760057485:=()
def tw15396457987435057430:=()
def tw16218990337301209605:=()
def tw18270174255321349259:=()
def tw12238956142686266322:=()
def tw17069795026638782076:=()
def tw278869852713989093:=()
def tw13006670004176290225:=()
def tw11667558352003221080:=()
def tw15529671464986052763:=()
def tw16138536617266347427:=()
def tw16830655065126213725:=()
def tw2436741028162602919:=()
def tw10478480600496124263:=()
def tw560283989497367791:=()
def tw4205951911191911301:=()
def tw2762206409464457503:=()
def tw3160391111296777821:=()
def tw8886706014680652871:=()
def tw15200295400016581221:=()
def tw8530707098438858504:=()
def tw5065142516646311982:=()
def tw17854847061319550423:=()
def tw12908045805667024840:=()
def tw18063207955071467238:=()
def tw1483388377773160217:=()
def tw978603262291202887:=()
def tw9818178434719470934:=()
def tw9235917665544910864:=()
def tw13135532545052154947:=()
def tw12671984073312419711:=()
def tw1905533493413225504:=()
def tw16385062875524906701:=()
def tw16847526135872339029:=()
def tw5934111083375225078:=()
def tw11527543120633812451:=()
def tw12950464313608532368:=()
def tw14282912401336049547:=()
def tw17491219736692220736:=()
def tw6766865662638780532:=()
def tw15174780904327003781:=()
def tw185528355170416817:=()
def tw14177079429427554431:=()
def tw11455080029437600076:=()
def tw10847158662479549217:=()
def tw17573307072188361652:=()
def tw2546689670236538043:=()
def tw4184021472409402393:=()
def tw3819952325515093913:=()
def tw12443297299272530836:=()
def tw5313793356827154474:=()
def tw2983051970743931244:=()
def tw8725039888843796560:=()
def tw12351938014812092253:=()
def tw12035891774773378276:=()
def tw7528231617295985846:=()
def tw17185855965441764732:=()
def tw16139261130900444588:=()
def tw2664063484172449081:=()
def tw7744400353965727619:=()
def tw8860174390446822519:=()
def tw2634805293283047954:=()
def tw11644888715630116229:=()
def tw6010910853253196341:=()
def tw14518845088894713901:=()
def tw10380428942106522455:=()
def tw12550625065969226506:=()
def tw9523068773240115031:=()
def tw4816731158842861522:=()
def tw955947044985973235:=()
def tw12265207289312005090:=()
def tw12933007926710917251:=()
def tw17517836629141497906:=()
def tw15998428419514518864:=()
def tw13460192279708603642:=()
def tw15145889331171781777:=()
def tw16539646206206602703:=()
def tw305647110378104709:=()
def tw6252405839807172050:=()
def tw12400813027710014890:=()
def tw12091560633928826509:=()
def tw5038923986227381512:=()
def tw11334930703389266033:=()
def tw12635574473184605355:=()
def tw12982080683181558754:=()
def tw14250470734304947407:=()
def tw8276399794873813491:=()
def tw4783185504168113958:=()
def tw2556278446647043467:=()
def tw13011078963183722130:=()
def tw3607598325091023313:=()
def tw4382689513926997226:=()
def tw6534506940402570575:=()
def tw14500981953036246721:=()
def tw2815132498219280309:=()
def tw9881497917681156391:=()
def tw7958186361634306780:=()
def tw2143518571176213390:=()
def tw13952302772059432496:=()
def tw5716058297093275010:=()
def tw2086449811238771906:=()
def tw4406743094714584698:=()
def tw301221663705566891:=()
def tw9211220455997340032:=()
def tw10873097153307365196:=()
def tw15284679305578848754:=()
def tw521916333131299373:=()
def tw6790728746195018643:=()
def tw3923445849834542536:=()
def tw11774257017105131202:=()
def tw15450502353586851257:=()
def tw9504969228356883685:=()
def tw18390528754157844620:=()
def tw6486174793520822430:=()
def tw14988907434963433748:=()
def tw3965774477563549554:=()
def tw2601009075922192495:=()
def tw11358229048658856772:=()
def tw16267706473637765404:=()
def tw765229295898664879:=()
def tw9025750676563410441:=()
def tw11959689728190550915:=()
def tw1544805252729437722:=()
def tw700818857311317302:=()
def tw5953483013711927605:=()
def tw14299097635453776109:=()
def tw15841593815491149763:=()
def tw10883603694704445382:=()
def tw131924860570662781:=()
def tw14832412968237406606:=()
def tw16569684369119733322:=()
def tw104955702578164476:=()
def tw15397663183788158631:=()
def tw9729077311157121510:=()
def tw9221447480703982493:=()
def tw535307962500725720:=()
def tw14704505222809900270:=()
def tw4961707433740524491:=()
def tw2560734423527638776:=()
def tw5731411430629989372:=()
def tw4963352429265327457:=()
def tw16490928057200359632:=()
def tw10493175203573325326:=()
def tw12518023137161054270:=()
def tw9018137002186672372:=()
def tw5061701383819593999:=()
def tw15517110448830526148:=()
def tw12103558333215349128:=()
def tw7957518663983555479:=()
def tw4834255335697985317:=()
def tw6325530005552003463:=()
def tw17535750999581741950:=()
def tw5337700852402680185:=()
def tw11330631823159987586:=()
def tw10897558184789781897:=()
def tw14077211390415952995:=()
def tw15142687687463192653:=()
def tw6904084287502500019:=()
def tw8784012248511282484:=()
def tw7773526507205823234:=()
def tw5743403399678629373:=()
def tw17167729886988096912:=()
def tw14170766016278306286:=()
def tw11339189753288467760:=()
def tw9703449600669228347:=()
def tw510532171113177309:=()
def tw9839150233370292798:=()
def tw17914246378710582004:=()
def tw12076156481260153024:=()
def tw12269813541071384027:=()
def tw14321287727270165112:=()
def tw448255228318520523:=()
def tw8693090658716187604:=()
def tw12977873830590953189:=()
def tw13993775963161080551:=()
def tw8532524414696202383:=()
def tw8983681977739036951:=()
def tw6463442537230836189:=()
def tw10187799998223430898:=()
def tw17816550804958028838:=()
def tw14177951334678347154:=()
def tw11478800251847462449:=()
def tw13989408711989123518:=()
def tw5154235407012975676:=()
def tw6466424204882893168:=()
def tw4302611216175177922:=()
def tw15401783550599090667:=()
def tw10934427897635254021:=()
def tw17608493405419567843:=()
def tw6568590374912313742:=()
def tw15609021879044807658:=()
def tw14295370888264981280:=()
def tw14098406767798770081:=()
def tw16738498318476545662:=()
def tw7001231852162576492:=()
def tw16056602870733323552:=()
def tw12731699111163324798:=()
def tw7450073679578162937:=()
def tw12402857898014824848:=()
def tw16085327986572919968:=()
def tw6129313242181471308:=()
def tw1923881114024407264:=()
def tw7418815877793502814:=()
def tw17035776505061483557:=()
def tw6635695956474304689:=()
def tw18401867416352496581:=()
def tw6914614394411674882:=()
def tw18296265805502740488:=()
def tw6020588042835479446:=()
def tw2997809288021919469:=()
def tw5203349288926893245:=()
def tw3864157435396408318:=()
def tw7735360422647585025:=()
def tw9333897332145750748:=()
def tw16532181094594264312:=()
def tw1190287344624466750:=()
def tw11191327149397471449:=()
def tw3048637917719354013:=()
def tw9318591609222545867:=()
def tw13937060453325914049:=()
def tw12805840060373671065:=()
def tw11569525550907167754:=()
def tw3403698787131550413:=()
def tw1479757169243141346:=()
def tw14801659203816314576:=()
def tw5946105207281607488:=()
def tw15848215217232433935:=()
def tw11719990453392494454:=()
def tw16089658951197532260:=()
def tw78216477645414127:=()
def tw8185598709248013995:=()
def tw10006438836774384279:=()
def tw14101198687980143555:=()
def tw14988619908344712824:=()
def tw9771869108772513542:=()
def tw1016315709251706999:=()
def tw11876193685739273720:=()
def tw8423196470982666852:=()
def tw14341507711248694797:=()
def tw6968985072114560708:=()
def tw13957696917865290232:=()
def tw13989498994853000864:=()
def tw4553166338456065548:=()
def tw1069095772580495262:=()
def tw669327483656903689:=()
def tw9168560729825226471:=()
def tw8434258697432339146:=()
def tw10894658454245872512:=()
def tw16757929136245236362:=()
def tw7961276163290684252:=()
def tw12895875138212460507:=()
def tw9430758817361681402:=()
def tw15294674502447413085:=()
def tw14647008557131270750:=()
def tw8143666541035213626:=()
def tw7926890161153341122:=()
def tw10938086040130011652:=()
def tw13329313579820548328:=()
def tw1682303078861814727:=()
def tw14594683748204693232:=()
def tw8104510090210720874:=()
def tw2796785456258895235:=()
def tw11986002794849951225:=()
def tw14945740331497813680:=()
def tw1142128711111853406:=()
def tw9313952474305159165:=()
def tw15233596633250901736:=()
def tw10395972169443064238:=()
def tw7337429170082123502:=()
def tw14137923752981968294:=()
def tw13980646801380030610:=()
def tw10485565209648696516:=()
def tw15244732657180957558:=()
def tw5843730821923118629:=()
def tw9909828391044711239:=()
def tw8050108971082735173:=()
def tw17675757598487987715:=()
end PySem.W.Fast
open PySem PySem.W PyProof.Rows
set_option maxRecDepth 100000 in
set_option maxHeartbeats 0 in
theorem PySem.Challenge.cw_creelway_k46_nothing_handed_in_or_told_i_holds : PySem.Challenge.rw_creelway_k46_nothing_handed_in_or_told_i.Holds := by
 w_on;o_law;k_head;(case hw=>w_witness2)
 k_fill
 refine CW.walk (l:=PySem.Challenge.rw_creelway_k46_nothing_handed_in_or_told_i) rfl rfl (fun w h Y=>PySem.W.kIn_of Y) ?F
 case F =>
  intro w mg fa h KX G hmg;refine' CW.all_mk KX G hmg ?hG ?h0 ?h1 ?h2 ?h3 ?h4 ?h5 ?h6 ?h7 ?h8 ?h9 ?h10 ?h11 ?h12 ?h13 ?h14 ?h15 ?h16 ?h17 ?h18 ?h19 ?h20 ?h21 ?h22 ?h23 ?h24 ?h25 ?h26 ?h27 ?h28 ?h29 ?h30 ?h31 ?h32 ?h33 ?h34 ?h35 ?h36 ?h37 ?h38 ?h39 ?h40 ?h41 ?h42 ?h43 ?h44 ?h45 ?h46 ?h47 ?h48 ?hi_Road ?hi_Course ?hi_House ?hm_do ?hm_build ?hm_shut ?hm_walk ?hm_take ?hm_lay ?hm_late ?hm_back ?hm_roads ?hm_row ?hm_log ?hm_deeds ?hm_undone ?z_len ?z_range ?z_list ?z_tuple ?z_bool ?z_str ?z_int ?z_isinstance ?z_all ?z_sorted ?z_max ?z_min ?z_set ?z_reversed ?z_sum ?z_enumerate ?z_zip ?z_any ?z_abs ?z_dict ?y_MOST_STONES ?y_FEW_WALKS ?y_REST_APART ?y_MOST_ROADS ?y_LETTERS ?y_MOST_LETTERS ?aD ?lD ?sysD
  (case hG=>exact⟨by k_is,by k_is,by k_is,by k_is,by k_is,by k_is,by k_is,by k_is,by k_is,by k_is,by k_is,by k_is,by k_is,by k_is,by k_is,by k_is,by k_is,by k_is,by k_is,by k_is,by k_is,by k_is,by k_is,by k_is,by kernel_rfl,by kernel_rfl⟩)
  (case h0=>exact L2.defIn (by k_is) (by k_is) (by k_is) (by k_is))
  (case h1=>exact L2.defIn (by k_is) (by k_is) (by k_is) (by k_is))
  (case h2=>exact L2.defIn (by k_is) (by k_is) (by k_is) (by k_is))
  (case h3=>exact L2.defIn (by k_is) (by k_is) (by k_is) (by k_is))
  (case h4=>exact L2.defIn (by k_is) (by k_is) (by k_is) (by k_is))
  (case h5=>exact L2.defIn (by k_is) (by k_is) (by k_is) (by k_is))
  (case h6=>exact L2.defIn (by k_is) (by k_is) (by k_is) (by k_is))
  (case h7=>exact L2.defIn (by k_is) (by k_is) (by k_is) (by k_is))
  (case h8=>exact L2.defIn (by k_is) (by k_is) (by k_is) (by k_is))
  (case h9=>exact L2.defIn (by k_is) (by k_is) (by k_is) (by k_is))
  (case h10=>exact L2.defIn (by k_is) (by k_is) (by k_is) (by k_is))
  (case h11=>exact L2.defIn (by k_is) (by k_is) (by k_is) (by k_is))
  (case h12=>exact L2.defIn (by k_is) (by k_is) (by k_is) (by k_is))
  (case h13=>exact L2.defIn (by k_is) (by k_is) (by k_is) (by k_is))
  (case h14=>exact L2.defIn (by k_is) (by k_is) (by k_is) (by k_is))
  (case h15=>exact L2.defIn (by k_is) (by k_is) (by k_is) (by k_is))
  (case h16=>exact L2.defIn (by k_is) (by k_is) (by k_is) (by k_is))
  (case h17=>exact L2.defIn (by k_is) (by k_is) (by k_is) (by k_is))
  (case h18=>exact L2.defIn (by k_is) (by k_is) (by k_is) (by k_is))
  (case h19=>exact L2.defIn (by k_is) (by k_is) (by k_is) (by k_is))
  (case h20=>exact L2.defIn (by k_is) (by k_is) (by k_is) (by k_is))
  (case h21=>exact L2.defIn (by k_is) (by k_is) (by k_is) (by k_is))
  (case h22=>exact L2.defIn (by k_is) (by k_is) (by k_is) (by k_is))
  (case h23=>exact L2.defIn (by k_is) (by k_is) (by k_is) (by k_is))
  (case h24=>exact L2.defIn (by k_is) (by k_is) (by k_is) (by k_is))
  (case h25=>exact L2.defIn (by k_is) (by k_is) (by k_is) (by k_is))
  (case h26=>exact L2.defIn (by k_is) (by k_is) (by k_is) (by k_is))
  (case h27=>exact L2.defIn (by k_is) (by k_is) (by k_is) (by k_is))
  (case h28=>exact L2.defIn (by k_is) (by k_is) (by k_is) (by k_is))
  (case h29=>exact L2.defIn (by k_is) (by k_is) (by k_is) (by k_is))
  (case h30=>exact L2.defIn (by k_is) (by k_is) (by k_is) (by k_is))
  (case h31=>exact L2.defIn (by k_is) (by k_is) (by k_is) (by k_is))
  (case h32=>exact L2.defIn (by k_is) (by k_is) (by k_is) (by k_is))
  (case h33=>exact L2.defIn (by k_is) (by k_is) (by k_is) (by k_is))
  (case h34=>exact L2.defIn (by k_is) (by k_is) (by k_is) (by k_is))
  (case h35=>exact L2.defIn (by k_is) (by k_is) (by k_is) (by k_is))
  (case h36=>exact L2.defIn (by k_is) (by k_is) (by k_is) (by k_is))
  (case h37=>exact L2.defIn (by k_is) (by k_is) (by k_is) (by k_is))
  (case h38=>exact L2.defIn (by k_is) (by k_is) (by k_is) (by k_is))
  (case h39=>exact L2.defIn (by k_is) (by k_is) (by k_is) (by k_is))
  (case h40=>exact L2.defIn (by k_is) (by k_is) (by k_is) (by k_is))
  (case h41=>exact L2.defIn (by k_is) (by k_is) (by k_is) (by k_is))
  (case h42=>exact L2.defIn (by k_is) (by k_is) (by k_is) (by k_is))
  (case h43=>exact L2.defIn (by k_is) (by k_is) (by k_is) (by k_is))
  (case h44=>exact L2.defIn (by k_is) (by k_is) (by k_is) (by k_is))
  (case h45=>exact L2.defIn (by k_is) (by k_is) (by k_is) (by k_is))
  (case h46=>exact L2.defIn (by k_is) (by k_is) (by k_is) (by k_is))
  (case h47=>exact L2.defIn (by k_is) (by k_is) (by k_is) (by k_is))
  (case h48=>exact L2.defIn (by k_is) (by k_is) (by k_is) (by k_is))
  (case hi_Road=>exact L2.initIn (by k_is) (by k_is) (by k_is) (by k_is) (by k_is) (by k_is) (by k_is))
  (case hi_Course=>exact L2.initIn (by k_is) (by k_is) (by k_is) (by k_is) (by k_is) (by k_is) (by k_is))
  (case hi_House=>exact L2.initIn (by k_is) (by k_is) (by k_is) (by k_is) (by k_is) (by k_is) (by k_is))
  (case hm_do=>exact L2.methIn (by k_is) (by k_is) (by k_is) (by k_is) (by k_is))
  (case hm_build=>exact L2.methIn (by k_is) (by k_is) (by k_is) (by k_is) (by k_is))
  (case hm_shut=>exact L2.methIn (by k_is) (by k_is) (by k_is) (by k_is) (by k_is))
  (case hm_walk=>exact L2.methIn (by k_is) (by k_is) (by k_is) (by k_is) (by k_is))
  (case hm_take=>exact L2.methIn (by k_is) (by k_is) (by k_is) (by k_is) (by k_is))
  (case hm_lay=>exact L2.methIn (by k_is) (by k_is) (by k_is) (by k_is) (by k_is))
  (case hm_late=>exact L2.methIn (by k_is) (by k_is) (by k_is) (by k_is) (by k_is))
  (case hm_back=>exact L2.methIn (by k_is) (by k_is) (by k_is) (by k_is) (by k_is))
  (case hm_roads=>exact L2.methIn (by k_is) (by k_is) (by k_is) (by k_is) (by k_is))
  (case hm_row=>exact L2.methIn (by k_is) (by k_is) (by k_is) (by k_is) (by k_is))
  (case hm_log=>exact L2.methIn (by k_is) (by k_is) (by k_is) (by k_is) (by k_is))
  (case hm_deeds=>exact L2.methIn (by k_is) (by k_is) (by k_is) (by k_is) (by k_is))
  (case hm_undone=>exact L2.methIn (by k_is) (by k_is) (by k_is) (by k_is) (by k_is))
  (case z_len=>k_is)
  (case z_range=>k_is)
  (case z_list=>k_is)
  (case z_tuple=>k_is)
  (case z_bool=>k_is)
  (case z_str=>k_is)
  (case z_int=>k_is)
  (case z_isinstance=>k_is)
  (case z_all=>k_is)
  (case z_sorted=>k_is)
  (case z_max=>k_is)
  (case z_min=>k_is)
  (case z_set=>k_is)
  (case z_reversed=>k_is)
  (case z_sum=>k_is)
  (case z_enumerate=>k_is)
  (case z_zip=>k_is)
  (case z_any=>k_is)
  (case z_abs=>k_is)
  (case z_dict=>k_is)
  (case y_MOST_STONES=>k_is)
  (case y_FEW_WALKS=>k_is)
  (case y_REST_APART=>k_is)
  (case y_MOST_ROADS=>k_is)
  (case y_LETTERS=>k_is)
  (case y_MOST_LETTERS=>k_is)
  (case aD=>k_is)
  (case lD=>k_is)
  (case sysD=>kernel_rfl)
