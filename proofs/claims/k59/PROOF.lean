import PyProof.Rows.All
import Wide.All
import OpenK.AllK
import Wide.FinOn
import Lean
import PyProof.EqAt
import PyProof.EqKinds
import PyProof.TupleCall
import PySem.Challenge.RW_creelway_k59_each_refusal_at_the_desk
set_option Elab.async false
set_option linter.all false
set_option maxRecDepth 100000
set_option maxHeartbeats 4000000
section
open PySem PySem.Spec PyProof.Rows
def ah:=@Nat.le_refl
def b3:=@if_neg
def b4:=@if_pos
def dt:=@PySem.W.mg_none_of
def eH:=@Bool.and_eq_true
def eu:=@PySem.wpAny_mono
def fy:=@Nat.le_trans
def gV:=@PySem.boot_len
def je:=@PySem.wpAny_holding
def jf:=@PySem.wpAny_loadPart_at
def jg:=@PySem.W.mg_of
def jh:=@List.lookup_cons
def ji:=@List.contains_cons
def jj:=@List.all_eq_true
def jk:=@Option.some.inj
def jl:=@PySem.StrLaws.glued_eq_join
def jm:=@List.take_add_one
def jo:=@List.take_of_length_le
def jp:=@List.length_drop
def jq:=@Int.emod_lt_of_pos
def jr:=@PySem.W.kia_one
def jt:=@Array.length_toList
def ju:=@List.length_singleton
def jv:=@List.append_nil
def jw:=@PySem.wpAny_standAt
def jx:=@List.find?_cons
def jy:=@PySem.PassesOwn.never
def jz:=@Sum.inr.inj
def ka:=@Nat.zero_le
def kc:=@PyProof.Rows.slot_tuple_getitem
def ke:=@of_decide_eq_true
def kf:=@Int.emod_nonneg
def kh:=@PySem.wpAny_Call_Name_kw
def ki:=@PySem.W.callWith_K
def kj:=@Bool.true_and
def km:=@PySem.wpAny_truthy_bool
def ko:=@PyProof.Rows.callWith_type1
def kr:=@PySem.mem_of_lookup
def ks:=@PySem.wpAny_isSubtype_exc
def kt:=@PySem.Calls.callWith_builtin
def ku:=@PySem.F.plainAttrs_str
def kx:=@PySem.Calls.Name_function_global
def kz:=@List.getD_eq_getElem?_getD
def le:=@Nat.lt_irrefl
def lf:=@PySem.Calls.spliced_cons
def lh:=@PySem.W.methodCall_KW
def lj:=@List.getElem?_set_ne
def ll:=@PySem.W.looks_findIn
def lm:=@PySem.Around.frames_deeper
def lp:=@PySem.Calls.evalArgs_plain
def lq:=@Ne.symm
def lr:=@PySem.wpAny_passesOwn
def ls:=@Bool.eq_iff_iff
def lu:=@PySem.plainObj_wpAny_Assign_Attribute
def lv:=@List.of_mem_zip
def lw:=@List.append_assoc
def ly:=@PySem.sizeLine_eq
def mf:=@PySem.W.looks_clsIn
def mh:=@PySem.wpAny_field
def mi:=@List.any_cons
def mj:=@List.pairwise_singleton
def ml:=@PySem.wpAny_execs_cons
def mn:=@Nat.le_add_right
def mq:=@List.cons_ne_nil
def mr:=@PySem.W.cellsFrom_some
def mu:=@PySem.tupleKind_room_in1
def mv:=@PySem.wpAny_execs_nil
def mw:=@PySem.codeAny_mono
def mx:=@PySem.W.kia_tup
def my:=@Bool.or_true
def mz:=@PySem.wpAny_newObj_type
def na:=@List.getElem?_append_right
def nc:=@PySem.wpAny_newFunctionEnv_cells
def ng:=@PySem.F.excBase_ValueError
def ni:=@PySem.W.hideAll_none
def nj:=@PySem.Heap.get?_none_of_le
def nk:=@List.mem_of_mem_take
def nn:=@PySem.codeAny_call_builtin
def nr:=@List.forall_mem_cons
def nu:=@PySem.Heap.size_push
def nv:=@Array.all_toList
def nw:=@List.filterMap_cons
def ny:=@PySem.wpAny_call
def nz:=@PySem.F.args_tuple_add_2
def oa:=@PySem.Calls.loadGlobal_global
def og:=@PySem.F.entry_tuple_add
def oh:=@Bool.false_eq_true
def oj:=@List.nil_append
def om:=@Nat.min_eq_left
def oo:=@PySem.F.plainAttrs_dict
def op:=@List.getElem?_set_self
def oq:=@PySem.F.slot_tuple_add
def ot:=@PySem.Calls.spliced_nil
def ou:=@List.drop_zero
def ow:=@PySem.codeAny_call_function
def oy:=@List.map_nil
def oz:=@PySem.F.slot_dict_get
def ph:=@PySem.F.slot_str_join
def pi:=@Classical.choose_spec
def pj:=@Nat.lt_succ_self
def pk:=@PySem.wpAny_loadName_local
def pp:=@List.mem_of_mem_drop
def pq:=@PyProof.Rows.FormattedValue_plain
def pw:=@Nat.mul_le_mul_right
def px:=@List.map_take
def py:=@List.cons.inj
def pz:=@PySem.W.hideAll_get
def qa:=@PySem.wpAny_loadName_cell
def qb:=@PySem.W.plainGet_of
def qc:=@Nat.le_succ
def qd:=@List.length_nil
def qe:=@PySem.Heap.get?_update_ne
def qf:=@ne_true_of_eq_false
def qg:=@PyProof.Rows.signs_ofString
def qh:=@PySem.W.of_hideAll
def qi:=@Nat.le_of_lt
def qj:=@Nat.le_of_eq
def qk:=@PySem.W.codeRec_of
def ql:=@PySem.F.args_str_split_2
def qm:=@PySem.StrLaws.join_split
def qo:=@Bool.false_and
def qp:=@List.getElem?_append_left
def qq:=@PySem.wpAny_Name
def qr:=@PySem.wpAny_pyIter_list
def qs:=@PySem.W.set_plain
def qt:=@PySem.W.kitx_list
def qu:=@PySem.typeIs_str
def qv:=@PySem.wpAny_comprehension_free
def qw:=@Option.isSome_map
def qx:=@PySem.F.slot_dict_values
def qy:=@PySem.F.entry_str_split
def qz:=@PySem.F.store_ValueError
def r6:=@PySem.Paired.length
def r8:=@List.getElem?_replicate
def rb:=@if_false
def rf:=@PySem.wpAny_callSpecial?_slot
def rg:=@List.map_drop
def rh:=@PySem.F.args_dict_get_3
def ri:=@PySem.wpAny_Call_method0_late
def rj:=@PySem.F.slot_dict_items
def rk:=@PySem.StrLaws.removeprefix_eq
def rl:=@PySem.wpAny_lookBehind
def rm:=@PySem.pastItsLine_dict
def rn:=@PySem.noFill_tuple_add
def ro:=@beq_self_eq_true
def rp:=@List.not_mem_nil
def rq:=@PySem.F.slot_str_split
def rs:=@List.cons_append
def sd:=@PySem.F.entry_dict_get
def se:=@PySem.W.funFrames_hide
def sf:=@PyProof.Rows.boot_dict
def sh:=@PySem.F.slot_str_split
def si:=@PySem.F.type_str_split
def sj:=@PySem.wpAny_isTrue_Compare1
def sk:=@PySem.wpAny_typeOf
def so:=@Nat.sub_zero
def sr:=@Bool.or_eq_true
def ss:=@PySem.wpAny_specialOf
def su:=@PySem.call_meetsIn
def sv:=@List.lookup_cons_self
def sw:=@PySem.codeAny_handlers_test
def sx:=@PySem.W.Looks.of_pure
def sy:=@List.nodup_cons
def tf:=@PySem.F.type_str_join
def tj:=@PySem.call_meets
def tm:=@beq_iff_eq
def tq:=@PySem.intText_digits
def tu:=@PySem.W.KIN.val_back
def tw:=@PySem.W.handedOut_of
def tz:=@PySem.wpAny_loadPart
def ua:=@PySem.wpAny_setField
def ub:=@List.take_left
def uc:=@PySem.W.findObj_own
def ue:=@PySem.W.callWith_K0
def uf:=@if_true
def ug:=@List.map_congr_left
def uh:=@PySem.evalArgs_none
def ui:=@PySem.wpAt_of_wpAny
def uj:=@PySem.W.looks_mroIn
def uk:=@PySem.seq_tuple_add
def ul:=@Bool.false_or
def um:=@PySem.wpAny_nsSet1
def uo:=@PySem.codeAny_func
def uq:=@PySem.concat_meets
def ur:=@Bool.true_or
def ut:=@Nat.lt_trans
def uu:=@List.all_map
def aEL:=@wpAny_bind
def aEM:=@wpAny_pure
def aEN:=@List.length_map
def aEO:=@Heap.get?_push_of_some
def aEP:=@List.mem_cons_self
def aEQ:=@List.mem_cons_of_mem
def aER:=@List.mem_append_right
def aES:=@Heap.get?_update_other
def aET:=@Heap.lt_size
def aEU:=@Heap.get?_push_size
def aEV:=@List.size_toArray
def aEW:=@List.length_append
def aEX:=@List.getElem?_eq_getElem
def aEY:=@List.mem_of_getElem?
def aEZ:=@Bool.false_ne_true
def aE0:=@List.take_length
def aE1:=@List.map_append
def aE2:=@List.length_take
def aE3:=@Nat.lt_of_lt_of_le
def aE4:=@Heap.get?_update_self
def aE5:=@List.mem_append_left
def aE6:=@List.length_replicate
def aE7:=@decide_eq_false
def aE8:=@decide_eq_true
def aE9:=@Nat.ne_of_lt
def aEa:=@List.getElem?_map
def aEb:=@List.map_cons
def aEc:=@Nat.ne_of_gt
def aEd:=@List.foldl_cons
def aEe:=@List.length_cons
def aEf:=@List.map_map
def aEg:=@List.mem_singleton
def aEh:=@PySem.F.plainAttrs_list
def aEi:=@PySem.F.slot_list_append
def aEj:=@PySem.F.type_list_append
def aEk:=@Option.map_eq_some_iff
def aEl:=@List.getElem?_eq_some_iff
def aEm:=@List.mem_cons
def aEn:=@List.mem_append
def aEo:=@List.mem_map
end
namespace L2
open PySem PySem.Spec PyProof.Rows
abbrev Key:=Sum Int Str
def qA:Key->Value->Bool
 | .inl k,v=>Value.isInt k v
 | .inr x,v=>Value.isStrOf x v
def aDe (w:World):Key->Int
 | .inl k=>hashInt k
 | .inr x=>hashStr w x
def cI:∀ {k:Key} {v:Value},qA k v=true->(∃ i t,k=Sum.inl i/\v=Value.int i t)\/(∃ x t,k=Sum.inr x/\v=Value.str x t)
 | .inl i,v,h=>by
  obtain⟨t,e⟩:=Value.isInt_shape (k:=i) (v:=v) h;exact .inl ⟨i,t,rfl,e⟩
 | .inr x,v,h=>by
  obtain⟨t,e⟩:=Value.isStrOf_shape (x:=x) (v:=v) h;exact .inr ⟨x,t,rfl,e⟩
def U4 (i:Int) (t:Tok):qA (.inl i) (.int i t)=true:=by simp[qA,Value.isInt]
def U5 (x:Str) (t:Tok):qA (.inr x) (.str x t)=true:=by simp[qA,Value.isStrOf]
def aBa (a b:Int):decide ((Sum.inl a:Key)=Sum.inl b)=(a == b):=by
 by_cases e:a=b
 .subst e;simp
 .have h:¬ (Sum.inl a:Key)=Sum.inl b:=λq=>e (Sum.inl.inj q);rw[aE7 h];exact(beq_eq_false_iff_ne.mpr e).symm
def aBb (a b:Str):decide ((Sum.inr a:Key)=Sum.inr b)=decide (a=b):=by
 by_cases e:a=b
 .subst e;simp
 .have h:¬ (Sum.inr a:Key)=Sum.inr b:=λq=>e (jz q);rw[aE7 h,aE7 e]
def aBc (a:Int) (b:Str):decide ((Sum.inl a:Key)=Sum.inr b)=false:=aE7 (λq=>nomatch q)
def aBd (a:Str) (b:Int):decide ((Sum.inr a:Key)=Sum.inl b)=false:=aE7 (λq=>nomatch q)
def bO (prog:Program) (w:World):PySem.KeyKind prog w Key where
 is:=qA
 hash:=aDe w
 inj:=λv a b ha hb=>by
  rcases cI ha with ⟨i,t,rfl,rfl⟩ | ⟨x,t,rfl,rfl⟩
  .rcases cI hb with ⟨j,u,rfl,e⟩ | ⟨y,u,rfl,e⟩
   .injection e with e1 _;rw[e1]
   .exact nomatch e
  .rcases cI hb with ⟨j,u,rfl,e⟩ | ⟨y,u,rfl,e⟩
   .exact nomatch e
   .injection e with e1 _;rw[e1]
 byValue:=λk v h=>by
  rcases cI h with ⟨i,t,rfl,rfl⟩ | ⟨x,t,rfl,rfl⟩ <;> rfl
 pyHash:=λhv h=>by
  rcases cI hv with ⟨i,t,rfl,rfl⟩ | ⟨x,t,rfl,rfl⟩
  .exact wpAny_pyHash_int h
  .exact wpAny_pyHash_str h
 eqBool:=λhu hv h=>by
  rcases cI hu with ⟨i,t,rfl,rfl⟩ | ⟨x,t,rfl,rfl⟩
  .rcases cI hv with ⟨j,u,rfl,rfl⟩ | ⟨y,u,rfl,rfl⟩
   .rw[aBa]at h;exact wpAny_eqBool_int h
   .rw[aBc]at h;exact SeqAt.EqAt.int_str i t y u _ _ _ _ h
  .rcases cI hv with ⟨j,u,rfl,rfl⟩ | ⟨y,u,rfl,rfl⟩
   .rw[aBd]at h;exact SeqAt.EqAt.str_int x t j u _ _ _ _ h
   .rw[aBb]at h;exact wpAny_eqBool_str h
 «strs»:=λk x t v h=>by
  rcases cI h with ⟨i,u,rfl,e⟩ | ⟨y,u,rfl,e⟩
  .exact nomatch e
  .injection e with e1 _
   subst e1;cases v <;> rfl
def E4 (prog:Program) (w:World) (k:Key) (v:Value):(bO prog w).is k v=qA k v:=rfl
def yR (prog:Program) (w:World) (i:Int) (t:Tok):(bO prog w).is (.inl i) (.int i t)=true:=U4 i t
def yS (prog:Program) (w:World) (x:Str) (t:Tok):(bO prog w).is (.inr x) (.str x t)=true:=U5 x t
inductive V where
 | non | bl (b:Bool) | int (i:Int) | str (x:Str) | byt (b:Array UInt8) | flt (b:UInt64) | ref (a:Addr) | ty (n:String)
 deriving DecidableEq
def RelV:V->Value->Prop
 | .non,u=>u=Value.none
 | .bl b,u=>u=Value.bool b
 | .int i,u=>∃ t,u=Value.int i t
 | .str x,u=>∃ t,u=Value.str x t
 | .byt b,u=>∃ t,u=Value.bytes b t
 | .flt b,u=>∃ t,u=Value.float b t
 | .ref a,u=>u=Value.ref a
 | .ty n,u=>u=Value.type n
abbrev Vals:List V->List Value->Prop:=Paired RelV
def Vals.length {xs:List V} {us:List Value} (r:Vals xs us):xs.length=us.length:=r6 r
def Vals.get:∀ {xs:List V} {us:List Value} {i:Nat} {x:V},Vals xs us->xs[i]?=some x->∃ u,us[i]?=some u/\RelV x u
 | _,_,_,_,.nil,e=>by simp at e
 | _,_,0,_,.cons r _,e=>by simp at e;subst e;exact⟨_,rfl,r⟩
 | _,_,i+1,x,.cons _ t,e=>by
  obtain⟨u,h1,h2⟩:=Vals.get (i:=i) (x:=x) t (by simpa using e);exact⟨u,by simpa using h1,h2⟩
def Vals.append:∀ {xs ys:List V} {us ws:List Value},Vals xs us->Vals ys ws->Vals (xs++ys) (us++ws)
 | _,_,_,_,.nil,s=>s
 | _,_,_,_,.cons r t,s=>.cons r (Vals.append t s)
def Vals.take:∀ {xs:List V} {us:List Value} (n:Nat),Vals xs us->Vals (xs.take n) (us.take n)
 | _,_,0,_=>.nil
 | _,_,_+1,.nil=>.nil
 | _,_,n+1,.cons r t=>.cons r (Vals.take n t)
def Vals.drop:∀ {xs:List V} {us:List Value} (n:Nat),Vals xs us->Vals (xs.drop n) (us.drop n)
 | _,_,0,r=>r
 | _,_,_+1,.nil=>.nil
 | _,_,n+1,.cons _ t=>Vals.drop n t
def RelO:Option V->Option Value->Prop
 | some v,some u=>RelV v u
 | none,none=>True
 | _,_=>False
def KV {κ:Type}:List (κ×V)->List (κ×Value)->Prop:=Paired λ(p:κ×V) (q:κ×Value)=>p.1=q.1/\RelV p.2 q.2
def kV:Key->V
 | .inl i=>.int i
 | .inr x=>.str x
inductive HO where
 | lst (xs:List V)
 | tup (xs:List V)
 | dK (kvs:List (Key×V)) | dT (kvs:List (List Key×V))
 | set (S:Int->Bool) (n:Nat)
 | ins (C dx:Addr) (fs:List (Str×V))
 | own (x:Addr)
 | xd (fs:List (Str×V))
 | met (f x:Addr)
 | rng (lo hi:Int)
 | frz (o:Obj) (u:HO)
 | tbl (ps:Array Value)
 | ext (φ:Heap->Prop)
abbrev Hp:=Addr->Option HO
def upd (H:Hp) (a:Addr) (o:HO):Hp:=λb=>if b=a then some o else H b
def aJ {H:Hp} {a:Addr} {o:HO}:upd H a o a=some o:=by unfold upd;rw[b4 rfl]
def aL {H:Hp} {a b:Addr} {o:HO} (h:b≠a):upd H a o b=H b:=by unfold upd;rw[b3 h]
def iH {H:Hp} {a:Addr} {o u:HO}:upd (upd H a o) a u=upd H a u:=by
 funext b;unfold upd;split <;> rfl
def gQ {H:Hp} {a b:Addr} {o u:HO} (h:H a=some o) (h':H b=some u) (d:o≠u):a≠b:=by
 intro e;subst e;rw[h]at h';exact d (jk h')
def aU {H:Hp} {a b:Addr} {o:HO} (h:H a=some o) (h':H b=none):a≠b:=by
 intro e;subst e;rw[h]at h';cases h'
section
variable (P:Program) (w:World)
def ObjOk (H:Hp) (h:Heap) (a:Addr):HO->Prop
 | .lst xs=>xs.length<=sizeLine/\∃ (z:List Value) (n:Nat),Vals xs z/\h.get? a=some { cls:=.type "list",data:=.seq z.toArray n }
 | .tup xs=>xs.length<=sizeLine/\∃ z:List Value,Vals xs z/\IsTup h a z.toArray
 | .dK kvs=>kvs.length<=sizeLine/\(a == sysModules)=false/\∃ vs,KV kvs vs/\h.DictOf (bO P w) a vs
 | .dT kvs=>kvs.length<=sizeLine/\(a == sysModules)=false/\∃ xs:List (List Key×Addr×Value),
  Paired (λ(p:List Key×V) (q:List Key×Addr×Value)=>p.1=q.1/\H q.2.1=some (.tup (p.1.map kV))/\RelV p.2 q.2.2) kvs xs /\
  ∃ o es J,h.get? a=some o/\o.ExactDict/\o.data=.dict es J/\es.toList=xs.map (entryOfKey (tupleKind (bO P w)))/\(xs.map (·.1)).Nodup
 | .set S n=>h.SetOf (intKind P w) a S n
 | .ins C dx fs=>H dx=some (.own a)/\fs.length<=1000/\dx≠a/\h.get? a=some (PySem.W.instObj C dx) /\
  ∃ mA,h.Ns1 dx mA/\(∀ f,RelO (fs.lookup f) (mA f))/\PySem.Within mA (fs.map (·.1))
 | .own _=>∃ o,h.get? a=some o
 | .xd fs=>∃ mA,h.Ns1 a mA/\∀ f,RelO (fs.lookup f) (mA f)
 | .rng lo hi=>∃ t u v,h.get? a=some { cls:=.type "range",data:=.fields #[.int lo t,.int hi u,.int 1 v] }
 | .frz o u=>h.get? a=some o/\ObjOk H h a u
 | .tbl ps=>h.get? a=some { cls:=.none,data:=.fields ps }
 | .met f x=>h.get? a=some (PySem.W.methodObj (.ref f) (.ref x))
 | .ext φ=>φ h/\(∃ o,h.get? a=some o)/\∀ h1 h2:Heap,φ h1->(∀ o,h1.get? a=some o->h2.get? a=some o)->φ h2
def HOk (H:Hp) (h:Heap):Prop:=∀ a o,H a=some o->ObjOk P w H h a o
end
section
variable {P:Program} {w:World} {H H':Hp} {h h':Heap} {a:Addr} {o:HO}
def ObjOk.lt (x:ObjOk P w H h a o):a<h.objs.size:=by
 cases o with
 | lst xs=>obtain⟨_,_,_,_,e⟩:=x;exact aET e
 | tup xs=>obtain⟨_,_,_,p⟩:=x;exact p.lt
 | dK kvs=>obtain⟨_,_,_,_,o,_,_,e,_⟩:=x;exact aET e
 | dT kvs=>obtain⟨_,_,_,_,o,_,_,e,_⟩:=x;exact aET e
 | set S n=>obtain⟨o,_,_,_,e,_⟩:=x;exact aET e
 | ins C dx fs=>obtain⟨_,_,_,e,_⟩:=x;exact aET e
 | own y=>obtain⟨_,e⟩:=x;exact aET e
 | xd fs=>obtain⟨_,⟨_,_,_,e,_⟩,_⟩:=x;exact aET e
 | rng lo hi=>obtain⟨_,_,_,e⟩:=x;exact aET e
 | frz z u=>obtain⟨e,_⟩:=x;exact aET e
 | tbl ps=>exact aET (show h.get? a=some _ from x)
 | met f y=>exact aET (show h.get? a=some _ from x)
 | ext φ=>obtain⟨_,⟨_,e⟩,_⟩:=x;exact aET e
def Paired.mapP {L M:Type} {F G:L->M->Prop}:∀ {z:List L} {J:List M},Paired F z J->(∀ a b,F a b->G a b)->Paired G z J
 | _,_,.nil,_=>.nil
 | _,_,.cons r t,f=>.cons (f _ _ r) (Paired.mapP t f)
def ObjOk.stay (x:ObjOk P w H h a o) (k:∀ b u,(b=a\/H b=some (.own a))->h.get? b=some u->h'.get? b=some u)
 (ho:∀ b,H b=some (.own a)->H' b=some (.own a)) (ht:∀ b xs,H b=some (.tup xs)->H' b=some (.tup xs)):ObjOk P w H' h' a o:=by
 induction o with
 | lst xs=>obtain⟨z,M,n,r,e⟩:=x;exact⟨z,M,n,r,k _ _ (.inl rfl) e⟩
 | tup xs=>obtain⟨z,M,r,J,e,c⟩:=x;exact⟨z,M,r,J,k _ _ (.inl rfl) e,c⟩
 | dK kvs=>obtain⟨z,y,vs,r,J,es,L,e,c⟩:=x;exact⟨z,y,vs,r,J,es,L,k _ _ (.inl rfl) e,c⟩
 | dT kvs =>
  obtain⟨z,y,xs,r,J,es,L,e,c⟩:=x;exact⟨z,y,xs,Paired.mapP r λp q z=>⟨z.1,ht _ _ z.2.1,z.2.2⟩,J,es,L,k _ _ (.inl rfl) e,c⟩
 | set S n=>obtain⟨J,es,L,t,e,c⟩:=x;exact⟨J,es,L,t,k _ _ (.inl rfl) e,c⟩
 | ins C dx fs =>
  obtain⟨d,z,ne,e,mA,⟨od,es,L,O,c⟩,r⟩:=x;exact⟨ho _ d,z,ne,k _ _ (.inl rfl) e,mA,⟨od,es,L,k _ _ (.inr d) O,c⟩,r⟩
 | own y=>obtain⟨J,e⟩:=x;exact⟨J,k _ _ (.inl rfl) e⟩
 | xd fs=>obtain⟨mA,⟨od,es,L,e,c⟩,r⟩:=x;exact⟨mA,⟨od,es,L,k _ _ (.inl rfl) e,c⟩,r⟩
 | rng lo hi=>obtain⟨t,u,v,e⟩:=x;exact⟨t,u,v,k _ _ (.inl rfl) e⟩
 | frz J u U=>obtain⟨e,q⟩:=x;exact⟨k _ _ (.inl rfl) e,U q⟩
 | tbl ps =>
  have e:h.get? a=some { cls:=.none,data:=.fields ps }:=x;show h'.get? a=some { cls:=.none,data:=.fields ps };exact k a _ (.inl rfl) e
 | met f y =>
  have e:h.get? a=some (PySem.W.methodObj (.ref f) (.ref y)):=x;show h'.get? a=some (PySem.W.methodObj (.ref f) (.ref y));exact k a _ (.inl rfl) e
 | ext φ=>obtain⟨p,⟨o,e⟩,st⟩:=x;exact⟨st _ _ p λo q=>k _ _ (.inl rfl) q,⟨o,k _ _ (.inl rfl) e⟩,st⟩
def HOk.lt (x:HOk P w H h) (e:H a=some o):a<h.objs.size:=(x a o e).lt
def HOk.fresh (x:HOk P w H h) (e:h.objs.size<=a):H a=none:=by
 cases q:H a with
 | none=>rfl
 | some u=>exact absurd (aE3 (x.lt q) e) (le _)
def HOk.kept (x:HOk P w H h) (k:∀ b u,h.get? b=some u->h'.get? b=some u):HOk P w H h':=λa o e =>
 (x a o e).stay (λb u _ q=>k b u q) (λ_ q=>q) λ_ _ q=>q
def HOk.laid (x:HOk P w H h) (k:∀ b u,h.get? b=some u->h'.get? b=some u) (M:h.objs.size<=a) (z:ObjOk P w (upd H a o) h' a o):HOk P w (upd H a o) h':=λb u e=>by
 have J:=x.fresh M
 by_cases L:b=a
 .subst L;rw[aJ]at e;cases e;exact z
 .rw[aL L]at e;exact(x b u e).stay (λc v _ q=>k c v q) (λc q=>by rw[aL (aU q J)];exact q) λc xs q=>by rw[aL (aU q J)];exact q
end
def Rd (H:Hp) (a:Addr) (u:HO):Prop:=H a=some u\/∃ o,H a=some (.frz o u)
def Rd.of {H:Hp} {a:Addr} {u:HO} (h:H a=some u):Rd H a u:=.inl h
def Rd.ok {P:Program} {w:World} {H:Hp} {h:Heap} {a:Addr} {u:HO} (r:Rd H a u) (x:HOk P w H h):ObjOk P w H h a u:=by
 rcases r with r | ⟨o,r⟩
 .exact x a u r
 .obtain⟨_,q⟩:=x a _ r;exact q
def Mut:Option HO->Prop
 | some (.lst _)=>True
 | some (.dK _)=>True
 | some (.dT _)=>True
 | some (.set _ _)=>True
 | some (.ins _ _ _)=>True
 | some (.ext _)=>True
 | _=>False
section
variable {P:Program} {w:World} {H:Hp} {h h':Heap} {x e:Addr} {o':HO}
def HOk.write (ok:HOk P w H h) (O:Mut (H x)) (he:e=x\/H e=some (.own x)) (k:∀ b u,b≠e->h.get? b=some u->h'.get? b=some u) (Y:∃ u,h'.get? e=some u)
 (au:ObjOk P w (upd H x o') h' x o'):HOk P w (upd H x o') h':=λb u q=>by
 have L:∀ c y,H c=some (.own y)->c≠x:=λc y r z=>by subst z;rw[r]at O;exact O
 have M:∀ c xs,H c=some (.tup xs)->c≠x:=λc xs r z=>by subst z;rw[r]at O;exact O
 by_cases U:b=x
 .subst U;rw[aJ]at q;cases q;exact au
 .rw[aL U]at q
  by_cases J:b=e
  .have q':H b=some (.own x):=by
    rcases he with z | z
    .exact absurd (J.trans z) U
    .rw[J];exact z
   rw[q]at q';cases q';obtain⟨v,hv⟩:=Y;exact⟨v,by rw[J];exact hv⟩
  .refine(ok b u q).stay (λc v hc r=>k c v ?_ r) (λc r=>by rw[aL (L c b r)];exact r) λc xs r=>by rw[aL (M c xs r)];exact r
   rcases hc with rfl | hc
   .exact J
   .rintro rfl;rcases he with z | z
    .exact L c b hc z
    .rw[hc]at z;cases z;exact U rfl
end
structure Un (fs ex:List Addr) (H H':Hp) (h h':Heap):Prop where
 keep:∀ b o,h.get? b=some o->H b=none->b∉fs->b∉ex->h'.get? b=some o
 slot:∀ b o,h.get? b=some o->H b=none->b∈fs->b∉ex->∃ sl,h'.get? b=some { o with slots:=sl }
 free:∀ b o,h.get? b=some o->H b=none->b∉ex->H' b=none
 there:∀ b o,h.get? b=some o->b∉ex->∃ o',h'.get? b=some o'
 tups:∀ b xs,H b=some (.tup xs)->H' b=some (.tup xs)
 frzs:∀ b o u,H b=some (.frz o u)->H' b=some (.frz o u)
 tbls:∀ b ps,H b=some (.tbl ps)->∃ more,H' b=some (.tbl (ps++more))
section
variable {fs fs' ex ex':List Addr} {H H1 H2:Hp} {h h1 h2 h':Heap} {a x e:Addr} {o:HO}
def Un.any (u:Un fs ex H H1 h h1) {b:Addr} {z:Obj} (q:h.get? b=some z) (n:H b=none) (J:b∉ex):∃ M,h1.get? b=some { z with slots:=M }:=by
 by_cases L:b∈fs
 .exact u.slot b z q n L J
 .exact⟨z.slots,u.keep b z q n L J⟩
def Un.kept (k:∀ b u,h.get? b=some u->h'.get? b=some u):Un fs ex H H h h' :=
 ⟨λb z q _ _ _=>k b z q,λb z q _ _ _=>⟨z.slots,k b z q⟩,λ_ _ _ n _=>n,λb z q _=>⟨z,k b z q⟩,λ_ _ q=>q,λ_ _ _ q=>q,λ_ ps q=>⟨#[],by rw[q];simp⟩⟩
def Un.refl:Un fs ex H H h h:=Un.kept λ_ _ q=>q
def Un.laid (k:∀ b u,h.get? b=some u->h'.get? b=some u) (hp:h.objs.size<=a) (hn:H a=none):Un fs ex H (upd H a o) h h' where
 keep:=λb u q _ _ _=>k b u q
 slot:=λb u q _ _ _=>⟨u.slots,k b u q⟩
 free:=λb u q n _=>by rw[aL (aE9 (aE3 (aET q) hp))];exact n
 there:=λb u q _=>⟨u,k b u q⟩
 tups:=λb xs q=>by rw[aL (aU q hn)];exact q
 frzs:=λb u xs q=>by rw[aL (aU q hn)];exact q
 tbls:=λb ps q=>⟨#[],by rw[aL (aU q hn),q];simp⟩
def Un.write (L:Mut (H x)) (he:e=x\/H e=some (.own x)) (k:∀ b u,b≠e->h.get? b=some u->h'.get? b=some u) (M:∃ u,h'.get? e=some u):Un fs ex H (upd H x o) h h':=by
 have U:∀ b,H b=none->b≠x:=λb n z=>by subst z;rw[n]at L;exact L
 have Y:∀ b,H b=none->b≠e:=λb n z=>by
  subst z;rcases he with r | r
  .exact U b n r
  .rw[n]at r;cases r
 have O:∀ b u,H b=some u->¬ Mut (some u)->b≠x:=λb u q nm z=>by subst z;rw[q]at L;exact nm L
 refine⟨λb u q n _ _=>k b u (Y b n) q,λb u q n _ _=>⟨u.slots,k b u (Y b n) q⟩,λb u q n _=>by rw[aL (U b n)];exact n,λb u q _=>?_,
  λb xs q=>by rw[aL (O b _ q λz=>z)];exact q,λb u xs q=>by rw[aL (O b _ q λz=>z)];exact q,λb ps q=>⟨#[],by rw[aL (O b _ q λz=>z),q];simp⟩⟩
 by_cases J:b=e
 .subst J;exact M
 .exact⟨u,k b u J q⟩
end
def trk (h:Heap) (H:Hp):List Addr:=(List.range h.objs.size).filter λa=>(H a).isSome
def wO (h:Heap) (H:Hp):Heap:=PySem.W.hideAll h (trk h H)
def U6 (h:Heap) (H:Hp):(wO h H).objs.size=h.objs.size:=PySem.W.hideAll_size _ _
def Z9 {h:Heap} {H:Hp} {b:Addr} {o:Obj} (e:h.get? b=some o) (n:H b=none):(wO h H).get? b=some o :=
 pz _ e λz=>by
  have q:(H b).isSome=true:=(List.mem_filter.mp z).2;rw[n]at q;simp at q
def aA7 {h:Heap} {H:Hp} {b:Addr} {o:Obj} (e:(wO h H).get? b=some o):h.get? b=some o/\H b=none:=by
 have J:h.get? b=some o:=qh (trk h H) e;refine⟨J,?_⟩;cases q:H b with
 | none=>rfl
 | some x =>
  have L:b∈trk h H:=List.mem_filter.mpr ⟨List.mem_range.mpr (aET J),by simp[q]⟩;have z:(wO h H).get? b=none:=ni (trk h H) L;rw[z]at e;cases e
structure Mod (K:PySem.W.Frag) (mg:Str->Option Value) (base:Heap):Prop where
 kin:K.In base
 glob:base.Ns mainGlobals mg
 blt:∃ mb,base.Ns builtinsNs mb/\∀ x:Str,x≠"__name__"->mb x=bootBuiltins x
 nolimit:base.NoLimit
structure Cx where
 prog:Program
 w:World
 K:PySem.W.Frag
 mg:Str->Option Value
 base:Heap
 A:Around
 N:List Str
 s₀:Shared
 H₀:Hp
 env:Env
 outer:List Env
 stack:List Env
 ex:List Addr
 fn:Str->Bool
 calm:Bool
 pn:List (Addr×Obj)
 xe:Value->Shared->Prop
def frs (l:List Env):List Addr:=l.filterMap (·.frame)
abbrev Cx.fs (X:Cx):List Addr:=frs X.outer
def Vis (z:Scope) (x:Str):Prop:=z.names.lookup x=some .local\/z.names.lookup x=some .cell\/z.names.lookup x=some .free
def Loc (z:Scope) (x:Str):Prop:=z.names.lookup x=some .local\/z.names.lookup x=some .cell
def aDf (env:Env) (h:Heap) (m:Str->Option Value) (x:Str) (u:Value):Prop :=
 (env.kindOf x=some .local/\m x=some u)\/((env.kindOf x=some .cell\/env.kindOf x=some .free)/\∃ c,env.cells.lookup x=some c/\h.IsCell c (some u))
structure Cx.Ok (X:Cx):Prop where
 mod:Mod X.K X.mg X.base
 kind:X.env.scope.kind=.function
 glob:X.env.globals=mainGlobals
 blt:X.env.builtins=builtinsNs
 above:X.s₀.heap.objs.size<=X.env.locals
 inj:∀ x y c,X.env.cells.lookup x=some c->X.env.cells.lookup y=some c->x=y
 has:∀ x,(X.env.kindOf x=some .cell\/X.env.kindOf x=some .free)->∃ c,X.env.cells.lookup x=some c
 cab:∀ x c,X.fn x=true->X.env.cells.lookup x=some c->X.s₀.heap.objs.size<=c
 hd:X.calm=true->X.A.handled=none
 frames:X.A.frames=some X.stack
 stk:X.stack=X.outer\/(X.stack=X.env :: X.outer/\X.env.frame=some X.env.locals)
 exf:∀ b∈X.ex,b≠X.env.locals/\∀ x c,X.env.cells.lookup x=some c->c≠b
 bs:∀ b o,X.base.get? b=some o->X.s₀.heap.get? b=some o/\X.H₀ b=none
 bsz:X.base.objs.size<=X.s₀.heap.objs.size
 noex:∀ b o,X.base.get? b=some o->b∉X.ex
 exfs:∀ b∈X.ex,b∉X.fs
 funs:X.s₀.heap.FunFrames X.base X.outer
 frf:∀ b∈X.fs,X.H₀ b=none
structure Inv (X:Cx) (pins:List (Addr×Obj)) (σ:List (Option V)) (H:Hp) (s:Shared):Prop where
 ok:X.Ok
 os:s.os=X.s₀.os
 bare:AllBare s.gens
 base:Un X.fs X.ex X.H₀ H X.s₀.heap s.heap
 loc:∃ m,s.heap.Ns X.env.locals m/\∀ (i:Nat) (x:Str) (v:V),X.N[i]?=some x->σ[i]?=some (some v)->Vis X.env.scope x->∃ u,RelV v u/\aDf X.env s.heap m x u
 cell:∀ x c,X.env.cells.lookup x=some c->∃ v,s.heap.IsCell c v
 free:H X.env.locals=none
 freeC:∀ x c,X.env.cells.lookup x=some c->H c=none
 pin:∀ p∈X.pn++pins,s.heap.get? p.1=some p.2/\H p.1=none/\p.1≠X.env.locals/\p.1∉X.fs/\∀ v,p.2.data≠.cell v
 hok:HOk X.prog X.w H s.heap
 len:σ.length=X.N.length
section
variable {X:Cx} {pins:List (Addr×Obj)} {σ:List (Option V)} {H H':Hp} {s:Shared} {h':Heap}
def Cx.Ok.nofr (ok:X.Ok) {b:Addr} {o:Obj} (e:X.base.get? b=some o):b∉X.fs:=λz=>by
 have:=(ok.funs.mem z).1;rw[e]at this;cases this
def Inv.bs (I:Inv X pins σ H s):∀ b o,X.base.get? b=some o->s.heap.get? b=some o/\H b=none:=λb o e =>
 ⟨I.base.keep b o (I.ok.bs b o e).1 (I.ok.bs b o e).2 (I.ok.nofr e) (I.ok.noex b o e),I.base.free b o (I.ok.bs b o e).1 (I.ok.bs b o e).2 (I.ok.noex b o e)⟩
def Inv.bk (I:Inv X pins σ H s):∀ b o,X.base.get? b=some o->s.heap.get? b=some o:=λb o e=>(I.bs b o e).1
def Inv.mod (I:Inv X pins σ H s):Mod X.K X.mg X.base:=I.ok.mod
def Inv.kIn (I:Inv X pins σ H s):X.K.In s.heap:=I.ok.mod.kin.keeps I.bk
def Inv.lt (I:Inv X pins σ H s):X.env.locals<s.heap.objs.size:=let ⟨_,z,_⟩:=I.loc;z.lt
def Inv.sz (I:Inv X pins σ H s):X.s₀.heap.objs.size<=s.heap.objs.size:=fy I.ok.above (qi I.lt)
def Inv.nofs (I:Inv X pins σ H s) {a:Addr} (h:s.heap.objs.size<=a):a∉X.fs:=λz=>by
 obtain⟨_,o,ho,_⟩:=I.ok.funs.mem z;exact absurd (aE3 (aET ho) (fy I.sz h)) (le _)
def Inv.cne (I:Inv X pins σ H s):∀ x c,X.env.cells.lookup x=some c->c≠X.env.locals:=λx c e z=>by
 obtain⟨v,o,ho,hd⟩:=I.cell x c e;obtain⟨m,⟨o',es,M,J,L,_⟩,_⟩:=I.loc;rw[z,J]at ho;cases ho;rw[L]at hd;cases hd
def Inv.funs (I:Inv X pins σ H s):s.heap.FunFrames X.base X.outer:=by
 have all:∀ (l:List Env),(∀ b∈frs l,b∈X.fs)->X.s₀.heap.FunFrames X.base l->s.heap.FunFrames X.base l:=by
  intro l
  induction l with
  | nil=>intro _ _;trivial
  | cons env r U =>
   intro hs Y;obtain⟨hk,⟨L,o,J,hn,ho,hd⟩,hr⟩:=Y;have M:L∈X.fs:=hs L (by unfold frs;rw[nw,J];exact aEP);obtain⟨sl,e⟩:=I.base.slot L o ho (I.ok.frf L M) M λz=>I.ok.exfs L z M;exact⟨hk,⟨L,_,J,hn,e,hd⟩,U (λb O=>hs b (by unfold frs;rw[nw,J];exact aEQ _ O)) hr⟩
 exact all X.outer (λ_ O=>O) I.ok.funs
def Inv.stack (I:Inv X pins σ H s):s.heap.FunFrames X.base X.stack:=by
 rcases I.ok.stk with e | ⟨e,z⟩
 .rw[e];exact I.funs
 .rw[e];obtain⟨m,J,_⟩:=I.loc;refine .cons (by rw[I.ok.kind];decide) z J ?_ I.funs;exact nj (fy I.ok.bsz I.ok.above)
def Inv.stkSub (I:Inv X pins σ H s):∀ b∈frs X.stack,b∈X.env.locals :: X.fs:=λb z=>by
 rcases I.ok.stk with e | ⟨e,J⟩
 .rw[e]at z;exact aEQ _ z
 .rw[e]at z;unfold frs at z;rw[nw,J]at z;exact z
def Inv.stkFree (I:Inv X pins σ H s):∀ b∈frs X.stack,H b=none:=λb hb=>by
 rcases aEm.mp (I.stkSub b hb)with e | hb
 .rw[e];exact I.free
 .obtain⟨_,o,ho,_⟩:=I.ok.funs.mem hb;exact I.base.free b o ho (I.ok.frf b hb) λz=>I.ok.exfs b z hb
def Inv.step {g':Array GenState} {t':Nat} {d':Drawn} {ch:List Addr} (I:Inv X pins σ H s)
 (L:∀ b∈ch,(b∈X.ex\/X.s₀.heap.objs.size<=b)/\b≠X.env.locals/\(∀ x c,X.env.cells.lookup x=some c->c≠b)/\∀ p∈X.pn++pins,p.1≠b)
 (keep:∀ b o,b≠X.env.locals->b∉X.fs->b∉ch->s.heap.get? b=some o->H b=none->h'.get? b=some o)
 (slot:∀ b o,b≠X.env.locals->b∈X.fs->b∉ch->s.heap.get? b=some o->H b=none->∃ sl,h'.get? b=some { o with slots:=sl }) (free:∀ b o,b∉ch->s.heap.get? b=some o->H b=none->H' b=none)
 (there:∀ b o,b∉ch->s.heap.get? b=some o->∃ o',h'.get? b=some o')
 (tups:∀ b xs,H b=some (.tup xs)->H' b=some (.tup xs)) (frzs:∀ b o u,H b=some (.frz o u)->H' b=some (.frz o u)) (tbls:∀ b ps,H b=some (.tbl ps)->∃ more,H' b=some (.tbl (ps++more)))
 (ns:∀ m,s.heap.Ns X.env.locals m->h'.Ns X.env.locals m) (hok:HOk X.prog X.w H' h') (hg:AllBare g') :
 Inv X pins σ H' { s with heap:=h',gens:=g',drawn:=d',toks:=t' }:=by
 have au:∀ b o,X.s₀.heap.get? b=some o->b≠X.env.locals:=λb o e=>aE9 (aE3 (aET e) I.ok.above);have O:∀ b o,X.s₀.heap.get? b=some o->b∉X.ex->b∉ch:=λb o e J Y=>by
  rcases (L b Y).1 with z | z
  .exact J z
  .exact absurd (aE3 (aET e) z) (le _)
 have cellK:∀ x c,X.env.cells.lookup x=some c->∀ v,s.heap.IsCell c v->h'.IsCell c v:=λx c e v ⟨o,ho,hd⟩=>by
  have M:c∉ch:=λz=>(L c z).2.2.1 x c e rfl
  by_cases hc:c∈X.fs
  .obtain⟨sl,q⟩:=slot c o (I.cne x c e) hc M ho (I.freeC x c e);exact⟨_,q,hd⟩
  .exact⟨o,keep c o (I.cne x c e) hc M ho (I.freeC x c e),hd⟩
 refine⟨I.ok,I.os,hg,⟨λb o e n Y J=>?_,λb o e n Y J=>?_,λb o e n J=>?_,λb o e J=>?_,λb xs e=>tups b xs (I.base.tups b xs e),λb o xs e=>frzs b o xs (I.base.frzs b o xs e),λb ps e=>?_⟩,?_,λx c e=>?_,?_,λx c e=>?_,λp hp=>?_,hok,I.len⟩
 .exact keep b o (au b o e) Y (O b o e J) (I.base.keep b o e n Y J) (I.base.free b o e n J)
 .obtain⟨sl,U⟩:=I.base.slot b o e n Y J;obtain⟨av,e2⟩:=slot b _ (au b o e) Y (O b o e J) U (I.base.free b o e n J);exact⟨av,e2⟩
 .obtain⟨o',U⟩:=I.base.there b o e J;exact free b o' (O b o e J) U (I.base.free b o e n J)
 .obtain⟨o',U⟩:=I.base.there b o e J;exact there b o' (O b o e J) U
 .obtain⟨m1,U⟩:=I.base.tbls b ps e;obtain⟨m2,e2⟩:=tbls b _ U;exact⟨m1++m2,by rw[e2,Array.append_assoc]⟩
 .obtain⟨m,hn,hl⟩:=I.loc;refine⟨m,ns m hn,λi x v U e2 e3=>?_⟩;obtain⟨u,r,l⟩:=hl i x v U e2 e3;refine⟨u,r,?_⟩;rcases l with l | ⟨k,c,e,z⟩
  .exact .inl l
  .exact .inr ⟨k,c,e,cellK x c e _ z⟩
 .obtain⟨v,z⟩:=I.cell x c e;exact⟨v,cellK x c e v z⟩
 .obtain⟨m,⟨o,_,_,ho,_⟩,_⟩:=I.loc;exact free _ o (λz=>(L _ z).2.1 rfl) ho I.free
 .obtain⟨v,o,ho,hd⟩:=I.cell x c e;exact free c o (λz=>(L c z).2.2.1 x c e rfl) ho (I.freeC x c e)
 .obtain⟨e,n,ne,nf,d⟩:=I.pin p hp;have M:p.1∉ch:=λz=>(L p.1 z).2.2.2 p hp rfl;exact⟨keep p.1 p.2 ne nf M e n,free p.1 p.2 M e n,ne,nf,d⟩
def Inv.un {t':Nat} (I:Inv X pins σ H s) (u:Un X.fs [] H H' s.heap h') (hok:HOk X.prog X.w H' h'):Inv X pins σ H' { s with heap:=h',toks:=t' }:=by
 obtain⟨m,⟨o,es,ep,ho,r⟩,_⟩:=id I.loc;obtain⟨sl,U⟩:=u.any ho I.free (by simp);exact I.step (g':=s.gens) (d':=s.drawn) (ch:=[]) (λ_ z=>nomatch z) (λb o _ L _ e n=>u.keep b o e n L (by simp)) (λb o _ L _ e n=>u.slot b o e n L (by simp)) (λb o _ e n=>u.free b o e n (by simp)) (λb o _ e=>u.there b o e (by simp)) u.tups u.frzs u.tbls (λm' Y=>by
  obtain⟨o',M,O,J,r'⟩:=Y;rw[ho]at J;cases J;exact⟨_,M,O,U,r'⟩) hok I.bare
def Inv.call {g':Array GenState} {t':Nat} {d':Drawn} {ch:List Addr} (I:Inv X pins σ H s) (u:Un (frs X.stack) ch H H' s.heap h') (hok:HOk X.prog X.w H' h') (hg:AllBare g')
 (L:∀ b∈ch,(b∈X.ex\/X.s₀.heap.objs.size<=b)/\b≠X.env.locals/\(∀ x c,X.env.cells.lookup x=some c->c≠b)/\∀ p∈X.pn++pins,p.1≠b) :
 Inv X pins σ H' { s with heap:=h',gens:=g',drawn:=d',toks:=t' }:=by
 obtain⟨m,⟨o,es,ep,ho,r⟩,_⟩:=id I.loc;obtain⟨sl,O⟩:=u.any ho I.free λz=>(L _ z).2.1 rfl;exact I.step (ch:=ch) L (λb o O hb J e n=>u.keep b o e n (λz=>(aEm.mp (I.stkSub b z)).elim O hb) J) (λb o _ _ J e n=>u.any e n J) (λb o J e n=>u.free b o e n J) (λb o J e=>u.there b o e J) u.tups u.frzs u.tbls (λm' hm=>by
  obtain⟨o',U,Y,M,r'⟩:=hm;rw[ho]at M;cases M;exact⟨_,U,Y,O,r'⟩) hok hg
def Inv.turned {t':Nat} {it:Addr} (I:Inv X pins σ H s) (k:∀ b o,b≠it->s.heap.get? b=some o->h'.get? b=some o) (O:H it=none) (M:it≠X.env.locals)
 (h1:it∈X.ex\/X.s₀.heap.objs.size<=it) (h2:∀ x c,X.env.cells.lookup x=some c->c≠it) (h3:∀ p∈X.pn++pins,p.1≠it):Inv X pins σ H { s with heap:=h',toks:=t' }:=by
 have L:∀ b u,H b=some u->b≠it:=λb u e z=>by rw[z,O]at e;cases e
 refine I.step (g':=s.gens) (d':=s.drawn) (ch:=[it]) (λb U=>?_) (λb o _ _ J e _=>k b o (λz=>J (by simp[z])) e) (λb o _ _ J e _=>⟨o.slots,k b o (λz=>J (by simp[z])) e⟩) (λ_ _ _ _ n=>n)
  (λb o J e=>⟨o,k b o (λz=>J (by simp[z])) e⟩) (λ_ _ e=>e) (λ_ _ _ e=>e) (λb ps e=>⟨#[],by rw[e];simp⟩) (λm Y=>?_) (λb u e=>?_) I.bare
 .have e:b=it:=by simpa using U
  subst e;exact⟨h1,M,h2,h3⟩
 .obtain⟨o,es,ep,ho,r⟩:=Y;exact⟨o,es,ep,k _ o (lq M) ho,r⟩
 .refine(I.hok b u e).stay (λc v J q=>k c v ?_ q) (λ_ q=>q) λ_ _ q=>q;rcases J with z | z
  .rw[z];exact L b u e
  .exact L c _ z
def Inv.tok (I:Inv X pins σ H s) (t:Nat):Inv X pins σ H { s with toks:=t }:=I.un (h':=s.heap) (t':=t) Un.refl I.hok
def Inv.kept {t':Nat} (I:Inv X pins σ H s) (k:∀ b u,s.heap.get? b=some u->h'.get? b=some u):Inv X pins σ H { s with heap:=h',toks:=t' }:=I.un (Un.kept k) (I.hok.kept k)
def Inv.laid {a:Addr} {o:HO} {t':Nat} (I:Inv X pins σ H s) (k:∀ b u,s.heap.get? b=some u->h'.get? b=some u) (z:s.heap.objs.size<=a) (J:ObjOk X.prog X.w (upd H a o) h' a o) :
 Inv X pins σ (upd H a o) { s with heap:=h',toks:=t' }:=I.un (Un.laid k z (I.hok.fresh z)) (I.hok.laid k z J)
def Inv.write {x e:Addr} {o:HO} {t':Nat} (I:Inv X pins σ H s) (L:Mut (H x)) (he:e=x\/H e=some (.own x)) (k:∀ b u,b≠e->s.heap.get? b=some u->h'.get? b=some u) (z:∃ u,h'.get? e=some u)
 (J:ObjOk X.prog X.w (upd H x o) h' x o):Inv X pins σ (upd H x o) { s with heap:=h',toks:=t' }:=I.un (Un.write L he k z) (I.hok.write L he k z J)
def Inv.weak {z:List (Option V)} (I:Inv X pins σ H s) (L:z.length=σ.length) (w:∀ (i:Nat) v,z[i]?=some (some v)->σ[i]?=some (some v)):Inv X pins z H s :=
 ⟨I.ok,I.os,I.bare,I.base,let ⟨m,M,J⟩:=I.loc;⟨m,M,λi x v O U Y=>J i x v O (w i v U) Y⟩,I.cell,I.free,I.freeC,I.pin,I.hok,L.trans I.len⟩
def Inv.pins_of {J:List (Addr×Obj)} (I:Inv X pins σ H s) (h:∀ p∈J,s.heap.get? p.1=some p.2/\H p.1=none/\p.1≠X.env.locals/\p.1∉X.fs/\∀ v,p.2.data≠.cell v):Inv X J σ H s :=
 ⟨I.ok,I.os,I.bare,I.base,I.loc,I.cell,I.free,I.freeC,λp L=>(aEn.mp L).elim (λz=>I.pin p (aE5 _ z)) (h p),I.hok,I.len⟩
def rL {N:List Str} (z:N.Nodup) {i j:Nat} {x:Str} (a:N[i]?=some x) (b:N[j]?=some x):i=j:=by
 obtain⟨h1,J⟩:=aEl.mp a;obtain⟨h2,L⟩:=aEl.mp b;exact(List.getElem_inj z).mp (J.trans L.symm)
def oN {M:Model} {A:Around} {E:Value->Shared->Prop} {i:Nat} {x:Str} {v:V} {u:Value} {Q:Unit->Shared->Prop} (I:Inv X pins σ H s) (hN:X.N.Nodup) (hi:X.N[i]?=some x) (L:Loc X.env.scope x) (r:RelV v u)
 (h:∀ s',Inv X pins (σ.set i (some v)) H s'->(∃ a,Heap.SameBut a s.heap s'.heap/\(a=X.env.locals\/X.env.cells.lookup x=some a))->Q () s') (hf:X.fn x=true\/X.env.scope.names.lookup x=some .local:=by first | exact .inl rfl | exact .inr rfl | assumption):wpAny M A (storeName X.env x u) Q E s:=by
 obtain⟨m,hn,hl⟩:=id I.loc;have av:(X.env.scope.kind == .class || (X.env.scope.kind == .module && X.env.locals != X.env.globals))=false:=by rw[I.ok.kind];rfl
 have Y:i<σ.length:=by rw[I.len];exact(aEl.mp hi).1
 have cne:=I.cne;have tracked:∀ {a:Addr} {h':Heap},(∃ o,s.heap.get? a=some o/\H a=none)->Heap.SameBut a s.heap h'->HOk X.prog X.w H h':=λ{a h'} ha hs b ob e=>by
  obtain⟨_,_,O⟩:=ha;refine(I.hok b ob e).stay (λc w' hc q=>(hs.2 c ?_).trans q) (λ_ q=>q) λ_ _ q=>q;rintro rfl;rcases hc with rfl | hc
  .rw[O]at e;cases e
  .rw[O]at hc;cases hc
 rcases L with hk | hk
 .refine wpAny_storeName_local hk hn (λh' a_ hs=>?_) av;obtain⟨oL,_,_,ba,_⟩:=id hn;refine h _ ⟨I.ok,I.os,I.bare,⟨λb o e n hb L=>?_,λb o e n hb L=>?_,I.base.free,λb o e L=>?_,I.base.tups,I.base.frzs,I.base.tbls⟩,⟨_,a_,λj y v' J U e3=>?_⟩,λy c e=>?_,I.free,I.freeC,λp hp=>?_,tracked ⟨oL,ba,I.free⟩ hs,by simpa using I.len⟩ ⟨_,hs,.inl rfl⟩
  .exact(hs.2 b (aE9 (aE3 (aET e) I.ok.above))).trans (I.base.keep b o e n hb L)
  .obtain⟨sl,J⟩:=I.base.slot b o e n hb L;exact⟨sl,(hs.2 b (aE9 (aE3 (aET e) I.ok.above))).trans J⟩
  .obtain⟨o',J⟩:=I.base.there b o e L;exact⟨o',(hs.2 b (aE9 (aE3 (aET e) I.ok.above))).trans J⟩
  .by_cases hj:j=i
   .subst hj;rw[hi]at J;cases J;rw[op Y]at U;cases U;exact⟨u,r,.inl ⟨hk,by simp⟩⟩
   .rw[lj (lq hj)]at U;obtain⟨u',r',q⟩:=hl j y v' J U e3;refine⟨u',r',?_⟩;rcases q with ⟨k,e⟩ | ⟨k,c,e,z⟩
    .refine .inl ⟨k,?_⟩;have:y≠x:=λe=>hj (rL hN J (e ▸ hi));simp[this,e]
    .exact .inr ⟨k,c,e,z.sameBut hs (cne y c e)⟩
  .obtain⟨w',z⟩:=I.cell y c e;exact⟨w',z.sameBut hs (cne y c e)⟩
  .obtain⟨e,n,ne,nf,d⟩:=I.pin p hp;exact⟨(hs.2 p.1 ne).trans e,n,ne,nf,d⟩
 .have au:X.fn x=true:=by
   rcases hf with z | z
   .exact z
   .rw[z]at hk;cases hk
  obtain⟨c,hc⟩:=I.ok.has x (.inl hk);obtain⟨w',z⟩:=I.cell x c hc;refine wpAny_storeName_cell I.ok.kind hk hc z (λh' aw hs=>?_);obtain⟨oc,ax,ay⟩:=id z;refine h { s with heap:=h' } ⟨I.ok,I.os,I.bare,⟨λb o e n hb L=>?_,λb o e n hb L=>?_,I.base.free,λb o e L=>?_,I.base.tups,I.base.frzs,I.base.tbls⟩,⟨m,hn.sameBut hs (lq (cne x c hc)),λj y v' J U e3=>?_⟩,λy c' e=>?_,I.free,I.freeC,λp hp=>?_,tracked ⟨oc,ax,I.freeC x c hc⟩ hs,by simpa using I.len⟩ ⟨c,hs,.inr hc⟩
  .exact(hs.2 b (aE9 (aE3 (aET e) (I.ok.cab x c au hc)))).trans (I.base.keep b o e n hb L)
  .obtain⟨sl,J⟩:=I.base.slot b o e n hb L;exact⟨sl,(hs.2 b (aE9 (aE3 (aET e) (I.ok.cab x c au hc)))).trans J⟩
  .obtain⟨o',J⟩:=I.base.there b o e L;exact⟨o',(hs.2 b (aE9 (aE3 (aET e) (I.ok.cab x c au hc)))).trans J⟩
  .by_cases hj:j=i
   .subst hj;rw[hi]at J;cases J;rw[op Y]at U;cases U;exact⟨u,r,.inr ⟨.inl hk,c,hc,aw⟩⟩
   .rw[lj (lq hj)]at U;obtain⟨u',r',q⟩:=hl j y v' J U e3;refine⟨u',r',?_⟩;rcases q with q | ⟨k,c',e,z'⟩
    .exact .inl q
    .refine .inr ⟨k,c',e,z'.sameBut hs ?_⟩;rintro rfl;exact hj (rL hN J (I.ok.inj _ _ _ e hc ▸ hi))
  .by_cases az:c'=c
   .subst az;exact⟨_,aw⟩
   .obtain⟨w2,z2⟩:=I.cell y c' e;exact⟨w2,z2.sameBut hs az⟩
  .obtain⟨e,n,ne,nf,d⟩:=I.pin p hp;refine⟨(hs.2 p.1 ?_).trans e,n,ne,nf,d⟩;intro q;rw[q,ax]at e;have q':oc=p.2:=jk e;exact d w' (by rw[<- q'];exact ay)
def rM {M:Model} {A:Around} {E:Value->Shared->Prop} {i:Nat} {x:Str} {v:V} {u:Value} {Q:Unit->Shared->Prop} (I:Inv X pins σ H s) (z:X.N.Nodup) (hi:X.N[i]?=some x) (J:Loc X.env.scope x) (r:RelV v u)
 (h:∀ s',Inv X pins (σ.set i (some v)) H s'->Q () s') (L:X.fn x=true\/X.env.scope.names.lookup x=some .local:=by first | exact .inl rfl | exact .inr rfl | assumption):wpAny M A (storeName X.env x u) Q E s :=
 oN I z hi J r (λs' O _=>h s' O) L
def Inv.call' {s':Shared} {ch:List Addr} (I:Inv X pins σ H s) (ho:s'.os=s.os) (u:Un (frs X.stack) ch H H' s.heap s'.heap) (hok:HOk X.prog X.w H' s'.heap) (J:AllBare s'.gens)
 (z:∀ b∈ch,(b∈X.ex\/X.s₀.heap.objs.size<=b)/\b≠X.env.locals/\(∀ x c,X.env.cells.lookup x=some c->c≠b)/\∀ p∈X.pn++pins,p.1≠b):Inv X pins σ H' s':=by
 obtain⟨h',g',d',t',o'⟩:=s';have e:o'=s.os:=ho;subst e;exact I.call (g':=g') (t':=t') (d':=d') u hok J z
end
abbrev XK:=Value->Option Addr->Hp->Prop
abbrev St:=List (Option V)
abbrev VK:=V->Hp->Prop
abbrev TE:=St->Hp->VK->Prop
abbrev TT:=St->Hp->(Bool->Hp->Prop)->Prop
abbrev TA:=St->Hp->(List V->Hp->Prop)->Prop
structure kI where
 nx:St->Hp->Prop
 rt:VK
 bk:St->Hp->Prop:=λ_ _=>False
 ct:St->Hp->Prop:=λ_ _=>False
abbrev TS:=kI->St->Hp->Prop
inductive EP (X:Cx) (pins:List (Addr×Obj)) (σ:St) (Q:VK) (u:Value) (s':Shared):Prop
 | mk (v:_) (H':_) (h0_:Inv X pins σ H' s') (h1_:RelV v u) (h2_:Q v H'):EP X pins σ Q u s'
def TP (X:Cx) (pins:List (Addr×Obj)) (σ:St) (Q:Bool->Hp->Prop) (b:Bool) (s':Shared):Prop:=∃ H',Inv X pins σ H' s'/\Q b H'
inductive AP (X:Cx) (pins:List (Addr×Obj)) (σ:St) (Q:List V->Hp->Prop) (us:List Value) (s':Shared):Prop
 | mk (vs:_) (H':_) (h0_:Inv X pins σ H' s') (h1_:Vals vs us) (h2_:Q vs H'):AP X pins σ Q us s'
def SP (X:Cx) (pins:List (Addr×Obj)) (D:kI) (f:Flow) (s':Shared):Prop :=
 match f with
 | .next=>∃ z H',Inv X pins z H' s'/\D.nx z H'
 | .brk=>∃ z H',Inv X pins z H' s'/\D.bk z H'
 | .cont=>∃ z H',Inv X pins z H' s'/\D.ct z H'
 | .ret u=>∃ v z H',Inv X pins z H' s'/\RelV v u/\D.rt v H'
def PE (X:Cx) (e:Expr) (t:TE):Prop :=
 ∀ (pins:List (Addr×Obj)) (s:Shared) (σ:St) (H:Hp) (Q:VK),Inv X pins σ H s->t σ H Q->wpAny (model X.prog X.w) X.A (eval e X.env) (EP X pins σ Q) X.xe s
def PT (X:Cx) (e:Expr) (t:TT):Prop :=
 ∀ (pins:List (Addr×Obj)) (s:Shared) (σ:St) (H:Hp) (Q:Bool->Hp->Prop),Inv X pins σ H s->t σ H Q->wpAny (model X.prog X.w) X.A (isTrue e X.env (eval e X.env)) (TP X pins σ Q) X.xe s
def PW (X:Cx) (e:Expr) (t:TT):Prop :=
 ∀ (whole:Sem Value) (pins:List (Addr×Obj)) (s:Shared) (σ:St) (H:Hp) (Q:Bool->Hp->Prop),Inv X pins σ H s->t σ H Q->wpAny (model X.prog X.w) X.A (isTrue e X.env whole) (TP X pins σ Q) X.xe s
def PW.pt {X:Cx} {e:Expr} {t:TT} (h:PW X e t):PT X e t:=h _
def PA (X:Cx) (es:List Expr) (t:TA):Prop :=
 ∀ (pos:Pos) (pins:List (Addr×Obj)) (s:Shared) (σ:St) (H:Hp) (Q:List V->Hp->Prop),Inv X pins σ H s->t σ H Q->wpAny (model X.prog X.w) X.A (spliced (backTo pos (starEach es X.env))) (AP X pins σ Q) X.xe s
def PS (X:Cx) (st:Stmt) (t:TS):Prop :=
 ∀ (pins:List (Addr×Obj)) (s:Shared) (σ:St) (H:Hp) (D:kI),Inv X pins σ H s->t D σ H->wpAny (model X.prog X.w) X.A (exec st X.env) (SP X pins D) X.xe s
def PSs (X:Cx) (st:List Stmt) (t:TS):Prop :=
 ∀ (pins:List (Addr×Obj)) (s:Shared) (σ:St) (H:Hp) (D:kI),Inv X pins σ H s->t D σ H->wpAny (model X.prog X.w) X.A (execs st X.env) (SP X pins D) X.xe s
def thn {z:Type} {t:Sem z} {Q J:z->Shared->Prop} {M:Model} {A:Around} {E:Value->Shared->Prop} {s:Shared} (h:wpAny M A t Q E s) (L:∀ a s,Q a s->J a s):wpAny M A t J E s:=eu h L λ_ _ x=>x
section
variable {X:Cx}
inductive a5 (i:Nat) (σ:St) (H:Hp) (Q:VK):Prop
 | mk (v:_) (h0_:σ[i]?=some (some v)) (h1_:Q v H):a5 i σ H Q
def aCk (i:Nat):TE:=fun σ H Q=>a5 i σ H Q
def tC (v:V):TE:=λ_ H Q=>Q v H
def aBe {i:Nat} {x:Str} {pos:Pos} (O:X.N[i]?=some x) (U:Vis X.env.scope x) (hd:(x == ("__debug__":Str))=false:=by decide) (L:(x == ("__classdict__":Str))=false:=by decide):PE X (.Name x pos) (aCk i):=by
 intro pins s σ H Q I h;obtain⟨v,e,h⟩:=h;obtain⟨m,Y,hl⟩:=I.loc;obtain⟨u,r,l⟩:=hl i x v O e U;have J:EP X pins σ Q u s:=⟨v,H,I,r,h⟩;rcases l with ⟨hk,hm⟩ | ⟨hk,c,M,z⟩
 .exact qq (pk I.ok.kind hk Y hm J) hd
 .rcases hk with hk | hk
  .exact qq (qa I.ok.kind hk M z J) hd
  .exact qq (wpAny_loadName_free I.ok.kind hk M z J L) hd
def aQ {i j pos}:PE X (.Constant (.int i) j pos) (tC (.int i)):=λ_ _ _ H _ I h=>wpAny_Constant_int ⟨.int i,H,I.tok _,⟨_,rfl⟩,h⟩
def mL {b j pos}:PE X (.Constant (.bool b) j pos) (tC (.bl b)):=λ_ _ _ H _ I h=>Constant_bool ⟨.bl b,H,I,rfl,h⟩
def fV {j pos}:PE X (.Constant .none j pos) (tC .non):=λ_ _ _ H _ I h=>Constant_none ⟨.non,H,I,rfl,h⟩
def aP {x j pos}:PE X (.Constant (.str x) j pos) (tC (.str x)):=λ_ _ _ H _ I h=>Calls.Constant_str ⟨.str x,H,I.tok _,⟨_,rfl⟩,h⟩
def Gl (X:Cx) (x:Str):Prop:=X.env.kindOf x=some .globalImplicit
def eG {E:Value->Shared->Prop} {pins:List (Addr×Obj)} {s:Shared} {σ:St} {H:Hp} {x:Str} {u:Value} {pos:Pos} {Q:Value->Shared->Prop} (I:Inv X pins σ H s) (z:Gl X x) (J:X.mg x=some u) (h:Q u s)
 (hd:(x == ("__debug__":Str))=false:=by decide):wpAny (model X.prog X.w) X.A (eval (.Name x pos) X.env) Q E s :=
 kx I.ok.kind z (oa (by rw[I.ok.glob];exact I.mod.glob.keeps I.bk) J h) hd
def mW {E:Value->Shared->Prop} {pins:List (Addr×Obj)} {s:Shared} {σ:St} {H:Hp} {x:Str} {u:Value} {pos:Pos} {Q:Value->Shared->Prop} (I:Inv X pins σ H s) (z:Gl X x) (J:X.mg x=none) (L:bootBuiltins x=some u) (h:Q u s)
 (M:x≠"__name__":=by decide) (hd:(x == ("__debug__":Str))=false:=by decide):wpAny (model X.prog X.w) X.A (eval (.Name x pos) X.env) Q E s:=by
 obtain⟨O,h1,h2⟩:=I.mod.blt;exact kx I.ok.kind z (Calls.loadGlobal_builtin (by rw[I.ok.glob];exact I.mod.glob.keeps I.bk) J (by rw[I.ok.blt];exact h1.keeps I.bk) ((h2 x M).trans L) h) hd
def dJ {x:Str} {v:V} {u:Value} {pos:Pos} (z:Gl X x) (J:X.mg x=some u) (r:RelV v u) (hd:(x == ("__debug__":Str))=false:=by decide):PE X (.Name x pos) (tC v) :=
 λ_ _ _ H _ I h=>eG I z J ⟨v,H,I,r,h⟩ hd
def iI {x:Str} {v:V} {u:Value} {pos:Pos} (z:Gl X x) (J:X.mg x=none) (L:bootBuiltins x=some u) (r:RelV v u) (M:x≠"__name__":=by decide) (hd:(x == ("__debug__":Str))=false:=by decide):PE X (.Name x pos) (tC v) :=
 λ_ _ _ H _ I h=>mW I z J L ⟨v,H,I,r,h⟩ M hd
variable {a b:Expr} {ta tb:TE} {pos:Pos}
def PC (X:Cx) (L:CmpOp) (a b:Expr) (t:TE):Prop :=
 ∀ (pins:List (Addr×Obj)) (s:Shared) (σ:St) (H:Hp) (Q:VK),Inv X pins σ H s->t σ H Q ->
  wpAny (model X.prog X.w) X.A (eval a X.env) (λv z=>wpAny (model X.prog X.w) X.A (eval b X.env) (λu J=>wpAny (model X.prog X.w) X.A (compareOp L v u) (EP X pins σ Q) X.xe J) X.xe z) X.xe s
def a6 (b:Expr) {z:CmpOp} (h:z≠.In) (h2:z≠.NotIn):behindInMarks z b=false:=by
 have J:(z == CmpOp.In)=false:=by cases z <;> first | rfl | exact absurd rfl h
 have L:(z == CmpOp.NotIn)=false:=by cases z <;> first | rfl | exact absurd rfl h2
 cases b <;> simp[behindInMarks,J,L]
inductive aCl (Q:Bool->Hp->Prop) (x:V) (H1:Hp):Prop
 | mk (c:_) (h0_:x=.bl c) (h1_:Q c H1):aCl Q x H1
def tB (t:TE):TT:=fun σ H Q=>t σ H λx H1=>aCl Q x H1
def wP {z:CmpOp} {t:TE} (h:PC X z a b t) (h1:behindInMarks z b=false:=by first | exact a6 _ (by decide) (by decide) | rfl):PT X (.Compare a [z] [b] pos) (tB t):=by
 intro pins s σ H Q I hw;refine sj (thn (h pins s σ H _ I hw) λv M h1=>thn h1 λu O h2=>thn h2 λc U ⟨x,H1,J,r1,L⟩=>?_) h1;obtain⟨d,rfl,q⟩:=L;cases r1;exact km ⟨H1,J,q⟩
variable {tA ar:TT} {rest:List Expr}
def aDg (t u:TT):TT:=fun σ H Q=>t σ H λc H1=>if c=true then u σ H1 Q else Q false H1
def tOr (t u:TT):TT:=fun σ H Q=>t σ H λc H1=>if c=true then Q true H1 else u σ H1 Q
def aDh (t:TT):TT:=fun σ H Q=>t σ H λc H1=>Q (!c) H1
def aA8 (z:PT X a tA):PW X (.BoolOp .And [a] pos) tA:=by
 intro J pins s σ H Q I h;refine isTrue_and (thn (z pins s σ H Q I h) λc L e=>?_);cases c with
 | true=>exact isTrue_and_nil e
 | false=>exact e
def rN (z:PT X a tA):PW X (.BoolOp .Or [a] pos) tA:=by
 intro J pins s σ H Q I h;refine isTrue_or (thn (z pins s σ H Q I h) λc L e=>?_);cases c with
 | false=>exact isTrue_or_nil e
 | true=>exact e
def aBf (L:PT X a tA) (M:PW X (.BoolOp .And (b :: rest) pos) ar):PW X (.BoolOp .And (a :: b :: rest) pos) (aDg tA ar):=by
 intro O pins s σ H Q I h;refine isTrue_and (thn (L pins s σ H _ I h) λc U ⟨H1,z,J⟩=>?_);cases c with
 | true=>exact M O pins U σ H1 Q z J
 | false=>exact⟨H1,z,J⟩
def yT (L:PT X a tA) (M:PW X (.BoolOp .Or (b :: rest) pos) ar):PW X (.BoolOp .Or (a :: b :: rest) pos) (tOr tA ar):=by
 intro O pins s σ H Q I h;refine isTrue_or (thn (L pins s σ H _ I h) λc U ⟨H1,z,J⟩=>?_);cases c with
 | true=>exact⟨H1,z,J⟩
 | false=>exact M O pins U σ H1 Q z J
def jM (z:PT X a tA):PT X (.UnaryOp .Not a pos) (aDh tA):=by
 intro pins s σ H Q I h;exact isTrue_not (z pins s σ H (λc H1=>Q (!c) H1) I h)
inductive M5 (tb:TE) (σ:St) (Q:VK) (x:V) (H1:Hp):Prop
 | mk (c:_) (h0_:x=.bl c) (h1_:if c=true then tb σ H1 Q else Q (.bl false) H1):M5 tb σ Q x H1
def aCm (ta tb:TE):TE:=fun σ H Q=>ta σ H λx H1=>M5 tb σ Q x H1
inductive a7 (tb:TE) (σ:St) (Q:VK) (x:V) (H1:Hp):Prop
 | mk (c:_) (h0_:x=.bl c) (h1_:if c=true then Q (.bl true) H1 else tb σ H1 Q):a7 tb σ Q x H1
def aDi (ta tb:TE):TE:=fun σ H Q=>ta σ H λx H1=>a7 tb σ Q x H1
inductive M6 (Q:VK) (x:V) (H1:Hp):Prop
 | mk (c:_) (h0_:x=.bl c) (h1_:Q (.bl (!c)) H1):M6 Q x H1
def aCn (ta:TE):TE:=fun σ H Q=>ta σ H λx H1=>M6 Q x H1
def wQ {z} {t:TE} (h:PE X a t):PE X (.BoolOp z [a] pos) t:=λpins s σ H Q I hw=>BoolOp_one (h pins s σ H Q I hw)
def wR (L:PE X a ta) (M:PE X (.BoolOp .And (b :: rest) pos) tb):PE X (.BoolOp .And (a :: b :: rest) pos) (aCm ta tb):=by
 intro pins s σ H Q I h;refine BoolOp_and (thn (L pins s σ H _ I h) λv O ⟨x,H1,J,r1,z⟩=>?_);obtain⟨c,rfl,z⟩:=z;cases r1;refine km ?_;cases c with
 | true=>exact M pins O σ H1 Q J z
 | false=>exact⟨.bl false,H1,J,rfl,z⟩
def aCo (L:PE X a ta) (M:PE X (.BoolOp .Or (b :: rest) pos) tb):PE X (.BoolOp .Or (a :: b :: rest) pos) (aDi ta tb):=by
 intro pins s σ H Q I h;refine BoolOp_or (thn (L pins s σ H _ I h) λv O ⟨x,H1,J,r1,z⟩=>?_);obtain⟨c,rfl,z⟩:=z;cases r1;refine km ?_;cases c with
 | false=>exact M pins O σ H1 Q J z
 | true=>exact⟨.bl true,H1,J,rfl,z⟩
def aBg (J:PE X a ta):PE X (.UnaryOp .Not a pos) (aCn ta):=by
 intro pins s σ H Q I h;refine UnaryOp_ (thn (J pins s σ H _ I h) λv M ⟨x,H1,L,r1,z⟩=>?_);obtain⟨c,rfl,z⟩:=z;cases r1;exact not_of (km ⟨.bl (!c),H1,L,rfl,z⟩)
def tIf (t:TT) (ta tb:TE):TE:=fun σ H Q=>t σ H λc H1=>if c=true then ta σ H1 Q else tb σ H1 Q
def iZ {c:Expr} (M:PT X c tA) (O:PE X a ta) (U:PE X b tb):PE X (.IfExp c a b pos) (tIf tA ta tb):=by
 intro pins s σ H Q I h;refine wpAny_IfExp (thn (M pins s σ H _ I h) λd z ⟨H1,J,L⟩=>?_);cases d with
 | true=>exact O pins z σ H1 Q J L
 | false=>exact U pins z σ H1 Q J L
end
def SqL (K:PySem.W.Frag) (H:Hp) (a:Addr) (xs:List V):Prop :=
 Rd H a (.lst xs) \/
  ∃ (o:Obj) (z:Array Value) (n:Nat),K.lookup a=some o/\o.cls=.type "list"/\o.dict=none/\o.data=.seq z n/\z.size<=sizeLine/\Vals xs z.toList
def SqT (K:PySem.W.Frag) (H:Hp) (a:Addr) (xs:List V):Prop :=
 Rd H a (.tup xs) \/
  ∃ (o:Obj) (z:Array Value) (n:Nat),K.lookup a=some o/\o.cls=.type "tuple"/\o.data=.seq z n/\z.size<=sizeLine/\Vals xs z.toList
def aDj:Value->Option V
 | .none=>some .non
 | .bool b=>some (.bl b)
 | .int i _=>some (.int i)
 | .str x _=>some (.str x)
 | .bytes b _=>some (.byt b)
 | .float b _=>some (.flt b)
 | .ref a=>some (.ref a)
 | .type n=>some (.ty n)
 | _=>none
def RelV.abs {x:V} {u:Value} (r:RelV x u):aDj u=some x:=by
 cases x with
 | non=>cases r;rfl
 | bl _=>cases r;rfl
 | int _=>obtain⟨t,rfl⟩:=r;rfl
 | str _=>obtain⟨t,rfl⟩:=r;rfl
 | byt _=>obtain⟨t,rfl⟩:=r;rfl
 | flt _=>obtain⟨t,rfl⟩:=r;rfl
 | ref _=>cases r;rfl
 | ty _=>cases r;rfl
def RelV.inj {x y:V} {u:Value} (r:RelV x u) (q:RelV y u):x=y:=jk (r.abs.symm.trans q.abs)
def Vals.inj:∀ {xs ys:List V} {us:List Value},Vals xs us->Vals ys us->xs=ys
 | _,_,_,.nil,.nil=>rfl
 | _,_,_,.cons r t,.cons z t'=>by rw[r.inj z,Vals.inj t t']
section
variable {X:Cx} {pins:List (Addr×Obj)} {σ:St} {H:Hp} {s:Shared} {a:Addr} {xs ys:List V}
def SqL.of {K:PySem.W.Frag} (h:H a=some (.lst xs)):SqL K H a xs:=.inl (.inl h)
def SqT.of {K:PySem.W.Frag} (h:H a=some (.tup xs)):SqT K H a xs:=.inl (.inl h)
def Inv.list (I:Inv X pins σ H s) (h:SqL X.K H a xs):∃ J:List Value,Vals xs J/\PlainL s.heap a J.toArray/\xs.length<=sizeLine:=by
 rcases h with h | ⟨o,J,n,L,M,hd,hs,O,r⟩
 .obtain⟨z,J,n,r,e⟩:=h.ok I.hok;exact⟨J,r,⟨_,n,e,rfl,rfl,rfl⟩,z⟩
 .refine⟨J.toList,r,⟨o,n,I.kIn a o L,M,hd,by simpa using hs⟩,?_⟩;have e:=r.length;simp only[jt]at e
  lia
def Inv.tuple (I:Inv X pins σ H s) (h:SqT X.K H a xs):∃ J:List Value,Vals xs J/\IsTup s.heap a J.toArray/\xs.length<=sizeLine:=by
 rcases h with h | ⟨o,J,n,L,M,hs,O,r⟩
 .obtain⟨z,J,r,p⟩:=h.ok I.hok;exact⟨J,r,p,z⟩
 .refine⟨J.toList,r,⟨o,I.kIn a o L,M,n,by simpa using hs⟩,?_⟩;have e:=r.length;simp only[jt]at e
  lia
def Inv.list_inj (I:Inv X pins σ H s) (h:SqL X.K H a xs) (h':SqL X.K H a ys):xs=ys:=by
 obtain⟨z,r,⟨o,n,e,_,_,d⟩,_⟩:=I.list h;obtain⟨its',L,⟨o',O,J,_,_,d'⟩,_⟩:=I.list h';rw[e]at J;cases J;rw[d]at d'
 injection d' with M _
 have:z=its':=by simpa using congrArg Array.toList M
 subst this;exact r.inj L
def Inv.tuple_inj (I:Inv X pins σ H s) (h:SqT X.K H a xs) (h':SqT X.K H a ys):xs=ys:=by
 obtain⟨z,r,⟨o,e,_,n,d⟩,_⟩:=I.tuple h;obtain⟨its',L,⟨o',J,_,O,d'⟩,_⟩:=I.tuple h';rw[e]at J;cases J;rw[d]at d'
 injection d' with M _
 have:z=its':=by simpa using congrArg Array.toList M
 subst this;exact r.inj L
end
abbrev Cx.wish (X:Cx) (E:Value->Shared->Prop):Cx:={ X with xe:=E }
abbrev Cx.nox (X:Cx):Cx:=X.wish λ_ _=>False
def Cx.Ok.wish {X:Cx} (ok:X.Ok) (E:Value->Shared->Prop):(X.wish E).Ok :=
 ⟨ok.mod,ok.kind,ok.glob,ok.blt,ok.above,ok.inj,ok.has,ok.cab,ok.hd,ok.frames,ok.stk,ok.exf,ok.bs,ok.bsz,ok.noex,ok.exfs,ok.funs,ok.frf⟩
def Cx.Ok.unwish {X:Cx} {E:Value->Shared->Prop} (ok:(X.wish E).Ok):X.Ok :=
 ⟨ok.mod,ok.kind,ok.glob,ok.blt,ok.above,ok.inj,ok.has,ok.cab,ok.hd,ok.frames,ok.stk,ok.exf,ok.bs,ok.bsz,ok.noex,ok.exfs,ok.funs,ok.frf⟩
section
variable {X:Cx} {pins:List (Addr×Obj)} {σ:St} {H:Hp} {s:Shared} {E:Value->Shared->Prop}
def Inv.wish (I:Inv X pins σ H s) (E:Value->Shared->Prop):Inv (X.wish E) pins σ H s:=⟨I.ok.wish E,I.os,I.bare,I.base,I.loc,I.cell,I.free,I.freeC,I.pin,I.hok,I.len⟩
def Inv.unwish (I:Inv (X.wish E) pins σ H s):Inv X pins σ H s:=⟨I.ok.unwish,I.os,I.bare,I.base,I.loc,I.cell,I.free,I.freeC,I.pin,I.hok,I.len⟩
def SP.unwish {D:kI} {f:Flow} {s':Shared} (h:SP (X.wish E) pins D f s'):SP X pins D f s':=by
 cases f with
 | next=>obtain⟨z,H',I,q⟩:=h;exact⟨z,H',I.unwish,q⟩
 | brk=>obtain⟨z,H',I,q⟩:=h;exact⟨z,H',I.unwish,q⟩
 | cont=>obtain⟨z,H',I,q⟩:=h;exact⟨z,H',I.unwish,q⟩
 | ret u=>obtain⟨v,z,H',I,r,q⟩:=h;exact⟨v,z,H',I.unwish,r,q⟩
def PSs.nox {st:List Stmt} {t:TS} (h:PSs X.nox st t):PSs X st t:=λpins s σ H D I hw =>
 eu (h pins s σ H D (I.wish _) hw) (λ_ _ q=>q.unwish) λ_ _ z=>False.elim z
end
section
variable {X:Cx} {st:Stmt} {rest:List Stmt} {t u:TS} {e:Expr} {te:TE} {pos:Pos}
def aCp:TS:=λD σ H=>D.nx σ H
def aDk (t u:TS):TS:=λD σ H=>t { D with nx:=u D } σ H
def aW:PSs X [] aCp:=λ_ _ σ H _ I h=>mv ⟨σ,H,I,h⟩
def aE (h1:PS X st t) (h2:PSs X rest u):PSs X (st :: rest) (aDk t u):=by
 intro pins s σ H D I h;refine ml (thn (h1 pins s σ H { D with nx:=u D } I h) λf J q=>?_);cases f with
 | next =>
  obtain⟨z,H',L,q⟩:=q;exact h2 pins J z H' D L q
 | ret v=>exact q
 | brk=>exact q
 | cont=>exact q
def aI (h1:PS X st t):PSs X [st] t:=by
 intro pins s σ H D I h;refine ml (thn (h1 pins s σ H D I h) λf z q=>?_);cases f with
 | next=>exact mv q
 | ret v=>exact q
 | brk=>exact q
 | cont=>exact q
def Inv.quiet {pins:List (Addr×Obj)} {σ:St} {H:Hp} {s:Shared} (I:Inv X pins σ H s):interactive X.env=false:=by simp[interactive,I.ok.kind]
def aCq (te:TE):TS:=λD σ H=>te σ H λ_ H1=>D.nx σ H1
def bG (he:PE X e te) (hs:swapsWith e none pos.line X.env=pure false:=by rfl):PS X (.Expr e pos) (aCq te):=by
 intro pins s σ H D I h;exact wpAny_Expr_any (thn (he pins s σ H _ I h) λv L ⟨x,H1,z,r1,J⟩=>⟨σ,H1,z,J⟩) I.quiet hs
def aCr (te:TE):TS:=λD σ H=>te σ H D.rt
def bA (he:PE X e te):PS X (.Return (some e) pos) (aCr te):=by
 intro pins s σ H D I h;exact wpAny_Return_some (thn (he pins s σ H _ I h) λv L ⟨x,H1,z,r1,J⟩=>⟨x,σ,H1,z,r1,J⟩)
def aDl (c:TT) (t u:TS):TS:=λD σ H=>c σ H λb H1=>if b=true then t D σ H1 else u D σ H1
def bM {c:Expr} {a b:List Stmt} {tc:TT} (M:PT X c tc) (O:PSs X a t) (U:PSs X b u):PS X (.If c a b pos) (aDl tc t u):=by
 intro pins s σ H D I h;refine wpAny_If (thn (M pins s σ H _ I h) λd z ⟨H1,J,L⟩=>?_);cases d with
 | true=>exact O pins z σ H1 D J L
 | false=>exact U pins z σ H1 D J L
def aBh:TS:=λ_ _ _=>False
def bK:PS X st aBh:=λ_ _ _ _ _ _ h=>h.elim
end
abbrev TG:=V->St->Hp->(St->Hp->Prop)->Prop
abbrev TGs:=List V->St->Hp->(St->Hp->Prop)->Prop
def PG (X:Cx) (target:Expr) (t:TG):Prop :=
 ∀ (pins:List (Addr×Obj)) (s:Shared) (σ:St) (H:Hp) (v:V) (u:Value) (Q:St->Hp->Prop),Inv X pins σ H s->RelV v u->t v σ H Q ->
  wpAny (model X.prog X.w) X.A (assign target X.env u) (λ_ s'=>∃ z H',Inv X pins z H' s'/\Q z H') X.xe s
def PGs (X:Cx) (ts:List Expr) (t:TGs):Prop :=
 ∀ (pins:List (Addr×Obj)) (s:Shared) (σ:St) (H:Hp) (vs:List V) (us:List Value) (Q:St->Hp->Prop),Inv X pins σ H s->Vals vs us->t vs σ H Q ->
  wpAny (model X.prog X.w) X.A (assignInOrder ((assignEach ts X.env).map (·.2)) us) (λ_ s'=>∃ z H',Inv X pins z H' s'/\Q z H') X.xe s
abbrev TIp:=V->V->Hp->VK->Prop
def PIp (X:Cx) (z:Operator) (t:TIp):Prop :=
 ∀ (pins:List (Addr×Obj)) (s:Shared) (σ:St) (H:Hp) (x y:V) (v u:Value) (Q:VK),Inv X pins σ H s->RelV x v->RelV y u->t x y H Q ->
  wpAny (model X.prog X.w) X.A (inplaceOp z v u) (EP X pins σ Q) X.xe s
section
variable {X:Cx} {pos:Pos}
def vG (i:Nat):TG:=λv σ H Q=>Q (σ.set i (some v)) H
def aS {i:Nat} {x:Str} (z:X.N.Nodup) (hi:X.N[i]?=some x) (J:Loc X.env.scope x) (L:X.fn x=true\/X.env.scope.names.lookup x=some .local:=by first | exact .inl rfl | exact .inr rfl | assumption):PG X (.Name x pos) (vG i):=by
 intro pins s σ H v u Q I r h;exact wpAny_assign_Name (rM I z hi J r (λs' M=>⟨_,H,M,h⟩) L)
def aCs:TGs:=λvs σ H Q=>vs=[]/\Q σ H
inductive M7 (t:TG) (u:TGs) (vs:List V) (σ:St) (H:Hp) (Q:St->Hp->Prop):Prop
 | mk (v:_) (r:_) (h0_:vs=v :: r) (h1_:t v σ H fun σ' H'=>u r σ' H' Q):M7 t u vs σ H Q
def a8 (t:TG) (u:TGs):TGs:=λvs σ H Q=>M7 t u vs σ H Q
def cT:PGs X [] aCs:=by
 intro pins s σ H vs us Q I r h;obtain⟨e,h⟩:=h;subst e;cases r;exact assignInOrder_nil ⟨σ,H,I,h⟩
def aX {e:Expr} {es:List Expr} {t:TG} {u:TGs} (h1:PG X e t) (h2:PGs X es u)
 (hs:(assignEach (e :: es) X.env).map (·.2)=assign e X.env :: (assignEach es X.env).map (·.2):=by rfl):PGs X (e :: es) (a8 t u):=by
 intro pins s σ H vs us Q I r h;obtain⟨v,Y,J,h⟩:=h;subst J;cases r with
 | cons r L =>
  rw[hs];refine assignInOrder_cons (thn (h1 pins s σ H _ _ _ I r h) λ_ M ⟨z,H1,O,U⟩=>?_);exact h2 pins M z H1 _ _ Q O L U
inductive a9 (K:PySem.W.Frag) (n:Nat) (t:TGs) (v:V) (σ:St) (H:Hp) (Q:St->Hp->Prop):Prop
 | mk (a:_) (xs:_) (h0_:v=.ref a) (h1_:SqT K H a xs) (h2_:xs.length=n) (h3_:t xs σ H Q):a9 K n t v σ H Q
def aA9 (K:PySem.W.Frag) (n:Nat) (t:TGs):TG:=λv σ H Q=>a9 K n t v σ H Q
def fW {es:List Expr} {k:Nat} {t:TGs} {n:Nat} (J:X.calm=true) (h:PGs X es t)
 (L:(assignEach es X.env).length=n:=by rfl) (hst:(assignEach es X.env).findIdx? (·.1)=none:=by rfl):PG X (.Tuple es k pos) (aA9 X.K n t):=by
 intro pins s σ H v u Q I r hw;obtain⟨a,xs,M,O,U,hw⟩:=hw;subst M;cases r;obtain⟨Y,z,ht,hz⟩:=I.tuple O;refine assign_Tuple_tuple (I.ok.hd J) ht (by simp[L,<- U,z.length]) hst λh' hx=>?_;have I1:Inv X pins σ H { s with heap:=h' }:=I.kept (t':=s.toks) λb o e=>hx b o (aE9 (aET e)) e;exact h pins _ σ H xs _ Q I1 (by simpa using z) hw
def aAa (te:TE) (g:TG):TS:=λD σ H=>te σ H λx H1=>g x σ H1 D.nx
def eZ {tg e:Expr} {te:TE} {g:TG} (he:PE X e te) (z:PG X tg g) (hs:swapsWithSole [tg] e pos.line X.env=pure false:=by rfl) (hw:swappedStores [tg] e X.env=pure none:=by rfl)
 (h1:(assignEach [tg] X.env).map (·.2)=[assign tg X.env]:=by rfl):PS X (.Assign [tg] e pos) (aAa te g):=by
 intro pins s σ H D I h;refine wpAny_Assign_stores (thn (he pins s σ H _ I h) λv J ⟨x,H1,L,r1,M⟩=>?_) hs hw;rw[h1];exact thn (z pins J σ H1 x v _ L r1 M) λ_ O q=>q
def bL {i:Nat} {x:Str} {e:Expr} {te:TE} {pos':Pos} (z:X.N.Nodup) (hi:X.N[i]?=some x) (J:Loc X.env.scope x) (he:PE X e te) (hs:swapsWith e (some (.Name x pos')) pos.line X.env=pure false:=by rfl) (L:X.fn x=true\/X.env.scope.names.lookup x=some .local:=by first | exact .inl rfl | exact .inr rfl | assumption) :
 PS X (.Assign [.Name x pos'] e pos) (aAa te (vG i)):=by
 intro pins s σ H D I h;refine wpAny_Assign_Name (thn (he pins s σ H _ I h) λv Y ⟨y,H1,M,r1,O⟩=>?_) hs;exact rM M z hi J r1 (λs2 U=>⟨_,H1,U,O⟩) L
inductive b0 (i:Nat) (te:TE) (ti:TIp) (D:kI) (σ:St) (H:Hp):Prop
 | mk (x:_) (h0_:σ[i]?=some (some x)) (h1_:te σ H λy H1=>ti x y H1 λz H2=>D.nx (σ.set i (some z)) H2):b0 i te ti D σ H
def aDm (i:Nat) (te:TE) (z:TIp):TS:=λD σ H=>b0 i te z D σ H
def E5 {i:Nat} {x:Str} {e:Expr} {te:TE} {O:Operator} {ti:TIp} {pos':Pos} (hN:X.N.Nodup) (hi:X.N[i]?=some x) (U:Loc X.env.scope x) (he:PE X e te) (ho:PIp X O ti) (hf:X.fn x=true\/X.env.scope.names.lookup x=some .local:=by first | exact .inl rfl | exact .inr rfl | assumption) :
 PS X (.AugAssign (.Name x pos') O e pos) (aDm i te ti):=by
 intro pins s σ H D I h;obtain⟨v,e1,h⟩:=h;obtain⟨m,hn,hl⟩:=I.loc;have Y:Vis X.env.scope x:=by rcases U with k | k;exact .inl k;exact .inr (.inl k)
 obtain⟨u,r,l⟩:=hl i x v hi e1 Y;refine wpAny_AugAssign_Name ?_;have go:wpAny (model X.prog X.w) X.A (eval e X.env) (λw L=>wpAny (model X.prog X.w) X.A (inplaceOp O u w) (λr M=>wpAny (model X.prog X.w) X.A (storeName X.env x r) (λ_=>SP X pins D .next) X.xe M) X.xe L) X.xe s:=by
  refine thn (he pins s σ H _ I h) λw s1 ⟨y,H1,I1,r1,q1⟩=>?_;refine thn (ho pins s1 σ H1 v y u w _ I1 r r1 q1) λz s2 ⟨zv,H2,I2,r2,q2⟩=>?_;exact rM I2 hN hi U r2 (λs3 I3=>⟨_,H2,I3,q2⟩) hf
 rcases l with ⟨hk,hm⟩ | ⟨hk,c,hc,J⟩
 .exact pk I.ok.kind hk hn hm go
 .rcases hk with hk | hk
  .exact qa I.ok.kind hk hc J go
  .rcases U with k | k
   .have:X.env.scope.names.lookup x=some .free:=hk;rw[k]at this;cases this
   .have:X.env.scope.names.lookup x=some .free:=hk;rw[k]at this;cases this
def ipI (f:Int->Int->Int):TIp:=λx y H Q=>∃ i j,x=.int i/\y=.int j/\Q (.int (f i j)) H
def b5:PIp X .Add (ipI λi j=>i+j):=by
 intro pins s σ H x y v u Q I r1 r2 h;obtain⟨i,j,z,J,q⟩:=h;subst z;subst J;obtain⟨t,rfl⟩:=r1;obtain⟨t',rfl⟩:=r2;exact iadd_int ⟨.int _,H,I.tok _,⟨_,rfl⟩,q⟩
def aBi:PIp X .Sub (ipI λi j=>i - j):=by
 intro pins s σ H x y v u Q I r1 r2 h;obtain⟨i,j,z,J,q⟩:=h;subst z;subst J;obtain⟨t,rfl⟩:=r1;obtain⟨t',rfl⟩:=r2;exact isub_int ⟨.int _,H,I.tok _,⟨_,rfl⟩,q⟩
def b6 (c:TT) (tb:TS):TS:=λD σ H=>∃ W:Nat->St->Hp->Prop,(∃ m,W m σ H)/\∀ m σ H,W m σ H ->
 c σ H λb H1=>if b=true then ∃ N:St->Hp->Prop,(∀ z H',N z H'->∃ J,J<m/\W J z H')/\tb { D with nx:=N,ct:=N,bk:=D.nx } σ H1 else D.nx σ H1
def yU {c:Expr} {body:List Stmt} {tc:TT} {tb:TS} (hp:PassesOwn (model X.prog X.w) X.A X.env X.xe) (hc:PT X c tc) (hb:PSs X body tb):PS X (.While c body [] pos) (b6 tc tb):=by
 intro pins s σ H D I h;obtain⟨W,⟨m0,w0⟩,turn⟩:=h;refine wpAny_While (codeAny_whileLoop (λn s'=>∃ L H',Inv X pins L H' s'/\W n L H') ?_ m0 ⟨σ,H,I,w0⟩);rintro n s1 ⟨J,H1,I1,w1⟩;refine lr hp (thn (hc pins s1 J H1 _ I1 (turn n J H1 w1)) λb s2 ⟨H2,I2,O⟩=>?_);cases b with
 | true =>
  obtain⟨N,hN,O⟩:=O;rw[b4 rfl];refine lr hp (thn (hb pins s2 J H2 _ I2 O) λf s3 U=>?_);cases f with
  | next =>
   obtain⟨z,M,Y,n3⟩:=U;obtain⟨m',hm,w3⟩:=hN z M n3;exact⟨m',hm,z,M,Y,w3⟩
  | cont =>
   obtain⟨z,M,Y,n3⟩:=U;obtain⟨m',hm,w3⟩:=hN z M n3;exact⟨m',hm,z,M,Y,w3⟩
  | brk=>exact U
  | ret v=>exact U
 | false =>
  rw[b3 aEZ];exact mv ⟨J,H2,I2,O⟩
end
structure It where
 go:Nat->Hp->Prop
 yld:Nat->Hp->V->Hp->Prop
 stop:Nat->Hp->Prop
def qQ (X:Cx) (pins:List (Addr×Obj)) (H:Hp) (b:Addr):Prop :=
 H b=none/\b≠X.env.locals/\b∉X.fs/\(b∈X.ex\/X.s₀.heap.objs.size<=b)/\(∀ x c,X.env.cells.lookup x=some c->c≠b)/\∀ p∈X.pn++pins,p.1≠b
def Inv.fpOk {X:Cx} {pins:List (Addr×Obj)} {σ:St} {H H':Hp} {s:Shared} {b:Addr} (I:Inv X pins σ H s) (J:s.heap.objs.size<=b) (L:H' b=none):qQ X pins H' b:=by
 refine⟨L,aEc (aE3 I.lt J),I.nofs J,.inr (fy I.sz J),λx c e z=>?_,λp M z=>?_⟩
 .obtain⟨v,q⟩:=I.cell x c e;exact absurd (aE3 q.lt (by rw[z];exact J)) (le _)
 .exact absurd (aE3 (aET (I.pin p M).1) (by rw[z];exact J)) (le _)
structure wS (P:Program) (w:World) (K:PySem.W.Frag) (tg:Expr) (J:It) (fp:List Addr) (it:Addr) (tn:Nat->Heap->Prop):Prop where
 mem:it∈fp
 obj:∀ i h,tn i h->∀ b∈fp,∃ o,h.get? b=some o/\∀ v,o.data≠.cell v
 keep:∀ i h h',tn i h->(∀ b∈fp,∀ o,h.get? b=some o->h'.get? b=some o)->tn i h'
 item:∀ (X:Cx),X.prog=P->X.w=w->X.K=K->X.calm=true->∀ (i:Nat) (pins:List (Addr×Obj)) (s:Shared) (σ:St) (H:Hp) (E:Value->Shared->Prop),Inv X pins σ H s->(∀ b∈fp,qQ X pins H b)->tn i s.heap->J.go i H ->
  wpAny (model P w) X.A (pyNext (.ref it)) (λr s1=>∃ u,r=some u /\
   wpAny (model P w) X.A (letOwnedTupleGo tg (.ref it) u) (λ_ s2=>∃ x H',Inv X pins σ H' s2/\RelV x u/\J.yld i H x H'/\tn (i+1) s2.heap/\∀ b∈fp,H' b=none) E s1) E s
 done:∀ (X:Cx),X.prog=P->X.w=w->X.K=K->X.calm=true->∀ (i:Nat) (pins:List (Addr×Obj)) (s:Shared) (σ:St) (H:Hp) (E:Value->Shared->Prop),Inv X pins σ H s->(∀ b∈fp,qQ X pins H b)->tn i s.heap->J.stop i H ->
  wpAny (model P w) X.A (pyNext (.ref it)) (λr s1=>r=none/\Inv X pins σ H s1) E s
 self:∀ (A:Around) (i:Nat) (s:Shared) (Q:Value->Shared->Prop) (E:Value->Shared->Prop),tn i s.heap->Q (.ref it) s->wpAny (model P w) A (pyIter (.ref it)) Q E s
abbrev TI:=St->Hp->(It->Hp->Prop)->Prop
def PIE (X:Cx) (pins:List (Addr×Obj)) (σ:St) (tg:Expr) (R:It->Hp->Prop) (z:Value) (L:Shared):Prop :=
 ∃ (it:Addr) (fp:List Addr) (M:Nat->Heap->Prop) (J:It) (H':Hp),z=.ref it/\Inv X pins σ H' L/\wS X.prog X.w X.K tg J fp it M/\M 0 L.heap/\(∀ b∈fp,qQ X pins H' b)/\R J H'
def PI (X:Cx) (tg iter:Expr) (wi:TI):Prop :=
 ∀ (pins:List (Addr×Obj)) (s:Shared) (σ:St) (H:Hp) (R:It->Hp->Prop),Inv X pins σ H s->wi σ H R ->
  wpAny (model X.prog X.w) X.A (eval iter X.env) (λv z=>wpAny (model X.prog X.w) X.A (pyIter v) (PIE X pins σ tg R) X.xe z) X.xe s
def yV {M:Model} {A:Around} {E:Value->Shared->Prop} {s:Shared} {tg:Expr} {it:Addr} {u:Value} {o:Obj} {n:String} {vs:Array Value} {Q:Unit->Shared->Prop} (ho:s.heap.get? it=some o) (J:o.cls=.type n) (hd:o.data=.fields vs)
 (L:["enumerate","zip","dict_itemiterator","dict_reverseitemiterator","odict_iterator","itertools.zip_longest","itertools.pairwise"].contains n=false) (z:Q () s):wpAny M A (letOwnedTupleGo tg (.ref it) u) Q E s:=by
 unfold letOwnedTupleGo;cases tg <;> first
  | exact aEM z
  | (cases u <;> first
   | exact aEM z
   | (refine aEL (wpAny_load ho ?_)
      rw[J,hd];show wpAny M A (if (["enumerate","zip","dict_itemiterator","dict_reverseitemiterator","odict_iterator","itertools.zip_longest","itertools.pairwise"].contains n && vs[0]? == some (rawInt _))=true then _ else _) Q E s;rw[b3 (by intro h;rw[L,qo]at h;cases h)];exact aEM z))
def Itl (K:PySem.W.Frag) (a:Addr):It :=
 ⟨λi H=>∃ xs x,SqL K H a xs/\xs[i]?=some x,λi H x H'=>H'=H/\∀ xs,SqL K H a xs->xs[i]?=some x,λi H=>∃ xs,SqL K H a xs/\xs.length<=i⟩
def Itt (K:PySem.W.Frag) (a:Addr):It :=
 ⟨λi H=>∃ xs x,SqT K H a xs/\xs[i]?=some x,λi H x H'=>H'=H/\∀ xs,SqT K H a xs->xs[i]?=some x,λi H=>∃ xs,SqT K H a xs/\xs.length<=i⟩
def Itr (lo:Int) (n:Nat):It:=⟨λi _=>i<n,λi H x H'=>H'=H/\x=.int (lo+i),λi _=>n<=i⟩
def U7 {P:Program} {w:World} {K:PySem.W.Frag} {tg:Expr} (a it:Addr):wS P w K tg (Itl K a) [it] it (λi h=>h.IsListIter it a i) where
 mem:=by simp
 obj:=λi h st b hb=>by
  have e:b=it:=by simpa using hb
  subst e;obtain⟨o,e,c,d⟩:=st;exact⟨o,e,λv z=>by rw[d]at z;cases z⟩
 keep:=λi h h' st k=>st.at λo e=>k it (by simp) o e
 item:=by
  intro X hP hw hK hc i pins s σ H E I hf st hg;subst hP hw hK;obtain⟨xs,x,hq,hx⟩:=hg;obtain⟨its,rv,p,hz⟩:=I.list hq;obtain⟨u,hu,ru⟩:=rv.get hx;obtain⟨f0,f1,f2,f3,f4,f5⟩:=hf it (by simp);refine wpAny_pyNext_list_item st p.isList (x:=u) (by simpa using hu) λh' st' sb=>?_;have I1:Inv X pins σ H { s with heap:=h' }:=I.turned (t':=s.toks) (λb o hb e=>(sb.2 b hb).trans e) f0 f1 f3 f4 f5;obtain⟨o,e,c,d⟩:=id st';exact⟨u,rfl,yV (s:={ s with heap:=h' }) e c d (by decide) ⟨x,H,I1,ru,⟨rfl,λys hy=>by rw[I.list_inj hy hq];exact hx⟩,st',λb hb=>(hf b hb).1⟩⟩
 done:=by
  intro X hP hw hK hc i pins s σ H E I hf st hg;subst hP hw hK;obtain⟨xs,hq,hx⟩:=hg;obtain⟨its,rv,p,hz⟩:=I.list hq;obtain⟨f0,f1,f2,f3,f4,f5⟩:=hf it (by simp);have hl:=rv.length;exact wpAny_pyNext_list_end (I.ok.hd hc) st p.isList (by simp;lia) λh' eb=>⟨rfl,I.turned (t':=s.toks) (λb o hb e=>eb b o hb e) f0 f1 f3 f4 f5⟩
 self:=λ_ _ _ _ _ st h=>wpAny_pyIter_listiter st h
def E6 {P:Program} {w:World} {K:PySem.W.Frag} {tg:Expr} (a it:Addr):wS P w K tg (Itt K a) [it] it (λi h=>h.IsTupleIter it a i) where
 mem:=by simp
 obj:=λi h st b hb=>by
  have e:b=it:=by simpa using hb
  subst e;obtain⟨o,e,c,d⟩:=st;exact⟨o,e,λv z=>by rw[d]at z;cases z⟩
 keep:=λi h h' st k=>st.at λo e=>k it (by simp) o e
 item:=by
  intro X hP hw hK hc i pins s σ H E I hf st hg;subst hP hw hK;obtain⟨xs,x,hq,hx⟩:=hg;obtain⟨its,rv,p,hz⟩:=I.tuple hq;obtain⟨u,hu,ru⟩:=rv.get hx;obtain⟨f0,f1,f2,f3,f4,f5⟩:=hf it (by simp);refine wpAny_pyNext_tuple_item st (show s.heap.IsTuple a its.toArray from p) (x:=u) (by simpa using hu) λh' st' sb=>?_;have I1:Inv X pins σ H { s with heap:=h' }:=I.turned (t':=s.toks) (λb o hb e=>(sb.2 b hb).trans e) f0 f1 f3 f4 f5;obtain⟨o,e,c,d⟩:=id st';exact⟨u,rfl,yV (s:={ s with heap:=h' }) e c d (by decide) ⟨x,H,I1,ru,⟨rfl,λys hy=>by rw[I.tuple_inj hy hq];exact hx⟩,st',λb hb=>(hf b hb).1⟩⟩
 done:=by
  intro X hP hw hK hc i pins s σ H E I hf st hg;subst hP hw hK;obtain⟨xs,hq,hx⟩:=hg;obtain⟨its,rv,p,hz⟩:=I.tuple hq;obtain⟨f0,f1,f2,f3,f4,f5⟩:=hf it (by simp);have hl:=rv.length;exact wpAny_pyNext_tuple_end (I.ok.hd hc) st (show s.heap.IsTuple a its.toArray from p) (by simp;lia) λh' eb=>⟨rfl,I.turned (t':=s.toks) (λb o hb e=>eb b o hb e) f0 f1 f3 f4 f5⟩
 self:=λ_ _ _ _ _ st h=>wpAny_pyIter_tupleiter st h
def E7 {P:Program} {w:World} {K:PySem.W.Frag} {tg:Expr} (it:Addr) (lo:Int) (n:Nat):wS P w K tg (Itr lo n) [it] it (λi h=>IsRangeIter h it (lo+(i:Nat) * 1) ((n:Int) - (i:Nat)) 1) where
 mem:=by simp
 obj:=λi h st b hb=>by
  have e:b=it:=by simpa using hb
  subst e;exact⟨_,st,λv z=>by
   have z':Data.fields _=Data.cell v:=z;cases z'⟩
 keep:=λi h h' st k=>k it (by simp) _ st
 item:=by
  intro X hP hw hK hc i pins s σ H E I hf st hg;subst hP hw hK;obtain⟨f0,f1,f2,f3,f4,f5⟩:=hf it (by simp);have W:=Walks.range (prog:=X.prog) (w:=X.w) (I.ok.hd hc) it lo 1 n;refine W.item i s _ _ hg st λv h' tk hv st' kk=>?_;obtain⟨t,rfl⟩:=hv;have I1:Inv X pins σ H { s with heap:=h',toks:=tk }:=I.turned (λb o hb e=>kk b o (by simpa using hb) e) f0 f1 f3 f4 f5;refine⟨_,rfl,yV (s:={ s with heap:=h',toks:=tk }) (n:="range_iterator") st' rfl rfl (by decide) ⟨.int (lo+i),H,I1,⟨t,?_⟩,⟨rfl,rfl⟩,st',λb hb=>(hf b hb).1⟩⟩;rw[Int.mul_one]
 done:=by
  intro X hP hw hK hc i pins s σ H E I hf st hg;subst hP hw hK;obtain⟨f0,f1,f2,f3,f4,f5⟩:=hf it (by simp);exact wpAny_pyNext_range_end (I.ok.hd hc) st (by have:n<=i:=hg;lia) λh' eb=>⟨rfl,I.turned (t':=s.toks) (λb o hb e=>eb b o hb e) f0 f1 f3 f4 f5⟩
 self:=λ_ _ _ _ _ st h=>wpAny_pyIter_rangeiter st h
section
variable {X:Cx} {tg:Expr}
def aCt (K:PySem.W.Frag) (tl:TE):TI:=fun σ H R=>tl σ H λx H1=>∃ a,x=.ref a/\(∃ xs,SqL K H1 a xs)/\R (Itl K a) H1
def aDn (K:PySem.W.Frag) (tl:TE):TI:=fun σ H R=>tl σ H λx H1=>∃ a,x=.ref a/\(∃ xs,SqT K H1 a xs)/\R (Itt K a) H1
def fL {l:Expr} {tl:TE} (L:PE X l tl):PI X tg l (aCt X.K tl):=by
 intro pins s σ H R I h;refine thn (L pins s σ H _ I h) λv z ⟨x,H1,J,r1,M⟩=>?_;obtain⟨a,e,⟨xs,O⟩,q⟩:=M;subst e;cases r1;obtain⟨U,rv,p,hz⟩:=J.list O;refine qr p.isList ?_;refine⟨z.heap.objs.size,[z.heap.objs.size],_,_,H1,rfl,J.kept (t':=z.toks) λb o e=>aEO _ e,U7 a _,⟨_,aEU _ rfl,rfl,rfl⟩,λb Y=>?_,q⟩;have e:b=z.heap.objs.size:=by simpa using Y
 subst e;exact J.fpOk (ah _) (J.hok.fresh (ah _))
def aBj {l:Expr} {tl:TE} (M:PE X l tl):PI X tg l (aDn X.K tl):=by
 intro pins s σ H R I h;refine thn (M pins s σ H _ I h) λv z ⟨x,H1,J,r1,O⟩=>?_;obtain⟨a,e,⟨xs,U⟩,q⟩:=O;subst e;cases r1;obtain⟨L,rv,p,hz⟩:=J.tuple U;refine wpAny_pyIter_tuple (show z.heap.IsTuple a L.toArray from p) ?_;refine⟨z.heap.objs.size,[z.heap.objs.size],_,_,H1,rfl,J.kept (t':=z.toks) λb o e=>aEO _ e,E6 a _,⟨_,aEU _ rfl,rfl,rfl⟩,λb Y=>?_,q⟩;have e:b=z.heap.objs.size:=by simpa using Y
 subst e;exact J.fpOk (ah _) (J.hok.fresh (ah _))
def yW {pins:List (Addr×Obj)} {σ:St} {H:Hp} {s:Shared} {R:It->Hp->Prop} {E:Value->Shared->Prop} {lo hi:Int} {t u v:Tok} {z:Nat} (I:Inv X pins σ H s) (h1:-(2 ^ 62)<=lo) (h2:lo<2 ^ 62) (h3:-(2 ^ 62)<=hi) (h4:hi<2 ^ 62)
 (q:R (Itr lo (hi - lo).toNat) H):wpAny (model X.prog X.w) X.A (pyIter (.ref s.heap.objs.size)) (PIE X pins σ tg R) E { s with heap:=s.heap.push { cls:=.type "range",data:=.fields #[.int lo t,.int hi u,.int 1 v] },toks:=z }:=by
 refine wpAny_pyIter_range (IsRange.new ..) (small_one h1 h2 h3 h4) ?_;have J:Inv X pins σ H { s with heap:=s.heap.push { cls:=.type "range",data:=.fields #[.int lo t,.int hi u,.int 1 v] },toks:=z }:=I.kept λb o e=>aEO _ e;refine⟨(s.heap.push { cls:=.type "range",data:=.fields #[.int lo t,.int hi u,.int 1 v] }).objs.size,[(s.heap.push { cls:=.type "range",data:=.fields #[.int lo t,.int hi u,.int 1 v] }).objs.size],_,_,H,rfl,
  J.kept (t':=z) λb o e=>aEO _ e,E7 _ lo (hi - lo).toNat,?_,λb L=>?_,q⟩
 .have M:lo+((0:Nat):Int) * 1=lo:=by simp
  have O:(((hi - lo).toNat:Nat):Int) - ((0:Nat):Int)=Builtin.Range.rangeSize lo hi 1:=by rw[rangeSize_one];split <;> lia
  show IsRangeIter _ _ (lo+((0:Nat):Int) * 1) ((((hi - lo).toNat:Nat):Int) - ((0:Nat):Int)) 1;rw[M,O];exact aEU _ rfl
 .have e:b=(s.heap.push { cls:=.type "range",data:=.fields #[.int lo t,.int hi u,.int 1 v] }).objs.size:=by simpa using L
  subst e;exact J.fpOk (ah _) (J.hok.fresh (ah _))
def aCu (ta:TA):TI:=fun σ H R=>ta σ H λvs H1=>∃ j:Int,vs=[.int j]/\-(2 ^ 62)<=j/\j<2 ^ 62/\R (Itr 0 j.toNat) H1
def aCv (ta:TA):TI:=fun σ H R=>ta σ H λvs H1=>∃ i j:Int,vs=[.int i,.int j]/\(-(2 ^ 62)<=i/\i<2 ^ 62/\-(2 ^ 62)<=j/\j<2 ^ 62)/\R (Itr i (j - i).toNat) H1
def lQ {a:Expr} {ta:TA} {p pos:Pos} (J:Gl X "range") (L:X.mg "range"=none) (M:PA X [a] ta) (hs:starEach [a] X.env=[(false,eval a X.env)]:=by rfl):PI X tg (.Call (.Name "range" p) [a] [] pos) (aCu ta):=by
 intro pins s σ H R I h;refine Call_ (mW I J L boot_range (ko (thn (M pos pins s σ H _ I h) λus s1 ⟨vs,H1,O,r1,z⟩=>?_) hs rfl));obtain⟨j,e,z,U,q⟩:=z;subst e;cases r1 with
 | cons r Y =>
  cases Y;obtain⟨t,rfl⟩:=r;exact call_range_1 (yW O (by lia) (by lia) z U (by simpa using q))
def lR {a b:Expr} {ta:TA} {p pos:Pos} (M:Gl X "range") (O:X.mg "range"=none) (U:PA X [a,b] ta) (hs:starEach [a,b] X.env=[(false,eval a X.env),(false,eval b X.env)]:=by rfl) (z:starEach [b] X.env=[(false,eval b X.env)]:=by rfl) :
 PI X tg (.Call (.Name "range" p) [a,b] [] pos) (aCv ta):=by
 intro pins s σ H R I h;refine Call_ (mW I M O boot_range (ko (thn (U pos pins s σ H _ I h) λus s1 ⟨vs,H1,Y,r1,J⟩=>?_) (by rw[hs,z]) (by rw[z];rfl)));obtain⟨i,j,e,⟨J,q2,q3,q4⟩,q⟩:=J;subst e;cases r1 with
 | cons r L =>
  cases L with
  | cons r' L =>
   cases L;obtain⟨t,rfl⟩:=r;obtain⟨t',rfl⟩:=r';exact call_range_2 (yW Y J q2 q3 q4 q)
def aDo (wi:TI) (g:TG) (tb:TS):TS:=λD σ H=>wi σ H λJ H1=>∃ W:Nat->Nat->St->Hp->Prop,(∃ m,W 0 m σ H1)/\∀ i m σ H,W i m σ H ->
 (J.stop i H/\D.nx σ H)\/(J.go i H/\∃ N:St->Hp->Prop,(∀ z H',N z H'->∃ M,M<m/\W (i+1) M z H')/\∀ x H',J.yld i H x H'->g x σ H' λL H2=>tb { D with nx:=N,ct:=N,bk:=D.nx } L H2)
def jN (fp:List Addr) (h:Heap):List (Addr×Obj):=fp.filterMap λb=>(h.get? b).map λo=>(b,o)
def gR {fp:List Addr} {h:Heap} {b:Addr} {o:Obj} (z:b∈fp) (e:h.get? b=some o):(b,o)∈jN fp h:=List.mem_filterMap.mpr ⟨b,z,by rw[e];rfl⟩
def vH {fp:List Addr} {h:Heap} {p:Addr×Obj} (z:p∈jN fp h):p.1∈fp/\h.get? p.1=some p.2:=by
 obtain⟨b,J,e⟩:=List.mem_filterMap.mp z;cases q:h.get? b with
 | none=>rw[q]at e;cases e
 | some o =>
  rw[q]at e;have L:(b,o)=p:=jk e;subst L;exact⟨J,q⟩
def Inv.pinned {pins:List (Addr×Obj)} {σ:St} {H:Hp} {s:Shared} {fp:List Addr} (I:Inv X pins σ H s) (M:∀ b∈fp,qQ X pins H b) (ho:∀ b∈fp,∃ o,s.heap.get? b=some o/\∀ v,o.data≠.cell v):Inv X (pins++jN fp s.heap) σ H s :=
 I.pins_of λp O=>(aEn.mp O).elim (λz=>I.pin p (aER _ z)) λz=>by
  obtain⟨J,e⟩:=vH z;obtain⟨U,Y,f2,_⟩:=M p.1 J;obtain⟨o,L,d⟩:=ho p.1 J;rw[e]at L;cases L;exact⟨e,U,Y,f2,d⟩
def Inv.unpinned {pins pl:List (Addr×Obj)} {σ:St} {H:Hp} {s:Shared} (I:Inv X (pins++pl) σ H s):Inv X pins σ H s:=I.pins_of λp z=>I.pin p (aER _ (aE5 _ z))
def iT {iter:Expr} {body:List Stmt} {wi:TI} {g:TG} {tb:TS} {pos:Pos} (hp:PassesOwn (model X.prog X.w) X.A X.env X.xe) (hc:X.calm=true) (hi:PI X tg iter wi) (hg:PG X tg g) (L:PSs X body tb)
 (hs:∀ x,foldedSetIterable iter X.env x=pure x:=by intro _;rfl):PS X (.For tg iter body [] pos) (aDo wi g tb):=by
 intro pins s σ H D I h;refine wpAny_For (thn (hi pins s σ H _ I h) λv s1 h1=>thn h1 λba s2 h2=>?_) hs;obtain⟨it,fp,tn,J,H2,e,I2,T,ax,f2,W,⟨m0,w0⟩,turn⟩:=h2;subst e;have M:∀ {H':Hp},(∀ b∈fp,H' b=none)->∀ b∈fp,qQ X pins H' b:=λhn b L=>⟨hn b L,(f2 b L).2⟩;refine codeAny_forLoop_any (λn s'=>∃ i O H',Inv X pins O H' s'/\tn i s'.heap/\(∀ b∈fp,H' b=none)/\W i n O H') ?_ m0 ⟨0,σ,H2,I2,ax,λb L=>(f2 b L).1,w0⟩;rintro n s3 ⟨i,U,H3,I3,av,aw,w3⟩;rcases turn i n U H3 w3 with ⟨stop,qn⟩ | ⟨go,N,hN,step⟩
 .refine lr hp (thn (T.done X rfl rfl rfl hc i pins s3 U H3 X.xe I3 (M aw) av stop) λr s4 ⟨hr,I4⟩=>?_);subst hr;exact mv ⟨U,H3,I4,qn⟩
 .refine lr hp (thn (T.item X rfl rfl rfl hc i pins s3 U H3 X.xe I3 (M aw) av go) λr s4 ⟨u,hr,h4⟩=>?_);subst hr;refine lr hp (thn h4 λ_ s5 ⟨x,H5,I5,r5,y5,au,ay⟩=>?_);have az:=I5.pinned (M ay) (T.obj _ _ au);refine lr hp (thn (hg _ s5 U H5 x u _ az r5 (step x H5 y5)) λ_ s6 ⟨a_,H6,I6,q6⟩=>?_);refine lr hp (thn (L _ s6 a_ H6 _ I6 q6) λf s7 q7=>?_);have again:∀ {z:St} {Y:Hp},Inv X (pins++jN fp s5.heap) z Y s7->N z Y->∃ m,m<n/\∃ i O H',Inv X pins O H' s7/\tn i s7.heap/\(∀ b∈fp,H' b=none)/\W i m O H':=λ{z Y} I7 n7=>by
   obtain⟨m',hm,w7⟩:=hN z Y n7;refine⟨m',hm,i+1,z,Y,I7.unpinned,T.keep _ _ _ au λb L o e=>(I7.pin (b,o) (aER _ (aER _ (gR L e)))).1,λb L=>?_,w7⟩;obtain⟨o,e,d⟩:=T.obj _ _ au b L;exact(I7.pin (b,o) (aER _ (aER _ (gR L e)))).2.1
  cases f with
  | next=>obtain⟨z,Y,I7,n7⟩:=q7;exact again I7 n7
  | cont=>obtain⟨z,Y,I7,n7⟩:=q7;exact again I7 n7
  | brk=>obtain⟨z,Y,I7,q7⟩:=q7;exact⟨z,Y,I7.unpinned,q7⟩
  | ret v=>obtain⟨x7,z,Y,I7,r7,q7⟩:=q7;exact⟨x7,z,Y,I7.unpinned,r7,q7⟩
end
def yX {K:PySem.W.Frag} {a:Addr} {xs:List V} {g:TG} {tb:TS} {D:kI} {σ:St} {H:Hp} (Pv:Nat->St->Hp->Prop) (h0:Pv 0 σ H) (O:∀ i σ H,i<=xs.length->Pv i σ H->SqL K H a xs)
 (hs:∀ i x σ H,xs[i]?=some x->Pv i σ H->g x σ H λz H2=>tb { D with nx:=Pv (i+1),ct:=Pv (i+1),bk:=D.nx } z H2) (hd:∀ σ H,Pv xs.length σ H->D.nx σ H) :
 ∃ W:Nat->Nat->St->Hp->Prop,(∃ m,W 0 m σ H)/\∀ i m σ H,W i m σ H ->
  ((Itl K a).stop i H/\D.nx σ H)\/((Itl K a).go i H/\∃ N:St->Hp->Prop,(∀ J H',N J H'->∃ M,M<m/\W (i+1) M J H')/\∀ x H',(Itl K a).yld i H x H'->g x σ H' λz H2=>tb { D with nx:=N,ct:=N,bk:=D.nx } z H2):=by
 refine⟨λi m σ H=>m=xs.length - i/\i<=xs.length/\Pv i σ H,⟨xs.length,by simp,ka _,h0⟩,?_⟩;rintro i m σ H ⟨rfl,hi,p⟩;have q:=O i σ H hi p
 by_cases L:i<xs.length
 .refine .inr ⟨⟨xs,xs[i],q,by simp[L]⟩,Pv (i+1),λJ H' U=>⟨xs.length - (i+1),by lia,rfl,L,U⟩,λx H' y=>?_⟩;obtain⟨e,y⟩:=y;subst e;exact hs i x σ _ (y xs q) p
 .have e:i=xs.length:=by lia
  subst e;exact .inl ⟨⟨xs,q,ah _⟩,hd σ H p⟩
def gO {lo:Int} {n:Nat} {g:TG} {tb:TS} {D:kI} {σ:St} {H:Hp} (Pv:Nat->St->Hp->Prop) (h0:Pv 0 σ H)
 (hs:∀ i σ H,i<n->Pv i σ H->g (.int (lo+i)) σ H λz H2=>tb { D with nx:=Pv (i+1),ct:=Pv (i+1),bk:=D.nx } z H2) (hd:∀ σ H,Pv n σ H->D.nx σ H) :
 ∃ W:Nat->Nat->St->Hp->Prop,(∃ m,W 0 m σ H)/\∀ i m σ H,W i m σ H ->
  ((Itr lo n).stop i H/\D.nx σ H)\/((Itr lo n).go i H/\∃ N:St->Hp->Prop,(∀ J H',N J H'->∃ M,M<m/\W (i+1) M J H')/\∀ x H',(Itr lo n).yld i H x H'->g x σ H' λz H2=>tb { D with nx:=N,ct:=N,bk:=D.nx } z H2):=by
 refine⟨λi m σ H=>m=n - i/\i<=n/\Pv i σ H,⟨n,by simp,ka _,h0⟩,?_⟩;rintro i m σ H ⟨rfl,hi,p⟩
 by_cases L:i<n
 .refine .inr ⟨L,Pv (i+1),λJ H' O=>⟨n - (i+1),by lia,rfl,L,O⟩,λx H' y=>?_⟩;obtain⟨e,y⟩:=y;subst e y;exact hs i σ _ L p
 .have e:i=n:=by lia
  subst e;exact .inl ⟨ah _,hd σ H p⟩
def yY {c:TT} {tb:TS} {D:kI} {σ:St} {H:Hp} (Pv:St->Hp->Prop) (J:St->Hp->Nat) (h0:Pv σ H)
 (hs:∀ σ H,Pv σ H->c σ H λb H1=>if b=true then tb { D with nx:=λz H'=>Pv z H'/\J z H'<J σ H,ct:=λz H'=>Pv z H'/\J z H'<J σ H,bk:=D.nx } σ H1 else D.nx σ H1)
 (mono:∀ σ H Q L,(∀ b H1,Q b H1->L b H1)->c σ H Q->c σ H L):b6 c tb D σ H:=by
 refine⟨λm σ H=>m=J σ H/\Pv σ H,⟨_,rfl,h0⟩,?_⟩;rintro m σ H ⟨rfl,p⟩;refine mono σ H _ _ (λb H1 q=>?_) (hs σ H p);cases b with
 | true=>exact⟨_,λz H' ⟨M,l⟩=>⟨_,l,rfl,M⟩,q⟩
 | false=>exact q
abbrev R2:=V->V->Hp->VK->Prop
def OpR (X:Cx) (f:Value->Value->Sem Value) (r:R2):Prop :=
 ∀ (pins:List (Addr×Obj)) (s:Shared) (σ:St) (H:Hp) (x y:V) (v u:Value) (Q:VK),Inv X pins σ H s->RelV x v->RelV y u->r x y H Q ->
  wpAny (model X.prog X.w) X.A (f v u) (EP X pins σ Q) X.xe s
def UnR (X:Cx) (f:Value->Sem Value) (r:V->Hp->VK->Prop):Prop :=
 ∀ (pins:List (Addr×Obj)) (s:Shared) (σ:St) (H:Hp) (x:V) (v:Value) (Q:VK),Inv X pins σ H s->RelV x v->r x H Q ->
  wpAny (model X.prog X.w) X.A (f v) (EP X pins σ Q) X.xe s
def eX (X:Cx) (f:Value) (r:List V->Hp->VK->Prop):Prop :=
 ∀ (pins:List (Addr×Obj)) (s:Shared) (σ:St) (H:Hp) (xs:List V) (us:List Value) (Q:VK),Inv X pins σ H s->Vals xs us->r xs H Q ->
  wpAny (model X.prog X.w) X.A (call f us) (EP X pins σ Q) X.xe s
def aDp (X:Cx) (r:V->Hp->(Bool->Hp->Prop)->Prop):Prop :=
 ∀ (pins:List (Addr×Obj)) (s:Shared) (σ:St) (H:Hp) (x:V) (v:Value) (Q:Bool->Hp->Prop),Inv X pins σ H s->RelV x v->r x H Q ->
  wpAny (model X.prog X.w) X.A (truthy v) (TP X pins σ Q) X.xe s
def tOp (r:R2) (ta tb:TE):TE:=fun σ H Q=>ta σ H λx H1=>tb σ H1 λy H2=>r x y H2 Q
def tUn (r:V->Hp->VK->Prop) (ta:TE):TE:=fun σ H Q=>ta σ H λx H1=>r x H1 Q
inductive aCw (C:Int->Int->Prop) (g:Int->Int->V) (x:V) (y:V) (H:Hp) (Q:VK):Prop
 | mk (i:_) (j:_) (h0_:x=.int i) (h1_:y=.int j) (h2_:C i j) (h3_:Q (g i j) H):aCw C g x y H Q
def rI (C:Int->Int->Prop) (g:Int->Int->V):R2:=λx y H Q=>aCw C g x y H Q
inductive aBS (g:Int->Int->V) (x:V) (y:V) (H:Hp) (Q:VK):Prop
 | mk (i:_) (j:_) (h0_:x=.int i) (h1_:y=.int j) (h2_:Q (g i j) H):aBS g x y H Q
def rI0 (g:Int->Int->V):R2:=λx y H Q=>aBS g x y H Q
inductive aCx (g:Int->V) (x:V) (H:Hp) (Q:VK):Prop
 | mk (i:_) (h0_:x=.int i) (h1_:Q (g i) H):aCx g x H Q
def rU (g:Int->V):V->Hp->VK->Prop:=λx H Q=>aCx g x H Q
section
variable {X:Cx} {a b c:Expr} {ta tb tc:TE} {pos:Pos}
def aBk (M:PE X a ta) (O:PE X b tb) {pins:List (Addr×Obj)} {s:Shared} {σ:St} {H:Hp} {R:V->V->Hp->Prop} (I:Inv X pins σ H s)
 (h:ta σ H λx H1=>tb σ H1 λy H2=>R x y H2) {Q:Value->Shared->Prop} {f:Value->Value->Sem Value}
 (U:∀ v u L x y H2,Inv X pins σ H2 L->RelV x v->RelV y u->R x y H2->wpAny (model X.prog X.w) X.A (f v u) Q X.xe L) :
 wpAny (model X.prog X.w) X.A (eval a X.env) (λv z=>wpAny (model X.prog X.w) X.A (eval b X.env) (λu J=>wpAny (model X.prog X.w) X.A (f v u) Q X.xe J) X.xe z) X.xe s:=by
 refine thn (M pins s σ H _ I h) λv Y ⟨x,H1,I1,r1,q1⟩=>?_;refine thn (O pins Y σ H1 _ I1 q1) λu L ⟨y,H2,I2,r2,q2⟩=>?_;exact U v u L x y H2 I2 r1 r2 q2
def bH {z:Operator} {r:R2} (ho:OpR X (binaryOp z) r) (J:PE X a ta) (L:PE X b tb):PE X (.BinOp a z b pos) (tOp r ta tb):=by
 intro pins s σ H Q I h;exact wpAny_BinOp (aBk J L I h λv u M x y H2 O U Y q=>ho pins M σ H2 x y v u Q O U Y q)
def aBT {z:UnaryOp} {r:V->Hp->VK->Prop} (ho:UnR X (unaryOp z) r) (J:PE X a ta):PE X (.UnaryOp z a pos) (tUn r ta):=by
 intro pins s σ H Q I h;exact UnaryOp_ (thn (J pins s σ H _ I h) λv L ⟨x,H1,M,r1,O⟩=>ho pins L σ H1 x v Q M r1 O)
def opI {f:Value->Value->Sem Value} {C:Int->Int->Prop} {g:Int->Int->Int}
 (rule:∀ (i j:Int) (t u:Tok) (s:Shared) (Q:Value->Shared->Prop) (E:Value->Shared->Prop),C i j->Q (.int (g i j) s.toks) { s with toks:=s.toks+1 }->wpAny (model X.prog X.w) X.A (f (.int i t) (.int j u)) Q E s) :
 OpR X f (rI C λi j=>.int (g i j)):=by
 intro pins s σ H x y v u Q I z J h;obtain⟨i,j,rfl,rfl,L,q⟩:=h;obtain⟨t,rfl⟩:=z;obtain⟨t',rfl⟩:=J;exact rule i j t t' s _ _ L ⟨.int (g i j),H,I.tok _,⟨_,rfl⟩,q⟩
def aCy {f:Value->Value->Sem Value} {g:Int->Int->Int}
 (rule:∀ (i j:Int) (t u:Tok) (s:Shared) (Q:Value->Shared->Prop) (E:Value->Shared->Prop),Q (.int (g i j) s.toks) { s with toks:=s.toks+1 }->wpAny (model X.prog X.w) X.A (f (.int i t) (.int j u)) Q E s) :
 OpR X f (rI0 λi j=>.int (g i j)):=by
 intro pins s σ H x y v u Q I z J h;obtain⟨i,j,rfl,rfl,q⟩:=h;obtain⟨t,rfl⟩:=z;obtain⟨t',rfl⟩:=J;exact rule i j t t' s _ _ ⟨.int (g i j),H,I.tok _,⟨_,rfl⟩,q⟩
def U8 {f:Value->Value->Sem Value} {g:Int->Int->Bool}
 (rule:∀ (i j:Int) (t u:Tok) (s:Shared) (Q:Value->Shared->Prop) (E:Value->Shared->Prop),Q (.bool (g i j)) s->wpAny (model X.prog X.w) X.A (f (.int i t) (.int j u)) Q E s) :
 OpR X f (rI0 λi j=>.bl (g i j)):=by
 intro pins s σ H x y v u Q I z J h;obtain⟨i,j,rfl,rfl,q⟩:=h;obtain⟨t,rfl⟩:=z;obtain⟨t',rfl⟩:=J;exact rule i j t t' s _ _ ⟨.bl (g i j),H,I,rfl,q⟩
def aDq (i j:Int):Prop:=0<j/\j<1073741824
def aDr (i j:Int):Prop:=0<=j/\j<=1000000/\i.natAbs<2 ^ 64
def CMul (i j:Int):Prop:=(-(2 ^ 64)<i/\i<2 ^ 64)\/(-(2 ^ 64)<j/\j<2 ^ 64)
def CMul.ok {i j:Int} (h:CMul i j):IntMulOk i j:=by
 rcases h with ⟨h1,h2⟩ | ⟨h1,h2⟩
 .exact .of_left (intBits_le_64 h1 h2)
 .exact .of_right (intBits_le_64 h1 h2)
def dB:OpR X (binaryOp .Add) (rI0 λi j=>.int (i+j)):=aCy λ_ _ _ _ _ _ _ q=>add_int q
def wT:OpR X (binaryOp .Sub) (rI0 λi j=>.int (i - j)):=aCy λ_ _ _ _ _ _ _ q=>sub_int q
def oO:OpR X (binaryOp .Mult) (rI CMul λi j=>.int (i * j)):=opI λ_ _ _ _ _ _ _ z q=>mul_int q z.ok
def M8:OpR X (binaryOp .FloorDiv) (rI aDq λi j=>.int (i / j)):=opI λi j _ _ _ _ _ z q=>by
 have h1:(0:Int)<j:=z.1;have h2:j<1073741824:=z.2;exact floordiv_int (by lia) (by rw[Int.fdiv_eq_ediv_of_nonneg i (by lia)];exact q) (.inl (PyProof.noPylong_small (by lia)))
def gS:OpR X (binaryOp .Mod) (rI (λ_ j=>0<j) λi j=>.int (i % j)):=opI λi j _ _ _ _ _ z q=>by
 have h1:(0:Int)<j:=z;exact mod_int' (by lia) (by rw[Int.fmod_eq_emod_of_nonneg i (by lia)];exact q)
def aBl:OpR X (binaryOp .Pow) (rI aDr λi j=>.int (i ^ j.toNat)):=opI λ_ _ _ _ _ _ _ z q=>pow_int_small z.1 z.2.1 z.2.2 q
def unI {f:Value->Sem Value} {g:Int->Int}
 (rule:∀ (i:Int) (t:Tok) (s:Shared) (Q:Value->Shared->Prop) (E:Value->Shared->Prop),Q (.int (g i) s.toks) { s with toks:=s.toks+1 }->wpAny (model X.prog X.w) X.A (f (.int i t)) Q E s) :
 UnR X f (rU λi=>.int (g i)):=by
 intro pins s σ H x v Q I z h;obtain⟨i,rfl,q⟩:=h;obtain⟨t,rfl⟩:=z;exact rule i t s _ _ ⟨.int (g i),H,I.tok _,⟨_,rfl⟩,q⟩
def b7:UnR X (unaryOp .USub) (rU λi=>.int (-i)):=unI λ_ _ _ _ _ q=>neg_int q
end
def aCz:V->V->Bool
 | .non,.non=>true | .non,.int _=>true | .int _,.non=>true | .non,.bl _=>true | .bl _,.non=>true | .non,.str _=>true | .str _,.non=>true
 | .int _,.int _=>true | .bl _,.bl _=>true | .str _,.str _=>true | .byt _,.byt _=>true
 | .int _,.str _=>true | .str _,.int _=>true | .bl _,.str _=>true | .str _,.bl _=>true
 | _,_=>false
def rEq:R2:=λx y H Q=>aCz x y=true/\Q (.bl (decide (x=y))) H
def rNe:R2:=λx y H Q=>aCz x y=true/\Q (.bl (!decide (x=y))) H
def M9 {i j:Int}:decide (V.int i=V.int j)=(i == j):=by
 rw[ls];simp
def b8 {i j:Bool}:decide (V.bl i=V.bl j)=(i == j):=by
 rw[ls];simp
def N0 {i j:Str}:decide (V.str i=V.str j)=(i == j):=by
 rw[ls];simp
def N3 {i j:Array UInt8}:decide (V.byt i=V.byt j)=(i.toList == j.toList):=by
 rw[ls];cases i;cases j;simp
section
variable {X:Cx} {a b c:Expr} {ta tb tc:TE} {pos:Pos}
def bR {pins:List (Addr×Obj)} {σ:St} {H:Hp} {s:Shared} {Q:VK} {k z:Bool} (I:Inv X pins σ H s) (q:Q (.bl k) H) (e:k=z):EP X pins σ Q (.bool z) s:=by
 subst e;exact⟨.bl k,H,I,rfl,q⟩
def yZ:OpR X (compareOp .Eq) rEq:=by
 intro pins s σ H x y v u Q I J z h;obtain⟨hs,q⟩:=h;cases x with
 | non =>
  cases J;cases y with
  | non=>cases z;exact PySem.EqNone.eq_none_none (bR I q (by simp))
  | bl j=>cases z;exact PySem.EqNone.eq_none_bool (bR I q (by simp))
  | int j=>obtain⟨t',rfl⟩:=z;exact PySem.EqNone.eq_none_int (bR I q (by simp))
  | str j=>obtain⟨t',rfl⟩:=z;exact PySem.EqNone.eq_none_str (bR I q (by simp))
  | _=>exact absurd (show false=true from hs) aEZ
 | bl i =>
  cases J;cases y with
  | non=>cases z;exact PySem.EqNone.eq_bool_none (bR I q (by simp))
  | bl j=>cases z;exact eq_bool (bR I q b8)
  | str j=>obtain⟨t',rfl⟩:=z;exact PySem.EqMixed.eq_bool_str (bR I q (by simp))
  | _=>exact absurd (show false=true from hs) aEZ
 | int i =>
  obtain⟨t,rfl⟩:=J;cases y with
  | non=>cases z;exact PySem.EqNone.eq_int_none (bR I q (by simp))
  | int j=>obtain⟨t',rfl⟩:=z;exact eq_int (bR I q M9)
  | str j=>obtain⟨t',rfl⟩:=z;exact PySem.EqMixed.eq_int_str (bR I q (by simp))
  | _=>exact absurd (show false=true from hs) aEZ
 | str i =>
  obtain⟨t,rfl⟩:=J;cases y with
  | non=>cases z;exact PySem.EqNone.eq_str_none (bR I q (by simp))
  | bl j=>cases z;exact PySem.EqMixed.eq_str_bool (bR I q (by simp))
  | int j=>obtain⟨t',rfl⟩:=z;exact PySem.EqMixed.eq_str_int (bR I q (by simp))
  | str j=>obtain⟨t',rfl⟩:=z;exact eq_str (bR I q N0)
  | _=>exact absurd (show false=true from hs) aEZ
 | byt i =>
  obtain⟨t,rfl⟩:=J;cases y with
  | byt j=>obtain⟨t',rfl⟩:=z;exact PySem.W.eq_bytes (bR I q N3)
  | _=>exact absurd (show false=true from hs) aEZ
 | _=>cases y <;> exact absurd (show false=true from hs) aEZ
def b9:OpR X (compareOp .NotEq) rNe:=by
 intro pins s σ H x y v u Q I J z h;obtain⟨hs,q⟩:=h;cases x with
 | non =>
  cases J;cases y with
  | non=>cases z;exact PySem.EqNone.ne_none_none (bR I q (by simp))
  | bl j=>cases z;exact PySem.EqNone.ne_none_bool (bR I q (by simp))
  | int j=>obtain⟨t',rfl⟩:=z;exact PySem.EqNone.ne_none_int (bR I q (by simp))
  | str j=>obtain⟨t',rfl⟩:=z;exact PySem.EqNone.ne_none_str (bR I q (by simp))
  | _=>exact absurd (show false=true from hs) aEZ
 | bl i =>
  cases J;cases y with
  | non=>cases z;exact PySem.EqNone.ne_bool_none (bR I q (by simp))
  | bl j=>cases z;exact ne_bool (bR I q (congrArg not b8))
  | str j=>obtain⟨t',rfl⟩:=z;exact PySem.EqMixed.ne_bool_str (bR I q (by simp))
  | _=>exact absurd (show false=true from hs) aEZ
 | int i =>
  obtain⟨t,rfl⟩:=J;cases y with
  | non=>cases z;exact PySem.EqNone.ne_int_none (bR I q (by simp))
  | int j=>obtain⟨t',rfl⟩:=z;exact ne_int (bR I q (congrArg not M9))
  | str j=>obtain⟨t',rfl⟩:=z;exact PySem.EqMixed.ne_int_str (bR I q (by simp))
  | _=>exact absurd (show false=true from hs) aEZ
 | str i =>
  obtain⟨t,rfl⟩:=J;cases y with
  | non=>cases z;exact PySem.EqNone.ne_str_none (bR I q (by simp))
  | bl j=>cases z;exact PySem.EqMixed.ne_str_bool (bR I q (by simp))
  | int j=>obtain⟨t',rfl⟩:=z;exact PySem.EqMixed.ne_str_int (bR I q (by simp))
  | str j=>obtain⟨t',rfl⟩:=z;exact ne_str (bR I q (congrArg not N0))
  | _=>exact absurd (show false=true from hs) aEZ
 | byt i =>
  obtain⟨t,rfl⟩:=J;cases y with
  | byt j=>obtain⟨t',rfl⟩:=z;exact PySem.W.ne_bytes (bR I q (congrArg not N3))
  | _=>exact absurd (show false=true from hs) aEZ
 | _=>cases y <;> exact absurd (show false=true from hs) aEZ
def nK:OpR X (compareOp .Lt) (rI0 λi j=>.bl (decide (i<j))):=U8 λ_ _ _ _ _ _ _ q=>lt_int q
def N4:OpR X (compareOp .LtE) (rI0 λi j=>.bl (decide (i<=j))):=U8 λ_ _ _ _ _ _ _ q=>le_int q
def qB:OpR X (compareOp .Gt) (rI0 λi j=>.bl (decide (j<i))):=U8 λ_ _ _ _ _ _ _ q=>gt_int q
def N5:OpR X (compareOp .GtE) (rI0 λi j=>.bl (decide (j<=i))):=U8 λ_ _ _ _ _ _ _ q=>ge_int q
def U9:OpR X (compareOp .In) (λx y H Q=>∃ i j,x=.str i/\y=.str j/\Q (.bl (!(Builtin.Str.occurrences j i 0 j.length 1).isEmpty)) H):=by
 intro pins s σ H x y v u Q I z J h;obtain⟨i,j,rfl,rfl,q⟩:=h;obtain⟨t,rfl⟩:=z;obtain⟨t',rfl⟩:=J;exact in_str (bR I q rfl)
def rO:OpR X (compareOp .Is) (λx y H Q=>y=.non/\Q (.bl (decide (x=.non))) H):=by
 intro pins s σ H x y v u Q I z J h;obtain⟨rfl,q⟩:=h;cases J;refine is_none_gen (bR I q ?_);cases x <;> first
  | (cases z;rfl)
  | (obtain⟨t,rfl⟩:=z;rfl)
def aAb:OpR X (compareOp .IsNot) (λx y H Q=>y=.non/\Q (.bl (!decide (x=.non))) H):=by
 intro pins s σ H x y v u Q I z J h;obtain⟨rfl,q⟩:=h;cases J;refine isnot_none_gen (bR I q ?_);cases x <;> first
  | (cases z;rfl)
  | (obtain⟨t,rfl⟩:=z;rfl)
def aY (b:Expr) {z:CmpOp} (h:z≠.In:=by decide) (h2:z≠.NotIn:=by decide):behindInMarks z b=false:=by
 have J:(z == CmpOp.In)=false:=by cases z <;> first | rfl | exact absurd rfl h
 have L:(z == CmpOp.NotIn)=false:=by cases z <;> first | rfl | exact absurd rfl h2
 cases b <;> simp[behindInMarks,J,L]
def fM {z:CmpOp} {r:R2} (ho:OpR X (compareOp z) r) (J:PE X a ta) (L:PE X b tb) (M:behindInMarks z b=false):PE X (.Compare a [z] [b] pos) (tOp r ta tb):=by
 intro pins s σ H Q I h;exact wpAny_Compare1 (aBk J L I h λv u O x y H2 U Y ry q=>ho pins O σ H2 x y v u Q U Y ry q) M
inductive N6 (Q:Bool->Hp->Prop) (x:V) (H':Hp):Prop
 | mk (k:_) (h0_:x=.bl k) (h1_:Q k H'):N6 Q x H'
def aDA (t:TE):TT:=fun σ H Q=>t σ H λx H'=>N6 Q x H'
def aV {J:CmpOp} {r:R2} (ho:OpR X (compareOp J) r) (L:PE X a ta) (M:PE X b tb) (O:behindInMarks J b=false):PT X (.Compare a [J] [b] pos) (aDA (tOp r ta tb)):=by
 intro pins s σ H Q I h;refine sj (thn (L pins s σ H _ I h) λv U ⟨x,H1,Y,r1,q1⟩=>thn (M pins U σ H1 _ Y q1) λu s2 ⟨y,H2,I2,r2,q2⟩ =>
  thn (ho pins s2 σ H2 x y v u _ I2 r1 r2 q2) λc s3 ⟨z,H3,I3,r3,k,e,q3⟩=>?_) O
 subst e;cases r3;exact km ⟨H3,I3,q3⟩
def aDB (K:PySem.W.Frag) (x:V) (H:Hp) (k:Bool):Prop :=
 match x with
 | .non=>k=false
 | .bl b=>k=b
 | .int i=>k=(i != 0)
 | .str y=>y.length<=sizeLine/\k=((y.length:Int) != 0)
 | .byt y=>y.size<=sizeLine/\k=((y.size:Int) != 0)
 | .ref p=>(∃ xs,SqL K H p xs/\k=!xs.isEmpty)\/(∃ xs,SqT K H p xs/\k=!xs.isEmpty)\/∃ kvs,H p=some (.dK kvs)/\k=!kvs.isEmpty
 | _=>False
def E8 {κ:Type} {kvs:List (κ×V)} {vs:List (κ×Value)} (r:KV kvs vs):(!vs.isEmpty)=!kvs.isEmpty:=by
 cases r <;> rfl
def rP {xs:List V} {z:List Value} (r:Vals xs z):(!z.toArray.isEmpty)=!xs.isEmpty:=by
 cases r <;> simp
def oP:(sizeLine:Nat)<2 ^ 63:=by rw[ly];decide
def aBm:aDp X (λx H Q=>∃ k,aDB X.K x H k/\Q k H):=by
 intro pins s σ H x v Q I J h;obtain⟨k,e,q⟩:=h;have hl:=oP;have hs:sizeLine=16777216:=ly;cases x with
 | non =>
  cases J;have z:k=false:=e;subst z;exact truthy_none ⟨H,I,q⟩
 | bl b =>
  cases J;have z:k=b:=e;subst z;exact km ⟨H,I,q⟩
 | int i =>
  obtain⟨t,rfl⟩:=J;have z:k=(i != 0):=e;subst z;exact PySem.P.truthy_int ⟨H,I,q⟩
 | str y =>
  obtain⟨t,rfl⟩:=J;obtain⟨U,z⟩:y.length<=sizeLine/\k=((y.length:Int) != 0):=e;subst z;exact PySem.P.truthy_str (by lia) ⟨H,I.tok _,q⟩
 | byt y =>
  obtain⟨t,rfl⟩:=J;obtain⟨U,z⟩:y.size<=sizeLine/\k=((y.size:Int) != 0):=e;subst z;exact PySem.W.truthy_bytes (by lia) ⟨H,I.tok _,q⟩
 | ref p =>
  cases J;have z:(∃ xs,SqL X.K H p xs/\k=!xs.isEmpty)\/(∃ xs,SqT X.K H p xs/\k=!xs.isEmpty)\/∃ kvs,H p=some (.dK kvs)/\k=!kvs.isEmpty:=e;rcases z with ⟨xs,L,z⟩ | ⟨xs,L,z⟩ | ⟨kvs,L,z⟩
  .subst z;obtain⟨M,r,pl,O⟩:=I.list L;have hlen:=r.length;exact wpAny_truthy_list pl.isList (by simp only[aEV];lia) ⟨H,I.tok _,by rw[rP r];exact q⟩
  .subst z;obtain⟨M,r,pl,O⟩:=I.tuple L;have hlen:=r.length;exact truthy_tuple pl (by simp only[aEV];lia) ⟨H,I.tok _,by rw[rP r];exact q⟩
  .subst z;obtain⟨O,Y,vs,r,m⟩:kvs.length<=sizeLine/\(p == sysModules)=false/\∃ vs,KV kvs vs/\s.heap.DictOf (bO X.prog X.w) p vs:=I.hok p _ L;have hlen:kvs.length=vs.length:=r6 r;exact wpAny_truthy_dict Y m (by lia) ⟨H,I.tok _,by rw[E8 r];exact q⟩
 | _=>exact(show False from e).elim
def cU (z:PE X a ta) (he:∀ whole,isTrue a X.env whole=(do let v <- whole;standAt a.pos;holding [v] (truthy v))) :
 PT X a (fun σ H Q=>ta σ H λx H'=>∃ k,aDB X.K x H' k/\Q k H'):=by
 intro pins s σ H Q I h;exact isTrue_plain (thn (z pins s σ H _ I h) λv J ⟨x,H1,L,r1,M⟩=>aBm pins J σ H1 x v Q L r1 M) (he _)
def fA:OpR X (binaryOp .Add) (λx y H Q=>∃ i j,x=.str i/\y=.str j/\i.length+j.length<=sizeLine/\Q (.str (i++j)) H):=by
 intro pins s σ H x y v u Q I z J h;obtain⟨i,j,rfl,rfl,L,q⟩:=h;obtain⟨t,rfl⟩:=z;obtain⟨t',rfl⟩:=J;exact add_str (λt' M=>⟨.str (i++j),H,I.tok _,⟨_,rfl⟩,q⟩) L
def kE {x:V} {us:List Value} (r:Vals [x] us):∃ u,us=[u]/\RelV x u:=by
 cases r with
 | cons r1 r2=>cases r2;exact⟨_,rfl,r1⟩
def aBU {x y:V} {us:List Value} (r:Vals [x,y] us):∃ u z,us=[u,z]/\RelV x u/\RelV y z:=by
 cases r with
 | cons r1 r2 =>
  cases r2 with
  | cons r3 r4=>cases r4;exact⟨_,_,rfl,r1,r3⟩
inductive N7 (xs:List V) (H:Hp) (Q:VK):Prop
 | mk (i:_) (j:_) (h0_:xs=[.int i,.int j]) (h1_:Q (.int (if j > i then j else i)) H):N7 xs H Q
def V0 (J:X.calm=true):eX X (.builtin "max") N7:=by
 intro pins s σ H xs us Q I r h;obtain⟨i,j,rfl,q⟩:=h;obtain⟨u,L,rfl,⟨t,rfl⟩,⟨t',rfl⟩⟩:=aBU r;refine max_two_ints (I.ok.hd J) λh' M k=>⟨_,H,I.kept k,?_,q⟩
 by_cases z:j > i
 .rw[b4 z,b4 z];exact⟨_,rfl⟩
 .rw[b3 z,b3 z];exact⟨_,rfl⟩
inductive N8 (xs:List V) (H:Hp) (Q:VK):Prop
 | mk (i:_) (j:_) (h0_:xs=[.int i,.int j]) (h1_:Q (.int (if j<i then j else i)) H):N8 xs H Q
def V1 (J:X.calm=true):eX X (.builtin "min") N8:=by
 intro pins s σ H xs us Q I r h;obtain⟨i,j,rfl,q⟩:=h;obtain⟨u,L,rfl,⟨t,rfl⟩,⟨t',rfl⟩⟩:=aBU r;refine min_two_ints (I.ok.hd J) λh' M k=>⟨_,H,I.kept k,?_,q⟩
 by_cases z:j<i
 .rw[b4 z,b4 z];exact⟨_,rfl⟩
 .rw[b3 z,b3 z];exact⟨_,rfl⟩
end
structure ObjM (h:Heap) (x dx C:Addr) (mA:Str->Option Value):Prop where
 obj:h.get? x=some (PySem.W.instObj C dx)
 ns:h.Ns1 dx mA
 ne:dx≠x
def vI {h:Heap} {dx:Addr} {mA:Str->Option Value} (n:h.Ns1 dx mA):∃ od,h.get? dx=some od/\∀ name,PySem.W.lookIn name od=some (mA name):=by
 obtain⟨o,es,Y,ho,hd,L,_,M⟩:=n;refine⟨o,ho,λname=>?_⟩;have e:=M name;unfold nsFind findBy at e;rw[<- Array.find?_toList]at e;unfold PySem.W.lookIn;rw[hd];dsimp only;split
 .rename_i y q
  rw[q]at e;exact congrArg some e
 .rename_i q
  rw[q]at e;have a:es.toList.any (·.refKey)=false:=by
   rw[List.any_eq_false];intro y O;obtain⟨z,t,J⟩:=L y (Array.mem_toList_iff.mp O);simp[DictEntry.refKey,J]
  have U:¬ es.toList.any (·.refKey)=true:=by rw[a];exact aEZ
  rw[b3 U];exact congrArg some e
def ObjM.look {h:Heap} {x dx C:Addr} {mA:Str->Option Value} (I:ObjM h x dx C mA):∃ od,PySem.W.InstAt h x (PySem.W.instObj C dx) C (some od)/\∀ name,PySem.W.lookIn name od=some (mA name) :=
 let ⟨od,ho,z⟩:=vI I.ns
 ⟨od,⟨I.obj,rfl,rfl,ho⟩,z⟩
section
variable {prog:Program} {w:World} {A:Around} {E:Value->Shared->Prop} {s:Shared} {K:PySem.W.Frag} {x dx C f:Addr} {mA:Str->Option Value} {name:Str} {v:Value}
def aAc {expr:Bool} {Q:Value->Shared->Prop} (X:K.In s.heap) (I:ObjM s.heap x dx C mA) (L:PySem.W.plainGet K C name=true) (M:PySem.W.hasDictIn K C=true)
 (O:PySem.W.findIn K (.ref C) name=some none) (U:mA name=some v) (z:PySem.W.handedIn v=true) (h:Q v { s with toks:=s.toks+1 }) :
 wpAny (model prog w) A (getAttr (.ref x) name expr) Q E s:=by
 obtain⟨od,J,Y⟩:=I.look;exact PySem.W.get_value X J (qb L).1 (uc M O rfl (by rw[Y,U])) z h
def c6 {pl:Sem Bool} {Q:Value×List Value->Shared->Prop} (X:K.In s.heap) (I:ObjM s.heap x dx C mA) (z:PySem.W.plainGet K C name=true)
 (L:PySem.W.findIn K (.ref C) name=some (some (.ref f))) (ht:PySem.W.isFn K (.ref f)=true) (M:mA name=none) (h:Q (.ref f,[.ref x]) s) :
 wpAny (model prog w) A (getMethod (.ref x) name pl) Q E s:=by
 obtain⟨od,J,O⟩:=I.look;exact PySem.W.method_fn X J (qb z).1 (qb z).2 L (beq_iff_eq.mp ht) (by show (PySem.W.lookIn name od).map (·.isSome)=some false;rw[O,M];rfl) h
def aAd {ns:List Str} {Q:Unit->Shared->Prop} (X:K.In s.heap) (I:ObjM s.heap x dx C mA)
 (hs:PySem.W.findIn K (.ref C) "__setattr__"=some (some (.builtin "object.__setattr__"))) (hp:PySem.W.plainOver K C=true) (ht:PySem.W.takerIn K C name=some none) (hh:PySem.W.hasDictIn K C=true)
 (hw:PySem.Within mA ns) (hsz:ns.length<=sizeLine)
 (h:∀ h',ObjM h' x dx C (λy=>if y=name then some v else mA y)->Heap.SameBut dx s.heap h'->Q () { s with heap:=h',toks:=s.toks+2 }) :
 wpAny (model prog w) A (setAttr (.ref x) name v) Q E s:=by
 obtain⟨od,J,hl⟩:=I.look;refine qs X J hs (PySem.W.osa_open (s:={ s with toks:=s.toks+1 }) (r:=none) X J hp ht λb=>?_);obtain⟨cd,hc,M⟩:=PySem.W.any_some hh;have hx:s.heap.get? x=some ⟨.ref C,some dx,.plain,#[]⟩:=I.obj;refine aEL (aEM (aEL (aEL (tz hx (aEL (PySem.W.Looks.here (s:={ s with toks:=s.toks+1 }) (mf X hc) ?_))))));rw[M];refine aEM (a:=some dx) (aEL (aEM (aEL ?_)));refine um (s:={ s with toks:=s.toks+1 }) I.ns λh' z L=>?_;obtain⟨oD,au,av,O,U,Y⟩:=z.count (PySem.Within.cons name v hw);refine aEL (rl O (by rw[U];exact rm (fy Y (by rw[aEe];lia))) ?_);exact aEM (h _ ⟨(L.2 _ (lq I.ne)).trans I.obj,z,I.ne⟩ L)
def c7 {R:Result->Shared->Prop} {vs:List Value} {z:List (Str×Value)} (X:K.In s.heap) (J:PySem.W.makesIn K C=true)
 (hi:PySem.W.findIn K (.ref C) "__init__"=some (some (.ref f))) (L:PySem.W.typeIn K (.ref f)=some (.type "function"))
 (h:codeAny (model prog w) (A.under (.builtin "type.__call__" ⟨.ref C :: vs,z⟩)) (.call (.ref f) ⟨.ref (s.heap.objs.size+1) :: vs,z⟩) (PySem.W.InitBack (s.heap.objs.size+1) R)
  { s with heap:=(s.heap.push PySem.W.emptyDict).push (PySem.W.instObj C s.heap.objs.size) }) :
 codeAny (model prog w) A (.call (.ref C) ⟨vs,z⟩) R s:=by
 obtain⟨M,g,d,t,os⟩:=s;exact PySem.W.make_core (PySem.W.makes_of X J) (ll X hi) (λself=>PySem.W.bind_fn X self L) (.inl rfl) h
end
def mG (f:Str) (v:V):List (Str×V)->List (Str×V)
 | []=>[(f,v)]
 | (g,x) :: r=>if g=f then (g,v) :: r else (g,x) :: mG f v r
def qC (f g:Str) (v:V):∀ fs:List (Str×V),(mG f v fs).lookup g=if g=f then some v else fs.lookup g
 | []=>by
  show List.lookup g [(f,v)]=_
  by_cases h:g=f
  .have z:(g == f)=true:=beq_iff_eq.mpr h;simp only[List.lookup,z,b4 h]
  .have z:(g == f)=false:=beq_eq_false_iff_ne.mpr h;simp only[List.lookup,z,b3 h]
 | (k,x) :: r=>by
  have L:=qC f g v r;rw[show mG f v ((k,x) :: r)=(if k=f then (k,v) :: r else (k,x) :: mG f v r) from rfl]
  by_cases J:k=f
  .rw[b4 J]
   by_cases h:g=k
   .have z:(g == k)=true:=beq_iff_eq.mpr h;simp only[List.lookup,z,b4 (h.trans J)]
   .have z:(g == k)=false:=beq_eq_false_iff_ne.mpr h;simp only[List.lookup,z,b3 (λe:g=f=>h (e.trans J.symm))]
  .rw[b3 J]
   by_cases h:g=k
   .have z:(g == k)=true:=beq_iff_eq.mpr h;simp only[List.lookup,z,b3 (λe:g=f=>J (h.symm.trans e))]
   .have z:(g == k)=false:=beq_eq_false_iff_ne.mpr h;simp only[List.lookup,z];exact L
def oQ (f:Str) (v:V):∀ fs:List (Str×V),f∈(mG f v fs).map (·.1)/\∀ g,g∈fs.map (·.1)->g∈(mG f v fs).map (·.1)
 | []=>⟨by simp[mG],λg h=>by simp at h⟩
 | (k,x) :: r=>by
  obtain⟨J,L⟩:=oQ f v r;rw[show mG f v ((k,x) :: r)=(if k=f then (k,v) :: r else (k,x) :: mG f v r) from rfl]
  by_cases z:k=f
  .rw[b4 z];subst z;exact⟨by simp,λg h=>by simpa using h⟩
  .rw[b3 z];refine⟨?_,λg h=>?_⟩
   .rw[aEb];exact aEQ _ J
   .rw[aEb]at h ⊢;rcases aEm.mp h with e | e
    .exact aEm.mpr (.inl e)
    .exact aEQ _ (L g e)
def qD (f:Str) (v:V):∀ fs:List (Str×V),(mG f v fs).length<=fs.length+1
 | []=>by simp[mG]
 | (k,x) :: r=>by
  have J:=qD f v r;rw[show mG f v ((k,x) :: r)=(if k=f then (k,v) :: r else (k,x) :: mG f v r) from rfl]
  by_cases z:k=f
  .rw[b4 z,aEe,aEe];lia
  .rw[b3 z,aEe,aEe];lia
def RelO.some_of {v:V} {o:Option Value} (r:RelO (some v) o):∃ u,o=some u/\RelV v u:=by
 cases o with
 | none=>exact(show False from r).elim
 | some u=>exact⟨u,rfl,r⟩
def RelO.none_of {o:Option Value} (r:RelO none o):o=none:=by
 cases o with
 | none=>rfl
 | some u=>exact(show False from r).elim
def vJ {v:V} {u:Value} (r:RelV v u):PySem.W.handedIn u=true:=by
 cases v with
 | non=>cases (show u=Value.none from r);rfl
 | bl b=>cases (show u=Value.bool b from r);rfl
 | int i=>obtain⟨t,e⟩:=(show ∃ t,u=Value.int i t from r);cases e;rfl
 | str x=>obtain⟨t,e⟩:=(show ∃ t,u=Value.str x t from r);cases e;rfl
 | byt b=>obtain⟨t,e⟩:=(show ∃ t,u=Value.bytes b t from r);cases e;rfl
 | flt b=>obtain⟨t,e⟩:=(show ∃ t,u=Value.float b t from r);cases e;rfl
 | ref a=>cases (show u=Value.ref a from r);rfl
 | ty n=>cases (show u=Value.type n from r);rfl
section
variable {P:Program} {w:World} {H H':Hp} {h h':Heap} {a C dx:Addr} {fs fs':List (Str×V)}
def rB (hok:HOk P w H h) (e:H a=some (.ins C dx fs)):∃ mA,ObjM h a dx C mA/\(∀ f,RelO (fs.lookup f) (mA f))/\PySem.Within mA (fs.map (·.1))/\fs.length<=1000/\H dx=some (.own a):=by
 obtain⟨d,z,ne,J,mA,n,r,q⟩:=(show ObjOk P w H h a (.ins C dx fs) from hok a _ e);exact⟨mA,⟨J,n,ne⟩,r,q,z,d⟩
end
structure Cls (K:PySem.W.Frag) (C:Addr):Prop where
 pg:PySem.W.plainGet K C Str.empty=true
 hd:PySem.W.hasDictIn K C=true
 po:PySem.W.plainOver K C=true
 sa:PySem.W.findIn K (.ref C) "__setattr__"=some (some (.builtin "object.__setattr__"))
def Cls.get {K:PySem.W.Frag} {C:Addr} (c:Cls K C) (f:Str):PySem.W.plainGet K C f=true:=c.pg
def NoAttr (K:PySem.W.Frag) (C:Addr) (f:Str):Prop:=PySem.W.findIn K (.ref C) f=some none
def NoAttr.taker {K:PySem.W.Frag} {C:Addr} {f:Str} (n:NoAttr K C f):PySem.W.takerIn K C f=some none:=by
 unfold PySem.W.takerIn;rw[show PySem.W.findIn K (.ref C) f=some none from n];rfl
structure V2 (K:PySem.W.Frag) (C:Addr) (m:Str) (f:Addr):Prop where
 at_:PySem.W.findIn K (.ref C) m=some (some (.ref f))
 fn:PySem.W.isFn K (.ref f)=true
 kp:PySem.W.keepIn K (.ref f)=true
section
variable {X:Cx} {pins:List (Addr×Obj)} {σ:St} {H:Hp} {s:Shared} {a C dx:Addr} {fs:List (Str×V)} {f:Str} {v:V} {A:Around} {E:Value->Shared->Prop}
def E9 {b:Bool} {Q:Value->Shared->Prop} (I:Inv X pins σ H s) (e:H a=some (.ins C dx fs)) (c:Cls X.K C) (n:NoAttr X.K C f) (l:fs.lookup f=some v)
 (h:∀ u s',Inv X pins σ H s'->RelV v u->Q u s'):wpAny (model X.prog X.w) A (getAttr (.ref a) f b) Q E s:=by
 obtain⟨mA,O,r,_,_,_⟩:=rB I.hok e;obtain⟨u,J,z⟩:=RelO.some_of (v:=v) (o:=mA f) (by rw[<- l];exact r f);exact aAc I.kIn O (c.get f) c.hd n J (vJ z) (h u _ (I.tok _) z)
def rQ {m:Str} {g:Addr} {pl:Sem Bool} {Q:Value×List Value->Shared->Prop} (I:Inv X pins σ H s) (e:H a=some (.ins C dx fs)) (c:Cls X.K C) (k:V2 X.K C m g) (l:fs.lookup m=none)
 (h:Q (.ref g,[.ref a]) s):wpAny (model X.prog X.w) A (getMethod (.ref a) m pl) Q E s:=by
 obtain⟨mA,O,r,_,_,_⟩:=rB I.hok e;have z:mA m=none:=RelO.none_of (by rw[<- l];exact r m);exact c6 I.kIn O (c.get m) k.at_ k.fn z h
def F0 {y:V} {u:Value} {Q:Unit->Shared->Prop} (I:Inv X pins σ H s) (e:H a=some (.ins C dx fs)) (c:Cls X.K C) (n:NoAttr X.K C f) (hl:fs.length<1000) (L:RelV y u)
 (h:∀ s',Inv X pins σ (upd H a (.ins C dx (mG f y fs))) s'->Q () s'):wpAny (model X.prog X.w) A (setAttr (.ref a) f u) Q E s:=by
 obtain⟨mA,O,r,wi,_,ho⟩:=rB I.hok e;have M:(fs.map (·.1)).length<=sizeLine:=by rw[aEN,ly];lia
 refine aAd I.kIn O c.sa c.po n.taker c.hd wi M λh' J U=>h _ ?_;have hd:∃ o,h'.get? dx=some o:=let ⟨o,_,_,Y,_⟩:=J.ns;⟨o,Y⟩;refine I.write (x:=a) (e:=dx) (by rw[e];exact True.intro) (.inr ho) (λb q hb z=>(U.2 b hb).trans z) hd ?_;refine⟨by rw[aL O.ne];exact ho,?_,O.ne,J.obj,_,J.ns,λg=>?_,λg hg=>?_⟩
 .have:=qD f y fs;lia
 .show RelO ((mG f y fs).lookup g) (if g=f then some u else mA g);rw[qC]
  by_cases q:g=f
  .rw[b4 q,b4 q];exact L
  .rw[b3 q,b3 q];exact r g
 .by_cases q:g=f
  .rw[q];exact(oQ f y fs).1
  .refine(oQ f y fs).2 g (wi g λz=>hg ?_);show (if g=f then some u else mA g)=none;rw[b3 q];exact z
def Inv.made (I:Inv X pins σ H s):Inv X pins σ (upd (upd H s.heap.objs.size (.own (s.heap.objs.size+1))) (s.heap.objs.size+1) (.ins C s.heap.objs.size []))
 { s with heap:=(s.heap.push PySem.W.emptyDict).push (PySem.W.instObj C s.heap.objs.size) }:=by
 have z:(s.heap.push PySem.W.emptyDict).get? s.heap.objs.size=some PySem.W.emptyDict:=aEU s.heap rfl;have J:((s.heap.push PySem.W.emptyDict).push (PySem.W.instObj C s.heap.objs.size)).get? (s.heap.objs.size+1)=some (PySem.W.instObj C s.heap.objs.size):=by
  have:=aEU (s.heap.push PySem.W.emptyDict) (o:=PySem.W.instObj C s.heap.objs.size) rfl
  rwa [nu]at this
 have L:(s.heap.push PySem.W.emptyDict).Ns s.heap.objs.size (λ_=>none):=⟨PySem.W.emptyDict,#[],_,z,rfl,(λe he=>absurd he (by simp)),λ_=>rfl⟩;have M:=I.laid (a:=s.heap.objs.size) (o:=.own (s.heap.objs.size+1)) (h':=s.heap.push PySem.W.emptyDict) (t':=s.toks) (λb u q=>aEO _ q) (ah _) ⟨_,z⟩;refine M.laid (a:=s.heap.objs.size+1) (o:=.ins C s.heap.objs.size []) (t':=s.toks) (λb u q=>aEO _ q) (qj (nu _ _)) ?_;have ne:s.heap.objs.size≠s.heap.objs.size+1:=aE9 (pj _);refine⟨by rw[aL ne,aJ],ka _,ne,J,λ_=>none,(Heap.Ns1.of_empty L).at λo q=>aEO _ q,λ_=>True.intro,λy O=>absurd rfl O⟩
def N9 {prog:Program} {w:World} {env:Env} {e:Expr} {f:Str} {pos:Pos} {s:Shared} {Q:Value->Shared->Prop} (J:attributeBase e f env (eval e env)=eval e env)
 (h:wpAny (model prog w) A (eval e env) (λo z=>wpAny (model prog w) A (getAttr o f true) Q E z) E s):wpAny (model prog w) A (eval (.Attribute e f pos) env) Q E s :=
 Attribute_any_ h (by rw[arm_eval_Attribute,J])
end
inductive c8 (K:PySem.W.Frag) (f:Str) (Q:VK) (x:V) (H1:Hp):Prop
 | mk (a:_) (C:_) (dx:_) (fs:_) (v:_) (h0_:x=.ref a) (h1_:H1 a=some (.ins C dx fs)) (h2_:Cls K C) (h3_:NoAttr K C f) (h4_:fs.lookup f=some v) (h5_:Q v H1):c8 K f Q x H1
def aDC (K:PySem.W.Frag) (ta:TE) (f:Str):TE:=fun σ H Q=>ta σ H λx H1=>c8 K f Q x H1
def aDs (K:PySem.W.Frag) (ta tv:TE) (f:Str):TS:=λD σ H=>tv σ H λy H1=>ta σ H1 λx H2=>∃ a C dx fs,x=.ref a/\H2 a=some (.ins C dx fs)/\Cls K C/\NoAttr K C f/\fs.length<1000 /\
 D.nx σ (upd H2 a (.ins C dx (mG f y fs)))
section
variable {X:Cx} {o e value:Expr} {f:Str} {pos pos' ao:Pos} {ta tv:TE}
def bP (he:PE X e ta) (z:attributeBase e f X.env (eval e X.env)=eval e X.env):PE X (.Attribute e f pos) (aDC X.K ta f):=by
 intro pins s σ H Q I h;refine N9 z (thn (he pins s σ H _ I h) λu Y ⟨x,H1,J,L,a,C,dx,fs,v,ex,M,c,n,l,q⟩=>?_);subst ex;obtain rfl:u=Value.ref a:=L;exact E9 J M c n l λu' s2 O U=>⟨v,H1,O,U,q⟩
def dR (z:PE X o ta) (J:PE X value tv) (hs:swapsWith value (some (.Attribute o f pos')) pos.line X.env=pure false):PS X (.Assign [.Attribute o f pos'] value pos) (aDs X.K ta tv f):=by
 intro pins s σ H D I h;refine lu (thn (J pins s σ H _ I h) λu L ⟨y,H1,M,O,q⟩=>thn (z pins L σ H1 _ M q) λU s2 ⟨x,H2,Y,rx,a,C,dx,fs,ex,ea,c,n,l,q2⟩=>?_) hs;subst ex;obtain rfl:U=Value.ref a:=rx;exact F0 Y ea c n l O λs3 I3=>⟨σ,_,I3,q2⟩
end
section
variable {X:Cx} {pins:List (Addr×Obj)} {σ:St} {H:Hp} {s:Shared} {A:Around} {E:Value->Shared->Prop} {Q:Value->Shared->Prop} {c:Value} {b:Bool}
inductive oS (K:PySem.W.Frag) (H:Hp):V->Value->Prop where
 | non:oS K H .non (.type "NoneType")
 | bl (x:Bool):oS K H (.bl x) (.type "bool")
 | int (i:Int):oS K H (.int i) (.type "int")
 | str (x:Str):oS K H (.str x) (.type "str")
 | flt (x:UInt64):oS K H (.flt x) (.type "float")
 | lst {a:Addr} {xs:List V} (e:H a=some (.lst xs)):oS K H (.ref a) (.type "list")
 | frz {a:Addr} {o:Obj} {xs:List V} (e:H a=some (.frz o (.lst xs))):oS K H (.ref a) (.type "list")
 | tup {a:Addr} {xs:List V} (e:H a=some (.tup xs)):oS K H (.ref a) (.type "tuple")
 | dK {a:Addr} {kvs:List (Key×V)} (e:H a=some (.dK kvs)):oS K H (.ref a) (.type "dict")
 | dT {a:Addr} {kvs:List (List Key×V)} (e:H a=some (.dT kvs)):oS K H (.ref a) (.type "dict")
 | ins {a C dx:Addr} {fs:List (Str×V)} (e:H a=some (.ins C dx fs)) (cl:Cls K C) (ha:PySem.W.findIn K (.ref C) "__class__"=some (some (.builtin "object.__class__")))
  (hn:PySem.W.specialIn K (.builtin "object.__class__") "__get__"=some (some (.builtin "getset_descriptor.__get__"))) (htk:PySem.W.takesIn K (.builtin "object.__class__")=some true)
  (hm:PySem.W.mroIn K C (.type "object")=some true):oS K H (.ref a) (.ref C)
def V3 {x:V} {u t:Value} (I:Inv X pins σ H s) (L:RelV x u) (ty:oS X.K H x t) (e:PySem.W.kitOne X.K t c=some b) (h:∀ tk,Q (.bool b) { s with toks:=tk }) :
 wpAny (model X.prog X.w) A (call (.builtin "isinstance") [u,c]) Q E s:=by
 cases ty with
 | non=>cases (show u=Value.none from L);exact jr PySem.W.kitx_none I.kIn True.intro e (λz=>nomatch z) h
 | bl y=>cases (show u=Value.bool y from L);exact jr PySem.W.kitx_bool I.kIn True.intro e (λz=>nomatch z) h
 | int i=>obtain⟨t,q⟩:=(show ∃ t,u=Value.int i t from L);cases q;exact jr PySem.W.kitx_int I.kIn True.intro e (λz=>nomatch z) h
 | str y=>obtain⟨t,q⟩:=(show ∃ t,u=Value.str y t from L);cases q;exact jr PySem.W.kitx_str I.kIn True.intro e (λz=>nomatch z) h
 | flt y=>obtain⟨t,q⟩:=(show ∃ t,u=Value.float y t from L);cases q;exact jr PySem.W.kitx_float I.kIn True.intro e (λz=>nomatch z) h
 | @lst a xs M =>
  cases (show u=Value.ref a from L);obtain⟨_,_,n,_,h1⟩:=(show ObjOk X.prog X.w H s.heap a (.lst xs) from I.hok a _ M);exact jr qt I.kIn ⟨_,h1,rfl⟩ e (λz=>nomatch z) h
 | @frz a ob xs M =>
  cases (show u=Value.ref a from L);obtain⟨_,_,_,n,_,h1⟩:=(show ObjOk X.prog X.w H s.heap a (.frz ob (.lst xs)) from I.hok a _ M);exact jr qt I.kIn ⟨_,h1,rfl⟩ e (λz=>nomatch z) h
 | @tup a xs M =>
  cases (show u=Value.ref a from L);obtain⟨_,_,_,p⟩:=(show ObjOk X.prog X.w H s.heap a (.tup xs) from I.hok a _ M);obtain⟨o,h1,h2,_⟩:=p;exact jr PySem.W.kitx_tuple I.kIn ⟨o,h1,h2⟩ e (λz=>nomatch z) h
 | @dK a kvs M =>
  cases (show u=Value.ref a from L);obtain⟨_,_,vs,_,p⟩:=(show ObjOk X.prog X.w H s.heap a (.dK kvs) from I.hok a _ M);obtain⟨o,es,ep,h1,h2,_⟩:=p;exact jr PySem.W.kitx_dict I.kIn ⟨o,h1,h2.1⟩ e (λz=>nomatch z) h
 | @dT a kvs M =>
  cases (show u=Value.ref a from L);obtain⟨_,_,xs,_,o,es,ep,h1,h2,_⟩:=(show ObjOk X.prog X.w H s.heap a (.dT kvs) from I.hok a _ M);exact jr PySem.W.kitx_dict I.kIn ⟨o,h1,h2.1⟩ e (λz=>nomatch z) h
 | @ins a C dx fs M Y ha hn U hm =>
  cases (show u=Value.ref a from L);obtain⟨mA,O,_⟩:=rB I.hok M;obtain⟨od,J,_⟩:=O.look;exact jr (PySem.W.kitx_own (Y.get _) Y.hd ha hn U hm) I.kIn J e (λz=>nomatch z) h
end
structure Room (k:Nat) (A:Around):Prop where
 hd:A.handled=none
 dp:A.depth+3 * k+5<recursionLimit
 un:A.units+16 * k+200<cLine
def Room.mono {j k:Nat} {A:Around} (r:Room k A) (h:j<=k):Room j A:=⟨r.hd,by have:=r.dp;lia,by have:=r.un;lia⟩
def Room.deeper {k:Nat} {A:Around} (r:Room (k+1) A) (env:Env):Room k (A.deeper env) :=
 ⟨r.hd,by have:=r.dp;show A.depth+1+3 * k+5<_;lia,by have:=r.un;show A.units+3+16 * k+200<_;lia⟩
def F1 {A:Around} {C:Addr} {us:List Value} {z:List (Str×Value)}:(A.under (.builtin "type.__call__" ⟨.ref C :: us,z⟩)).depth=A.depth+1:=by
 first | rfl | simp[Around.under,Code.weight,Code.isCreation,Code.isGuard,Code.isCaller,Code.frames,Code.isFrame,guardIds]
def F2 {A:Around} {C:Addr} {us:List Value} {z:List (Str×Value)}:(A.under (.builtin "type.__call__" ⟨.ref C :: us,z⟩)).units=A.units+1:=by
 first | rfl | simp[Around.under,Code.cUnits,Code.frames,Code.isFrame]
def Room.make {k:Nat} {A:Around} (r:Room (k+1) A) (C:Addr) (us:List Value) (z:List (Str×Value)):Room k (A.under (.builtin "type.__call__" ⟨.ref C :: us,z⟩)) :=
 ⟨r.hd,by have:=r.dp;rw[F1];lia,by have:=r.un;rw[F2];lia⟩
def Room.depth {k:Nat} {A:Around} (r:Room k A):A.depth<recursionLimit:=by have:=r.dp;lia
def Room.units {k:Nat} {A:Around} (r:Room k A):A.units+64<cLine:=by have:=r.un;lia
def wU:TA:=λ_ H Q=>Q [] H
def zA (ta:TE) (z:TA):TA:=fun σ H Q=>ta σ H λx H1=>z σ H1 λxs H2=>Q (x :: xs) H2
section
variable {X:Cx} {e:Expr} {es:List Expr} {te:TE} {t:TA} {pos:Pos}
def aB:PA X [] wU:=λ_ _ _ _ H Q I h=>ot ⟨[],H,I,.nil,h⟩
def aA (z:PE X e te) (J:PA X es t) (hs:starEach (e :: es) X.env=(false,eval e X.env) :: starEach es X.env:=by rfl):PA X (e :: es) (zA te t):=by
 intro pos pins s σ H Q I h;rw[hs];show wpAny _ _ (spliced ((false,eval e X.env) :: backTo pos (starEach es X.env))) _ _ s;refine lf (thn (z pins s σ H _ I h) λu L ⟨x,H1,M,r1,O⟩=>?_);exact thn (J pos pins L σ H1 _ M O) λus s2 ⟨xs,H2,U,r2,Y⟩=>⟨x :: xs,H2,U,.cons r1 r2,Y⟩
def aDD (t:TA):TE:=fun σ H Q=>t σ H λxs H1=>xs.length<=sizeLine/\∀ p,H1 p=none->Q (.ref p) (upd H1 p (.tup xs))
def aBn (t:TA):TE:=fun σ H Q=>t σ H λxs H1=>xs.length<=sizeLine/\∀ p,H1 p=none->Q (.ref p) (upd H1 p (.lst xs))
def bN {M} (h:PA X es t):PE X (.Tuple es M pos) (aDD t):=by
 intro pins s σ H Q I O;refine wpAny_Tuple_spliced (thn (h pos pins s σ H _ I O) λus J ⟨xs,H1,L,r,z,q⟩=>⟨by rw[<- r.length];exact z,?_⟩);have U:H1 J.heap.objs.size=none:=L.hok.fresh (ah _);refine⟨.ref J.heap.objs.size,upd H1 J.heap.objs.size (.tup xs),L.laid (t':=J.toks) (λb u e=>aEO _ e) (ah _) ?_,rfl,q _ U⟩;exact⟨z,us,r,⟨_,aEU _ rfl,rfl,_,rfl⟩⟩
def kJ (h:PA X es t):PE X (.List es pos) (aBn t):=by
 intro pins s σ H Q I M;refine wpAny_List_spliced (thn (h pos pins s σ H _ I M) λus J ⟨xs,H1,L,r,z,q⟩=>⟨by rw[<- r.length];exact z,?_⟩);have O:H1 J.heap.objs.size=none:=L.hok.fresh (ah _);refine⟨.ref J.heap.objs.size,upd H1 J.heap.objs.size (.lst xs),L.laid (t':=J.toks) (λb u e=>aEO _ e) (ah _) ?_,rfl,q _ O⟩;exact⟨z,us,0,r,aEU _ rfl⟩
end
abbrev Sp:=List V->Hp->VK->XK->Prop
abbrev CXT:=List Env->Hp->Shared->XK->Value->Shared->Prop
structure Env0 (P:Program) (w:World) (K:PySem.W.Frag) (mg:Str->Option Value) (base:Heap) (A:Around) (outer:List Env) (s:Shared) (H:Hp):Prop where
 frames:A.frames=some outer
 mod:Mod K mg base
 bs:∀ b o,base.get? b=some o->s.heap.get? b=some o/\H b=none
 bsz:base.objs.size<=s.heap.objs.size
 funs:s.heap.FunFrames base outer
 frf:∀ b∈frs outer,H b=none
 hok:HOk P w H s.heap
 bare:AllBare s.gens
def CE (outer:List Env) (P:Program) (w:World) (H:Hp) (s:Shared) (Q:VK) (u:Value) (s':Shared):Prop :=
 ∃ v H',s'.os=s.os/\AllBare s'.gens/\Un (frs outer) [] H H' s.heap s'.heap/\HOk P w H' s'.heap/\RelV v u/\Q v H'
def CR (CX:CXT) (outer:List Env) (P:Program) (w:World) (H:Hp) (s:Shared) (Q:VK) (E:XK) (r:Result) (s':Shared):Prop :=
 match r with
 | .ok (.ret u)=>CE outer P w H s Q u s'
 | .ok _=>False
 | .error e=>CX outer H s E e s'
structure FnOk (P:Program) (w:World) (K:PySem.W.Frag) (mg:Str->Option Value) (base:Heap) (CX:CXT) (k:Nat) (f:Addr) (fd:FuncData) (ps:List Str) (sp:Sp):Prop where
 len:∀ vs H Q E,sp vs H Q E->vs.length=ps.length
 run:∀ (A:Around) (outer:List Env) (s:Shared) (H:Hp) (args:Args) (us:List Value) (vs:List V) (Q:VK) (E:XK),Room k A->Env0 P w K mg base A outer s H->BindsTo s fd args (ps.zip us)->Vals vs us->sp vs H Q E ->
  codeAny (model P w) A (.call (.ref f) args) (CR CX outer P w H s Q E) s
def FnOk.imp {P:Program} {w:World} {K:PySem.W.Frag} {mg:Str->Option Value} {base:Heap} {CX:CXT} {k:Nat} {f:Addr} {fd:FuncData} {ps:List Str} {sp z:Sp} (F:FnOk P w K mg base CX k f fd ps sp)
 (h:∀ vs H Q E,z vs H Q E->sp vs H Q E):FnOk P w K mg base CX k f fd ps z :=
 ⟨λvs H Q E q=>F.len vs H Q E (h _ _ _ _ q),λA outer s H args us vs Q E J he L M hs=>F.run A outer s H args us vs Q E J he L M (h _ _ _ _ hs)⟩
def Env0.make {P:Program} {w:World} {K:PySem.W.Frag} {mg:Str->Option Value} {base:Heap} {A:Around} {outer:List Env} {s:Shared} {H:Hp} (e:Env0 P w K mg base A outer s H) (C:Addr) (us:List Value) (z:List (Str×Value)) :
 Env0 P w K mg base (A.under (.builtin "type.__call__" ⟨.ref C :: us,z⟩)) outer s H:=⟨by first | exact e.frames | (simpa[Around.under,Code.envs,Code.isFrame,pushEnvs]using e.frames),e.mod,e.bs,e.bsz,e.funs,e.frf,e.hok,e.bare⟩
section
variable {X:Cx} {pins:List (Addr×Obj)} {σ:St} {H:Hp} {s s':Shared}
def Inv.env0 (I:Inv X pins σ H s):Env0 X.prog X.w X.K X.mg X.base X.A X.stack s H :=
 ⟨I.ok.frames,I.ok.mod,I.bs,fy I.ok.bsz I.sz,I.stack,I.stkFree,I.hok,I.bare⟩
def Inv.after {Q:VK} {u:Value} (I:Inv X pins σ H s) (h:CE X.stack X.prog X.w H s Q u s'):EP X pins σ Q u s':=by
 obtain⟨v,H',os,bare,un,hok,r,q⟩:=h;obtain⟨L,g,d,t,J⟩:=s';obtain rfl:J=s.os:=os;exact⟨v,H',I.call (h':=L) (g':=g) (d':=d) (t':=t) (ch:=[]) un hok bare (λb z=>absurd z (by simp)),r,q⟩
end
def zB (sp:Sp) (af:List V) (E:XK) (t:TA):TE:=fun σ H Q=>t σ H λvs H1=>sp (vs++af) H1 Q E
inductive O0 (C:Addr) (m:Str) (sp:Sp) (af:List V) (E:XK) (t:TA) (σ:St) (Q:VK) (x:V) (H1:Hp):Prop
 | mk (a:_) (dx:_) (fs:_) (h0_:x=.ref a) (h1_:H1 a=some (.ins C dx fs)) (h2_:fs.lookup m=none) (h3_:t σ H1 λvs H2=>sp (x :: (vs++af)) H2 Q E):O0 C m sp af E t σ Q x H1
def vK (C:Addr) (m:Str) (sp:Sp) (af:List V) (E:XK) (ta:TE) (t:TA):TE:=fun σ H Q=>ta σ H λx H1=>O0 C m sp af E t σ Q x H1
def O1 (C:Addr) (sp:Sp) (af:List V) (E:XK) (t:TA):TE:=fun σ H Q=>t σ H λvs H1=>∀ x dx,H1 x=none->H1 dx=none->dx≠x ->
 sp (.ref x :: (vs++af)) (upd (upd H1 dx (.own x)) x (.ins C dx [])) (λv H2=>v=.non/\Q (.ref x) H2) E
def Binds (K:PySem.W.Frag) (fd:FuncData) (ps:List Str) (ds:List Value):Prop :=
 ∀ (s:Shared) (us:List Value),K.In s.heap->(us++ds).length=ps.length->BindsTo s fd ⟨us,[]⟩ (ps.zip (us++ds))
def Binds.all {K:PySem.W.Frag} {fd:FuncData} {ps:List Str} (h:∀ us:List Value,us.length=ps.length->bindArgs fd ⟨us,[]⟩=pure (ps.zip us)):Binds K fd ps []:=λs us _ z=>by
 rw[jv]at z ⊢;exact .of_eq (h us z)
def dS (CX:CXT) (X:Cx) (E:XK):Prop:=∀ (pins:List (Addr×Obj)) (σ:St) (H:Hp) (s:Shared) (e:Value) (s':Shared),Inv X pins σ H s->CX X.stack H s E e s'->X.xe e s'
section
variable {X:Cx} {CX:CXT} {k:Nat} {f C:Addr} {fd:FuncData} {ps:List Str} {sp:Sp} {af:List V} {ds:List Value} {E:XK} {x m:Str} {p pos apos:Pos} {e o:Expr} {es:List Expr} {ta:TE} {t:TA}
def rR {pins:List (Addr×Obj)} {σ:St} {H:Hp} {s:Shared} {Q:VK} {us:List Value} {vs:List V} (F:FnOk X.prog X.w X.K X.mg X.base CX k f fd ps sp) (J:Room k X.A) (L:Binds X.K fd ps ds) (hd:Vals af ds) (M:dS CX X E)
 (I:Inv X pins σ H s) (r:Vals vs us) (h:sp (vs++af) H Q E):wpAny (model X.prog X.w) X.A (call (.ref f) us) (EP X pins σ Q) X.xe s:=by
 have r2:Vals (vs++af) (us++ds):=r.append hd;have O:(us++ds).length=ps.length:=by rw[<- r2.length];exact F.len _ _ _ _ h
 refine ny (mw (F.run X.A X.stack s H ⟨us,[]⟩ (us++ds) (vs++af) Q E J I.env0 (L s us I.kIn O) r2 h) λr s' z=>?_);cases r with
 | error e=>exact M pins σ H s e s' I z
 | ok fl =>
  cases fl with
  | ret u=>exact I.after z
  | next=>exact False.elim z
  | brk=>exact False.elim z
  | cont=>exact False.elim z
def O2 (F:FnOk X.prog X.w X.K X.mg X.base CX k f fd ps sp) (J:Room k X.A) (L:Gl X x) (M:X.mg x=some (.ref f)) (O:PySem.W.keepIn X.K (.ref f)=true) (U:Binds X.K fd ps ds) (hd:Vals af ds) (Y:dS CX X E)
 (ha:PA X (e :: es) t) (hdb:(x == ("__debug__":Str))=false:=by decide) (he:starEach (e :: es) X.env=(false,eval e X.env) :: starEach es X.env:=by rfl) (hpl:(backTo pos (starEach es X.env)).any (·.1)=false:=by rfl) :
 PE X (.Call (.Name x p) (e :: es) [] pos) (zB sp af E t):=by
 intro pins s σ H Q I h;refine kh (eG I L M ?_ hdb);refine ki (h₀:=X.base) I.ok.mod.kin O (thn (ha pos pins s σ H _ I h) λus s1 ⟨vs,H1,z,r,q⟩=>⟨z.kIn,?_⟩) he hpl;exact rR F J U hd Y z r q
def O3 {pl:Sem Bool} (he:PE X o ta) (c:Cls X.K C) (z:V2 X.K C m f) (F:FnOk X.prog X.w X.K X.mg X.base CX k f fd ps sp) (O:Room k X.A) (U:Binds X.K fd ps ds) (hd:Vals af ds) (Y:dS CX X E) (ha:PA X (e :: es) t)
 (hst:starEach (e :: es) X.env=(false,eval e X.env) :: starEach es X.env:=by rfl) (hpl:(backTo pos (starEach es X.env)).any (·.1)=false:=by rfl)
 (ht:eval (.Call (.Attribute o m apos) (e :: es) [] pos) X.env=(do
  let J <- eval o X.env
  standAt apos.atName
  let (f,first) <- holding [J] (getMethod J m pl)
  callWith pos f first (backTo pos (starEach (e :: es) X.env)) (backToKw pos (keywordEach [] X.env))):=by rfl) :
 PE X (.Call (.Attribute o m apos) (e :: es) [] pos) (vK C m sp af E ta t):=by
 intro pins s σ H Q I h;refine lh (pl:=pl) (thn (he pins s σ H _ I h) λu s1 ⟨x,H1,L,rx,a,dx,fs,ex,ea,l,q⟩=>?_) ht;subst ex;obtain rfl:u=Value.ref a:=rx;refine rQ L ea c z l ?_;refine ki (first:=[.ref a]) (h₀:=X.base) I.ok.mod.kin z.kp (thn (ha pos pins s1 σ H1 _ L q) λus s2 ⟨vs,H2,M,r,q2⟩=>⟨M.kIn,?_⟩) hst hpl;exact rR (us:=.ref a :: us) (vs:=.ref a :: vs) F O U hd Y M (.cons rfl r) q2
def zC {pl:Sem Bool} (he:PE X o ta) (c:Cls X.K C) (J:V2 X.K C m f) (F:FnOk X.prog X.w X.K X.mg X.base CX k f fd ps sp) (M:Room k X.A) (O:Binds X.K fd ps ds) (hd:Vals af ds) (U:dS CX X E)
 (ht:eval (.Call (.Attribute o m apos) [] [] pos) X.env=(do
  let L <- eval o X.env
  standAt apos.atName
  let (f,first) <- holding [L] (getMethod L m pl)
  callWith pos f first (backTo pos (starEach [] X.env)) (backToKw pos (keywordEach [] X.env))):=by rfl) :
 PE X (.Call (.Attribute o m apos) [] [] pos) (vK C m sp af E ta wU):=by
 intro pins s σ H Q I h;refine lh (pl:=pl) (thn (he pins s σ H _ I h) λu s1 ⟨x,H1,z,Y,a,dx,fs,ex,ea,l,q⟩=>?_) ht;subst ex;obtain rfl:u=Value.ref a:=Y;refine rQ z ea c J l ?_;exact ue (first:=[.ref a]) z.kIn J.kp (rR (us:=[.ref a]) (vs:=[.ref a]) F M O hd U z (.cons rfl .nil) q)
structure Mk (K:PySem.W.Frag) (C f:Addr):Prop where
 makes:PySem.W.makesIn K C=true
 init:PySem.W.findIn K (.ref C) "__init__"=some (some (.ref f))
 fn:PySem.W.isFn K (.ref f)=true
 kp:PySem.W.keepIn K (.ref C)=true
def zD {pins:List (Addr×Obj)} {σ:St} {H:Hp} {s:Shared} {Q:VK} {us:List Value} {vs:List V} (M:Mk X.K C f) (F:FnOk X.prog X.w X.K X.mg X.base CX k f fd ps sp) (O:Room (k+1) X.A) (U:Binds X.K fd ps ds) (hd:Vals af ds)
 (Y:dS CX X E) (I:Inv X pins σ H s) (r:Vals vs us)
 (h:∀ x dx,H x=none->H dx=none->dx≠x->sp (.ref x :: (vs++af)) (upd (upd H dx (.own x)) x (.ins C dx [])) (λv H2=>v=.non/\Q (.ref x) H2) E) :
 wpAny (model X.prog X.w) X.A (call (.ref C) us) (EP X pins σ Q) X.xe s:=by
 have L:=h (s.heap.objs.size+1) s.heap.objs.size (I.hok.fresh (qc _)) (I.hok.fresh (ah _)) (aE9 (pj _));have J:=Inv.made (C:=C) I;have r2:Vals (V.ref (s.heap.objs.size+1) :: (vs++af)) (Value.ref (s.heap.objs.size+1) :: (us++ds)):=.cons rfl (r.append hd);have hl:(Value.ref (s.heap.objs.size+1) :: us++ds).length=ps.length:=by
  have e:=r2.length;rw[F.len _ _ _ _ L]at e;exact e.symm
 refine ny (c7 (f:=f) I.kIn M.makes M.init (beq_iff_eq.mp M.fn) (mw (F.run _ X.stack _ _ ⟨Value.ref (s.heap.objs.size+1) :: us,[]⟩ (Value.ref (s.heap.objs.size+1) :: (us++ds)) _ _ E (O.make C us [])
  (J.env0.make C us []) (U _ (Value.ref (s.heap.objs.size+1) :: us) J.kIn hl) r2 L) λr s' z=>?_))
 cases r with
 | error e=>exact Y pins σ _ _ e s' J z
 | ok fl =>
  cases fl with
  | ret u =>
   obtain⟨v,H',I3,rv,ev,q3⟩:=J.after z;subst ev;exact⟨rv,⟨V.ref (s.heap.objs.size+1),H',I3,rfl,q3⟩⟩
  | next=>exact False.elim z
  | brk=>exact False.elim z
  | cont=>exact False.elim z
def aAe (M:Mk X.K C f) (F:FnOk X.prog X.w X.K X.mg X.base CX k f fd ps sp) (J:Room (k+1) X.A) (L:Gl X x) (O:X.mg x=some (.ref C)) (U:Binds X.K fd ps ds) (hd:Vals af ds) (Y:dS CX X E)
 (ha:PA X (e :: es) t) (hdb:(x == ("__debug__":Str))=false:=by decide) (he:starEach (e :: es) X.env=(false,eval e X.env) :: starEach es X.env:=by rfl) (hpl:(backTo pos (starEach es X.env)).any (·.1)=false:=by rfl) :
 PE X (.Call (.Name x p) (e :: es) [] pos) (O1 C sp af E t):=by
 intro pins s σ H Q I h;refine kh (eG I L O ?_ hdb);refine ki (h₀:=X.base) I.ok.mod.kin M.kp (thn (ha pos pins s σ H _ I h) λus s1 ⟨vs,H1,z,r,q⟩=>⟨z.kIn,?_⟩) he hpl;exact zD M F J U hd Y z r q
def c9 (M:Mk X.K C f) (F:FnOk X.prog X.w X.K X.mg X.base CX k f fd ps sp) (z:Room (k+1) X.A) (J:Gl X x) (L:X.mg x=some (.ref C)) (O:Binds X.K fd ps ds) (hd:Vals af ds) (U:dS CX X E)
 (hdb:(x == ("__debug__":Str))=false:=by decide):PE X (.Call (.Name x p) [] [] pos) (O1 C sp af E wU):=by
 intro pins s σ H Q I h;refine kh (eG I J L ?_ hdb);exact ue I.kIn M.kp (zD (us:=[]) M F z O hd U I .nil h)
end
structure FnScope (N P:List Str) (sc:Scope):Prop where
 kind:sc.kind=.function
 co:sc.isCoroutine=false
 gen:sc.isGenerator=false
 nd:N.Nodup
 pre:N.take P.length=P
 par:∀ x∈P,sc.names.lookup x=some .local\/sc.names.lookup x=some .cell
 nofree:∀ y∈sc.names,y.2≠.free
def vL {kindOf:Str->Option NameKind} {x:Str}:∀ {binds:List (Str×Value)} {m:Str->Option Value},(∀ v,(x,v)∉binds)->bindL kindOf binds m x=m x
 | [],_,_=>rfl
 | (n,v) :: r,m,h=>by
  unfold bindL;rw[vL λw hw=>h w (aEQ _ hw)];split
  .have:x≠n:=by rintro rfl;exact h v aEP
   simp[this]
  .rfl
def vM {kindOf:Str->Option NameKind} {x:Str}:∀ {binds:List (Str×Value)} {m:Str->Option Value},(∀ v,(x,v)∉binds)->bindC kindOf binds m x=m x
 | [],_,_=>rfl
 | (n,v) :: r,m,h=>by
  unfold bindC;rw[vM λw hw=>h w (aEQ _ hw)];split
  .rfl
  .have:x≠n:=by rintro rfl;exact h v aEP
   simp[this]
def vN {kindOf:Str->Option NameKind} {x:Str} {v:Value}:∀ {P:List Str} {vs:List Value} {i:Nat} {m:Str->Option Value},P.Nodup->P[i]?=some x->vs[i]?=some v->kindOf x=some .local ->
 bindL kindOf (P.zip vs) m x=some v
 | [],_,_,_,_,h,_,_=>by simp at h
 | _ :: _,[],_,_,_,_,h,_=>by simp at h
 | p :: P,w :: vs,0,m,nd,h1,h2,z=>by
  simp at h1 h2;subst h1;subst h2;show bindL kindOf ((p,w) :: P.zip vs) m p=_;unfold bindL;rw[vL λv J=>(List.nodup_cons.mp nd).1 (lv J).1,b4 z];simp
 | p :: P,w :: vs,i+1,m,nd,h1,h2,z=>by
  show bindL kindOf ((p,w) :: P.zip vs) m x=_;unfold bindL;exact vN (i:=i) (List.nodup_cons.mp nd).2 (by simpa using h1) (by simpa using h2) z
def vO {kindOf:Str->Option NameKind} {x:Str} {v:Value}:∀ {P:List Str} {vs:List Value} {i:Nat} {m:Str->Option Value},P.Nodup->P[i]?=some x->vs[i]?=some v->kindOf x≠some .local ->
 bindC kindOf (P.zip vs) m x=some v
 | [],_,_,_,_,h,_,_=>by simp at h
 | _ :: _,[],_,_,_,_,h,_=>by simp at h
 | p :: P,w :: vs,0,m,nd,h1,h2,z=>by
  simp at h1 h2;subst h1;subst h2;show bindC kindOf ((p,w) :: P.zip vs) m p=_;unfold bindC;rw[vM λv J=>(List.nodup_cons.mp nd).1 (lv J).1,b3 z];simp
 | p :: P,w :: vs,i+1,m,nd,h1,h2,z=>by
  show bindC kindOf ((p,w) :: P.zip vs) m x=_;unfold bindC;exact vO (i:=i) (List.nodup_cons.mp nd).2 (by simpa using h1) (by simpa using h2) z
def dQ (N:List Str) (vs:List V):St:=vs.map some++List.replicate (N.length - vs.length) none
def fX (CX:CXT) (P:Program) (w:World) (K:PySem.W.Frag) (mg:Str->Option Value) (base:Heap) (N:List Str) (qual:Str) (scope:Scope) (f:Addr) (cd:Value) (A:Around) (outer:List Env) (s:Shared) (H:Hp) (E:XK):Cx where
 prog:=P
 w:=w
 K:=K
 mg:=mg
 base:=base
 A:=A.deeper (envOfC qual scope s.heap.objs.size f cd)
 N:=N
 s₀:=s
 H₀:=H
 env:=envOfC qual scope s.heap.objs.size f cd
 outer:=outer
 stack:=envOfC qual scope s.heap.objs.size f cd :: outer
 ex:=[]
 calm:=true
 fn:=λ_=>true
 pn:=[]
 xe:=λe s'=>wpAny (model P w) (A.deeper (envOfC qual scope s.heap.objs.size f cd)) (leaving (envOfC qual scope s.heap.objs.size f cd) e) (λ_ s''=>CX outer H s E e s'') (λe' s''=>CX outer H s E e' s'') s'
def zE {z:Scope} {n:Nat} {x:Str} (h:z.names.lookup x=some .cell):∃ c,(cellsFrom n z.names []).lookup x=some c:=by
 have q:=mr z.names n [] (.inl h);exact Option.isSome_iff_exists.mp q
def oU {CX:CXT} {P:Program} {w:World} {K:PySem.W.Frag} {mg:Str->Option Value} {base:Heap} {N ps:List Str} {qual:Str} {scope:Scope} {f:Addr} {cd:Value} {A:Around} {outer:List Env} {s U:Shared} {H:Hp} {E:XK} {us:List Value} {vs:List V}
 (S:FnScope N ps scope) (hd:A.handled=none) (J:Env0 P w K mg base A outer s H) (hl:vs.length=ps.length) (r:Vals vs us)
 (x:InCallC s s.heap.objs.size (bindL (envOfC qual scope s.heap.objs.size f cd).kindOf (ps.zip us) λ_=>none) (cellsFrom (s.heap.objs.size+1) scope.names []) (bindC (envOfC qual scope s.heap.objs.size f cd).kindOf (ps.zip us) λ_=>none) U) :
 Inv (fX CX P w K mg base N qual scope f cd A outer s H E) [] (dQ N vs) H U:=by
 have hpl:ps.length<=N.length:=by have:=congrArg List.length S.pre;rw[aE2]at this;lia
 obtain⟨h1,tk,rfl,Y⟩:=x.done;have L:∀ b:Addr,b∉(fX CX P w K mg base N qual scope f cd A outer s H E).ex:=λb z=>absurd (show b∈([]:List Addr) from z) (by simp);refine⟨⟨J.mod,S.kind,rfl,rfl,ah _,λy z c h1 h2=>?_,λy hy=>?_,λy c _ h=>?_,λ_=>hd,lm J.frames,.inr ⟨rfl,rfl⟩,λb z=>absurd z (L b),J.bs,J.bsz,λb _ _=>L b,λb z=>absurd z (L b),J.funs,J.frf⟩,
  rfl,J.bare,Un.kept Y,⟨_,x.toInCall.ns,λi y v h1 h2 h3=>?_⟩,λy c h=>⟨_,x.cell y c h⟩,J.hok.fresh (ah _),λy c h=>?_,λp M=>absurd (show p∈([]:List (Addr×Obj)) from M) (by simp),J.hok.kept Y,?_⟩
 .exact name_of_addr x.apart (kr h1) (kr h2)
 .have hy:scope.names.lookup y=some .cell\/scope.names.lookup y=some .free:=hy;rcases hy with hy | hy
  .exact zE hy
  .exact absurd rfl (S.nofree _ (kr hy))
 .exact qi (x.above y c (kr h))
 .have hi:i<vs.length:=by
   unfold dQ at h2
   by_cases hi:i<vs.length
   .exact hi
   .rw[na (by simpa using hi)]at h2;rw[r8]at h2;split at h2 <;> cases h2
  have ha:vs[i]?=some v:=by
   unfold dQ at h2;rw[qp (by simpa using hi),aEa]at h2;cases e:vs[i]? with
   | none=>rw[e]at h2;cases h2
   | some a=>rw[e]at h2;cases h2;rfl
  obtain⟨u,hu,rv⟩:=r.get ha;have M:ps[i]?=some y:=by
   rw[<- S.pre,List.getElem?_take_of_lt (by lia)];exact h1
  have O:ps.Nodup:=by rw[<- S.pre];exact S.nd.sublist (List.take_sublist _ _)
  refine⟨u,rv,?_⟩;rcases S.par y (aEY M)with k | k
  .exact .inl ⟨k,vN O M hu k⟩
  .obtain⟨c,e⟩:=zE (n:=s.heap.objs.size+1) k;refine .inr ⟨.inl k,c,e,?_⟩;have q:=x.cell y c e;rw[vO O M hu (by show scope.names.lookup y≠_;rw[k];decide)]at q;exact q
 .exact J.hok.fresh (qi (x.above y c (kr h)))
 .unfold dQ;show _=N.length;rw[aEW,aEN,aE6]
  lia
def aBV {CX:CXT} {P:Program} {w:World} {K:PySem.W.Frag} {mg:Str->Option Value} {base:Heap} {k:Nat} {f:Addr} {name qual:Str} {params:Arguments} {body:List Stmt} {scope:Scope} {dV kV U pm z ct oc:Value} {an od:Option Addr}
 {aw:Array (Option Value)} {N ps:List Str} {sp:Sp} (lk:K.lookup f=some ⟨oc,od,.func (PySem.W.fnOf name qual params body scope dV kV U pm an z ct),aw⟩) (ax:PySem.W.codeIn K z qual=true) (S:FnScope N ps scope)
 (len:∀ vs H Q E,sp vs H Q E->vs.length=ps.length)
 (M:∀ (A:Around) (outer:List Env) (s:Shared) (H:Hp) (vs:List V) (Q:VK) (E:XK),Room k (A.deeper (envOfC qual scope s.heap.objs.size f z))->sp vs H Q E ->
  ∃ t,PSs (fX CX P w K mg base N qual scope f z A outer s H E) body t/\t { nx:=λ_ H'=>Q .non H',rt:=Q } (dQ N vs) H) :
 FnOk P w K mg base CX (k+1) f (PySem.W.fnOf name qual params body scope dV kV U pm an z ct) ps sp:=by
 refine⟨len,λA outer s H args us vs Q E hr Y hb r au=>?_⟩;have hl:=len _ _ _ _ au;have KX:K.In s.heap:=Y.mod.kin.keeps λb o e=>(Y.bs b o e).1;have ay:s.heap.NoLimit:=Y.mod.nolimit.keeps λb o e=>(Y.bs b o e).1;have O:∀ y∈ps.zip us,scope.names.lookup y.1=some .local\/(scope.names.lookup y.1=some .cell/\((cellsFrom (s.heap.objs.size+1) scope.names []).lookup y.1).isSome=true):=λ⟨n,v⟩ hy=>by
  rcases S.par n (lv hy).1 with q | q
  .exact .inl q
  .exact .inr ⟨q,mr _ _ _ (.inl q)⟩
 refine ow hr.depth (KX _ _ lk) rfl S.co S.gen rfl (qk KX ax) (hb _ _ _ _ ?_);refine nc S.kind O λenv he s1 x=>?_;subst he;refine⟨ay.keeps x.toInCall.keep,uo ?_⟩;obtain⟨t,ht,hq⟩:=M A outer s H vs Q E (hr.deeper _) au;have I:Inv (fX CX P w K mg base N qual scope f z A outer s H E) [] (dQ N vs) H s1:=oU S hr.hd Y hl r x;refine eu (ht [] s1 (dQ N vs) H _ I hq) (λfl s' hs=>?_) λe s' hs=>hs;have av:∀ {L:St} {H':Hp} {v:V} {u:Value},Inv (fX CX P w K mg base N qual scope f z A outer s H E) [] L H' s'->RelV v u->Q v H'->CE outer P w H s Q u s' :=
  λ{L H' v u} J rv q=>⟨v,H',J.os,J.bare,J.base,J.hok,rv,q⟩
 cases fl with
 | ret u =>
  obtain⟨v,L,H',J,rv,q⟩:=hs;exact av J rv q
 | next =>
  obtain⟨L,H',J,q⟩:=hs;exact av (v:=V.non) (u:=Value.none) J rfl q
 | brk =>
  obtain⟨_,_,_,q⟩:=hs;exact False.elim q
 | cont =>
  obtain⟨_,_,_,q⟩:=hs;exact False.elim q
section
variable {X:Cx} {x:Str} {p pos:Pos} {e:Expr} {es:List Expr} {t:TA} {id T:String} {r:List V->Hp->VK->Prop}
def tCB (r:List V->Hp->VK->Prop) (t:TA):TE:=fun σ H Q=>t σ H λvs H1=>r vs H1 Q
def aZ (z:eX X (.builtin id) r) (J:Gl X x) (L:X.mg x=none) (M:bootBuiltins x=some (.builtin id)) (O:PA X (e :: es) t) (U:x≠"__name__":=by decide) (hdb:(x == ("__debug__":Str))=false:=by decide)
 (he:starEach (e :: es) X.env=(false,eval e X.env) :: starEach es X.env:=by rfl) (hpl:(backTo pos (starEach es X.env)).any (·.1)=false:=by rfl):PE X (.Call (.Name x p) (e :: es) [] pos) (tCB r t):=by
 intro pins s σ H Q I h;refine kh (mW I J L M ?_ U hdb);exact PyProof.Rows.callWith_builtin1 (thn (O pos pins s σ H _ I h) λus Y ⟨vs,H1,I1,r1,q1⟩=>z pins Y σ H1 vs us Q I1 r1 q1) he hpl
def cM (z:eX X (.type T) r) (J:Gl X x) (L:X.mg x=none) (M:bootBuiltins x=some (.type T)) (O:PA X (e :: es) t) (U:x≠"__name__":=by decide) (hdb:(x == ("__debug__":Str))=false:=by decide)
 (he:starEach (e :: es) X.env=(false,eval e X.env) :: starEach es X.env:=by rfl) (hpl:(backTo pos (starEach es X.env)).any (·.1)=false:=by rfl):PE X (.Call (.Name x p) (e :: es) [] pos) (tCB r t):=by
 intro pins s σ H Q I h;refine kh (mW I J L M ?_ U hdb);exact ko (thn (O pos pins s σ H _ I h) λus Y ⟨vs,H1,I1,r1,q1⟩=>z pins Y σ H1 vs us Q I1 r1 q1) he hpl
end
end L2
namespace HT
open PySem PyProof.Rows
section
variable {prog:Program} {w:World} {A:Around} {E:Value->Shared->Prop} {s:Shared}
def cat_tup {t b:Addr} {vs ws:List Value} {Q:Value->Shared->Prop} (ht:IsTup s.heap t vs.toArray) (hb:IsTup s.heap b ws.toArray) (U:vs≠[])
 (h1:ws=[]->Q (.ref t) s) (h2:ws≠[]->Q (.ref s.heap.objs.size) { s with heap:=s.heap.push { cls:=.type "tuple",data:=.seq (vs++ws).toArray } })
 (hsz:vs.length+ws.length<=sizeLine):wpAny (model prog w) A (binaryOp .Add (.ref t) (.ref b)) Q E s:=by
 obtain⟨⟨cls,dd,data,Y⟩,ho,hc,n,hd⟩:=id ht;obtain⟨⟨au,J,data2,L⟩,z,M,n2,O⟩:=id hb;simp only at hc hd M O;subst hc hd M O;have e:vs.toArray++ws.toArray=(vs++ws).toArray:=by simp
 by_cases hw:ws=[]
 .exact uq ⟨_,ho,rfl⟩ ⟨_,z,rfl⟩ rn uk oq og (nz _ _)
   (tuple_addW1 t b vs.toArray ws.toArray n n2 dd J Y L (by simpa using U) (by simp[hw])) ⟨ho,z,h1 hw⟩
 .refine uq ⟨_,ho,rfl⟩ ⟨_,z,rfl⟩ rn uk oq og (nz _ _)
   (tuple_addW2 t b vs.toArray ws.toArray n n2 dd J Y L (by simpa using U) (by simpa using hw) (by rw[aEV,aEV];exact hsz)) ⟨ho,z,?_⟩
  rw[e];exact h2 hw
def sIx (n d:Nat):Option Int->Nat
 | none=>d
 | some v=>if v<0 then (v+(n:Int)).toNat else min v.toNat n
def sIx_none (n d:Nat):sIx n d none=d:=rfl
def sIx_nat (n d k:Nat):sIx n d (some (k:Int))=min k n:=by
 show (if (k:Int)<0 then ((k:Int)+(n:Int)).toNat else min (k:Int).toNat n)=min k n;rw[b3 (by lia),Int.toNat_natCast]
def aBo (n d:Nat) (hd:d<=n) (o:Option Int):sIx n d o<=n:=by
 cases o with
 | none=>exact hd
 | some v =>
  show (if v<0 then (v+(n:Int)).toNat else min v.toNat n)<=n
  by_cases z:v<0
  .rw[b4 z];lia
  .rw[b3 z];exact Nat.min_le_right _ _
def O4 (v:Int) (n d:Nat):(if v<0 then max (v+(n:Int)) 0 else min v (n:Int))=((sIx n d (some v):Nat):Int):=by
 show (if v<0 then max (v+(n:Int)) 0 else min v (n:Int))=(((if v<0 then (v+(n:Int)).toNat else min v.toNat n):Nat):Int)
 by_cases z:v<0
 .simp only[b4 z];lia
 .simp only[b3 z];lia
def F3 (lo hi:Option Int) (n:Nat):Builtin.Slice.sliceAdjust lo hi 1 (n:Int)=(((sIx n 0 lo:Nat):Int),((sIx n n hi:Nat):Int)):=by
 have h1:¬ ((1:Int)<0):=by lia
 unfold Builtin.Slice.sliceAdjust;simp only[h1,rb];refine Prod.ext ?_ ?_
 .cases lo with
  | none=>rfl
  | some v=>exact O4 v n 0
 .cases hi with
  | none=>rfl
  | some v=>exact O4 v n n
def F4 (i j:Nat):Builtin.Slice.slicePlaces (i:Int) (j:Int) 1=j - i:=by
 unfold Builtin.Slice.slicePlaces;have h1:(1:Int) > 0:=by lia
 simp only[h1,uf,Int.ediv_one];split <;> lia
def rS {v:Value} {o:Option Int} {Q:Option Int->Shared->Prop} (p:IsPart v o) (h:Q o s):wpAny (model prog w) A (Builtin.Slice.slicePartIndex v) Q E s:=by
 cases p with
 | none=>exact slicePart_none h
 | int i t=>exact slicePart_int h
def sliceApplied_gen {O:Addr} {L M:Value} {lo hi:Option Int} {n:Nat} {Q:Int×Int×Nat->Shared->Prop} (hs:s.heap.IsSliceOf O L M .none) (pl:IsPart L lo) (U:IsPart M hi)
 (h:Q (((sIx n 0 lo:Nat):Int),1,sIx n n hi - sIx n 0 lo) s):wpAny (model prog w) A (Builtin.Slice.sliceApplied (.ref O) (pure (n:Int))) Q E s:=by
 obtain⟨os,z,Y,J⟩:=id hs;unfold Builtin.Slice.sliceApplied Builtin.Slice.sliceFields;refine aEL (aEL (mh z J (x:=L) rfl (aEL (mh z J (x:=M) rfl (aEL (mh z J (x:=.none) rfl (aEM ?_)))))));refine aEL (slicePart_none ?_);show wpAny _ _ (if ((1:Int) == 0)=true then _ else _) _ _ s;rw[b3 (by decide)];refine aEL (rS pl (aEL (rS U (aEL (aEM ?_)))));show wpAny _ _ (match Builtin.Slice.sliceAdjust lo hi 1 (n:Int)with | (lo,hi)=>pure (lo,(1:Int),Builtin.Slice.slicePlaces lo hi 1)) _ _ s;rw[F3 lo hi n];show wpAny _ _ (pure (((sIx n 0 lo:Nat):Int),(1:Int),Builtin.Slice.slicePlaces ((sIx n 0 lo:Nat):Int) ((sIx n n hi:Nat):Int) 1)) _ _ s;rw[F4];exact aEM h
def g0 (xs:Array Value) (i k:Nat):((List.range k).filterMap λ(m:Nat)=>xs[((i:Int)+(m:Int) * 1).toNat]?).toArray=((xs.toList.drop i).take k).toArray:=by
 have e:(λ(m:Nat)=>xs[((i:Int)+(m:Int) * 1).toNat]?)=λm=>xs[i+m]?:=by
  funext m
  have:((i:Int)+(m:Int) * 1).toNat=i+m:=by lia
  rw[this]
 rw[e];have:=pick_run xs i k;rw[List.filterMap_map]at this;have e2:((λx=>xs[x]?)∘λx=>i+x)=λm=>xs[i+m]?:=rfl;rw[e2]at this;rw[this]
def getItem_tuple_cut {t J:Addr} {items:Array Value} {Y vu:Value} {lo hi:Option Int} {Q:Value->Shared->Prop} (ht:IsTup s.heap t items) (hs:s.heap.IsSliceOf J Y vu .none) (pl:IsPart Y lo) (pu:IsPart vu hi)
 (hw:¬ (sIx items.size 0 lo=0/\sIx items.size items.size hi=items.size))
 (h:Q (.ref s.heap.objs.size) { s with heap:=s.heap.push { cls:=.type "tuple",data:=.seq ((items.toList.drop (sIx items.size 0 lo)).take (sIx items.size items.size hi - sIx items.size 0 lo)).toArray } })
 (hsz:items.size<=sizeLine):wpAny (model prog w) A (getItem (.ref t) (.ref J)) Q E s:=by
 have z:sizeOk (.seq ((items.toList.drop (sIx items.size 0 lo)).take (sIx items.size items.size hi - sIx items.size 0 lo)).toArray):=by
  show ((items.toList.drop (sIx items.size 0 lo)).take (sIx items.size items.size hi - sIx items.size 0 lo)).toArray.size<=sizeLine;rw[aEV,aE2,jp,jt]
  lia
 have hj:sIx items.size items.size hi<=items.size:=aBo _ _ (ah _) hi;obtain⟨os,L,M,au⟩:=id hs;have O:s.TypeIs (.ref J) "slice":=⟨os,L,M⟩;unfold getItem
 try with_reducible refine je ?_
 first | refine aEL (aEM ?_) | skip
 refine aEL (wpAny_sequenceKey ht.typeIs (by decide) ?_);refine aEL (rf (name:=Str.ofString "__getitem__") ht.typeIs kc
  (wpAny_call_entry kc ht.typeIs entry_tuple_getitem ?_ (args_tuple_getitem _ _)))
 show wpAny _ _ (Builtin.Tuple.tupleItemsOf (.ref t) >>= _) _ _ s;refine aEL (tupleItemsOf_ ht ?_);refine aEL (sk O ?_);rw[b4 (by decide)];refine aEL (sliceApplied_gen hs pl pu ?_);have U:¬ ((((sIx items.size 0 lo:Nat):Int) == 0 && (1:Int) == 1 && (sIx items.size items.size hi - sIx items.size 0 lo) == items.size)=true):=by
  intro q;rw[eH,eH]at q;have q1:((sIx items.size 0 lo:Nat):Int)=0:=eq_of_beq q.1.1;have q2:sIx items.size items.size hi - sIx items.size 0 lo=items.size:=eq_of_beq q.2;exact hw ⟨by lia,by lia⟩
 show wpAny _ _ (if (((sIx items.size 0 lo:Nat):Int) == 0 && (1:Int) == 1 && (sIx items.size items.size hi - sIx items.size 0 lo) == items.size)=true then _ else _) _ _ s;rw[b3 U,g0]
 first
  | exact aEL (m:=Builtin.Tuple.tupleExact _) (mz (aEM ⟨_,rfl,aEM h⟩) z)
  | exact aEL (m:=Builtin.Tuple.tupleExact _) (mz (aEL (aEM (aEM ⟨_,rfl,aEM h⟩))) z)
  | exact aEL (aEL (m:=Builtin.Tuple.tupleExact _) (mz (aEM (aEM ⟨_,rfl,aEM h⟩)) z))
  | exact aEL (aEL (m:=Builtin.Tuple.tupleExact _) (mz (aEM ⟨_,rfl,aEM h⟩) z))
end
end HT
namespace L2
open PySem PySem.Spec PyProof.Rows
abbrev TO:=St->Hp->(Option Int->Hp->Prop)->Prop
def PO (X:Cx) (e:Option Expr) (t:TO):Prop :=
 ∀ (pins:List (Addr×Obj)) (s:Shared) (σ:St) (H:Hp) (Q:Option Int->Hp->Prop),Inv X pins σ H s->t σ H Q ->
  wpAny (model X.prog X.w) X.A (evalPart e X.env) (λu s'=>∃ o H',Inv X pins σ H' s'/\IsPart u o/\Q o H') X.xe s
def aAf:TO:=λ_ H Q=>Q none H
inductive O5 (Q:Option Int->Hp->Prop) (x:V) (H1:Hp):Prop
 | mk (i:_) (h0_:x=.int i) (h1_:Q (some i) H1):O5 Q x H1
def aDE (t:TE):TO:=fun σ H Q=>t σ H λx H1=>O5 Q x H1
section
variable {X:Cx} {e:Expr} {te:TE} {lo hi:Option Expr} {tl th:TO} {pos p2:Pos}
def dY:PO X none aAf:=by
 intro pins s σ H Q I h;rw[evalPart_none];exact aEM ⟨none,H,I,.none,h⟩
def dL (h:PE X e te):PO X (some e) (aDE te):=by
 intro pins s σ H Q I hw;rw[evalPart_some];refine thn (h pins s σ H _ I hw) λu L ⟨x,H1,z,r1,J⟩=>?_;obtain⟨i,rfl,q⟩:=J;obtain⟨t,rfl⟩:=r1;exact⟨some i,H1,z,.int i t,q⟩
def SlR (X:Cx) (r:V->Option Int->Option Int->Hp->VK->Prop):Prop :=
 ∀ (pins:List (Addr×Obj)) (s:Shared) (σ:St) (H:Hp) (x:V) (v z J:Value) (lo hi:Option Int) (L:Addr) (Q:VK),Inv X pins σ H s->RelV x v->s.heap.IsSliceOf L z J .none->IsPart z lo->IsPart J hi->r x lo hi H Q ->
  ∃ T id,typeLookup (.type T) "__getitem__"=pure (some (.builtin id))/\s.TypeIs v T/\wpAny (model X.prog X.w) X.A (getItem v (.ref L)) (EP X pins σ Q) X.xe s
def tSl (r:V->Option Int->Option Int->Hp->VK->Prop) (te:TE) (tl th:TO):TE:=fun σ H Q=>te σ H λx H1=>tl σ H1 λl H2=>th σ H2 λu z=>r x l u z Q
def cX {r:V->Option Int->Option Int->Hp->VK->Prop} (O:SlR X r) (he:PE X e te) (U:PO X lo tl) (Y:PO X hi th):PE X (.Subscript e (.Slice lo hi none p2) pos) (tSl r te tl th):=by
 intro pins s σ H Q I h;refine Subscript_ (thn (he pins s σ H _ I h) λv s1 ⟨x,H1,I1,r1,q1⟩=>?_);refine wpAny_Slice (thn (U pins s1 σ H1 _ I1 q1) λJ s2 ⟨l,H2,I2,pl,q2⟩=>thn (Y pins s2 σ H2 _ I2 q2) λL z ⟨u,M,I3,pu,q3⟩=>?_);rw[evalPart_none];refine aEM ?_;have I4:Inv X pins σ M { z with heap:=z.heap.push { cls:=.type "slice",data:=.fields #[J,L,.none] } }:=I3.kept (t':=z.toks) λb ob q=>aEO _ q;obtain⟨T,id,hT,ht,hg⟩:=O pins { z with heap:=z.heap.push { cls:=.type "slice",data:=.fields #[J,L,.none] } } σ M x v J L l u z.heap.objs.size Q I4 r1 (Heap.IsSliceOf.new ..) pl pu q3;show wpAny (model X.prog X.w) X.A (subscriptTail e (.Slice lo hi none p2) v (.ref z.heap.objs.size)) (EP X pins σ Q) X.xe { z with heap:=z.heap.push { cls:=.type "slice",data:=.fields #[J,L,.none] } };exact tail_any (ops:=[.ref z.heap.objs.size,v]) ht hT hg (by with_unfolding_all rfl)
def fP (xs:List V) (lo hi:Option Int):List V:=(xs.drop (HT.sIx xs.length 0 lo)).take (HT.sIx xs.length xs.length hi - HT.sIx xs.length 0 lo)
def qE (xs:List V) (lo hi:Option Int):(fP xs lo hi).length<=xs.length:=by
 unfold fP;rw[aE2,jp]
 lia
inductive i0 (K:PySem.W.Frag) (x:V) (lo:Option Int) (hi:Option Int) (H:Hp) (Q:VK):Prop
 | mk (a:_) (xs:_) (h0_:x=.ref a) (h1_:SqT K H a xs) (h2_:¬ (HT.sIx xs.length 0 lo=0/\HT.sIx xs.length xs.length hi=xs.length)) (h3_:∀ p,H p=none->Q (.ref p) (upd H p (.tup (fP xs lo hi)))):i0 K x lo hi H Q
def aDt (K:PySem.W.Frag):V->Option Int->Option Int->Hp->VK->Prop:=λx lo hi H Q=>i0 K x lo hi H Q
def i3:SlR X (aDt X.K):=by
 intro pins s σ H x v U Y lo hi sl Q I L hs pl M h;obtain⟨a,xs,rfl,O,hw,q⟩:=h;cases L;obtain⟨z,r,ht,J⟩:=I.tuple O;have hlen:z.toArray.size=xs.length:=by rw[aEV];exact r.length.symm
 refine⟨"tuple",_,PyProof.Rows.slot_tuple_getitem.lookup,ht.typeIs,?_⟩;refine HT.getItem_tuple_cut ht hs pl M (by rw[hlen];exact hw) ?_ (by rw[hlen];exact J);rw[hlen];refine⟨.ref s.heap.objs.size,_,I.laid (t':=s.toks) (o:=.tup (fP xs lo hi)) (λb ob q=>aEO _ q) (ah _) ?_,rfl,q _ (I.hok.fresh (ah _))⟩;exact⟨fy (qE xs lo hi) J,_,(r.drop (HT.sIx xs.length 0 lo)).take (HT.sIx xs.length xs.length hi - HT.sIx xs.length 0 lo),IsTup.new _ _⟩
inductive O6 (K:PySem.W.Frag) (x:V) (y:V) (H:Hp) (Q:VK):Prop
 | mk (a:_) (b:_) (xs:_) (ys:_) (h0_:x=.ref a) (h1_:y=.ref b) (h2_:SqT K H a xs) (h3_:SqT K H b ys) (h4_:xs≠[]) (h5_:xs.length+ys.length<=sizeLine) (h6_:(ys=[]->Q (.ref a) H)) (h7_:(ys≠[]->∀ p,H p=none->Q (.ref p) (upd H p (.tup (xs++ys))))):O6 K x y H Q
def aDF (K:PySem.W.Frag):R2:=λx y H Q=>O6 K x y H Q
def Vals.nil_iff {xs:List V} {us:List Value} (r:Vals xs us):us=[]↔xs=[]:=by
 cases r with
 | nil=>simp
 | cons _ _=>simp
def O7:OpR X (binaryOp .Add) (aDF X.K):=by
 intro pins s σ H x y v u Q I M O h;obtain⟨a,b,xs,ys,rfl,rfl,U,Y,hx,J,q1,q2⟩:=h;cases M;cases O;obtain⟨au,r1,p1,_⟩:=I.tuple U;obtain⟨L,r2,p2,_⟩:=I.tuple Y;refine HT.cat_tup p1 p2 (λz=>hx (r1.nil_iff.mp z)) (λz=>⟨.ref a,H,I,rfl,q1 (r2.nil_iff.mp z)⟩) (λz=>?_) (by rw[<- r1.length,<- r2.length];exact J);refine⟨.ref s.heap.objs.size,_,I.laid (t':=s.toks) (o:=.tup (xs++ys)) (λb ob q=>aEO _ q) (ah _) ?_,rfl,q2 (λw=>z (r2.nil_iff.mpr w)) _ (I.hok.fresh (ah _))⟩;exact⟨by rw[aEW];exact J,_,r1.append r2,IsTup.new _ _⟩
end
def ixN (n:Nat) (i:Int):Option Nat:=if 0<=i then (if i<n then some i.toNat else none)else if -(n:Int)<=i then some (i+n).toNat else none
def atI {z:Type} (xs:List z) (i:Int):Option z:=(ixN xs.length i).bind λj=>xs[j]?
def aAg {n:Nat} {i:Int} {j:Nat} (h:ixN n i=some j):seqIndex? i n=some j/\j<n/\-(n:Int)<=i/\i<n:=by
 unfold ixN at h
 by_cases h0:0<=i
 .rw[b4 h0]at h
  by_cases h1:i<n
  .rw[b4 h1]at h;have e:i.toNat=j:=jk h;exact⟨by rw[seqIndex_of h0 h1,e],by lia,by lia,h1⟩
  .rw[b3 h1]at h;cases h
 .rw[b3 h0]at h
  by_cases h1:-(n:Int)<=i
  .rw[b4 h1]at h;have e:(i+n).toNat=j:=jk h;exact⟨by rw[seqIndex_neg (by lia) h1,e],by lia,h1,by lia⟩
  .rw[b3 h1]at h;cases h
def wV {z:Type} {xs:List z} {i:Int} {v:z} (h:atI xs i=some v):∃ j,seqIndex? i xs.length=some j/\xs[j]?=some v/\j<xs.length/\-(xs.length:Int)<=i/\i<xs.length:=by
 unfold atI at h;cases e:ixN xs.length i with
 | none=>rw[e]at h;cases h
 | some j =>
  rw[e]at h;obtain⟨h1,h2,h3,h4⟩:=aAg e;exact⟨j,h1,h,h2,h3,h4⟩
def jO {z:Type} {xs:List z} {j:Nat} {v:z} (h:xs[j]?=some v):atI xs (j:Int)=some v:=by
 have J:j<xs.length:=(aEl.mp h).1;have e:ixN xs.length (j:Int)=some j:=by
  unfold ixN;rw[b4 (by lia),b4 (by lia)];simp
 unfold atI;rw[e];exact h
def aAh (b:Expr):Prop:=∀ o i,subscripted b false o i=operate [o,i] (getItem o i)
def IxR (X:Cx) (r:R2):Prop :=
 ∀ (value slice:Expr) (pins:List (Addr×Obj)) (s:Shared) (σ:St) (H:Hp) (x y:V) (v u:Value) (Q:VK),Inv X pins σ H s->RelV x v->RelV y u->r x y H Q ->
  subscripted slice false v u=operate [v,u] (getItem v u)->wpAny (model X.prog X.w) X.A (subscriptTail value slice v u) (EP X pins σ Q) X.xe s
def MtR (X:Cx) (id:String) (r:V->List V->Hp->VK->Prop):Prop :=
 ∀ (pins:List (Addr×Obj)) (s:Shared) (σ:St) (H:Hp) (x:V) (xs:List V) (v:Value) (us:List Value) (Q:VK),Inv X pins σ H s->RelV x v->Vals xs us->r x xs H Q ->
  wpAny (model X.prog X.w) X.A (call (.builtin id) (v :: us)) (EP X pins σ Q) X.xe s
section
variable {X:Cx} {a b:Expr} {ta tb:TE} {pos:Pos}
def IxR.or {r z:R2} (h:IxR X r) (h':IxR X z):IxR X (λx y H Q=>r x y H Q\/z x y H Q):=by
 intro value slice pins s σ H x y v u Q I J L q hs;rcases q with q | q
 .exact h value slice pins s σ H x y v u Q I J L q hs
 .exact h' value slice pins s σ H x y v u Q I J L q hs
def cD {r:R2} (z:IxR X r) (J:PE X a ta) (L:PE X b tb) (hs:aAh b):PE X (.Subscript a b pos) (tOp r ta tb):=by
 intro pins s σ H Q I h;exact Subscript_ (aBk J L I h λv u M x y H2 O U Y q=>z a b pins M σ H2 x y v u Q O U Y q (hs _ _))
inductive i4 (K:PySem.W.Frag) (x:V) (y:V) (H:Hp) (Q:VK):Prop
 | mk (p:_) (xs:_) (i:_) (v:_) (h0_:x=.ref p) (h1_:y=.int i) (h2_:SqL K H p xs) (h3_:atI xs i=some v) (h4_:Q v H):i4 K x y H Q
def aDG (K:PySem.W.Frag):R2:=λx y H Q=>i4 K x y H Q
inductive i5 (K:PySem.W.Frag) (x:V) (y:V) (H:Hp) (Q:VK):Prop
 | mk (p:_) (xs:_) (i:_) (v:_) (h0_:x=.ref p) (h1_:y=.int i) (h2_:SqT K H p xs) (h3_:atI xs i=some v) (h4_:Q v H):i5 K x y H Q
def aBp (K:PySem.W.Frag):R2:=λx y H Q=>i5 K x y H Q
inductive i6 (x:V) (y:V) (H:Hp) (Q:VK):Prop
 | mk (z:_) (i:_) (c:_) (h0_:x=.str z) (h1_:y=.int i) (h2_:z.length<=sizeLine) (h3_:atI z.cps.toList i=some c) (h4_:Q (.str ⟨#[c]⟩) H):i6 x y H Q
def aDH:R2:=λx y H Q=>i6 x y H Q
def eI:IxR X (aDG X.K):=by
 intro value slice pins s σ H x y v u Q I Y ry h hs;obtain⟨p,xs,i,z,rfl,rfl,hq,he,q⟩:=h;cases Y;obtain⟨t,rfl⟩:=ry;obtain⟨L,r,pl,hz⟩:=I.list hq;obtain⟨j,h1,h2,h3,h4,h5⟩:=wV he;obtain⟨w,U,M⟩:=r.get h2;have hl:=r.length;have hn:=oP;have J:EP X pins σ Q w s:=⟨z,H,I,M,q⟩
 by_cases h0:0<=i
 .have O:i.toNat=j:=by
   rw[seqIndex_of h0 h5]at h1;exact jk h1
  exact item_listR pl.isList h0 (by lia) (by rw[O];simpa using U) J hs
 .have O:(i+(L.toArray.size:Int)).toNat=j:=by
   rw[seqIndex_neg (by lia) h4]at h1;rw[aEV,<- hl];exact jk h1
  exact subscriptTail_builtinR (x:=w) pl.isList.typeIs slot_list_getitem.lookup
   (wpAny_getItem_list_neg (Q:=λr s'=>r=w/\EP X pins σ Q r s') pl.isList (by lia) (by rw[aEV] <;> lia) (by lia) (by rw[O];simpa using U) ⟨rfl,J⟩) hs
def cY:IxR X (aBp X.K):=by
 intro value slice pins s σ H x y v u Q I M O h hs;obtain⟨p,xs,i,z,rfl,rfl,U,he,q⟩:=h;cases M;obtain⟨t,rfl⟩:=O;obtain⟨Y,r,pl,hz⟩:=I.tuple U;obtain⟨j,h1,h2,h3,h4,h5⟩:=wV he;obtain⟨w,ew,J⟩:=r.get h2;have hl:=r.length;have hn:=oP;have L:EP X pins σ Q w s:=⟨z,H,I,J,q⟩;exact subscriptTail_builtinR (x:=w) pl.typeIs slot_tuple_getitem.lookup
  (getItem_tuple (j:=j) (Q:=λr s'=>r=w/\EP X pins σ Q r s') pl (by lia) (by lia) (by rw[aEV,<- hl];exact h1) (by simpa using ew) ⟨rfl,L⟩) hs
def i7:IxR X aDH:=by
 intro value slice pins s σ H x y v u Q I J L h hs;obtain⟨z,i,c,rfl,rfl,Y,he,q⟩:=h;obtain⟨t,rfl⟩:=J;obtain⟨t',rfl⟩:=L;obtain⟨j,h1,h2,h3,h4,h5⟩:=wV he;have M:z.cps.toList.length=z.length:=by simp[Str.length]
 rw[M]at h1 h4 h5;have hn:=oP;exact tail_any (qu s z t) slot_str_getitem.lookup (getItem_str (c:=c) (by
  have O:decide (i < -(2 ^ 63:Int))=false:=aE7 (by lia);have U:decide (i≥2 ^ 63)=false:=aE7 (by lia);rw[O,U,Bool.or_false]) (by rw[h1];simpa using h2) ⟨.str ⟨#[c]⟩,H,I.tok _,⟨_,rfl⟩,q⟩) hs
def rIx (K:PySem.W.Frag):R2:=λx y H Q=>aDG K x y H Q\/aBp K x y H Q\/aDH x y H Q
def rT:IxR X (rIx X.K):=eI.or (cY.or i7)
def wW (lo hi:Option Int) (n:Nat):(sliceBounds lo hi none n).1=((HT.sIx n 0 lo:Nat):Int)/\(sliceBounds lo hi none n).2.1=((HT.sIx n n hi:Nat):Int)/\(sliceBounds lo hi none n).2.2=1:=by
 refine⟨?_,?_,rfl⟩
 .cases lo with
  | none=>simp[sliceBounds,HT.sIx]
  | some i =>
   simp only[sliceBounds,HT.sIx,Option.getD_none,show (1:Int) > 0 by decide,uf]
   by_cases h:i<0
   .simp only[h,uf] <;> lia
   .simp only[h,rb] <;> lia
 .cases hi with
  | none=>simp[sliceBounds,HT.sIx]
  | some i =>
   simp only[sliceBounds,HT.sIx,Option.getD_none,show (1:Int) > 0 by decide,uf]
   by_cases h:i<0
   .simp only[h,uf] <;> lia
   .simp only[h,rb] <;> lia
def uM (its:List Value) (lo hi:Option Int):slicePick its.toArray lo hi none=((its.drop (HT.sIx its.length 0 lo)).take (HT.sIx its.length its.length hi - HT.sIx its.length 0 lo)).toArray:=by
 obtain⟨h1,h2,h3⟩:=wW lo hi its.toArray.size;unfold slicePick;rw[h1,h2,h3];simp only[sliceRange_one,pick_run,aEV] <;> rfl
inductive i8 (K:PySem.W.Frag) (x:V) (lo:Option Int) (hi:Option Int) (H:Hp) (Q:VK):Prop
 | mk (a:_) (xs:_) (h0_:x=.ref a) (h1_:SqL K H a xs) (h2_:∀ p,H p=none->Q (.ref p) (upd H p (.lst (fP xs lo hi)))):i8 K x lo hi H Q
def aDu (K:PySem.W.Frag):V->Option Int->Option Int->Hp->VK->Prop:=λx lo hi H Q=>i8 K x lo hi H Q
def fN:SlR X (aDu X.K):=by
 intro pins s σ H x v U Y lo hi sl Q I z hs pl J h;obtain⟨a,xs,rfl,L,q⟩:=h;cases z;obtain⟨M,r,ht,O⟩:=I.list L;have hlen:=r.length;refine⟨"list",_,slot_list_getitem.lookup,ht.isList.typeIs,?_⟩;refine wpAny_getItem_list_slice ht.isList hs pl J .none (by simp) ?_ (by rw[aEV] <;> lia);rw[uM,<- hlen];refine⟨.ref s.heap.objs.size,_,I.laid (t':=s.toks) (o:=.lst (fP xs lo hi)) (λb ob q=>aEO _ q) (ah _) ?_,rfl,q _ (I.hok.fresh (ah _))⟩;exact⟨fy (qE xs lo hi) O,_,0,(r.drop (HT.sIx xs.length 0 lo)).take (HT.sIx xs.length xs.length hi - HT.sIx xs.length 0 lo),aEU _ rfl⟩
def mM:V->Bool
 | .non=>true
 | .bl _=>true
 | .int _=>true
 | .str _=>true
 | _=>false
def eqV:V->V->Bool
 | .non,.non=>true
 | .bl a,.bl b=>a == b
 | .bl a,.int b=>(if a then 1 else 0) == b
 | .int a,.bl b=>a == (if b then 1 else 0)
 | .int a,.int b=>a == b
 | .str a,.str b=>a == b
 | _,_=>false
def aBq {A:Around} {s:Shared} {y x:V} {u v:Value} (J:RelV y u) (z:RelV x v) (L:mM y=true) (fx:mM x=true):SeqAt.EqAt A s u v (eqV y x):=by
 cases y with
 | non =>
  cases J;cases x with
  | non=>cases z;exact SeqAt.EqAt.same _
  | bl b=>cases z;exact SeqAt.EqAt.none_bool b
  | int b=>obtain⟨t,rfl⟩:=z;exact SeqAt.EqAt.none_int b t
  | str b=>obtain⟨t,rfl⟩:=z;exact SeqAt.EqAt.none_str b t
  | _=>exact absurd (show false=true from fx) aEZ
 | bl a =>
  cases J;cases x with
  | non=>cases z;exact SeqAt.EqAt.bool_none a
  | bl b=>cases z;exact SeqAt.EqAt.bool_bool a b
  | int b=>obtain⟨t,rfl⟩:=z;exact SeqAt.EqAt.bool_int a b t
  | str b=>obtain⟨t,rfl⟩:=z;exact SeqAt.EqAt.bool_str a b t
  | _=>exact absurd (show false=true from fx) aEZ
 | int a =>
  obtain⟨t',rfl⟩:=J;cases x with
  | non=>cases z;exact SeqAt.EqAt.int_none a t'
  | bl b=>cases z;exact SeqAt.EqAt.int_bool a t' b
  | int b=>obtain⟨t,rfl⟩:=z;exact SeqAt.EqAt.int_int a t' b t
  | str b=>obtain⟨t,rfl⟩:=z;exact SeqAt.EqAt.int_str a t' b t
  | _=>exact absurd (show false=true from fx) aEZ
 | str a =>
  obtain⟨t',rfl⟩:=J;cases x with
  | non=>cases z;exact SeqAt.EqAt.str_none a t'
  | bl b=>cases z;exact SeqAt.EqAt.str_bool a t' b
  | int b=>obtain⟨t,rfl⟩:=z;exact SeqAt.EqAt.str_int a t' b t
  | str b=>obtain⟨t,rfl⟩:=z;exact SeqAt.EqAt.str_str a t' b t
  | _=>exact absurd (show false=true from fx) aEZ
 | _=>exact absurd (show false=true from L) aEZ
def eqU (x:V) (u:Value):Bool:=match u with
 | .none=>eqV .non x
 | .bool b=>eqV (.bl b) x
 | .int i _=>eqV (.int i) x
 | .str z _=>eqV (.str z) x
 | _=>false
def i9 {x y:V} {u:Value} (r:RelV y u) (f:mM y=true):eqU x u=eqV y x:=by
 cases y with
 | non=>cases r;rfl
 | bl b=>cases r;rfl
 | int i=>obtain⟨t,rfl⟩:=r;rfl
 | str z=>obtain⟨t,rfl⟩:=r;rfl
 | _=>exact absurd (show false=true from f) aEZ
def nL {x:V}:∀ {xs:List V} {us:List Value},Vals xs us->xs.all mM=true->us.any (eqU x)=xs.any λy=>eqV y x
 | _,_,.nil,_=>rfl
 | y :: xs,u :: us,.cons r t,f=>by
  rw[List.all_cons,eH]at f;rw[mi,mi,i9 r f.1,nL t f.2]
def kK {A:Around} {s:Shared} {x:V} {v:Value} (z:RelV x v) (fx:mM x=true):∀ {xs:List V} {us:List Value},Vals xs us->xs.all mM=true->∀ u∈us,SeqAt.EqAt A s u v (eqU x u)
 | _,_,.nil,_=>λu hu=>by cases hu
 | y :: xs,u :: us,.cons r t,f=>λJ hu=>by
  rw[List.all_cons,eH]at f;rcases aEm.mp hu with rfl | hu
  .rw[i9 r f.1];exact aBq r z f.1 fx
  .exact kK z fx t f.2 J hu
def inV (x:V) (xs:List V):Bool:=xs.any λy=>eqV y x
inductive aBW (K:PySem.W.Frag) (neg:Bool) (x:V) (y:V) (H:Hp) (Q:VK):Prop
 | mk (p:_) (xs:_) (h0_:y=.ref p) (h1_:(SqL K H p xs\/SqT K H p xs)) (h2_:mM x=true) (h3_:xs.all mM=true) (h4_:Q (.bl (if neg then !inV x xs else inV x xs)) H):aBW K neg x y H Q
def rIn (K:PySem.W.Frag) (z:Bool):R2:=λx y H Q=>aBW K z x y H Q
def V4:OpR X (compareOp .In) (rIn X.K false):=by
 intro pins s σ H x y v u Q I J L h;obtain⟨p,xs,rfl,hq,fx,fs,q⟩:=h;cases L;rcases hq with hq | hq
 .obtain⟨z,r,pl,M⟩:=I.list hq;refine SeqAt.in_listAt (eqU x) pl.isList (λw hw=>kK J fx r fs w (by simpa using hw)) ⟨.bl _,H,I,rfl,?_⟩;rw[show z.toArray.any (eqU x)=z.any (eqU x)by simp,nL r fs];exact q
 .obtain⟨z,r,pl,M⟩:=I.tuple hq;refine SeqAt.in_tupleAt (eqU x) pl (λw hw=>kK J fx r fs w (by simpa using hw)) ⟨.bl _,H,I,rfl,?_⟩;rw[show z.toArray.any (eqU x)=z.any (eqU x)by simp,nL r fs];exact q
def jP:OpR X (compareOp .NotIn) (rIn X.K true):=by
 intro pins s σ H x y v u Q I J L h;obtain⟨p,xs,rfl,hq,fx,fs,q⟩:=h;cases L;rcases hq with hq | hq
 .obtain⟨z,r,pl,M⟩:=I.list hq;refine SeqAt.notIn_listAt (eqU x) pl.isList (λw hw=>kK J fx r fs w (by simpa using hw)) ⟨.bl _,H,I,rfl,?_⟩;rw[show z.toArray.any (eqU x)=z.any (eqU x)by simp,nL r fs];exact q
 .obtain⟨z,r,pl,M⟩:=I.tuple hq;refine SeqAt.notIn_tupleAt (eqU x) pl (λw hw=>kK J fx r fs w (by simpa using hw)) ⟨.bl _,H,I,rfl,?_⟩;rw[show z.toArray.any (eqU x)=z.any (eqU x)by simp,nL r fs];exact q
inductive rV (K:PySem.W.Frag) (xs:List V) (H:Hp) (Q:VK):Prop
 | mk (p:_) (ys:_) (h0_:xs=[.ref p]) (h1_:(SqL K H p ys\/SqT K H p ys)) (h2_:Q (.int ys.length) H):rV K xs H Q
def bE:eX X (.builtin "len") (rV X.K):=by
 intro pins s σ H xs us Q I r h;obtain⟨p,ys,rfl,hq,q⟩:=h;obtain⟨u,rfl,L⟩:=kE r;cases L;have O:=oP;rcases hq with hq | hq
 .obtain⟨z,J,pl,M⟩:=I.list hq;have hlen:=J.length;exact Calls.call_len_list pl.isList (by simp only[aEV] <;> lia) ⟨.int ys.length,H,I.tok _,⟨s.toks+1,by rw[aEV,hlen]⟩,q⟩
 .obtain⟨z,J,pl,M⟩:=I.tuple hq;have hlen:=J.length;exact len_tuple pl (by simp only[aEV] <;> lia) ⟨.int ys.length,H,I.tok _,⟨s.toks+1,by rw[aEV,hlen]⟩,q⟩
inductive rX (xs:List V) (H:Hp) (Q:VK):Prop
 | mk (z:_) (h0_:xs=[.str z]) (h1_:z.length<=sizeLine) (h2_:Q (.int z.length) H):rX xs H Q
def wX:eX X (.builtin "len") rX:=by
 intro pins s σ H xs us Q I r h;obtain⟨z,rfl,J,q⟩:=h;obtain⟨u,rfl,t,rfl⟩:=kE r;have L:=oP;exact len_str (by lia) ⟨.int z.length,H,I.tok _,⟨_,rfl⟩,q⟩
inductive rY (K:PySem.W.Frag) (xs:List V) (H:Hp) (Q:VK):Prop
 | mk (p:_) (ys:_) (h0_:xs=[.ref p]) (h1_:(SqL K H p ys\/SqT K H p ys)) (h2_:∀ l,H l=none->Q (.ref l) (upd H l (.lst ys))):rY K xs H Q
def wY:eX X (.type "list") (rY X.K):=by
 intro pins s σ H xs us Q I r h;obtain⟨p,ys,rfl,hq,q⟩:=h;obtain⟨u,rfl,U⟩:=kE r;cases U;have L:∀ (z:List Value),Vals ys z->ys.length<=sizeLine->∀ (h':Heap) (c':Nat),(∀ b o',s.heap.get? b=some o'->h'.get? b=some o') ->
  h'.get? s.heap.objs.size=some { cls:=.type "list",dict:=none,data:=.seq z.toArray c',slots:=#[] }->EP X pins σ Q (.ref s.heap.objs.size) { s with heap:=h' }:=λz J M h' c' kp e =>
  ⟨.ref s.heap.objs.size,_,I.laid (t':=s.toks) kp (ah _) (show ObjOk X.prog X.w _ h' _ (.lst ys) from ⟨M,z,c',J,e⟩),rfl,q _ (I.hok.fresh (ah _))⟩
 rcases hq with hq | hq
 .obtain⟨z,J,pl,M⟩:=I.list hq;have hlen:=J.length;obtain⟨o,ho,O,n,hd⟩:=pl.isList;exact call_list_seq p (.inl rfl) ho O hd (λh' c' kp e=>L z J M h' c' kp e) (by simp only[aEV] <;> lia)
 .obtain⟨z,J,pl,M⟩:=I.tuple hq;have hlen:=J.length;obtain⟨o,ho,O,n,hd⟩:=pl;exact call_list_seq p (.inr rfl) ho O hd (λh' c' kp e=>L z J M h' c' kp e) (by simp only[aEV] <;> lia)
inductive qF (K:PySem.W.Frag) (xs:List V) (H:Hp) (Q:VK):Prop
 | mk (p:_) (ys:_) (h0_:xs=[.ref p]) (h1_:((SqL K H p ys/\∀ l,H l=none->Q (.ref l) (upd H l (.tup ys)))\/(SqT K H p ys/\Q (.ref p) H))):qF K xs H Q
def dH:eX X (.type "tuple") (qF X.K):=by
 intro pins s σ H xs us Q I r h;obtain⟨p,ys,rfl,h⟩:=h;obtain⟨u,rfl,U⟩:=kE r;cases U;rcases h with ⟨J,q⟩ | ⟨J,q⟩
 .obtain⟨z,L,pl,M⟩:=I.list J;have hlen:=L.length;refine call_tuple_list pl.isList (λh' kp=>?_) (by simp only[aEV] <;> lia);have O:Inv X pins σ H { s with heap:=h' }:=I.kept (t':=s.toks) kp;have Y:Inv X pins σ (upd H h'.objs.size (.tup ys)) { s with heap:=h'.push { cls:=.type "tuple",data:=.seq z.toArray } } :=
   O.laid (t':=s.toks) (λb o e=>aEO _ e) (ah _) (show ObjOk X.prog X.w _ _ _ (.tup ys) from ⟨M,z,L,IsTup.new _ _⟩)
  exact⟨.ref h'.objs.size,_,Y,rfl,q _ (O.hok.fresh (ah _))⟩
 .obtain⟨z,L,pl,M⟩:=I.tuple J;exact call_tuple_same pl ⟨.ref p,H,I,rfl,q⟩
def tyV (K:PySem.W.Frag) (T:String) (x:V) (H:Hp):Prop:=match x with
 | .str _=>T="str"
 | .int _=>T="int"
 | .ref p=>(T="list"/\∃ xs,SqL K H p xs)\/(T="tuple"/\∃ o,K.lookup p=some o/\o.cls=.type "tuple"/\o.dict=none) \/
  (T="dict"/\((∃ kvs,H p=some (.dK kvs))\/∃ kvs,H p=some (.dT kvs)))\/(T="set"/\∃ S n,H p=some (.set S n))
 | _=>False
def aBr {pins:List (Addr×Obj)} {σ:St} {H:Hp} {s:Shared} {T:String} {x:V} {v:Value} (I:Inv X pins σ H s) (r:RelV x v) (ty:tyV X.K T x H) :
 s.TypeIs v T/\∀ a,v=.ref a->∃ M,s.heap.get? a=some M/\M.dict=none:=by
 cases x with
 | str z =>
  obtain⟨t,rfl⟩:=r;cases (show T="str" from ty);exact⟨qu s z t,λ_ e=>nomatch e⟩
 | int i =>
  obtain⟨t,rfl⟩:=r;cases (show T="int" from ty);exact⟨typeIs_int s i t,λ_ e=>nomatch e⟩
 | ref p =>
  cases r;rcases ty with ⟨rfl,xs,O⟩ | ⟨rfl,o,J,U,hd⟩ | ⟨rfl,J⟩ | ⟨rfl,S,n,J⟩
  .obtain⟨Y,_,pl,_⟩:=I.list O;refine⟨pl.isList.typeIs,λa e=>?_⟩;cases e;obtain⟨o,n,e,c,hd,_⟩:=pl;exact⟨o,e,hd⟩
  .refine⟨⟨o,I.kIn p o J,U⟩,λa e=>?_⟩;cases e;exact⟨o,I.kIn _ o J,hd⟩
  .have z:∃ o,s.heap.get? p=some o/\o.ExactDict:=by
    rcases J with ⟨kvs,J⟩ | ⟨kvs,J⟩
    .obtain⟨_,_,_,_,o,_,_,e,ex,_⟩:=I.hok p _ J;exact⟨o,e,ex⟩
    .obtain⟨_,_,_,_,o,_,_,e,ex,_⟩:=I.hok p _ J;exact⟨o,e,ex⟩
   obtain⟨o,e,ex⟩:=z;refine⟨⟨o,e,ex.1⟩,λa L=>?_⟩;cases L;exact⟨o,e,ex.2.1⟩
  .obtain⟨o,_,_,_,e,ex,_⟩:=I.hok p _ J;refine⟨⟨o,e,ex.1⟩,λa L=>?_⟩;cases L;exact⟨o,e,ex.2.1⟩
 | _=>exact False.elim ty
def tBM (K:PySem.W.Frag) (T:String) (r:V->List V->Hp->VK->Prop) (to:TE) (t:TA):TE:=fun σ H Q=>to σ H λx H1=>tyV K T x H1/\t σ H1 λxs H2=>r x xs H2 Q
variable {o e:Expr} {es:List Expr} {to:TE} {t:TA} {name:Str} {apos aa:Pos} {T id:String} {r:V->List V->Hp->VK->Prop}
def kF (pa:PlainAttrs T) (slot:Slot T name id) (z:typeOf (.builtin id)=pure (.type "method_descriptor")) (M:MtR X id r) (ho:PE X o to) (O:PA X (e :: es) t)
 (hbase:attributeBase o name X.env (eval o X.env)=eval o X.env:=by rfl)
 (hfew:((backTo aa (starEach (e :: es) X.env)).all (λx=>!x.1) && (backToKw aa (keywordEach [] X.env)).all (λx=>x.1.isSome)
  && decide ((e :: es).length+([]:List Keyword).length+(if ([]:List Keyword).isEmpty then 0 else 1)<30))=true:=by rfl)
 (hline:(apos.endLine == aa.line)=true:=by rfl) (hs:starEach (e :: es) X.env=(false,eval e X.env) :: starEach es X.env:=by rfl) (hplain:(backTo aa (starEach es X.env)).any (·.1)=false:=by rfl) :
 PE X (.Call (.Attribute o name apos) (e :: es) [] aa) (tBM X.K T r to t):=by
 intro pins s σ H Q I h;refine wpAny_Call_method_late hbase hfew hline rfl (thn (ho pins s σ H _ I h) λv U ⟨x,H1,J,r1,ty,Y⟩=>?_);obtain⟨h1,h2⟩:=aBr J r1 ty;refine⟨T,id,pa,slot,z,h1,h2,?_⟩;have L:=O aa pins U σ H1 _ J Y;rw[hs]at L ⊢;refine kt (by show (false || (backTo aa (starEach es X.env)).any (·.1))=false;rw[hplain] <;> rfl) (lp ?_);exact thn L λus s2 ⟨vs,H2,I2,r2,q2⟩=>M pins s2 σ H2 x vs v us Q I2 r1 r2 q2
/- xs.append(e),list.index on a module's tuple .. are MtR facts of 06m -/
end
def MtM (X:Cx) (id:String) (r:V->List V->Hp->VK->Prop):Prop :=
 ∀ (pins:List (Addr×Obj)) (s:Shared) (σ:St) (H:Hp) (x:V) (xs:List V) (v:Value) (us:List Value) (Q:VK),Inv X pins σ H s->RelV x v->Vals xs us->r x xs H Q ->
  wpAny (model X.prog X.w) X.A (call (.builtin id) (v :: us)) (EP X pins σ Q) X.xe s
def Vals.one:∀ {x:V} {us:List Value},Vals [x] us->∃ u,us=[u]/\RelV x u
 | _,_,.cons r .nil=>⟨_,rfl,r⟩
def Vals.two {x y:V} {us:List Value} (h:Vals [x,y] us):∃ u v,us=[u,v]/\RelV x u/\RelV y v:=by
 cases h with
 | cons r h =>
  obtain⟨u,e,q⟩:=Vals.one h;exact⟨_,u,by rw[e],r,q⟩
section
variable {X:Cx} {pins:List (Addr×Obj)} {σ:St} {H:Hp} {s:Shared} {l b:Addr} {xs ys zs:List V}
def Inv.lset {z its':List Value} {n:Nat} {f:Array Value->Array Value} {t':Nat} (I:Inv X pins σ H s) (J:H l=some (.lst xs))
 (e:s.heap.get? l=some { cls:=.type "list",data:=.seq z.toArray n }) (L:f z.toArray=its'.toArray) (M:Vals ys its') (O:ys.length<=sizeLine) :
 Inv X pins σ (upd H l (.lst ys)) { s with heap:=s.heap.update l (Obj.mapSeq f),toks:=t' }:=by
 have q:=PySem.IsL.update e f;rw[L]at q;refine I.write (x:=l) (e:=l) (by rw[J];exact trivial) (.inl rfl) (λb' u U Y=>(aES s.heap (Obj.mapSeq f) (lq U)).trans Y) ⟨_,q⟩ ?_;exact⟨O,its',_,M,q⟩
def Inv.lnew {z:List Value} {t':Nat} (I:Inv X pins σ H s) (J:Vals ys z) (L:ys.length<=sizeLine) :
 Inv X pins σ (upd H s.heap.objs.size (.lst ys)) { s with heap:=s.heap.push { cls:=.type "list",data:=.seq z.toArray },toks:=t' } :=
 I.laid (λ_ _ q=>aEO _ q) (ah _) ⟨L,z,0,J,aEU _ rfl⟩
def Inv.fresh (I:Inv X pins σ H s):H s.heap.objs.size=none:=I.hok.fresh (ah _)
def Inv.lstM (I:Inv X pins σ H s) (L:H l=some (.lst xs)):xs.length<=sizeLine/\∃ (J:List Value) (n:Nat),Vals xs J/\xs.length=J.length/\s.heap.get? l=some { cls:=.type "list",data:=.seq J.toArray n }:=by
 obtain⟨z,J,n,r,e⟩:=I.hok l _ L;exact⟨z,J,n,r,r.length,e⟩
end
section
variable {X:Cx}
inductive vP (x:V) (vs:List V) (H:Hp) (Q:VK):Prop
 | mk (l:_) (xs:_) (y:_) (h0_:x=.ref l) (h1_:vs=[y]) (h2_:H l=some (.lst xs)) (h3_:xs.length<sizeLine) (h4_:Q .non (upd H l (.lst (xs++[y])))):vP x vs H Q
def aAi:V->List V->Hp->VK->Prop:=λx vs H Q=>vP x vs H Q
def fE:MtM X "list.append" aAi:=by
 intro pins s σ H x vs v us Q I M O h;obtain⟨l,xs,y,rfl,rfl,L,Y,q⟩:=h;cases M;obtain⟨u,rfl,U⟩:=O.one;obtain⟨z,J,n,r,hl,e⟩:=I.lstM L;refine tj F.slot_list_append ⟨_,e,rfl⟩ F.entry_list_append (F.args_list_append_2 _ _) (PySem.list_append l J.toArray n u (by rw[aEV];lia)) ⟨e,?_⟩;refine⟨.non,_,I.lset (its':=J++[u]) L e (by simp) (r.append (.cons U .nil)) ?_,rfl,q⟩;rw[aEW,ju]
 lia
inductive j0 (x:V) (y:V) (H:Hp) (Q:VK):Prop
 | mk (l:_) (b:_) (xs:_) (zs:_) (h0_:x=.ref l) (h1_:y=.ref b) (h2_:H l=some (.lst xs)) (h3_:H b=some (.lst zs)) (h4_:xs.length+zs.length<=sizeLine) (h5_:∀ p,H p=none->Q (.ref p) (upd H p (.lst (xs++zs)))):j0 x y H Q
def aDv:R2:=λx y H Q=>j0 x y H Q
def wZ:OpR X (binaryOp .Add) aDv:=by
 intro pins s σ H x y v u Q I M O h;obtain⟨l,b,xs,zs,rfl,rfl,U,Y,hz,q⟩:=h;cases M;cases O;obtain⟨z,L,n,r,hl,e⟩:=I.lstM U;obtain⟨z2,J,n2,r2,au,e2⟩:=I.lstM Y;refine PySem.P.add_list e e2 ?_ (by rw[aEV,aEV];lia);have ea:L.toArray++J.toArray=(L++J).toArray:=by simp
 rw[ea];exact⟨.ref _,_,I.lnew (t':=s.toks) (r.append r2) (by rw[aEW];lia),rfl,q _ I.fresh⟩
end
end L2
namespace Att
open PySem PySem.W PySem.Calls PyProof.Rows
def qR {P:Params} {h:Heap}:∀ (ns:List Int) (vs:List Value),WellAll P h vs (ns.map WData.int)->IntsAre vs ns:=by
 intro ns
 induction ns with
 | nil =>
  intro vs w;rw[oy]at w;cases w;exact .nil
 | cons n ns z =>
  intro vs w;rw[aEb]at w;cases w with
  | cons a b =>
   cases a;exact .cons _ _ (z _ b)
def V5 {l:OpenLaw} {n:Nat} (U:l.most=some n) {P:Params} {h:Heap} {args:List WData} {vals:List Value}
 (z:l.row.toRowW.claim.pre args=true) (L:WellAll P h vals args) :
 ∃ a vs ns,vals=[Value.ref a]/\args=[WData.list (ns.map WData.int)]/\h.get? a=some { cls:=.type "list",data:=.seq vs.toArray }/\IntsAre vs ns/\ns.length<=n:=by
 have M:WShape.hasAll [] args [.list .int]=true:=(pre_splitW z).1;have O:l.pre.holds [] { args:=args }=true:=(pre_splitW z).2;obtain⟨d,r,rfl,h1,h2⟩:=hasAllW_cons M;obtain rfl:=hasAllW_nil h2;obtain⟨xs,rfl,h3⟩:=hasW_list h1;obtain⟨ns,rfl⟩:=items_int h3;have hlen:ns.length<=n:=by
  unfold OpenLaw.pre at O;have h4:(WTm.not (.lt (.lit (.int (n:Int))) (.len (.arg 0)))).holds [] { args:=[.list (ns.map .int)] }=true:=by
   have h4:=(holds_andW O).1;rw[U]at h4;exact h4
  have h5:=condW_of h4 (w_not (w_lt w_lit (w_len_list (w_arg rfl))));rw[aEN]at h5;refine Nat.le_of_not_lt λq=>?_;have Y:(n:Int)<((ns.length:Nat):Int):=by lia
  first
   | (rw[aE8 Y]at h5;exact absurd h5 (by decide))
   | (simp at h5;lia)
 cases L with
 | cons w1 w2 =>
  cases w2;cases w1 with
  | list ho J=>exact⟨_,_,ns,rfl,rfl,ho,qR ns _ J,hlen⟩
def V6 (l:OpenLaw) (args:List WData):l.row.toRowW.claim.post args (.bool true) args=true :=
 postW_of (r:=l.row.toRowW) (X:=(true == true))
  (show WShape.has [] (.bool true) .bool=true by first | rfl | decide | simp[WShape.has,WShape.arms,WShape.armsAll])
  (show (WTm.eq .res (.lit (.bool true))).value [] { args:=args,res:=some (.bool true),after:=args }=some (.bool (true == true)) from w_eq_bool (w_res rfl) w_lit) rfl
def attach_call {l:OpenLaw} {n:Nat} {q:Program} {loose:List Str} {XP:(Str->Option Value)->Heap->Prop} {YP:World->Heap->Prop} {d:DefRec}
 (hn:l.most=some n) (au:d.params.defaults=[])
 (call:∀ (w:World) (J z:Shared) (mg mb:Str->Option Value) (M:Addr) (o:Obj) (pm cd L:Value) (a:Addr) (vs:List Value) (ns:List Int),
  Ground q loose [] XP w J mg mb z.heap->YP w z.heap ->
  z.heap.get? M=some o->o.data=.func (docDef d.name d.params d.body d.scope pm cd L)->z.heap.CodeRec cd d.name->mg d.name=some (.ref M) ->
  z.heap.get? a=some { cls:=.type "list",data:=.seq vs.toArray }->IntsAre vs ns->ns.length<=n->z.gens=#[] ->
  codeAny (model l.prog w) callerA (.call (.ref M) ⟨[.ref a],[]⟩) (λr s'=>r=.ok (.ret (.bool true))/\OldK z.heap s'.heap/\s'.os=z.os/\AllBare s'.gens) z) :
 WalkO q loose XP YP l.row.toRowW d [] (λf vs=>PySem.call f vs):=by
 intro w J z mg mb G Y M o pm cd L dV kV ho hd av hD aw hg args vals as O ay az ax a_;obtain rfl:dV=.none:=Dflts.none hD au;obtain rfl:kV=.none:=Dflts.noKw hD;obtain⟨a,vs,ns,rfl,rfl,U,hints,hlen⟩:=V5 hn O ax;refine enter_call (mw (call w J z mg mb M o pm cd L a vs ns G Y ho (fd_plain hd) av aw U hints hlen hg) λr s' hq=>?_);obtain⟨rfl,h2,h3,h4⟩:=hq;exact⟨.inl ⟨.bool true,.bool true,[],rfl,λ_=>rfl,.bool true,V6 l _,λ_=>⟨List.Pairwise.nil,λ_ hm=>(nomatch hm)⟩⟩,h2,h3,h4⟩
end Att
namespace L2
open PySem PySem.Spec PyProof.Rows
def oV:∀ {vs:List Value} {ns:List Int},IntsAre vs ns->Vals (ns.map V.int) vs
 | _,_,.nil=>.nil
 | _,_,.cons n t h=>.cons ⟨t,rfl⟩ (oV h)
def aBs (H:Hp):Prop:=∀ b,H b=none\/∃ o xs,H b=some (.frz o (.lst xs))
def j3 {P:Program} {w:World} {K:PySem.W.Frag} {mg mb:Str->Option Value} {CX:CXT} {k:Nat} {fa a:Addr} {fd:FuncData} {x:Str} {sp:Sp} {J:Shared} {vs:List Value} {ns:List Int}
 (KX:K.In J.heap) (Y:J.heap.Ns mainGlobals mg) (M:J.heap.Ns builtinsNs mb) (ay:∀ x:Str,x≠"__name__"->mb x=bootBuiltins x) (au:J.heap.NoLimit) (hg:J.gens=#[])
 (ha:J.heap.get? a=some { cls:=.type "list",data:=.seq vs.toArray }) (hi:IntsAre vs ns) (hl:ns.length<=sizeLine) (hr:Room k callerA)
 (F:∀ base:Heap,K.In base->base.Ns mainGlobals mg->FnOk P w K mg base CX k fa fd [x] sp) (U:∀ (s:Shared) (u:Value),BindsTo s fd ⟨[u],[]⟩ [(x,u)])
 (az:∀ H:Hp,aBs H->SqL K H a (ns.map V.int)->sp [.ref a] H (λv _=>v=.bl true) λ_ _ _=>False)
 (a_:∀ H e s',CX [] H J (λ_ _ _=>False) e s'->False) :
 codeAny (model P w) callerA (.call (.ref fa) ⟨[.ref a],[]⟩) (λr s'=>r=.ok (.ret (.bool true))/\OldK J.heap s'.heap/\s'.os=J.os/\AllBare s'.gens) J:=by
 have rv:=oV hi;have av:=hi.length;have core:∀ H:Hp,aBs H->SqL K H a (ns.map V.int)->HOk P w H J.heap->(∀ b,H b≠none->b=a)->(H a≠none->K.lookup a=none) ->
  codeAny (model P w) callerA (.call (.ref fa) ⟨[.ref a],[]⟩) (λr s'=>r=.ok (.ret (.bool true))/\OldK J.heap s'.heap/\s'.os=J.os/\AllBare s'.gens) J:=by
  intro H hO hS hok hA hK;have L:∀ {b:Addr} {o:Obj},J.heap.get? b=some o->H b=none->(wO J.heap H).get? b=some o:=λe n=>Z9 e n;have ba:∀ {b:Addr} {o:Obj} {es:Array DictEntry} {ep:Nat},J.heap.get? b=some o->o.data=.dict es ep->H b=none:=λ{b o es ep} e d=>by
   cases q:H b with
   | none=>rfl
   | some u =>
    have e':b=a:=hA b (by rw[q];simp);subst e';rw[ha]at e;cases e;have d':Data.seq vs.toArray _=Data.dict es ep:=d;cases d'
  have O:∀ {b:Addr} {m:Str->Option Value},J.heap.Ns b m->(wO J.heap H).Ns b m:=λ{b m} ⟨o,es,ep,e,d,r⟩=>⟨o,es,ep,L e (ba e d),d,r⟩;have aw:K.In (wO J.heap H):=λb o e=>L (KX b o e) (by
   cases q:H b with
   | none=>rfl
   | some u =>
    have e':b=a:=hA b (by rw[q];simp);subst e';rw[hK (by rw[q];simp)]at e;cases e)
  have hM:Mod K mg (wO J.heap H):=⟨aw,O Y,⟨mb,O M,ay⟩,let ⟨mc,h1,h2⟩:=au;⟨mc,O h1,h2⟩⟩;have e0:Env0 P w K mg (wO J.heap H) callerA [] J H:=⟨rfl,hM,λb o e=>aA7 e,qj (U6 _ _),trivial,λb M=>absurd (show b∈([]:List Addr) from M) (by simp),hok,.of_eq hg⟩;refine mw ((F _ aw (O Y)).run callerA [] J H ⟨[.ref a],[]⟩ [.ref a] [.ref a] _ _ hr e0 (U J (.ref a)) (.cons rfl .nil) (az H hO hS)) λr s' h=>?_;cases r with
  | error e=>exact(a_ H e s' h).elim
  | ok fl =>
   cases fl with
   | next=>exact False.elim h
   | brk=>exact False.elim h
   | cont=>exact False.elim h
   | ret u =>
    obtain⟨v,H',os,bare,un,ax,r',q⟩:=h;have q':v=.bl true:=q;subst q';obtain rfl:u=Value.bool true:=r';refine⟨rfl,OldK.of_keep λb o e=>?_,os,bare⟩;cases q:H b with
    | none=>exact un.keep b o e q (by intro z;exact absurd (show b∈([]:List Addr) from z) (by simp)) (by simp)
    | some u =>
     rcases hO b with z | ⟨ob,xs,z⟩
     .rw[q]at z;cases z
     .have z2:=un.frzs b ob _ z;obtain⟨e1,_⟩:=hok b _ z;obtain⟨e2,_⟩:=ax b _ z2;rw[e]at e1;cases e1;exact e2
 cases hk:K.lookup a with
 | some o =>
  have e:=KX a o hk;rw[ha]at e;cases e;refine core (λ_=>none) (λ_=>.inl rfl) (.inr ⟨_,vs.toArray,_,hk,rfl,rfl,rfl,by rw[aEV,av];exact hl,by simpa using rv⟩) (λb u z=>by have z':(none:Option HO)=some u:=z;cases z') (λb z=>absurd rfl z) λz=>absurd rfl z
 | none =>
  refine core (λb=>if b=a then some (.frz { cls:=.type "list",data:=.seq vs.toArray } (.lst (ns.map V.int)))else none) (λb=>?_) (.inl (.inr ⟨{ cls:=.type "list",data:=.seq vs.toArray },b4 rfl⟩)) (λb u z=>?_) (λb z=>?_) λ_=>hk
  .by_cases M:b=a
   .exact .inr ⟨_,_,b4 M⟩
   .exact .inl (b3 M)
  .by_cases M:b=a
   .have z':=(b4 M).symm.trans z;cases z';subst M;exact⟨ha,by rw[aEN];exact hl,vs,_,rv,ha⟩
   .have z':=(b3 M).symm.trans z;cases z'
  .by_cases M:b=a
   .exact M
   .exact absurd (b3 M) z
def walk_of {l:PySem.W.OpenLaw} {n k:Nat} {q:Program} {loose:List Str} {XP:(Str->Option Value)->Heap->Prop} {YP:World->Heap->Prop} {d:DefRec} {K:Params->PySem.W.Frag} {CX:World->CXT} {sp:World->Sp} {x:Str}
 (hn:l.most=some n) (hn2:n<=sizeLine) (hdf:d.params.defaults=[]) (hr:Room k callerA)
 (hY:∀ (w:World) (h:Heap),YP w h->(K w.params).In h)
 (F:∀ (w:World) (mg:Str->Option Value) (fa:Addr) (h:Heap),(K w.params).In h->h.Ns mainGlobals mg->mg d.name=some (.ref fa) ->
  ∃ fd:FuncData,(∀ (s:Shared) (u:Value),BindsTo s fd ⟨[u],[]⟩ [(x,u)]) /\
   ∀ base:Heap,(K w.params).In base->base.Ns mainGlobals mg->FnOk l.prog w (K w.params) mg base (CX w) k fa fd [x] (sp w))
 (hsp:∀ (w:World) (H:Hp) (a:Addr) (ns:List Int),ns.length<=n->aBs H->SqL (K w.params) H a (ns.map V.int)->sp w [.ref a] H (λv _=>v=.bl true) λ_ _ _=>False)
 (hCX:∀ (w:World) (H:Hp) (s:Shared) (e:Value) (s':Shared),CX w [] H s (λ_ _ _=>False) e s'->False) :
 PySem.W.WalkO q loose XP YP l.row.toRowW d [] (λf vs=>PySem.call f vs):=by
 refine Att.attach_call hn hdf λw s₀ s₁ mg mb fa o pm cd doc a vs ns G Y ho hd hcd hmg hobj hints hlen hg=>?_;have KX:=hY w _ Y;obtain⟨fd,hb,hF⟩:=F w mg fa _ KX G.T.g hmg;exact j3 KX G.T.g G.T.b G.T.builtins G.T.nolimit hg hobj hints (fy hlen hn2) hr hF hb (λH hO hS=>hsp w H a ns hlen hO hS) λH e s'=>hCX w H s₁ e s'
def bU (s:Stmt) (j:Nat):Stmt:=match s with
 | .ClassDef _ _ _ body _ _ _ _ _ _ _=>body.getD j (.Pass ⟨0,0,0,0⟩)
 | _=>.Pass ⟨0,0,0,0⟩
def bQ (s:Stmt):Arguments:=match s with
 | .FunctionDef _ a _ _ _ _ _ _ _ _=>a
 | _=>{ posonlyargs:=[],args:=[],vararg:=none,kwonlyargs:=[],kw_defaults:=[],kwarg:=none,defaults:=[] }
def bC (s:Stmt):List Stmt:=match s with
 | .FunctionDef _ _ b _ _ _ _ _ _ _=>b
 | _=>[]
def aG (s:Stmt):Scope:=match s with
 | .FunctionDef _ _ _ _ _ _ z _ _ _=>z
 | _=>{ kind:=.function,names:=[],isGenerator:=false,isCoroutine:=false }
abbrev CX0:CXT:=λ_ _ _ _ _ _=>False
abbrev E0:XK:=λ_ _ _=>False
def eJ {X:Cx}:dS CX0 X E0:=λ_ _ _ _ _ _ _ h=>h.elim
structure Fun (K:PySem.W.Frag) (x qual:Str) (st:Stmt) (f:Addr) (fd:FuncData):Prop where
 ex:∃ (oc:Value) (od:Option Addr) (kV doc pm:Value) (an:Option Addr) (cdv ct:Value) (osl:Array (Option Value)),
  fd=PySem.W.fnOf x qual (bQ st) (bC st) (aG st) .none kV doc pm an cdv ct/\K.lookup f=some ⟨oc,od,.func fd,osl⟩/\PySem.W.codeIn K cdv qual=true
 kp:PySem.W.keepIn K (.ref f)=true
section
variable {P:Program} {w:World} {K:PySem.W.Frag} {mg:Str->Option Value} {base:Heap}
def Fun.ok {x qual:Str} {st:Stmt} {f:Addr} {fd:FuncData} {N ps:List Str} {k:Nat} {sp:Sp} (F:Fun K x qual st f fd) (S:FnScope N ps (aG st)) (len:∀ vs H Q E,sp vs H Q E->vs.length=ps.length)
 (J:∀ (z:Value) (A:Around) (outer:List Env) (s:Shared) (H:Hp) (vs:List V) (Q:VK) (E:XK),Room k (A.deeper (envOfC qual (aG st) s.heap.objs.size f z))->sp vs H Q E ->
  ∃ t,PSs (fX CX0 P w K mg base N qual (aG st) f z A outer s H E).nox (bC st) t/\t { nx:=λ_ H'=>Q .non H',rt:=Q } (dQ N vs) H):FnOk P w K mg base CX0 (k+1) f fd ps sp:=by
 obtain⟨oc,od,kV,O,pm,an,z,ct,U,rfl,lk,L⟩:=F.ex;refine aBV lk L S len λA outer s H vs Q E Y M=>?_;obtain⟨t,h,q⟩:=J z A outer s H vs Q E Y M;exact⟨t,h.nox,q⟩
def Fun.binds {x qual:Str} {st:Stmt} {f:Addr} {fd:FuncData} {ps:List Str} (F:Fun K x qual st f fd)
 (h:∀ (kV z L:Value) (M:Option Addr) (J ct:Value) (us:List Value),us.length=ps.length->bindArgs (PySem.W.fnOf x qual (bQ st) (bC st) (aG st) .none kV z L M J ct) ⟨us,[]⟩=pure (ps.zip us)):Binds K fd ps []:=by
 obtain⟨Y,od,kV,z,L,M,J,ct,O,rfl,lk,U⟩:=F.ex;exact .all (h kV z L M J ct)
def rZ {x qual:Str} {st:Stmt} {f:Addr} {U:Value} {od M:Option Addr} {L:Array (Option Value)} {kV J O z ct:Value} (l:K.lookup f=some ⟨U,od,.func (PySem.W.fnOf x qual (bQ st) (bC st) (aG st) .none kV J O M z ct),L⟩)
 (c:PySem.W.codeIn K z qual=true) (k:PySem.W.keepIn K (.ref f)=true):Fun K x qual st f (PySem.W.fnOf x qual (bQ st) (bC st) (aG st) .none kV J O M z ct):=⟨⟨U,od,kV,J,O,M,z,ct,L,rfl,l,c⟩,k⟩
end
def O8 {A:Around} {k:Nat} (z:Room k A):A.units+1<cLine:=Nat.lt_of_le_of_lt (Nat.add_le_add_left (by decide:1<=64) _) z.units
section
variable {X:Cx}
def pv (i:Nat) {x:Str} {pos:Pos} (J:X.N[i]?=some x:=by rfl) (L:Vis X.env.scope x:=by first | exact Or.inl rfl | exact Or.inr (Or.inl rfl) | exact Or.inr (Or.inr rfl)) (hd:(x == ("__debug__":Str))=false:=by decide)
 (z:(x == ("__classdict__":Str))=false:=by decide):PE X (.Name x pos) (aCk i):=aBe J L hd z
end
def oW {A B:Prop} (h:B):if false=true then A else B:=by
 rw[b3 aEZ];exact h
def F5 {A B:Prop} (h:A):if true=true then A else B:=by
 rw[b4 rfl];exact h
def Same (H H':Hp):Prop:=∀ b o,H b=some o->H' b=some o
def Same.refl (H:Hp):Same H H:=λ_ _ h=>h
def Same.trans {H H1 H2:Hp} (a:Same H H1) (b:Same H1 H2):Same H H2:=λc o h=>b c o (a c o h)
def Same.free {H H':Hp} (e:Same H H') {l:Addr} (h:H' l=Option.none):H l=Option.none:=by
 cases q:H l with
 | none=>rfl
 | some o =>
  rw[e l o q]at h;cases h
def Same.seq {K:PySem.W.Frag} {H H':Hp} {a:Addr} {xs:List V} (e:Same H H') (h:SqL K H a xs):SqL K H' a xs:=by
 rcases h with (h | ⟨o,h⟩) | h
 .exact .inl (.inl (e _ _ h))
 .exact .inl (.inr ⟨o,e _ _ h⟩)
 .exact .inr h
def qG (scope:Scope) (env:Env):List (Str×Addr) :=
 scope.names.foldl (λz y=>if y.2 == .free then (match env.cells.lookup y.1 with | some c=>(y.1,c) :: z | none=>z)else z) []
def qH {env:Env}:∀ (names:List (Str×NameKind)) (z:List (Str×Addr)),(∀ y∈names,y.2=.free->∃ c,env.cells.lookup y.1=some c) ->
 (forIn names z λ(y:Str×NameKind) (r:List (Str×Addr))=>(match y with | (name,kind)=>if (kind == NameKind.free)=true then (do let a <- cellOf env name;pure (ForInStep.yield ((name,a) :: r)))else pure (ForInStep.yield r):Sem (ForInStep (List (Str×Addr))))) =
  pure (names.foldl (λz y=>if y.2 == .free then (match env.cells.lookup y.1 with | some c=>(y.1,c) :: z | none=>z)else z) z)
 | [],z,_=>rfl
 | (n,k) :: r,z,h=>by
  rw[List.forIn_cons,aEd];have J:=λz=>qH (env:=env) r z λy M=>h y (aEQ _ M)
  by_cases L:k=.free
  .subst L;obtain⟨c,e⟩:=h (n,.free) aEP rfl;have O:env.cells.lookup n=some c:=e;simp only[cellOf,O,ro,uf];exact J _
  .have U:(k == NameKind.free)=false:=by simpa using L
   simp only[U,oh,rb];exact J _
def O9 {scope:Scope} {env:Env} (h:∀ y∈scope.names,y.2=.free->∃ c,env.cells.lookup y.1=some c):closureFor scope env=pure (qG scope env):=by
 have e:=qH (env:=env) scope.names [] h;unfold closureFor qG;rw[<- e]
 first | rfl | simp
def vQ {env:Env} {x:Str} {c:Addr}:∀ (names:List (Str×NameKind)) (J:List (Str×Addr)),(∀ z d,J.lookup z=some d->env.cells.lookup z=some d) ->
 (names.foldl (λJ y=>if y.2 == .free then (match env.cells.lookup y.1 with | some c=>(y.1,c) :: J | none=>J)else J) J).lookup x=some c->env.cells.lookup x=some c
 | [],J,h,e=>h x c e
 | (n,k) :: r,J,h,e=>by
  rw[aEd]at e;refine vQ r _ ?_ e;intro z d q
  by_cases U:(k == NameKind.free)=true
  .simp only[U,uf]at q;cases L:env.cells.lookup n with
   | none=>simp only[L]at q;exact h z d q
   | some a =>
    simp only[L,jh]at q
    by_cases M:(z == n)=true
    .simp only[M]at q;have:z=n:=by simpa using M
     subst this;rw[L];exact q
    .have O:(z == n)=false:=by simpa using M
     simp only[O]at q;exact h z d q
  .simp only[U,rb]at q;exact h z d q
def gP {scope:Scope} {env:Env} {x:Str} {c:Addr} (e:(qG scope env).lookup x=some c):env.cells.lookup x=some c:=vQ _ _ (λ_ _ q=>by simp at q) e
def mO {env:Env} {x:Str}:∀ (names:List (Str×NameKind)) (z:List (Str×Addr)),(∀ y∈names,y.2=.free->∃ c,env.cells.lookup y.1=some c)->((x,NameKind.free)∈names\/(z.lookup x).isSome=true) ->
 ((names.foldl (λz y=>if y.2 == .free then (match env.cells.lookup y.1 with | some c=>(y.1,c) :: z | none=>z)else z) z).lookup x).isSome=true
 | [],z,_,h=>by
  rcases h with h | h
  .cases h
  .exact h
 | (n,k) :: r,z,L,h=>by
  rw[aEd];refine mO r _ (λy U=>L y (aEQ _ U)) ?_;rcases h with h | h
  .rcases aEm.mp h with h | h
   .cases h;obtain⟨c,e⟩:=L (x,.free) aEP rfl;have Y:env.cells.lookup x=some c:=e;right
    simp[Y,jh]
   .exact .inl h
  .right
   by_cases M:(k == NameKind.free)=true
   .simp only[M,uf];cases el:env.cells.lookup n with
    | none=>exact h
    | some a =>
     simp only[jh]
     by_cases O:(x == n)=true
     .simp[O]
     .have J:(x == n)=false:=by simpa using O
      simp only[J];exact h
   .simp only[M];exact h
def vR {scope:Scope} {env:Env} {x:Str} (z:∀ y∈scope.names,y.2=.free->∃ c,env.cells.lookup y.1=some c) (h:(x,NameKind.free)∈scope.names):∃ c,(qG scope env).lookup x=some c :=
 Option.isSome_iff_exists.mp (mO _ _ z (.inl h))
def dZ (sc ae:Scope) (N:List Str) (js:List Nat) (cs:List Str):Bool :=
 (ae.kind == .function) && ae.names.all (λy=>y.2 != .cell && (y.2 != .local || ae.names.lookup y.1 == some .local) && (y.2 != .free || (sc.names.lookup y.1 == some .cell || sc.names.lookup y.1 == some .free))) &&
 (js.map λj=>N[j]?) == cs.map some && cs.all (λx=>ae.names.lookup x == some .free)
structure CompOk (sc ae:Scope) (N:List Str) (js:List Nat) (cs:List Str):Prop where
 kind:ae.kind=.function
 nocell:∀ y∈ae.names,y.2≠.cell
 names:∀ y∈ae.names,y.2=.local->ae.names.lookup y.1=some .local
 frees:∀ y∈ae.names,y.2=.free->sc.names.lookup y.1=some .cell\/sc.names.lookup y.1=some .free
 slots:(js.map λj=>N[j]?)=cs.map some
 caps:∀ x∈cs,ae.names.lookup x=some .free
def CompOk.of {J ae:Scope} {N:List Str} {js:List Nat} {cs:List Str} (h:dZ J ae N js cs=true):CompOk J ae N js cs:=by
 unfold dZ at h;simp only[eH]at h;obtain⟨⟨⟨h1,h2⟩,h3⟩,h4⟩:=h;rw[jj]at h2 h4;refine⟨by simpa using h1,λy z=>?_,λy z e=>?_,λy z e=>?_,by simpa using h3,λx L=>by simpa using h4 x L⟩
 .have:=h2 y z;simp only[eH]at this;simpa using this.1.1
 .have:=h2 y z;simp only[eH,e]at this;simpa using this.1.2
 .have:=h2 y z;simp only[eH,e]at this;simpa using this.2
def sIn (nt:Nat) (js:List Nat) (σ:St):St:=List.replicate nt none++js.map λj=>(σ[j]?).join
def oX (X:Cx) (ae:Scope) (N':List Str) (s₀:Shared) (H₀:Hp) (ex:List Addr):Cx where
 prog:=X.prog
 w:=X.w
 K:=X.K
 mg:=X.mg
 base:=X.base
 A:=X.A
 N:=N'
 s₀:=s₀
 H₀:=H₀
 env:=compEnvC ae (qG ae X.env) s₀.heap.objs.size X.env
 outer:=X.stack
 stack:=X.stack
 ex:=ex
 fn:=λ_=>false
 calm:=X.calm
 pn:=[]
 xe:=λ_ _=>False
def PIf (X:Cx) (al:List Expr) (t:TT):Prop :=
 ∀ (pins:List (Addr×Obj)) (s:Shared) (σ:St) (H:Hp) (Q:Bool->Hp->Prop),Inv X pins σ H s->t σ H Q ->
  wpAny (model X.prog X.w) X.A (forIn al true λc r=>if r=true then do let ok <- isTrue c X.env (eval c X.env);pure (ForInStep.yield ok)else pure (ForInStep.yield r)) (TP X pins σ Q) X.xe s
def aDw:TT:=λ_ H Q=>Q true H
def eK {X:Cx}:PIf X [] aDw:=λ_ _ _ H _ I h=>wpAny_tests_nil ⟨H,I,h⟩
def P0 {X:Cx} {c:Expr} {t:TT} (h:PT X c t):PIf X [c] t:=λpins s σ H Q I hw=>wpAny_tests_one (h pins s σ H Q I hw)
inductive qI (J:It) (σ0:St) (g:TG) (tt:TT) (te:TE) (Q:VK) (H1:Hp):Prop
 | mk (W:Nat->Nat->List V->Hp->Prop) (h0_:(∃ m,W 0 m [] H1)) (h1_:∀ i m ys H,W i m ys H->ys.length<sizeLine/\((J.stop i H/\∀ D,H D=none->Q (.ref D) (upd H D (.lst ys)))\/(J.go i H/\∃ N:List V->Hp->Prop,(∀ ys' H',N ys' H'->∃ m',m'<m/\W (i+1) m' ys' H')/\∀ x H',J.yld i H x H'->g x σ0 H' fun σ2 H2=>tt σ2 H2 λb H3=>if b=true then te σ2 H3 λy H4=>N (ys++[y]) H4 else N ys H3))):qI J σ0 g tt te Q H1
def aBX (wi:TI) (nt:Nat) (js:List Nat) (g:TG) (tt:TT) (te:TE):TE:=fun σ H Q=>wi σ H λJ H1=>qI J (sIn nt js σ) g tt te Q H1
def gK {env:Env}:∀ {names:List (Str×NameKind)} {x:Str},names.lookup x=some .free ->
 (names.map λ(n,k)=>if (k == NameKind.free && env.scope.kind == .function && env.kindOf n == some .cell)then (n,NameKind.cell)else (n,k)).lookup x=some .cell \/
 (names.map λ(n,k)=>if (k == NameKind.free && env.scope.kind == .function && env.kindOf n == some .cell)then (n,NameKind.cell)else (n,k)).lookup x=some .free
 | [],_,h=>by simp at h
 | (n,k) :: r,x,h=>by
  have L:=@gK env r x;show List.lookup x ((if (k == NameKind.free && env.scope.kind == .function && env.kindOf n == some .cell)=true then (n,NameKind.cell)else (n,k)) :: _)=_\/List.lookup x ((if (k == NameKind.free && env.scope.kind == .function && env.kindOf n == some .cell)=true then (n,NameKind.cell)else (n,k)) :: _)=_;cases z:x == n with
  | true =>
   simp only[jh,z]at h;cases h
   by_cases J:(NameKind.free == NameKind.free && env.scope.kind == .function && env.kindOf n == some .cell)=true
   .left;rw[b4 J];simp[jh,z]
   .right;rw[b3 J];simp[jh,z]
  | false =>
   simp only[jh,z]at h
   by_cases J:(k == NameKind.free && env.scope.kind == .function && env.kindOf n == some .cell)=true
   .rw[b4 J];simp only[jh,z];exact L h
   .rw[b3 J];simp only[jh,z];exact L h
def kL {env:Env}:∀ {names:List (Str×NameKind)} {x:Str},(∀ y∈names,y.2≠NameKind.cell) ->
 ((names.map λ(n,k)=>if (k == NameKind.free && env.scope.kind == .function && env.kindOf n == some .cell)then (n,NameKind.cell)else (n,k)).lookup x=some .cell \/
 (names.map λ(n,k)=>if (k == NameKind.free && env.scope.kind == .function && env.kindOf n == some .cell)then (n,NameKind.cell)else (n,k)).lookup x=some .free)->(x,NameKind.free)∈names
 | [],_,_,h=>by simp at h
 | (n,k) :: r,x,L,h=>by
  have M:=@kL env r x (λy O=>L y (aEQ _ O));have U:=L (n,k) aEP;rw[aEb]at h;cases J:x == n with
  | true =>
   have e:x=n:=by simpa using J
   subst e
   by_cases z:(k == NameKind.free && env.scope.kind == .function && env.kindOf x == some .cell)=true
   .have:k=.free:=by simp only[eH]at z;simpa using z.1.1
    subst this;exact aEP
   .simp only[b3 z,jh,J]at h;rcases h with h | h
    .cases h;exact absurd rfl U
    .cases h;exact aEP
  | false =>
   refine aEQ _ (M ?_)
   by_cases z:(k == NameKind.free && env.scope.kind == .function && env.kindOf n == some .cell)=true
   .simp only[b4 z,jh,J]at h;exact h
   .simp only[b3 z,jh,J]at h;exact h
section
variable {X:Cx} {pins:List (Addr×Obj)} {σ:St} {H H':Hp} {s:Shared} {ae:Scope} {js:List Nat} {cs ts:List Str} {nt:Nat}
def P1 {i:Nat} {v:V} (h:(sIn nt js σ)[i]?=some (some v)):nt<=i/\∃ j,js[i - nt]?=some j/\σ[j]?=some (some v):=by
 unfold sIn at h
 by_cases hi:i<nt
 .rw[qp (by simpa using hi),r8]at h;split at h <;> cases h
 .rw[na (by simpa using hi),aE6,aEa]at h;refine⟨by lia,?_⟩;cases e:js[i - nt]? with
  | none=>rw[e]at h;cases h
  | some j =>
   rw[e]at h;have h':(σ[j]?).join=some v:=jk h;refine⟨j,rfl,?_⟩;cases q:σ[j]? with
   | none=>rw[q]at h';cases h'
   | some o =>
    rw[q]at h';have z:o=some v:=h';rw[z]
def aDI {ex:List Addr} (I:Inv X pins σ H s) (O:CompOk X.env.scope ae X.N js cs) (hex:∀ b∈ex,b<s.heap.objs.size/\b≠X.env.locals/\b∉X.fs/\(∀ x c,X.env.cells.lookup x=some c->c≠b)/\∀ o,X.base.get? b≠some o) :
 (oX X ae (ts++cs) s H ex).Ok where
 mod:=I.ok.mod
 kind:=O.kind
 glob:=I.ok.glob
 blt:=I.ok.blt
 above:=ah _
 inj:=λx y c h1 h2=>I.ok.inj x y c (gP h1) (gP h2)
 has:=λx hx=>by
  have hm:(x,NameKind.free)∈ae.names:=kL O.nocell hx;exact vR (λy hy e=>I.ok.has y.1 (O.frees y hy e)) hm
 cab:=λ_ _ h=>absurd h (by show ¬ (false=true);decide)
 hd:=I.ok.hd
 frames:=I.ok.frames
 stk:=.inl rfl
 exf:=λb hb=>⟨aE9 (hex b hb).1,λx c e=>(hex b hb).2.2.2.1 x c (gP e)⟩
 bs:=I.bs
 bsz:=fy I.ok.bsz I.sz
 noex:=λb o e hb=>(hex b hb).2.2.2.2 o e
 exfs:=λb hb hs=>by
  rcases aEm.mp (I.stkSub b hs)with e | e
  .exact(hex b hb).2.1 e
  .exact(hex b hb).2.2.1 e
 funs:=I.stack
 frf:=I.stkFree
def aBt {ex:List Addr} {h':Heap} {tk:Nat} (Y:ts.length=nt) (I:Inv X pins σ H s) (O:CompOk X.env.scope ae X.N js cs) (hex:∀ b∈ex,b<s.heap.objs.size/\b≠X.env.locals/\b∉X.fs/\(∀ x c,X.env.cells.lookup x=some c->c≠b)/\∀ o,X.base.get? b≠some o)
 (hn:∃ m,h'.Ns s.heap.objs.size m) (hk:∀ b o,s.heap.get? b=some o->h'.get? b=some o) :
 Inv (oX X ae (ts++cs) s H ex) [] (sIn nt js σ) H { s with heap:=h',toks:=tk }:=by
 have ok:(oX X ae (ts++cs) s H ex).Ok:=aDI I O hex;obtain⟨m,hn⟩:=hn;have cellK:∀ c v,s.heap.IsCell c v->h'.IsCell c v:=λc v ⟨o,ho,hd⟩=>⟨o,hk c o ho,hd⟩;have hlen:js.length=cs.length:=by have:=congrArg List.length O.slots;simpa using this
 refine⟨ok,rfl,I.bare,Un.kept hk,⟨m,hn,λi x v e1 e2 e3=>?_⟩,λx c e=>?_,I.hok.fresh (ah _),λx c e=>I.freeC x c (gP e),λp hp=>?_,I.hok.kept hk,?_⟩
 .obtain⟨hi,j,hj,hv⟩:=P1 e2;have U:(ts++cs)[i]?=some x:=e1;rw[na (by lia),Y]at U;have hN:X.N[j]?=some x:=by
   have q:(js.map λj=>X.N[j]?)[i - nt]?=(cs.map some)[i - nt]?:=by rw[O.slots]
   rw[aEa,aEa,hj,U]at q;exact jk q
  have J:=O.caps x (aEY U);have L:(x,NameKind.free)∈ae.names:=kr J;have M:=O.frees _ L rfl;obtain⟨mo,aw,hl⟩:=I.loc;obtain⟨u,r,l⟩:=hl j x v hN hv (.inr M);refine⟨u,r,.inr ?_⟩;rcases l with ⟨l1,_⟩ | ⟨k,c,ec,z⟩
  .have au:X.env.scope.names.lookup x=some .local:=l1;rcases M with q | q <;> (rw[q]at au;cases au)
  .refine⟨?_,?_⟩
   .exact gK (env:=X.env) J
   .obtain⟨c',av⟩:=vR (env:=X.env) (λy hy e=>I.ok.has y.1 (O.frees y hy e)) L;have:=gP av;rw[ec]at this;cases this;exact⟨c,av,cellK _ _ z⟩
 .obtain⟨v,z⟩:=I.cell x c (gP e);exact⟨v,cellK _ _ z⟩
 .exact absurd (show p∈([]:List (Addr×Obj)) from hp) (by simp)
 .show (sIn nt js σ).length=(ts++cs).length;unfold sIn;simp[Y,hlen]
def Inv.track {a:Addr} {o:HO} (I:Inv X pins σ H s) (U:H a=none) (h0:X.s₀.heap.objs.size<=a) (Y:a≠X.env.locals) (hc:∀ x c,X.env.cells.lookup x=some c->c≠a) (hp:∀ p∈X.pn++pins,p.1≠a)
 (L:ObjOk X.prog X.w (upd H a o) s.heap a o):Inv X pins σ (upd H a o) s:=by
 have M:∀ b z,X.s₀.heap.get? b=some z->b≠a:=λb z e=>aE9 (aE3 (aET e) h0);have neT:∀ b u,H b=some u->b≠a:=λb u e=>aU e U;refine⟨I.ok,I.os,I.bare,⟨I.base.keep,I.base.slot,λb z e n hx=>?_,I.base.there,λb xs e=>?_,λb z u e=>?_,λb ps e=>?_⟩,I.loc,I.cell,?_,λx c e=>?_,λp J=>?_,λb u e=>?_,I.len⟩
 .rw[aL (M b z e)];exact I.base.free b z e n hx
 .have q:=I.base.tups b xs e;rw[aL (neT b _ q)];exact q
 .have q:=I.base.frzs b z u e;rw[aL (neT b _ q)];exact q
 .obtain⟨more,q⟩:=I.base.tbls b ps e;exact⟨more,by rw[aL (neT b _ q)];exact q⟩
 .rw[aL (lq Y)];exact I.free
 .rw[aL (hc x c e)];exact I.freeC x c e
 .obtain⟨q1,q2,q3,q4,q5⟩:=I.pin p J;exact⟨q1,by rw[aL (hp p J)];exact q2,q3,q4,q5⟩
 .by_cases O:b=a
  .subst O;rw[aJ]at e;cases e;exact L
  .rw[aL O]at e;exact(I.hok b u e).stay (λ_ _ _ q=>q) (λc q=>by rw[aL (neT c _ q)];exact q) λc xs q=>by rw[aL (neT c _ q)];exact q
end
def GK (nt:Nat) (g:TG):Prop:=∀ v σ H Q,g v σ H Q->g v σ H λz H'=>((∀ i,nt<=i->z[i]?=σ[i]?)/\z.length=σ.length)/\Q z H'
def GKs (nt:Nat) (g:TGs):Prop:=∀ vs σ H Q,g vs σ H Q->g vs σ H λz H'=>((∀ i,nt<=i->z[i]?=σ[i]?)/\z.length=σ.length)/\Q z H'
def eM {nt i:Nat} (h:i<nt):GK nt (vG i):=λv σ H Q q=>⟨⟨λj z=>by rw[lj (by lia)],by simp⟩,q⟩
def P2 {nt:Nat}:GKs nt aCs:=λvs σ H Q ⟨e,q⟩=>⟨e,⟨λ_ _=>rfl,rfl⟩,q⟩
def nM {nt i:Nat} {u:TGs} (h:i<nt) (M:GKs nt u):GKs nt (a8 (vG i) u):=λvs σ H Q q=>by
 obtain⟨v,r,e,q⟩:=q;refine⟨v,r,e,?_⟩;have O:u r (σ.set i (some v)) H Q:=q;have w:=M r (σ.set i (some v)) H Q O;have L:∀ j,nt<=j->(σ.set i (some v))[j]?=σ[j]?:=λj J=>by rw[lj (by lia)]
 have:(λ(z:St) (H':Hp)=>((∀ j,nt<=j->z[j]?=(σ.set i (some v))[j]?)/\z.length=(σ.set i (some v)).length)/\Q z H')=λz H'=>((∀ j,nt<=j->z[j]?=σ[j]?)/\z.length=σ.length)/\Q z H':=by
  funext z H'
  apply propext
  constructor
  .rintro ⟨⟨a,b⟩,c⟩;exact⟨⟨λj J=>(a j J).trans (L j J),by simpa using b⟩,c⟩
  .rintro ⟨⟨a,b⟩,c⟩;exact⟨⟨λj J=>(a j J).trans (L j J).symm,by simpa using b⟩,c⟩
 rw[this]at w;exact w
def j4 {K:PySem.W.Frag} {nt n:Nat} {t:TGs} (h:GKs nt t):GK nt (aA9 K n t):=λv σ H Q ⟨a,xs,e,z,J,q⟩=>⟨a,xs,e,z,J,h xs σ H Q q⟩
section
variable {X:Cx} {pins:List (Addr×Obj)} {σ:St} {H:Hp} {s:Shared} {Ξ:Value->Shared->Prop}
def Inv.xe (I:Inv X pins σ H s):Inv { X with xe:=Ξ } pins σ H s:=by
 have o:=I.ok;exact⟨⟨o.mod,o.kind,o.glob,o.blt,o.above,o.inj,o.has,o.cab,o.hd,o.frames,o.stk,o.exf,o.bs,o.bsz,o.noex,o.exfs,o.funs,o.frf⟩,I.os,I.bare,I.base,I.loc,I.cell,I.free,I.freeC,I.pin,I.hok,I.len⟩
def Inv.xeO (I:Inv { X with xe:=Ξ } pins σ H s):Inv X pins σ H s:=by
 have o:=I.ok;exact⟨⟨o.mod,o.kind,o.glob,o.blt,o.above,o.inj,o.has,o.cab,o.hd,o.frames,o.stk,o.exf,o.bs,o.bsz,o.noex,o.exfs,o.funs,o.frf⟩,I.os,I.bare,I.base,I.loc,I.cell,I.free,I.freeC,I.pin,I.hok,I.len⟩
end
section
variable {X:Cx} {pins:List (Addr×Obj)} {σ:St} {ae:Scope} {js:List Nat} {cs ts:List Str} {nt:Nat} {ak tg iter:Expr} {al:List Expr} {pos:Pos} {g:TG} {tt:TT} {te:TE}
def vS {J:It} {fp:List Addr} {it:Addr} {tn:Nat->Heap->Prop} {H2:Hp} {s2:Shared} {E:Value->Shared->Prop} {Ξ:Shared->Hp->List Addr->Value->Shared->Prop} {Q:VK} {RR:Value->Addr->Result->Shared->Prop}
 (bo:X.calm=true) (O:CompOk X.env.scope ae X.N js cs) (cq:ts.length=nt)
 (hg:∀ au av ex,PG (oX X ae (ts++cs) au av ex) tg g) (hk:GK nt g) (ht:∀ au av ex,PIf (oX X ae (ts++cs) au av ex) al tt) (he:∀ au av ex,PE { oX X ae (ts++cs) au av ex with xe:=Ξ au av ex } ak te)
 (I2:Inv X pins σ H2 s2) (T:wS X.prog X.w X.K tg J fp it tn) (bp:tn 0 s2.heap) (f2:∀ b∈fp,qQ X pins H2 b)
 (R:qI J (sIn nt js σ) g tt te Q H2)
 (cr:∀ D C s' H',Inv X pins σ H' s'->(∃ m,s'.heap.Ns C m)->H' C=none->C≠X.env.locals->X.s₀.heap.objs.size<=C->(∀ x c,X.env.cells.lookup x=some c->c≠C)->(∀ p∈X.pn++pins,p.1≠C)->Q (.ref D) H'->RR (.ref D) C (.ok .next) s')
 (cu:∀ (D C:Addr) (M:Shared) (ex:List Addr) (env:Env) (ev:Value) (s':Shared),env.frame=X.env.frame->Inv X pins σ H2 M->C=M.heap.objs.size->(∀ b∈ex,(b∈X.ex\/X.s₀.heap.objs.size<=b)/\b≠X.env.locals/\(∀ x c,X.env.cells.lookup x=some c->c≠b)/\∀ p∈X.pn++pins,p.1≠b)->Ξ M H2 ex ev s'->notedBy (model X.prog X.w) X.A env (λe s'=>RR (.ref D) C (.error e) s') ev s') :
 wpAny (model X.prog X.w) X.A (newList []) (λbz b_=>wpAny (model X.prog X.w) X.A (newFunctionEnv ae X.env.globals (qG ae X.env) [] X.env.qual none .none (some X.env)) (λbi ca =>
  codeAny (model X.prog X.w) X.A (.compStart (.ListComp ak [⟨tg,iter,al,0⟩] ae pos) 0 (.ref it) bz { bi with scope:=relabel ae X.env }) (RR bz bi.locals) ca) E b_) E s2:=by
 refine mz (wpAny_newFunctionEnv O.nocell (by intro y hy;simp at hy) (λay aw ax=>?_) O.kind);dsimp only at aw ax ⊢;generalize hD:s2.heap.objs.size=D;have I3:Inv X pins σ H2 { s2 with heap:=s2.heap.push { cls:=.type "list",dict:=none,data:=.seq ([]:List Value).toArray } }:=I2.kept (t':=s2.toks) λb o e=>aEO _ e;generalize cb:({ s2 with heap:=s2.heap.push { cls:=.type "list",dict:=none,data:=.seq ([]:List Value).toArray } }:Shared)=M at I3;have e3:M.heap=s2.heap.push { cls:=.type "list",dict:=none,data:=.seq ([]:List Value).toArray }:=by rw[<- cb]
 have cv:M.heap.get? D=some { cls:=.type "list",dict:=none,data:=.seq ([]:List Value).toArray }:=by rw[e3,<- hD];exact aEU _ rfl
 have a_:M.heap.objs.size=D+1:=by rw[e3,nu,hD]
 have cw:(s2.heap.push { cls:=.type "list",dict:=none,data:=.seq ([]:List Value).toArray })=M.heap:=e3.symm;rw[cw]at aw ax ⊢;have bj:H2 D=none:=I2.hok.fresh (by rw[hD];exact ah _);have up:∀ b o,M.heap.get? b=some o->ay.get? b=some o:=λb o e=>ax.extBut b o (aE9 (aET e)) (aEO _ e);have bq:∀ b∈fp,b<M.heap.objs.size/\b≠D:=λb hb=>by
  obtain⟨o,eo,_⟩:=T.obj 0 _ bp b hb;have h1:=aET eo;rw[hD]at h1;exact⟨by rw[a_];exact Nat.lt_succ_of_lt h1,aE9 h1⟩
 have nb:∀ b,X.s₀.heap.objs.size<=b->∀ o,X.base.get? b≠some o:=λb hb o e=>absurd (aE3 (aET e) (fy I2.ok.bsz hb)) (le _);have ba:s2.heap.objs.size<=D:=by rw[hD];exact ah _
 have fD:qQ X pins H2 D:=I2.fpOk ba bj;have hex:∀ b∈D :: fp,b<M.heap.objs.size/\b≠X.env.locals/\b∉X.fs/\(∀ x c,X.env.cells.lookup x=some c->c≠b)/\∀ o,X.base.get? b≠some o:=λb hb=>by
  rcases aEm.mp hb with rfl | hb
  .exact⟨by rw[a_];exact pj _,fD.2.1,fD.2.2.1,fD.2.2.2.2.1,nb _ (fy I2.sz ba)⟩
  .obtain⟨f0,f1,br,f3,f4,f5⟩:=f2 b hb;refine⟨(bq b hb).1,f1,br,f4,λo e=>?_⟩;rcases f3 with z | z
   .exact I2.ok.noex b o e z
   .exact nb b z o e
 have hC:M.heap.objs.size=M.heap.objs.size:=rfl;generalize U:oX X ae (ts++cs) M H2 (D :: fp)=L;have I4:Inv L [] (sIn nt js σ) H2 { M with heap:=ay,toks:=M.toks }:=by
  rw[<- U];exact aBt cq I3 O hex ⟨_,aw⟩ up
 have xp:L.prog=X.prog:=by rw[<- U];rfl
 have xw:L.w=X.w:=by rw[<- U];rfl
 have xK:L.K=X.K:=by rw[<- U];rfl
 have xA:L.A=X.A:=by rw[<- U];rfl
 have xc:L.calm=true:=by rw[<- U];exact bo
 have xe:L.env=compEnvC ae (qG ae X.env) M.heap.objs.size X.env:=by rw[<- U];rfl
 have xx:L.xe=λ_ _=>False:=by rw[<- U];rfl
 have bt:L.ex=D :: fp:=by rw[<- U];rfl
 have bu:L.pn=[]:=by rw[<- U];rfl
 have cf:L.s₀=M:=by rw[<- U];rfl
 have cx:L.H₀=H2:=by rw[<- U];rfl
 have cy:L.fs=frs X.stack:=by rw[<- U];rfl
 have cz:PG L tg g:=by rw[<- U];exact hg _ _ _
 have c_:PIf L al tt:=by rw[<- U];exact ht _ _ _
 have db:PE { L with xe:=Ξ M H2 (D :: fp) } ak te:=by rw[<- U];exact he _ _ _
 have okX:=I4.ok;have xl:L.env.locals=M.heap.objs.size:=by rw[xe];rfl
 have Dl:D≠L.env.locals:=by rw[xl,a_];exact aE9 (pj _)
 have bb:∀ {H':Hp} {pl:List (Addr×Obj)},(∀ b∈fp,H' b=none)->(∀ p∈pl,p.1=D)->∀ b∈fp,qQ L pl H' b:=λ{H' pl} hn hpl b hb=>by
  have bf:b∈L.ex:=by rw[bt];exact aEQ _ hb
  refine⟨hn b hb,(okX.exf b bf).1,λz=>okX.exfs b bf z,.inl bf,(okX.exf b bf).2,λp hp=>?_⟩;rw[bu,oj]at hp;rw[hpl p hp];exact lq (bq b hb).2
 have DX:D∈L.ex:=by rw[bt];exact aEP
 obtain⟨W,⟨m0,w0⟩,turn⟩:=R;have loop:codeAny (model X.prog X.w) X.A (.compLoop (.ListComp ak [⟨tg,iter,al,0⟩] ae pos) 0 (.ref it) (.ref D) L.env) (RR (.ref D) M.heap.objs.size) { M with heap:=ay,toks:=M.toks }:=by
  refine codeAny_loop rfl (λn s'=>∃ i ys H',Inv L [] (sIn nt js σ) H' s'/\tn i s'.heap/\(∀ b∈fp,H' b=none)/\H' D=none/\(∃ (Y:List Value) (c:Nat),Vals ys Y/\s'.heap.get? D=some { cls:=.type "list",data:=.seq Y.toArray c })/\W i n ys H') ?_ m0
   ⟨0,[],H2,I4,?_,λb hb=>(f2 b hb).1,bj,⟨[],0,.nil,up D _ cv⟩,w0⟩
  .rintro n s5 ⟨i,ys,H5,I5,cg,ci,bv,⟨Y,c,rv,eD⟩,w5⟩;show wpAny _ X.A ((compTurn (.ListComp ak [⟨tg,iter,al,0⟩] ae pos) 0 (.ref it) (.ref D) L.env).onRaise (λx=>do noteFrame x L.env;theTreesLotGoes x)) _ _ s5;refine wpAny_noted ?_;rw[compTurn_list];refine aEL (jw (aEL ?_));have bn:Inv L (jN [D] s5.heap) (sIn nt js σ) H5 s5:=by
    have q:=I5.pinned (fp:=[D]) (λb hb=>?_) (λb hb=>?_)
    .simpa using q
    .have e:b=D:=by simpa using hb
     subst e;refine⟨bv,Dl,λz=>okX.exfs b DX z,.inl DX,(okX.exf b DX).2,λp hp=>?_⟩;rw[bu,oj]at hp;cases hp
    .have e:b=D:=by simpa using hb
     subst e;exact⟨_,eD,λv z=>by cases z⟩
   have bw:∀ p∈jN [D] s5.heap,p.1=D:=λp hp=>by simpa using (vH hp).1
   have memD:(D,({ cls:=.type "list",data:=.seq Y.toArray c }:Obj))∈jN [D] s5.heap:=gR (by simp) eD;obtain⟨hz,df⟩:=turn i n ys H5 w5;rcases df with ⟨stop,dh⟩ | ⟨go,N,hN,step⟩
   .have q:=T.done L xp xw xK xc i _ s5 _ H5 (notedBy (model X.prog X.w) X.A L.env λe s'=>RR (.ref D) M.heap.objs.size (.error e) s') bn (bb ci bw) cg stop;rw[xA]at q;refine eu q (λr s6 ⟨hr,I6⟩=>?_) λ_ _ z=>z;subst hr;refine aEM ?_;have di:=(I6.pin (D,_) (aER _ memD)).1;have un:Un (frs X.stack) (D :: fp) H2 H5 M.heap s6.heap:=by
     have z:=I6.base;rw[cy,bt,cx,cf]at z;exact z
    have dj:s6.os=M.os:=by have z:=I6.os;rw[cf]at z;exact z
    have cj:HOk X.prog X.w H5 s6.heap:=by have z:=I6.hok;rw[xp,xw]at z;exact z
    have I7:Inv X pins σ H5 s6:=I3.call' dj un cj I6.bare λb hb=>by
     rcases aEm.mp hb with e | hb
     .rw[e];exact⟨.inr (fy I2.sz ba),fD.2.1,fD.2.2.2.2.1,fD.2.2.2.2.2⟩
     .obtain⟨f0,f1,br,f3,f4,f5⟩:=f2 b hb;exact⟨f3,f1,f4,f5⟩
    have I8:Inv X pins σ (upd H5 D (.lst ys)) s6:=I7.track bv (fy I2.sz ba) fD.2.1 fD.2.2.2.2.1 fD.2.2.2.2.2 ⟨qi hz,Y,c,rv,di⟩;have ck:M.heap.objs.size<=M.heap.objs.size:=ah _;have fC:qQ X pins (upd H5 D (.lst ys)) M.heap.objs.size:=I3.fpOk ck (by
     rw[aL (by rw[<- xl];exact lq Dl)];have z:=I6.free;rw[xl]at z;exact z)
    obtain⟨mm,cm,_⟩:=I6.loc;rw[xl]at cm;exact cr D _ s6 _ I8 ⟨mm,cm⟩ fC.1 fC.2.1 (fy I3.sz ck) fC.2.2.2.2.1 fC.2.2.2.2.2 (dh D bv)
   .have q:=T.item L xp xw xK xc i _ s5 _ H5 (notedBy (model X.prog X.w) X.A L.env λe s'=>RR (.ref D) M.heap.objs.size (.error e) s') bn (bb ci bw) cg go;rw[xA]at q;refine eu q (λr s6 ⟨u,hr,h6⟩=>?_) λ_ _ z=>z;subst hr;refine aEL (eu h6 (λ_ s7 ⟨x,H7,I7,r7,y7,bx,dm⟩=>?_) λ_ _ z=>z);have dn:=I7.pinned (fp:=fp) (λb hb=>bb dm bw b hb) (T.obj _ _ bx);have q8:=cz _ s7 _ H7 x u _ dn r7 (hk x _ H7 _ (step x H7 y7));rw[xp,xw,xA,xx]at q8;refine aEL (eu q8 (λ_ s8 ⟨az,H8,I8,⟨k8,l8⟩,q8⟩=>?_) λ_ _ z=>z.elim);have q9:=c_ _ s8 az H8 _ I8 q8;rw[xp,xw,xA,xx]at q9;refine aEL (eu q9 (λok s9 ⟨H9,I9,q9⟩=>?_) λ_ _ z=>z.elim);have bg:∀ (j:Nat) v,(sIn nt js σ)[j]?=some (some v)->az[j]?=some (some v):=λj v e=>by
     have hj:=(P1 e).1;rw[k8 j hj];exact e
    have ends:∀ {H9:Hp} {s9:Shared} {bc:List V},Inv L (jN [D] s5.heap++jN fp s7.heap) az H9 s9->∀ {h':Heap} {its':List Value} {c':Nat},(∀ b o,b≠D->s9.heap.get? b=some o->h'.get? b=some o)->Vals bc its'->h'.get? D=some { cls:=.type "list",data:=.seq its'.toArray c' }->N bc H9 ->
     ∀ tk,∃ m,m<n/\∃ i ys H',Inv L [] (sIn nt js σ) H' { s9 with heap:=h',toks:=tk }/\tn i h'/\(∀ b∈fp,H' b=none)/\H' D=none/\(∃ (Y:List Value) (c:Nat),Vals ys Y/\h'.get? D=some { cls:=.type "list",data:=.seq Y.toArray c })/\W i m ys H':=λ{H9 s9 bc} I9 {h' its' c'} kp dq dr n9 tk=>by
     obtain⟨m',hm,w9⟩:=hN bc H9 n9;have cn:H9 D=none:=(I9.pin (D,_) (aER _ (aE5 _ memD))).2.1;have du:∀ b∈fp,H9 b=none:=λb hb=>by
      obtain⟨o,e,d⟩:=T.obj _ _ bx b hb;exact(I9.pin (b,o) (aER _ (aER _ (gR hb e)))).2.1
     have bh:Inv L [] az H9 s9:=I9.pins_of λp hp=>by cases hp
     have dv:Inv L [] az H9 { s9 with heap:=h',toks:=tk }:=bh.turned (it:=D) kp cn Dl (.inl DX) (okX.exf D DX).2 (λp hp=>by rw[bu]at hp;cases hp);refine⟨m',hm,i+1,bc,H9,dv.weak l8.symm bg,T.keep _ _ _ bx λb hb o e=>kp b o (bq b hb).2 (I9.pin (b,o) (aER _ (aER _ (gR hb e)))).1,du,cn,⟨its',c',dq,dr⟩,w9⟩
    cases ok with
    | false =>
     rw[b3 aEZ]at q9;have dw:=(I9.pin (D,_) (aER _ (aE5 _ memD))).1;exact aEM ⟨rfl,ends I9 (h':=s9.heap) (λ_ _ _ e=>e) rv dw q9 s9.toks⟩
    | true =>
     rw[b4 rfl]at q9;have bd:=eu (db _ s9 az H9 _ I9.xe q9) (λv s z=>show EP L _ az _ v s by obtain⟨y,H,I,r,q⟩:=z;exact⟨y,H,I.xeO,r,q⟩) λ_ _ z=>z;dsimp only at bd;rw[xp,xw,xA]at bd;refine aEL (aEL (eu bd (λv dy ⟨y,ef,bh,dz,bd⟩=>?_) λev s' z=>cu _ _ _ _ _ _ _ (by rw[xe];rfl) I3 rfl (λb hb=>?_) z))
     case refine_2 =>
      rcases aEm.mp hb with e | hb
      .rw[e];exact⟨.inr (fy I2.sz ba),fD.2.1,fD.2.2.2.2.1,fD.2.2.2.2.2⟩
      .obtain⟨f0,f1,br,f3,f4,f5⟩:=f2 b hb;exact⟨f3,f1,f4,f5⟩
     have cp:=(bh.pin (D,_) (aER _ (aE5 _ memD))).1;have hlen:=rv.length;refine aEL (wpAny_list_append_plain (items:=Y.toArray) ⟨c,cp⟩ (λh' hl hs=>aEM (aEM ⟨rfl,?_⟩)) (by rw[aEV];lia));obtain⟨c',e'⟩:=hl;have d_:h'.get? D=some { cls:=.type "list",data:=.seq (Y++[v]).toArray c' }:=by rw[e'];simp
     exact ends bh (h':=h') (λb o hb e=>hs.extBut b o hb e) (rv.append (.cons dz .nil)) d_ bd dy.toks
  .exact T.keep 0 _ _ bp λb hb o e=>up b o (by rw[e3];exact aEO _ e)
 have e4:({ s2 with heap:=ay,toks:=s2.toks+([]:List (Str×Value)).length }:Shared)={ M with heap:=ay,toks:=M.toks }:=by rw[<- cb];rfl
 rw[e4];show codeAny _ _ (.compStart (.ListComp ak [⟨tg,iter,al,0⟩] ae pos) 0 (.ref it) (.ref D) (compEnvC ae (qG ae X.env) M.heap.objs.size X.env)) (RR (.ref D) M.heap.objs.size) _;rw[<- xe];refine codeAny_compStart_list loop ?_;refine T.self X.A 0 _ _ _ ?_ loop;exact T.keep 0 _ _ bp λb hb o e=>up b o (by rw[e3];exact aEO _ e)
end
section
variable {X:Cx} {ae:Scope} {js:List Nat} {cs ts:List Str} {nt:Nat} {ak tg iter:Expr} {al:List Expr} {pos:Pos} {g:TG} {tt:TT} {te:TE} {wi:TI}
def eO (ts cs:List Str) (js:List Nat) (U:X.calm=true) (O:CompOk X.env.scope ae X.N js cs) (hi:PI X tg iter wi)
 (hg:∀ L M ex,PG (oX X ae (ts++cs) L M ex) tg g) (hk:GK ts.length g) (ht:∀ L M ex,PIf (oX X ae (ts++cs) L M ex) al tt) (he:∀ L M ex,PE (oX X ae (ts++cs) L M ex) ak te)
 (hs:∀ x,foldedSetIterable iter X.env x=pure x:=by intro _;rfl):PE X (.ListComp ak [⟨tg,iter,al,0⟩] ae pos) (aBX wi ts.length js g tt te):=by
 intro pins s σ H Q I h;rw[eval_ListComp];refine qv (use:=none) rfl hs (O9 λy hy e=>I.ok.has y.1 (O.frees y hy e)) O.kind O.names (thn (hi pins s σ H _ I h) λxv s1 h1=>thn h1 λaw s2 h2=>?_);obtain⟨it,fp,tn,J,H2,e,I2,T,Y,f2,R⟩:=h2;subst e;refine vS (Ξ:=λ_ _ _ _ _=>False) (Q:=Q) (RR:=λau C=>compPost (model X.prog X.w) X.A X.xe none (EP X pins σ Q) au C) U O rfl hg hk ht he I2 T Y f2 R ?_ λ_ _ _ _ _ _ _ _ _ _ _ z=>z.elim;intro D C s' H' I' ⟨m,hm⟩ c1 c2 c3 c4 c5 q;refine⟨m,hm,λh' av=>?_⟩;exact⟨.ref D,H',I'.turned (it:=C) (t':=s'.toks) (λb o hb e=>av.extBut b o hb e) c1 c2 (.inr c3) c4 c5,rfl,q⟩
def P3 {i:Nat} {x:Str} {pos' U:Pos} (ts cs:List Str) (js:List Nat) (Y:X.calm=true) (hN:X.N.Nodup) (av:X.N[i]?=some x) (hx:X.env.scope.names.lookup x=some .local) (O:CompOk X.env.scope ae X.N js cs) (hi:PI X tg iter wi)
 (hg:∀ L M ex,PG (oX X ae (ts++cs) L M ex) tg g) (hk:GK ts.length g) (ht:∀ L M ex,PIf (oX X ae (ts++cs) L M ex) al tt) (he:∀ L M ex,PE (oX X ae (ts++cs) L M ex) ak te)
 (aw:swapsWith (.ListComp ak [⟨tg,iter,al,0⟩] ae pos) (some (.Name x pos')) U.line X.env=pure true) (hs:∀ x,foldedSetIterable iter X.env x=pure x:=by intro _;rfl) :
 PS X (.Assign [.Name x pos'] (.ListComp ak [⟨tg,iter,al,0⟩] ae pos) U) (aAa (aBX wi ts.length js g tt te) (vG i)):=by
 intro pins s σ H D I h;rw[exec_Assign_Name_used _ _ _ _ aw];refine aEL (jw (aEL ?_));show wpAny _ X.A (do let _ <- comprehension (.ListComp ak [⟨tg,iter,al,0⟩] ae pos) ae X.env _ (newList []) false (eval iter X.env) (some (assign (.Name x pos') X.env))) _ _ s;refine aEL (eu (qv (use:=some (assign (.Name x pos') X.env)) (Q:=λ_ s'=>SP X pins D .next s') rfl hs (O9 λy hy e=>I.ok.has y.1 (O.frees y hy e)) O.kind O.names
  (thn (hi pins s σ H _ I h) λxv s1 h1=>thn h1 λba s2 h2=>?_)) (λ_ s' hq=>aEM (aEM hq)) λ_ _ e=>e)
 obtain⟨it,fp,tn,J,H2,e,I2,T,ax,f2,R⟩:=h2;subst e;refine vS (Ξ:=λ_ _ _ _ _=>False) (Q:=λv H'=>D.nx (σ.set i (some v)) H') (RR:=λay C=>compPost (model X.prog X.w) X.A X.xe (some (assign (.Name x pos') X.env)) (λ_ s'=>SP X pins D .next s') ay C) Y O rfl hg hk ht he I2 T ax f2 R ?_ λ_ _ _ _ _ _ _ _ _ _ _ z=>z.elim;intro D' C s' H' I' ⟨m,hm⟩ c1 c2 c3 c4 c5 q;show wpAny _ X.A (assign (.Name x pos') X.env (.ref D')) _ _ _;refine wpAny_assign_Name (oN (v:=.ref D') I' hN av (.inl hx) rfl (λs2 I2 ⟨a,az,ha⟩=>?_) (.inr hx));have a_:C≠a:=by
  rcases ha with e | e
  .rw[e];exact c2
  .exact λz=>c4 _ _ e z.symm
 refine⟨m,hm.sameBut az a_,λh' au=>?_⟩;exact⟨_,H',I2.turned (it:=C) (t':=s2.toks) (λb o hb e=>au.extBut b o hb e) c1 c2 (.inr c3) c4 c5,q⟩
end
def fF {K:PySem.W.Frag} {a:Addr} {xs:List V} {z:St} {g:TG} {tt:TT} {te:TE} {H:Hp} {Q:VK} (Pv:Nat->List V->Hp->Prop) (h0:Pv 0 [] H) (O:∀ i ys H,i<=xs.length->Pv i ys H->SqL K H a xs/\ys.length<sizeLine)
 (hs:∀ i x ys H,xs[i]?=some x->Pv i ys H->g x z H λJ H2=>tt J H2 λb M=>if b=true then te J M λy U=>Pv (i+1) (ys++[y]) U else Pv (i+1) ys M) (hd:∀ ys H,Pv xs.length ys H->∀ D,H D=none->Q (.ref D) (upd H D (.lst ys))) :
 qI (Itl K a) z g tt te Q H:=by
 refine⟨λi m ys H=>m=xs.length - i/\i<=xs.length/\Pv i ys H,⟨xs.length,by simp,ka _,h0⟩,?_⟩;rintro i m ys H ⟨rfl,hi,p⟩;obtain⟨q,Y⟩:=O i ys H hi p;refine⟨Y,?_⟩
 by_cases L:i<xs.length
 .refine .inr ⟨⟨xs,xs[i],q,by simp[L]⟩,Pv (i+1),λau H' p'=>⟨xs.length - (i+1),by lia,rfl,L,p'⟩,λx H' y=>?_⟩;obtain⟨e,y⟩:=y;subst e;exact hs i x ys _ (y xs q) p
 .have e:i=xs.length:=by lia
  subst e;exact .inl ⟨⟨xs,q,ah _⟩,hd ys H p⟩
def sA {lo:Int} {n:Nat} {J:St} {g:TG} {tt:TT} {te:TE} {H:Hp} {Q:VK} (Pv:Nat->List V->Hp->Prop) (h0:Pv 0 [] H) (O:∀ i ys H,i<=n->Pv i ys H->ys.length<sizeLine)
 (hs:∀ i ys H,i<n->Pv i ys H->g (.int (lo+i)) J H λL H2=>tt L H2 λb M=>if b=true then te L M λy U=>Pv (i+1) (ys++[y]) U else Pv (i+1) ys M) (hd:∀ ys H,Pv n ys H->∀ D,H D=none->Q (.ref D) (upd H D (.lst ys))) :
 qI (Itr lo n) J g tt te Q H:=by
 refine⟨λi m ys H=>m=n - i/\i<=n/\Pv i ys H,⟨n,by simp,ka _,h0⟩,?_⟩;rintro i m ys H ⟨rfl,hi,p⟩;refine⟨O i ys H hi p,?_⟩
 by_cases z:i<n
 .refine .inr ⟨z,Pv (i+1),λY H' p'=>⟨n - (i+1),by lia,rfl,z,p'⟩,λx H' y=>?_⟩;obtain⟨e,y⟩:=y;subst e y;exact hs i ys _ z p
 .have e:i=n:=by lia
  subst e;exact .inl ⟨ah _,hd ys H p⟩
mutual
inductive Den (H:Hp):V->PyData->Prop
 | non:Den H .non .none
 | bl (b:Bool):Den H (.bl b) (.bool b)
 | int (i:Int):Den H (.int i) (.int i)
 | str (x:Str):Den H (.str x) (.str x)
 | lst {a:Addr} {vs:List V} {ds:List PyData}:H a=some (.lst vs)->Dens H vs ds->Den H (.ref a) (.list ds)
 | tup {a:Addr} {vs:List V} {ds:List PyData}:H a=some (.tup vs)->Dens H vs ds->Den H (.ref a) (.tuple ds)
inductive Dens (H:Hp):List V->List PyData->Prop
 | nil:Dens H [] []
 | cons {v:V} {d:PyData} {vs:List V} {ds:List PyData}:Den H v d->Dens H vs ds->Dens H (v :: vs) (d :: ds)
end
def Dens.append:∀ {H:Hp} {vs us:List V} {ds es:List PyData},Dens H vs ds->Dens H us es->Dens H (vs++us) (ds++es)
 | _,_,_,_,_,.nil,s=>s
 | _,_,_,_,_,.cons r t,s=>.cons r (Dens.append t s)
mutual
def Den.mono {H H':Hp} (e:Same H H'):∀ {v:V} {d:PyData},Den H v d->Den H' v d
 | _,_,.non=>.non
 | _,_,.bl b=>.bl b
 | _,_,.int i=>.int i
 | _,_,.str x=>.str x
 | _,_,.lst h t=>.lst (e _ _ h) (Dens.mono e t)
 | _,_,.tup h t=>.tup (e _ _ h) (Dens.mono e t)
def Dens.mono {H H':Hp} (e:Same H H'):∀ {vs:List V} {ds:List PyData},Dens H vs ds->Dens H' vs ds
 | _,_,.nil=>.nil
 | _,_,.cons r t=>.cons (Den.mono e r) (Dens.mono e t)
end
def Dens.ints {H:Hp}:∀ ns:List Int,Dens H (ns.map V.int) (ns.map PyData.int)
 | []=>.nil
 | n :: r=>.cons (.int n) (Dens.ints r)
def Same.upd {H:Hp} {a:Addr} {o:HO} (h:H a=none):Same H (upd H a o):=λb u e=>by rw[aL (aU e h)];exact e
def Same.upd' {H z:Hp} {a:Addr} {o:HO} (h:z a=none) (s:Same z H):Same z (L2.upd H a o):=λb u e=>by rw[aL (aU e h)];exact s b u e
section
variable {P:Program} {w:World} {H:Hp} {h:Heap}
mutual
def Den.reads (ok:HOk P w H h):∀ {v:V} {d:PyData} {u:Value},Den H v d->RelV v u->∃ z,Reads h u d z
 | _,_,_,.non,r=>by cases r;exact⟨_,.none⟩
 | _,_,_,.bl b,r=>by cases r;exact⟨_,.bool b⟩
 | _,_,_,.int i,r=>by obtain⟨t,rfl⟩:=r;exact⟨_,.int i t⟩
 | _,_,_,.str x,r=>by obtain⟨t,rfl⟩:=r;exact⟨_,.str x t⟩
 | _,_,_,.lst (a:=a) e t,r=>by
  cases r;obtain⟨_,J,n,L,ho⟩:=ok a _ e;obtain⟨z,q⟩:=Dens.reads ok t L;exact⟨_,.list ho rfl rfl (by simpa using q)⟩
 | _,_,_,.tup (a:=a) e t,r=>by
  cases r;obtain⟨_,J,L,o,ho,M,n,hd⟩:=ok a _ e;obtain⟨z,q⟩:=Dens.reads ok t L;exact⟨_,.tuple ho M hd (by simpa using q)⟩
def Dens.reads (ok:HOk P w H h):∀ {vs:List V} {ds:List PyData} {us:List Value},Dens H vs ds->Vals vs us->∃ z,ReadsAll h us ds z
 | _,_,_,.nil,.nil=>⟨_,.nil⟩
 | _,_,_,.cons r t,.cons q s=>by
  obtain⟨a,x⟩:=Den.reads ok r q;obtain⟨b,y⟩:=Dens.reads ok t s;exact⟨_,.cons x y⟩
end
end
inductive j5 (x:V) (y:V) (H:Hp) (Q:VK):Prop
 | mk (d:_) (e:_) (h0_:Den H x d) (h1_:Den H y e) (h2_:SeqAt.shaped d=true) (h3_:SeqAt.shaped e=true) (h4_:Q (.bl (PyData.eqv d e)) H):j5 x y H Q
def aDx:R2:=λx y H Q=>j5 x y H Q
inductive j6 (x:V) (y:V) (H:Hp) (Q:VK):Prop
 | mk (d:_) (e:_) (h0_:Den H x d) (h1_:Den H y e) (h2_:SeqAt.shaped d=true) (h3_:SeqAt.shaped e=true) (h4_:Q (.bl (!PyData.eqv d e)) H):j6 x y H Q
def aDy:R2:=λx y H Q=>j6 x y H Q
section
variable {X:Cx}
def gT (z:X.A.units+64<cLine):OpR X (compareOp .Eq) aDx:=by
 intro pins s σ H x y v u Q I J L h;obtain⟨d,e,hd,he,M,O,q⟩:=h;obtain⟨U,r1⟩:=hd.reads I.hok J;obtain⟨bs,r2⟩:=he.reads I.hok L;exact eq_dataH r1 r2 M O z ⟨.bl _,H,I,rfl,q⟩
def oY (z:X.A.units+64<cLine):OpR X (compareOp .NotEq) aDy:=by
 intro pins s σ H x y v u Q I J L h;obtain⟨d,e,hd,he,M,O,q⟩:=h;obtain⟨U,r1⟩:=hd.reads I.hok J;obtain⟨bs,r2⟩:=he.reads I.hok L;exact ne_dataH r1 r2 M O z ⟨.bl _,H,I,rfl,q⟩
def tyD:PyData->String
 | .none=>"NoneType" | .bool _=>"bool" | .int _=>"int" | .str _=>"str" | .list _=>"list" | .tuple _=>"tuple" | .dict _=>"dict"
def Den.ty {K:PySem.W.Frag} {H:Hp} {v:V} {d:PyData} (h:Den H v d):oS K H v (.type (tyD d)):=by
 cases h with
 | non=>exact .non
 | bl b=>exact .bl b
 | int i=>exact .int i
 | str x=>exact .str x
 | lst e _=>exact .lst e
 | tup e _=>exact .tup e
inductive j7 (K:PySem.W.Frag) (xs:List V) (H:Hp) (Q:VK):Prop
 | mk (x:_) (T:_) (d:_) (b:_) (h0_:xs=[x,.ty T]) (h1_:Den H x d) (h2_:PySem.W.kitOne K (.type (tyD d)) (.type T)=some b) (h3_:Q (.bl b) H):j7 K xs H Q
def jA:eX X (.builtin "isinstance") (j7 X.K):=by
 intro pins s σ H xs us Q I r h;obtain⟨x,T,d,b,rfl,hd,e,q⟩:=h;obtain⟨u,v,rfl,r1,r2⟩:=r.two;cases r2;exact V3 I r1 (hd.ty (K:=X.K)) e λz=>⟨.bl b,H,I.tok z,rfl,q⟩
def aBu {P:Program} {w:World} {H:Hp} {s:Shared} {K:PySem.W.Frag} {x:V} {u:Value} {d:PyData} {A:Around} {E:Value->Shared->Prop} {Y:Addr} {L:List Value} {n:Nat} {b:Bool} {Q:Value->Shared->Prop} (ok:HOk P w H s.heap) (kin:K.In s.heap) (J:RelV x u) (hd:Den H x d)
 (O:∃ o,s.heap.get? Y=some o/\o.cls=.type "tuple"/\o.data=.seq L.toArray n) (e:PySem.W.kitAny K (.type (tyD d)) L=some b) (h:∀ tk,Q (.bool b) { s with toks:=tk }):wpAny (model P w) A (call (.builtin "isinstance") [u,.ref Y]) Q E s:=by
 obtain⟨⟨cls,dd,data,sl⟩,ho,hc,M⟩:=O;simp only at hc M;subst hc M;cases hd with
 | non=>cases J;exact mx PySem.W.kitx_none kin True.intro ho e (λz=>nomatch z) h
 | bl y=>cases J;exact mx PySem.W.kitx_bool kin True.intro ho e (λz=>nomatch z) h
 | int i=>obtain⟨t,rfl⟩:=J;exact mx PySem.W.kitx_int kin True.intro ho e (λz=>nomatch z) h
 | str y=>obtain⟨t,rfl⟩:=J;exact mx PySem.W.kitx_str kin True.intro ho e (λz=>nomatch z) h
 | @lst a vs ds U _ =>
  cases J;obtain⟨_,_,n,_,h1⟩:=(show ObjOk P w H s.heap a (.lst vs) from ok a _ U);exact mx qt kin ⟨_,h1,rfl⟩ ho e (λz=>nomatch z) h
 | @tup a vs ds U _ =>
  cases J;obtain⟨_,_,_,p⟩:=(show ObjOk P w H s.heap a (.tup vs) from ok a _ U);obtain⟨o,h1,h2,_⟩:=p;exact mx PySem.W.kitx_tuple kin ⟨o,h1,h2⟩ ho e (λz=>nomatch z) h
def P4:∀ {z:List String} {us:List Value},Vals (z.map V.ty) us->us=z.map Value.type
 | [],_,.nil=>rfl
 | T :: r,_,.cons q t=>by
  have e:_=Value.type T:=q;rw[aEb,e,P4 t]
inductive P5 (K:PySem.W.Frag) (xs:List V) (H:Hp) (Q:VK):Prop
 | mk (x:V) (tp:Addr) (Ts:List String) (d:PyData) (b:Bool) (h0_:xs=[x,.ref tp]) (h1_:H tp=some (.tup (Ts.map V.ty))) (h2_:Den H x d) (h3_:PySem.W.kitAny K (.type (tyD d)) (Ts.map Value.type)=some b) (h4_:Q (.bl b) H):P5 K xs H Q
def V7:eX X (.builtin "isinstance") (P5 X.K):=by
 intro pins s σ H xs us Q I r h;obtain⟨x,J,L,d,b,rfl,ht,hd,e,q⟩:=h;obtain⟨u,v,rfl,r1,r2⟩:=r.two;cases r2;obtain⟨_,M,O,o,ho,U,n,z⟩:=(show ObjOk X.prog X.w H s.heap J (.tup (L.map V.ty)) from I.hok J _ ht);have Y:=P4 O;subst Y;exact aBu I.hok I.kIn r1 hd ⟨o,ho,U,z⟩ e λtk=>⟨.bl b,H,I.tok tk,rfl,q⟩
inductive j8 (xs:List V) (H:Hp) (Q:VK):Prop
 | mk (p:Addr) (bs:List Bool) (h0_:xs=[.ref p]) (h1_:H p=some (.lst (bs.map V.bl))) (h2_:Q (.bl (bs.all id)) H):j8 xs H Q
def sB (hc:X.calm=true):eX X (.builtin "all") j8:=by
 intro pins s σ H xs us Q I r h;obtain⟨p,bs,rfl,hp,q⟩:=h;obtain⟨u,rfl,rx⟩:=kE r;cases rx;obtain⟨z,O,pl,hz⟩:=I.list (SqL.of hp);have L:=pl.isList;have M:p<s.heap.objs.size:=by obtain⟨_,e,_⟩:=L;exact aET e
 have hlen:bs.length=z.length:=by have:=O.length;simpa using this
 refine call_all_walk (qr L ?_);refine⟨s.heap.objs.size,[s.heap.objs.size,p],[s.heap.objs.size],z.toArray.size,_,_,λi=>(bs[i]?).getD true,rfl,Walks.list (A:=X.A.in1) (I.ok.hd hc) _ p (aE9 M) z.toArray,
  ⟨⟨_,aEU _ rfl,rfl,rfl⟩,L.push _⟩,λi v s' Q' E' hP hQ=>?_,λh' tk hk=>?_⟩
 .have U:z[i]?=some v:=by simpa using hP
  have hi:i<z.length:=(aEl.mp U).1;have hb:(bs.map V.bl)[i]?=some (V.bl (bs[i]'(by lia))):=by simp[hlen,hi]
  obtain⟨u,Y,ru⟩:=O.get hb;rw[U]at Y;cases Y;cases ru;have e:(bs[i]?).getD true=bs[i]'(by lia):=by simp[show i<bs.length by lia]
  have J:Q' ((bs[i]?).getD true) s':=hQ;rw[e]at J;exact km J
 .have e:((List.range z.toArray.size).all λi=>(bs[i]?).getD true)=bs.all id:=by
   rw[aEV,<- hlen];exact LSm.range_all bs
  rw[e];have kp:∀ b x,s.heap.get? b=some x->h'.get? b=some x:=LSm.kept_iter hk;exact⟨.bl _,H,I.kept kp,rfl,q⟩
end
def vT:bootBuiltins "list"=some (.type "list"):=by decide +kernel
def eA:bootBuiltins "tuple"=some (.type "tuple"):=by decide +kernel
def vU:bootBuiltins "bool"=some (.type "bool"):=by decide +kernel
def kM:bootBuiltins "str"=some (.type "str"):=by decide +kernel
def sC:bootBuiltins "int"=some (.type "int"):=by decide +kernel
def cE:bootBuiltins "isinstance"=some (.builtin "isinstance"):=by decide +kernel
def sD:bootBuiltins "all"=some (.builtin "all"):=by decide +kernel
def zF:bootBuiltins "sorted"=some (.builtin "sorted"):=by decide +kernel
def j9:bootBuiltins "max"=some (.builtin "max"):=by decide +kernel
def k6:bootBuiltins "min"=some (.builtin "min"):=by decide +kernel
structure Bt (mg:Str->Option Value):Prop where
 len:mg "len"=none
 range:mg "range"=none
 list:mg "list"=none
 tuple:mg "tuple"=none
 bool:mg "bool"=none
 str:mg "str"=none
 int:mg "int"=none
 isinstance:mg "isinstance"=none
 all:mg "all"=none
 sorted:mg "sorted"=none
 max:mg "max"=none
 min:mg "min"=none
 set:mg "set"=none
 reversed:mg "reversed"=none
 sum:mg "sum"=none
 enumerate:mg "enumerate"=none
 zip:mg "zip"=none
 any:mg "any"=none
 abs:mg "abs"=none
def dU (P:Program) (w:World) (K:PySem.W.Frag) (mg:Str->Option Value) (base:Heap) (x:Str) (k:Nat) (ps:List Str) (sp:Sp):Prop :=
 ∃ f fd,FnOk P w K mg base CX0 k f fd ps sp/\mg x=some (.ref f)/\PySem.W.keepIn K (.ref f)=true/\Binds K fd ps []
section
variable {X:Cx} {x:Str} {j k:Nat} {ps:List Str} {sp:Sp} {t:TA} {e:Expr} {es:List Expr} {p pos:Pos}
def cJ (F:dU X.prog X.w X.K X.mg X.base x j ps sp) (z:Room k X.A) (J:Gl X x) (L:PA X (e :: es) t) (M:j<=k:=by decide) (hdb:(x == ("__debug__":Str))=false:=by decide)
 (he:starEach (e :: es) X.env=(false,eval e X.env) :: starEach es X.env:=by rfl) (hpl:(backTo pos (starEach es X.env)).any (·.1)=false:=by rfl) :
 PE X (.Call (.Name x p) (e :: es) [] pos) (zB sp [] E0 t):=by
 obtain⟨f,fd,G,O,U,Y⟩:=F;exact O2 (hdb:=hdb) (he:=he) (hpl:=hpl) G (z.mono M) J O U Y .nil eJ L
def aBv:OpR X (compareOp .Eq) (rI0 λi j=>.bl (decide (i=j))):=U8 λi j _ _ _ _ _ q=>eq_int (by
 have e:(i == j)=decide (i=j):=by rw[ls];simp
 rw[e];exact q)
def aBw:OpR X (compareOp .NotEq) (rI0 λi j=>.bl (!decide (i=j))):=U8 λi j _ _ _ _ _ q=>ne_int (by
 have e:(i != j)=!decide (i=j):=by rw[bne];congr 1
 rw[e];exact q)
end
def aDz (t u:TS):TS:=λD σ H=>∃ M:St->Hp->Prop,t { D with nx:=M } σ H/\∀ z H',M z H'->u D z H'
def P6 {X:Cx} {st:Stmt} {rest:List Stmt} {t u:TS} (h1:PS X st t) (h2:PSs X rest u):PSs X (st :: rest) (aDz t u):=by
 intro pins s σ H D I h;obtain⟨M,h,J⟩:=h;refine ml (thn (h1 pins s σ H { D with nx:=M } I h) λf L q=>?_);cases f with
 | next =>
  obtain⟨z,H',O,q⟩:=q;exact h2 pins L z H' D O (J z H' q)
 | ret v=>exact q
 | brk=>exact q
 | cont=>exact q
def aDJ (t:TE):TE:=fun σ H Q=>∃ R:VK,t σ H R/\∀ v H',R v H'->Q v H'
def oZ {X:Cx} {e:Expr} {t:TE} (h:PE X e t):PE X e (aDJ t):=by
 intro pins s σ H Q I hw;obtain⟨R,hw,z⟩:=hw;exact thn (h pins s σ H R I hw) λu M ⟨v,H1,J,r1,L⟩=>⟨v,H1,J,r1,z v H1 L⟩
def xB {c:Prop} [Decidable c] {A B:Prop} (h1:c->A) (h2:¬ c->B):if decide c=true then A else B:=by
 by_cases h:c
 .rw[aE8 h,b4 rfl];exact h1 h
 .rw[aE7 h,b3 aEZ];exact h2 h
def iJ {c:Prop} [Decidable c] {A B:Prop} (z:c) (h1:A):if decide c=true then A else B:=by
 rw[aE8 z,b4 rfl];exact h1
def cW {c:Prop} [Decidable c] {A B:Prop} (z:¬ c) (h1:B):if decide c=true then A else B:=by
 rw[aE7 z,b3 aEZ];exact h1
section
variable {X:Cx} (K:PySem.W.Frag)
def aAj (h:X.K=K):IxR X (aBp K):=h ▸ cY
def uN (h:X.K=K):OpR X (compareOp .NotIn) (rIn K true):=h ▸ jP
def P7 {es:List Expr} {k:Nat} {t:TGs} {n:Nat} {pos:Pos} (h:X.K=K) (z:X.calm=true) (hs:PGs X es t) (J:(assignEach es X.env).length=n:=by rfl) (hst:(assignEach es X.env).findIdx? (·.1)=none:=by rfl):PG X (.Tuple es k pos) (aA9 K n t):=h ▸ fW z hs J hst
end
def k9:bootBuiltins "sum"=some (.builtin "sum"):=by decide +kernel
def l3:bootBuiltins "zip"=some (.type "zip"):=by decide +kernel
def sE:∀ {ns:List Int} {us:List Value},Vals (ns.map V.int) us->IntsAre us ns
 | [],_,.nil=>.nil
 | _ :: _,_,.cons ⟨_,e⟩ t=>by subst e;exact .cons _ _ (sE t)
section
variable {X:Cx}
inductive l6 (xs:List V) (H:Hp) (Q:VK):Prop
 | mk (p:Addr) (ns:List Int) (h0_:xs=[.ref p]) (h1_:H p=some (.lst (ns.map V.int))) (h2_:Q (.int ns.sum) H):l6 xs H Q
def l7 (M:X.calm=true):eX X (.builtin "sum") l6:=by
 intro pins s σ H xs us Q I r h;obtain⟨p,ns,rfl,O,q⟩:=h;obtain⟨u,rfl,U⟩:=kE r;cases U;obtain⟨z,Y,pl,hz⟩:=I.list (SqL.of O);have hl:=pl.isList;have hi:=sE Y;obtain⟨xs,L⟩:=hi.allInts.items;have J:s.heap.IsList p (intItems xs):=L ▸ hl;refine sum_intListG (I.ok.hd M) J λh' tk t' hk=>?_;have e1:ns=xs.toList.map (·.1):=by
  rw[<- nums_intItems,<- L];exact(show numsOf z.toArray.toList=ns from hi.numsOf).symm
 have e2:preSum (numAt xs) xs.size=ns.sum:=by
  rw[preSum_eq,jo (by simp),e1]
 rw[e2];exact⟨.int _,H,I.kept hk,⟨_,rfl⟩,q⟩
def Inv.turnedF {h':Heap} {pins:List (Addr×Obj)} {σ:St} {H:Hp} {s:Shared} {t':Nat} {fp:List Addr} (I:Inv X pins σ H s) (k:∀ b o,b∉fp->s.heap.get? b=some o->h'.get? b=some o) (M:∀ b∈fp,qQ X pins H b):Inv X pins σ H { s with heap:=h',toks:=t' }:=by
 have L:∀ b u,H b=some u->b∉fp:=λb u e z=>by rw[(M b z).1]at e;cases e
 refine I.step (g':=s.gens) (d':=s.drawn) (ch:=fp) (λb O=>?_) (λb o _ _ J e _=>k b o J e) (λb o _ _ J e _=>⟨o.slots,k b o J e⟩) (λ_ _ _ _ n=>n)
  (λb o J e=>⟨o,k b o J e⟩) (λ_ _ e=>e) (λ_ _ _ e=>e) (λb ps e=>⟨#[],by rw[e];simp⟩) (λm U=>?_) (λb u e=>?_) I.bare
 .obtain⟨_,h1,_,h3,h4,h5⟩:=M b O;exact⟨h3,h1,h4,h5⟩
 .obtain⟨o,es,Y,ho,r⟩:=U;exact⟨o,es,Y,k _ o (λz=>(M _ z).2.1 rfl) ho,r⟩
 .refine(I.hok b u e).stay (λc v J q=>k c v ?_ q) (λ_ q=>q) λ_ _ q=>q;rcases J with z | z
  .rw[z];exact L b u e
  .exact L c _ z
def Inv.turnLaid {h':Heap} {pins:List (Addr×Obj)} {σ:St} {H:Hp} {s:Shared} {t':Nat} {fp:List Addr} {a:Addr} {o:HO} (I:Inv X pins σ H s) (k:∀ b o,b∉fp->s.heap.get? b=some o->h'.get? b=some o) (O:∀ b∈fp,qQ X pins H b) (Y:s.heap.objs.size<=a) (U:ObjOk X.prog X.w (upd H a o) h' a o) :
 Inv X pins σ (upd H a o) { s with heap:=h',toks:=t' }:=by
 have hn:H a=none:=I.hok.fresh Y;have L:∀ b u,H b=some u->b∉fp:=λb u e z=>by rw[(O b z).1]at e;cases e
 have ne:∀ b u,H b=some u->b≠a:=λb u e=>aU e hn;refine I.step (g':=s.gens) (d':=s.drawn) (ch:=fp) (λb M=>?_) (λb o _ _ J e _=>k b o J e) (λb o _ _ J e _=>⟨o.slots,k b o J e⟩) (λb ob _ e n=>?_)
  (λb o J e=>⟨o,k b o J e⟩) (λb _ e=>by rw[aL (ne b _ e)];exact e) (λb _ _ e=>by rw[aL (ne b _ e)];exact e) (λb ps e=>⟨#[],by rw[aL (ne b _ e),e];simp⟩) (λm hm=>?_) (λb u e=>?_) I.bare
 .obtain⟨_,h1,_,h3,h4,h5⟩:=O b M;exact⟨h3,h1,h4,h5⟩
 .have:b≠a:=aE9 (aE3 (aET e) Y);rw[aL this];exact n
 .obtain⟨o,es,ep,ho,r⟩:=hm;exact⟨o,es,ep,k _ o (λz=>(O _ z).2.1 rfl) ho,r⟩
 .by_cases M:b=a
  .subst M;rw[aJ]at e;cases e;exact U
  .rw[aL M]at e;refine(I.hok b u e).stay (λc v J q=>k c v ?_ q) (λc q=>by rw[aL (ne c _ q)];exact q) λc _ q=>by rw[aL (ne c _ q)];exact q
   rcases J with z | z
   .rw[z];exact L b u e
   .exact L c _ z
end
def Itz (K:PySem.W.Frag) (a b:Addr):It :=
 ⟨λi H=>∃ xs ys x y,SqL K H a xs/\SqL K H b ys/\xs[i]?=some x/\ys[i]?=some y,λi H v H'=>∃ t x y,v=.ref t/\H t=none/\(∀ xs,SqL K H a xs->xs[i]?=some x)/\(∀ ys,SqL K H b ys->ys[i]?=some y)/\H'=upd H t (.tup [x,y]),
  λi H=>∃ xs ys,SqL K H a xs/\SqL K H b ys/\(xs.length<=i\/ys.length<=i)⟩
def l9 {P:Program} {w:World} {K:PySem.W.Frag} {elts:List Expr} {x1} {pos:Pos} (a b z TI TO i1 i2:Addr) (D:ZipApart z TI TO i1 i2 a b):wS P w K (.Tuple elts x1 pos) (Itz K a b) [z,TO,i1,i2,TI] z
 (λi h=>IsZip h z TI TO .none/\IsPair h TI (.ref i1) (.ref i2)/\(∃ u v,IsPair h TO u v)/\h.IsListIter i1 a i/\h.IsListIter i2 b i) where
 mem:=by simp
 obj:=λi h st c hc=>by
  obtain⟨hz,hTI,⟨u,v,hTO⟩,⟨o1,ho1,c1,d1⟩,o2,ho2,c2,d2⟩:=st;simp only[aEm,rp,or_false]at hc;rcases hc with q | q | q | q | q
  .subst q;exact⟨_,hz,λv z=>by have z':Data.fields _=Data.cell v:=z;cases z'⟩
  .subst q;exact⟨_,hTO,λv z=>by have z':Data.seq _ _=Data.cell v:=z;cases z'⟩
  .subst q;exact⟨o1,ho1,λv z=>by rw[d1]at z;cases z⟩
  .subst q;exact⟨o2,ho2,λv z=>by rw[d2]at z;cases z⟩
  .subst q;exact⟨_,hTI,λv z=>by have z':Data.seq _ _=Data.cell v:=z;cases z'⟩
 keep:=λi h h' st k=>by
  obtain⟨hz,hTI,⟨u,v,hTO⟩,h1,h2⟩:=st;exact⟨k z (by simp) _ hz,k TI (by simp) _ hTI,⟨u,v,k TO (by simp) _ hTO⟩,h1.at λo e=>k i1 (by simp) o e,h2.at λo e=>k i2 (by simp) o e⟩
 item:=by
  intro X hP hw hK hc i pins s σ H E I hf st hg;subst hP hw hK;obtain⟨xs,ys,x,y,hq,hq2,hx,hy⟩:=hg;obtain⟨its,rv,p,_⟩:=I.list hq;obtain⟨its2,rv2,p2,_⟩:=I.list hq2;obtain⟨u,hu,ru⟩:=rv.get hx;obtain⟨v,hv,rv'⟩:=rv2.get hy;obtain⟨hz,hTI,⟨u0,v0,hTO⟩,h1,h2⟩:=st;have lz:z<s.heap.objs.size:=aET hz;refine wpAny_pyNext_zip_item D hz hTI hTO h1 h2 p.isList p2.isList (x:=u) (y:=v) (by simpa using hu) (by simpa using hv) λh' e1 e2 e3 e4 e5 e6 kp=>?_;refine⟨_,rfl,?_⟩;have hn:H s.heap.objs.size=none:=I.hok.fresh (ah _);have k1:∀ c o,c∉[z,TO,i1,i2,TI]->s.heap.get? c=some o->h'.get? c=some o:=λc o hb q=>kp c o (λz=>hb (by simp[z])) (λz=>hb (by simp[z])) (λz=>hb (by simp[z])) (λz=>hb (by simp[z])) q;refine wpAny_letOwnedTupleGo_zip e1 λh2' f1 sb=>?_;have k2:∀ c o,c∉[z,TO,i1,i2,TI]->s.heap.get? c=some o->h2'.get? c=some o:=λc o hb q=>sb.extBut c o (λz=>hb (by simp[z])) (k1 c o hb q);have n1:s.heap.objs.size≠z:=aEc lz;refine⟨.ref s.heap.objs.size,_,I.turnLaid (t':=s.toks) (h':=h2') (o:=.tup [x,y]) k2 hf (ah _) ⟨by show 2<=sizeLine;decide,[u,v],.cons ru (.cons rv' .nil),_,sb.extBut _ _ n1 e5,rfl,_,rfl⟩,rfl,
   ⟨_,x,y,rfl,hn,λzs h=>by rw[I.list_inj h hq];exact hx,λzs h=>by rw[I.list_inj h hq2];exact hy,rfl⟩,⟨f1,sb.extBut _ _ D.TIz (kp TI _ D.TIz D.TITO D.TIi1 D.TIi2 hTI),⟨_,_,sb.extBut _ _ D.TOz e2⟩,e3.extBut sb.extBut D.i1z,e4.extBut sb.extBut D.i2z⟩,λc hb=>?_⟩
  have hb':c≠s.heap.objs.size:=by
   have lc:c<s.heap.objs.size:=by
    simp only[aEm,rp,or_false]at hb;rcases hb with q | q | q | q | q
    .subst q;exact lz
    .subst q;exact aET hTO
    .subst q;obtain⟨_,z,_⟩:=h1;exact aET z
    .subst q;obtain⟨_,z,_⟩:=h2;exact aET z
    .subst q;exact aET hTI
   exact aE9 lc
  rw[aL hb'];exact(hf c hb).1
 done:=by
  intro X hP hw hK hc i pins s σ H E I hf st hg;subst hP hw hK;obtain⟨xs,ys,hq,hq2,hx⟩:=hg;obtain⟨its,rv,p,_⟩:=I.list hq;obtain⟨its2,rv2,p2,_⟩:=I.list hq2;have hl:=rv.length;have hl2:=rv2.length;obtain⟨hz,hTI,⟨u0,v0,hTO⟩,h1,h2⟩:=st;exact wpAny_pyNext_zip_end (I.ok.hd hc) D hz hTI hTO h1 h2 p.isList p2.isList (by rcases hx with q | q;(left;simp;lia);(right;simp;lia)) λh' kp=>⟨rfl,I.turnedF (fp:=[z,TO,i1,i2,TI]) (t':=s.toks) (λc o hb e=>kp c o (λz=>hb (by simp[z])) (λz=>hb (by simp[z])) (λz=>hb (by simp[z])) (λz=>hb (by simp[z])) e) hf⟩
 self:=λ_ _ _ _ _ st h=>wpAny_pyIter_zip st.1 h
def aEA (K:PySem.W.Frag) (ta:TA):TI:=fun σ H R=>ta σ H λvs H1=>∃ a b xs ys,vs=[.ref a,.ref b]/\SqL K H1 a xs/\SqL K H1 b ys/\R (Itz K a b) H1
def aBx {X:Cx} {elts:List Expr} {x1} {ao:Pos} {a b:Expr} {ta:TA} {p pos:Pos} (hg:Gl X "zip") (hm:X.mg "zip"=none) (ha:PA X [a,b] ta) (hs:starEach [a,b] X.env=[(false,eval a X.env),(false,eval b X.env)]:=by rfl) (L:starEach [b] X.env=[(false,eval b X.env)]:=by rfl):PI X (.Tuple elts x1 ao) (.Call (.Name "zip" p) [a,b] [] pos) (aEA X.K ta):=by
 intro pins s σ H R I h;refine Call_ (mW I hg hm l3 (ko (thn (ha pos pins s σ H _ I h) λus J ⟨vs,H1,M,r1,q1⟩=>?_) (by rw[hs,L]) (by rw[L];rfl)));obtain⟨a,b,xs,ys,rfl,hq,au,q⟩:=q1;obtain⟨u,v,rfl,rx,ry⟩:=r1.two;cases rx;cases ry;obtain⟨aw,rv,pl,_⟩:=M.list hq;obtain⟨av,ax,O,_⟩:=M.list au;have la:a<J.heap.objs.size:=by obtain⟨_,_,z,_⟩:=pl;exact aET z
 have lb:b<J.heap.objs.size:=by obtain⟨_,_,z,_⟩:=O;exact aET z
 generalize hn:J.heap.objs.size=n at la lb;refine call_zip_2 pl.isList O.isList λh' g1 g2 g3 g4 g5 g6 kp=>?_;rw[hn]at g1 g2 g3 g4 g5 g6;have I2:Inv X pins σ H1 { J with heap:=h' }:=M.kept (t':=J.toks) kp;rw[hn];refine wpAny_pyIter_zip g1 ?_;have ne:∀ i j:Nat,i≠j->(n+i:Nat)≠n+j:=λi j h z=>h (Nat.add_left_cancel z);have U:∀ i:Nat,a≠n+i:=λi=>aE9 (aE3 la (mn _ _));have Y:∀ i:Nat,b≠n+i:=λi=>aE9 (aE3 lb (mn _ _));have D:ZipApart (n+4) (n+2) (n+3) n (n+1) a b :=
  ⟨ne 2 4 (by decide),ne 3 4 (by decide),ne 0 4 (by decide),ne 1 4 (by decide),ne 2 3 (by decide),ne 2 0 (by decide),ne 2 1 (by decide),ne 3 0 (by decide),ne 3 1 (by decide),ne 0 1 (by decide),U 4,U 3,U 0,U 1,Y 4,Y 3,Y 0,Y 1⟩
 refine⟨n+4,[n+4,n+3,n,n+1,n+2],_,_,H1,rfl,I2,l9 a b _ _ _ _ _ D,⟨g1,g2,⟨_,_,g3⟩,g4,g5⟩,λc hb=>?_,q⟩;have e:J.heap.objs.size<=c:=by
  rw[hn];simp only[aEm,rp,or_false]at hb;rcases hb with z | z | z | z | z <;> rw[z]
  .exact mn _ _
  .exact mn _ _
  .exact ah _
  .exact mn _ _
  .exact mn _ _
 exact M.fpOk e (M.hok.fresh e)
def aAk {K:PySem.W.Frag} {a b:Addr} {xs ys:List V} {g:TG} {tb:TS} {D:kI} {σ:St} {H:Hp} (n:Nat) (hn:n=min xs.length ys.length) (Pv:Nat->St->Hp->Prop) (h0:Pv 0 σ H) (hl:∀ i σ H,i<=n->Pv i σ H->SqL K H a xs/\SqL K H b ys)
 (hs:∀ i x y σ H t,xs[i]?=some x->ys[i]?=some y->Pv i σ H->H t=none->g (.ref t) σ (upd H t (.tup [x,y])) λz H2=>tb { D with nx:=Pv (i+1),ct:=Pv (i+1),bk:=D.nx } z H2) (hd:∀ σ H,Pv n σ H->D.nx σ H) :
 ∃ W:Nat->Nat->St->Hp->Prop,(∃ m,W 0 m σ H)/\∀ i m σ H,W i m σ H ->
  ((Itz K a b).stop i H/\D.nx σ H)\/((Itz K a b).go i H/\∃ N:St->Hp->Prop,(∀ J H',N J H'->∃ Y,Y<m/\W (i+1) Y J H')/\∀ x H',(Itz K a b).yld i H x H'->g x σ H' λz H2=>tb { D with nx:=N,ct:=N,bk:=D.nx } z H2):=by
 refine⟨λi m σ H=>m=n - i/\i<=n/\Pv i σ H,⟨n,by simp,ka _,h0⟩,?_⟩;rintro i m σ H ⟨rfl,hi,p⟩;obtain⟨L,M⟩:=hl i σ H hi p
 by_cases O:i<n
 .have l1:i<xs.length:=by lia
  have l2:i<ys.length:=by lia
  refine .inr ⟨⟨xs,ys,xs[i],ys[i],L,M,by simp[l1],by simp[l2]⟩,Pv (i+1),λJ H' p'=>⟨n - (i+1),by lia,rfl,O,p'⟩,λx H' y=>?_⟩;obtain⟨t,x,y,rfl,U,y1,y2,rfl⟩:=y;exact hs i x y σ _ t (y1 xs L) (y2 ys M) p U
 .have e:i=n:=by lia
  refine .inl ⟨⟨xs,ys,L,M,by lia⟩,hd σ H (e ▸ p)⟩
open PySem.W
end L2
namespace CW
def goM (c:Int):List Int->Nat->Int->List Int
 | [],h,n=>(List.range h).map (λ(k:Nat)=>n+(k:Int))
 | p :: r,h,n=>(List.range (min h (p - n).toNat)).map (λ(k:Nat)=>n+(k:Int)) ++
  (if ((h - min h (p - n).toNat:Nat):Int)<c then goM c r (h - min h (p - n).toNat+1) (p+1)else p :: goM c r (h - min h (p - n).toNat) (p+1))
def sF (row:List Int) (c:Int):List Int:=goM c row 0 0
def sG (k:Nat) (n:Int):(List.range (k+1)).map (λ(j:Nat)=>n+(j:Int))=n :: (List.range k).map (λ(j:Nat)=>(n+1)+(j:Int)):=by
 rw[List.range_succ_eq_map,aEb,aEf]
 congr 1
 .simp
 .apply ug
  intro j _;simp only[Function.comp]
  lia
def xC {c:Int} {p:Int} {r:List Int} {h:Nat} {n:Int} (z:h=0\/p<=n):goM c (p :: r) h n=if (h:Int)<c then goM c r (h+1) (p+1)else p :: goM c r h (p+1):=by
 have e:min h (p - n).toNat=0:=by lia
 simp only[goM,e,List.range_zero,oy,oj,so]
def aAl {c:Int} {p:Int} {r:List Int} {h:Nat} {n:Int} (J:n<p):goM c (p :: r) (h+1) n=n :: goM c (p :: r) h (n+1):=by
 have e:min (h+1) (p - n).toNat=min h (p - (n+1)).toNat+1:=by lia
 have z:h+1 - (min h (p - (n+1)).toNat+1)=h - min h (p - (n+1)).toNat:=by lia
 rw[goM,goM,e,z,sG];simp
end CW
namespace CW
open PySem L2
def kN {ns:List Int} {i:Int} (h0:0<=i) (h1:i<ns.length):∃ n,n∈ns/\ns[i.toNat]?=some n/\atI (ns.map V.int) i=some (.int n):=by
 have z:i.toNat<ns.length:=by lia
 refine⟨ns[i.toNat],List.getElem_mem z,by simp[z],?_⟩;have q:atI (ns.map V.int) ((i.toNat:Nat):Int)=some (.int ns[i.toNat]):=jO (by simp[z]);rw[Int.toNat_of_nonneg h0]at q;exact q
def bV {n:Nat} (h:n<=10000):n<sizeLine:=Nat.lt_of_le_of_lt h (by decide)
def bT {n:Nat} (h:n<=10000):n<=sizeLine:=qi (bV h)
def m3 (ns:List Int):Prop:=∀ n∈ns,0<=n/\n<9967
def V8 (ns:List Int) (lo hi:Option Int):∃ z:List Int,fP (ns.map V.int) lo hi=z.map V.int/\z.length<=ns.length/\∀ n∈z,n∈ns:=by
 refine⟨(ns.drop (HT.sIx ns.length 0 lo)).take (HT.sIx ns.length ns.length hi - HT.sIx ns.length 0 lo),?_,?_,?_⟩
 .unfold fP;simp only[aEN,px,rg]
 .simp only[aE2,jp];lia
 .intro n J;exact pp (nk J)
def aBy (ns:List Int) (k:Nat) (h:k<=ns.length):fP (ns.map V.int) none (some (k:Int))=(ns.take k).map V.int:=by
 unfold fP;rw[HT.sIx_none,HT.sIx_nat,aEN,ou,so,om h,px]
def sd1 (J z:Int):Int:=(J * 40014+z % 999983+29) % 2147483563
def sd2 (z:Int) (ys:List Int):Int:=(z * z+52774 * z+13 * ((List.map V.int ys).length:Int)+7) % 2147483629
def rs1 (z:Int):Int:=z - 10 ^ (18:Int).toNat
inductive pA (K:PySem.W.Frag) (vs:List V) (H:Hp) (Q:VK) (E_:XK):Prop
 | mk (a:Addr) (script:List Int) (m:Nat) (h0_:vs=[.ref a,.int m]) (h1_:SqL K H a (script.map V.int)) (h2_:script.length<=63) (h3_:m<=1000) (h4_:∀ (l:Addr) (ns:List Int) (H':Hp),ns.length=m->m3 ns->H l=none->Same H H'->H' l=some (.lst (ns.map V.int))->Q (.ref l) H'):pA K vs H Q E_
def Row (r:List Int):Prop:=r.Pairwise (·<·)
def Row.lt {r:List Int} (h:Row r) {i j:Nat} {x y:Int} (z:i<j) (J:r[i]?=some x) (L:r[j]?=some y):x<y:=by
 obtain⟨h1,rfl⟩:=aEl.mp J;obtain⟨h2,rfl⟩:=aEl.mp L;exact List.pairwise_iff_getElem.mp h i j h1 h2 z
def V9 (H:Hp) (Q:VK) (ns:List Int):Prop:=∀ (l:Addr) (H':Hp),H l=none->Same H H'->H' l=some (.lst (ns.map V.int))->Q (.ref l) H'
inductive xD (vs:List V) (H:Hp) (Q:VK) (E_:XK):Prop
 | mk (a:Addr) (row:List Int) (h0_:vs=[.ref a]) (h1_:H a=some (.lst (row.map V.int))) (h2_:Row row) (h3_:row.length<=60) (h4_:Q .non H):xD vs H Q E_
structure Cn (mg:Str->Option Value) (tC:Tok):Prop where
 MOST_STONES:mg "MOST_STONES"=some (.int 60 tC)
def aBz {l:List Int} {i:Nat} {x:V} (h:(l.map V.int)[i]?=some x):∃ z,x=.int z/\l[i]?=some z:=by
 rw[aEa]at h;cases e:l[i]? with
 | none=>rw[e]at h;cases h
 | some z=>rw[e]at h;exact⟨z,(jk h).symm,rfl⟩
def aCA (H H':Hp):Prop:=∀ t xs,H t=some (.tup xs)->H' t=some (.tup xs)
def Paired.append' {O U:Type} {F:O->U->Prop}:∀ {z J:List O} {L M:List U},Paired F z L->Paired F J M->Paired F (z++J) (L++M)
 | _,_,_,_,.nil,s=>s
 | _,_,_,_,.cons r t,s=>.cons r (Paired.append' t s)
def qJ (ns:List Int):PyData.canLayAll0 (ns.map PyData.int)=true:=by
 induction ns with
 | nil=>rfl
 | cons p r z=>simp[PyData.canLayAll0,PyData.canLay0,z]
def F6 (ns:List Int):PyData.depthAll (ns.map PyData.int)=0:=by
 induction ns with
 | nil=>simp[PyData.depthAll]
 | cons p r z=>simp[PyData.depthAll,PyData.depth,z]
mutual
def sml:PyData->Bool
 | .list xs=>decide (xs.length<=5000) && F7 xs
 | .tuple xs=>decide (xs.length<=5000) && F7 xs
 | .dict _=>false
 | .none=>true
 | .bool _=>true
 | .int _=>true
 | .str _=>true
def F7:List PyData->Bool
 | []=>true
 | x :: xs=>sml x && F7 xs
end
def sH {d:PyData} (h:SeqAt.shaped d=true):PyData.eqv d d=true:=SeqAt.eqv_refl d (SeqAt.canLay_of_shaped h)
inductive zG (K:PySem.W.Frag) (vs:List V) (H:Hp) (Q:VK) (E_:XK):Prop
 | mk (a:Addr) (ns:List Int) (h0_:vs=[.ref a]) (h1_:SqL K H a (ns.map V.int)) (h2_:ns.length<=63) (h3_:∀ H',Q (.bl true) H'):zG K vs H Q E_
inductive kO (vs:List V) (H:Hp) (Q:VK) (E_:XK):Prop
 | mk (c:Int) (h0_:vs=[.int c]) (h1_:1<=c) (h2_:Q .non H):kO vs H Q E_
inductive sI (vs:List V) (H:Hp) (Q:VK) (E_:XK):Prop
 | mk (a:Addr) (row:List Int) (c:Int) (h0_:vs=[.ref a,.int c]) (h1_:H a=some (.lst (row.map V.int))) (h2_:Row row) (h3_:row.length<=60) (h4_:1<=c) (h5_:V9 H Q (sF row c)):sI vs H Q E_
end CW
namespace CW
end CW
namespace CW
open PySem L2
def gU {L M:Type} {F:L->M->Prop}:∀ {z:List L} {J:List M} {i:Nat} {x:L},Paired F z J->z[i]?=some x->∃ y,J[i]?=some y/\F x y
 | _,_,_,_,.nil,e=>by simp at e
 | _,_,0,_,.cons r _,e=>by simp at e;subst e;exact⟨_,rfl,r⟩
 | _,_,i+1,x,.cons _ t,e=>by
  obtain⟨y,h1,h2⟩:=gU (i:=i) (x:=x) t (by simpa using e);exact⟨y,by simpa using h1,h2⟩
def zH (z:Int) (ns:List Int):inV (.int z) (ns.map V.int)=decide (z∈ns):=by
 unfold inV
 induction ns with
 | nil=>rfl
 | cons n r J =>
  rw[aEb,mi,J];have e:eqV (.int n) (.int z)=decide (n=z):=by
   show (n == z)=_;rw[ls];simp
  rw[e,ls];simp only[sr,decide_eq_true_eq,aEm]
  constructor
  .rintro (h | h)
   .exact .inl h.symm
   .exact .inr h
  .rintro (h | h)
   .exact .inl h.symm
   .exact .inr h
def jB (us:List V) (k:Nat):fP us (some (k:Int)) none=us.drop k:=by
 unfold fP;rw[HT.sIx_none,HT.sIx_nat]
 by_cases h:k<=us.length
 .rw[om h,jo (by simp)]
 .rw[Nat.min_eq_right (by lia),Nat.sub_self,List.take_zero,List.drop_eq_nil_of_le (by lia)]
def rC (us:List V) (k:Nat):fP us none (some (k:Int))=us.take k:=by
 unfold fP;rw[HT.sIx_none,HT.sIx_nat,ou,so]
 by_cases h:k<=us.length
 .rw[om h]
 .rw[Nat.min_eq_right (by lia),jo (by lia),jo (by lia)]
end CW
namespace L2
open PySem PySem.W PySem.Spec PyProof.Rows
section
variable {X:Cx}
inductive sJ (xs:List V) (H:Hp) (Q:VK):Prop
 | mk (a:Addr) (ns:List Int) (h0_:xs=[.ref a]) (h1_:H a=some (.lst (ns.map V.int))) (h2_:ns.length<64) (h3_:∀ (l:Addr) (ms:List Int),H l=none->ms.Perm ns->ms.Pairwise (·<=·)->Q (.ref l) (upd H l (.lst (ms.map V.int)))):sJ xs H Q
def xE:eX X (.builtin "sorted") sJ:=by
 intro pins s σ H xs us Q I r h;obtain⟨a,ns,rfl,O,h64,q⟩:=h;obtain⟨u,rfl,U⟩:=kE r;cases U;obtain⟨J,L,pl,hz⟩:=I.list (SqL.of O);have Y:=L.length;rw[aEN]at Y;refine sorted_ints pl.isList (sE L) (by lia) λout z hI M hs=>?_;obtain⟨e0,at0⟩:=sortedAll_at s.heap J out;have hn:H (s.heap.objs.size+1)=none:=I.hok.fresh (qc _);refine⟨.ref (s.heap.objs.size+1),_,I.laid (t':=s.toks) (o:=.lst (z.map V.int)) (λb o e=>sortedAll_old e) (qc _) ⟨?_,out.toList,e0,oV hI,at0⟩,rfl,q _ z hn M hs⟩;rw[aEN,M.length_eq];exact fy (show ns.length<=64 by lia) (by decide)
end
end L2
namespace L2
open PySem PySem.Spec PyProof.Rows
section
variable {K:PySem.W.Frag} {x qual:Str} {st:Stmt} {f:Addr} {fd:FuncData} {p1 p2 p3 p4:Str}
def Fun.binds1 (F:Fun K x qual st f fd) (h:∀ (kV z L:Value) (M:Option Addr) (J ct u:Value),bindArgs (PySem.W.fnOf x qual (bQ st) (bC st) (aG st) .none kV z L M J ct) ⟨[u],[]⟩=pure [(p1,u)]):Binds K fd [p1] [] :=
 F.binds λa b c d e g us O=>match us,O with | [u],_=>h a b c d e g u
def Fun.binds2 (F:Fun K x qual st f fd) (h:∀ (kV z L:Value) (M:Option Addr) (J ct u v:Value),bindArgs (PySem.W.fnOf x qual (bQ st) (bC st) (aG st) .none kV z L M J ct) ⟨[u,v],[]⟩=pure [(p1,u),(p2,v)]):Binds K fd [p1,p2] [] :=
 F.binds λa b c d e g us O=>match us,O with | [u,v],_=>h a b c d e g u v
def Fun.binds3 (F:Fun K x qual st f fd) (h:∀ (kV z L:Value) (M:Option Addr) (J ct u v w:Value),bindArgs (PySem.W.fnOf x qual (bQ st) (bC st) (aG st) .none kV z L M J ct) ⟨[u,v,w],[]⟩=pure [(p1,u),(p2,v),(p3,w)]):Binds K fd [p1,p2,p3] [] :=
 F.binds λa b c d e g us O=>match us,O with | [u,v,w],_=>h a b c d e g u v w
def Fun.binds4 (F:Fun K x qual st f fd) (h:∀ (kV J M:Value) (O:Option Addr) (L ct u v w z:Value),bindArgs (PySem.W.fnOf x qual (bQ st) (bC st) (aG st) .none kV J M O L ct) ⟨[u,v,w,z],[]⟩=pure [(p1,u),(p2,v),(p3,w),(p4,z)]):Binds K fd [p1,p2,p3,p4] [] :=
 F.binds λa b c d e g us U=>match us,U with | [u,v,w,z],_=>h a b c d e g u v w z
end
section
variable {κ:Type} [DecidableEq κ]
def kH (kvs:List (κ×V)) (k:κ):Option V:=(kvs.find? λz=>decide (z.1=k)).map (·.2)
def jC (kvs:List (κ×V)) (k:κ) (v:V):List (κ×V) :=
 if (kvs.any λz=>decide (z.1=k))=true then kvs.map (λz=>if z.1=k then (z.1,v)else z)else kvs++[(k,v)]
def kP {p:κ×V} {r:List (κ×V)} {k:κ} (e:p.1=k):kH (p :: r) k=some p.2:=by simp[kH,jx,e]
def jD {p:κ×V} {r:List (κ×V)} {k:κ} (e:¬ p.1=k):kH (p :: r) k=kH r k:=by simp[kH,jx,e]
def sK (k:κ):∀ kvs:List (κ×V),(kvs.any λz=>decide (z.1=k))=(kH kvs k).isSome
 | []=>rfl
 | p :: r=>by
  rw[mi]
  by_cases e:p.1=k
  .simp only[kP e,aE8 e,ur,Option.isSome_some]
  .rw[jD e,aE7 e,ul];exact sK k r
def qK (kvs:List (κ×V)) (k:κ) (v:V):(jC kvs k v).length<=kvs.length+1:=by
 unfold jC;split
 .rw[aEN];lia
 .rw[aEW,aEe,qd];lia
def m4 {kvs:List (κ×V)} {k:κ} (v:V) (h:kH kvs k=none):jC kvs k v=kvs++[(k,v)]:=by
 unfold jC;rw[sK,h];exact b3 (by decide)
def RelO.isSome_eq {o:Option V} {u:Option Value} (r:RelO o u):o.isSome=u.isSome:=by
 cases o with
 | none=>cases u with
  | none=>rfl
  | some _=>exact(show False from r).elim
 | some _=>cases u with
  | none=>exact(show False from r).elim
  | some _=>rfl
def RelO.getD {o:Option V} {u:Option Value} {d:V} {d':Value} (r:RelO o u) (rd:RelV d d'):RelV (o.getD d) (u.getD d'):=by
 cases o with
 | none=>cases u with
  | none=>exact rd
  | some _=>exact(show False from r).elim
 | some _=>cases u with
  | none=>exact(show False from r).elim
  | some _=>exact r
def KV.val {kvs:List (κ×V)} {vs:List (κ×Value)} (r:KV kvs vs) (k:κ):RelO (kH kvs k) (valueAt vs k):=by
 unfold KV at r
 induction r with
 | nil=>exact True.intro
 | @cons p q ps J h t M =>
  obtain⟨h1,h2⟩:=h
  by_cases e:p.1=k
  .have L:q.1=k:=h1.symm.trans e;have b:valueAt (q :: J) k=some q.2:=by simp[valueAt,jx,L]
   rw[kP e,b];exact h2
  .have L:¬ q.1=k:=λz=>e (h1.trans z);have b:valueAt (q :: J) k=valueAt J k:=by simp[valueAt,jx,L]
   rw[jD e,b];exact M
def KV.any {kvs:List (κ×V)} {vs:List (κ×Value)} (r:KV kvs vs) (k:κ):(kvs.any λz=>decide (z.1=k))=vs.any λz=>decide (z.1=k):=by
 unfold KV at r
 induction r with
 | nil=>rfl
 | cons h t J=>rw[mi,mi,J,h.1]
def KV.repl {kvs:List (κ×V)} {vs:List (κ×Value)} (r:KV kvs vs) (k:κ) {y:V} {u:Value} (L:RelV y u) :
 KV (kvs.map λJ=>if J.1=k then (J.1,y)else J) (vs.map λJ=>if J.1=k then (J.1,u)else J):=by
 unfold KV at r ⊢
 induction r with
 | nil=>exact .nil
 | @cons p q ps O h t M =>
  rw[aEb,aEb];refine .cons ?_ M;obtain⟨h1,h2⟩:=h
  by_cases e:p.1=k
  .rw[b4 e,b4 (h1.symm.trans e)];exact⟨h1,L⟩
  .rw[b3 e,b3 (λz=>e (h1.trans z))];exact⟨h1,h2⟩
def KV.put {kvs:List (κ×V)} {vs:List (κ×Value)} (r:KV kvs vs) (k:κ) {y:V} {u:Value} (z:RelV y u):KV (jC kvs k y) (stored vs k u):=by
 unfold jC stored;rw[r.any k]
 by_cases e:(vs.any λJ=>decide (J.1=k))=true
 .rw[b4 e,b4 e];exact r.repl k z
 .rw[b3 e,b3 e];exact Paired.snoc r ⟨rfl,z⟩
def KV.length {kvs:List (κ×V)} {vs:List (κ×Value)} (r:KV kvs vs):kvs.length=vs.length:=r6 r
end
def qL {P:Program} {w:World} {k:Key} {u:Value} (r:RelV (kV k) u):(bO P w).is k u=true:=by
 cases k with
 | inl i=>obtain⟨t,e⟩:=(show ∃ t,u=Value.int i t from r);subst e;exact yR P w i t
 | inr x=>obtain⟨t,e⟩:=(show ∃ t,u=Value.str x t from r);subst e;exact yS P w x t
def vV {P:Program} {w:World}:∀ {z:List Key} {us:List Value},Vals (z.map kV) us->ItemsAre (bO P w) z us
 | [],_,r=>by rw[oy]at r;cases r;exact .nil
 | k :: z,_,r=>by
  rw[aEb]at r;cases r with
  | cons h t=>exact .cons (qL h) (vV t)
abbrev KT (H:Hp):List (List Key×V)->List (List Key×Addr×Value)->Prop:=Paired λp q=>p.1=q.1/\H q.2.1=some (.tup (p.1.map kV))/\RelV p.2 q.2.2
def KT.val {H:Hp} {kvs:List (List Key×V)} {xs:List (List Key×Addr×Value)} (r:KT H kvs xs) (k:List Key):RelO (kH kvs k) ((atKey xs k).map (·.2)):=by
 induction r with
 | nil=>exact True.intro
 | @cons p q ps J h t M =>
  obtain⟨h1,_,h2⟩:=h
  by_cases e:p.1=k
  .have L:q.1=k:=h1.symm.trans e;have b:atKey (q :: J) k=some q.2:=by simp[atKey,jx,L]
   rw[kP e,b];exact h2
  .have L:¬ q.1=k:=λz=>e (h1.trans z);have b:atKey (q :: J) k=atKey J k:=by simp[atKey,jx,L]
   rw[jD e,b];exact M
def KT.repl {H:Hp} {kvs:List (List Key×V)} {xs:List (List Key×Addr×Value)} (r:KT H kvs xs) (k:List Key) {y:V} {u:Value} (L:RelV y u) :
 KT H (kvs.map λJ=>if J.1=k then (J.1,y)else J) (xs.map (putAt k u)):=by
 induction r with
 | nil=>exact .nil
 | @cons p q ps O h t M =>
  rw[aEb,aEb];refine .cons ?_ M;obtain⟨h1,h2,h3⟩:=h;unfold putAt
  by_cases e:p.1=k
  .rw[b4 e,b4 (h1.symm.trans e)];exact⟨h1,h2,L⟩
  .rw[b3 e,b3 (λz=>e (h1.trans z))];exact⟨h1,h2,h3⟩
def KT.put {H:Hp} {kvs:List (List Key×V)} {xs:List (List Key×Addr×Value)} (r:KT H kvs xs) (k:List Key) {b:Addr} {y:V} {u:Value} (J:H b=some (.tup (k.map kV))) (z:RelV y u) :
 KT H (jC kvs k y) (storedH xs k b u):=by
 have e:(kvs.any λL=>decide (L.1=k))=(atKey xs k).isSome:=by
  rw[sK,(r.val k).isSome_eq,qw]
 unfold jC storedH;rw[e]
 by_cases q:(atKey xs k).isSome=true
 .rw[b4 q,b4 q];exact r.repl k z
 .rw[b3 q,b3 q];exact Paired.snoc r ⟨rfl,J,z⟩
def KT.keeps {H H':Hp} {kvs:List (List Key×V)} {xs:List (List Key×Addr×Value)} (r:KT H kvs xs) (ht:∀ b ys,H b=some (.tup ys)->H' b=some (.tup ys)):KT H' kvs xs :=
 Paired.mapP r λ_ _ z=>⟨z.1,ht _ _ z.2.1,z.2.2⟩
section
variable {P:Program} {w:World} {H:Hp} {h:Heap} {a:Addr}
def aBY {u:HO} (ok:HOk P w H h) (e:Rd H a u):ObjOk P w H h a u:=e.ok ok
def qM {kvs:List (Key×V)} (ok:HOk P w H h) (e:Rd H a (.dK kvs)):kvs.length<=sizeLine/\(a == sysModules)=false/\∃ vs,KV kvs vs/\h.DictOf (bO P w) a vs :=
 show ObjOk P w H h a (.dK kvs) from aBY ok e
def zI {kvs:List (Key×V)} (ok:HOk P w H h) (e:H a=some (.dK kvs)):kvs.length<=sizeLine/\(a == sysModules)=false/\∃ vs,KV kvs vs/\h.DictOf (bO P w) a vs:=qM ok (.inl e)
def pB {z:List Key} (ok:HOk P w H h) (e:H a=some (.tup (z.map kV))):(tupleKind (bO P w)).is h z a:=by
 obtain⟨_,J,r,o,h1,h2,n,h3⟩:=(show ObjOk P w H h a (.tup (z.map kV)) from ok a _ e);exact⟨o,J.toArray,n,h1,h2,h3,by simpa using vV r⟩
def sL {kvs:List (List Key×V)} (ok:HOk P w H h) (e:Rd H a (.dT kvs)):kvs.length<=sizeLine/\(a == sysModules)=false /\
 ∃ xs,KT H kvs xs/\h.DictOfH (tupleKind (bO P w)) a xs:=by
 obtain⟨z,y,xs,r,o,es,L,h1,h2,h3,h4,h5⟩:=(show ObjOk P w H h a (.dT kvs) from aBY ok e);refine⟨z,y,xs,r,o,es,L,h1,h2,h3,h4,λx hx=>?_,h5⟩;have all:∀ {l:List (List Key×V)} {m:List (List Key×Addr×Value)},KT H l m->∀ x∈m,(tupleKind (bO P w)).is h x.1 x.2.1:=by
  intro l m q
  induction q with
  | nil=>intro x hx;exact nomatch hx
  | @cons p q ps O J t M =>
   intro x hx;rcases aEm.mp hx with e | hx
   .subst e;exact pB ok (by rw[<- J.1];exact J.2.1)
   .exact M x hx
 exact all r x hx
def aDK {kvs:List (List Key×V)} (ok:HOk P w H h) (e:H a=some (.dT kvs)):kvs.length<=sizeLine/\(a == sysModules)=false /\
 ∃ xs,KT H kvs xs/\h.DictOfH (tupleKind (bO P w)) a xs:=sL ok (.inl e)
end
def DGet (H:Hp) (a:Addr) (y:V) (r:Option V):Prop :=
 (∃ kvs k,Rd H a (.dK kvs)/\y=kV k/\r=kH kvs k)\/∃ kvs k b,Rd H a (.dT kvs)/\y=.ref b/\H b=some (.tup (k.map kV))/\r=kH kvs k
def DPut (H:Hp) (a:Addr) (y v:V) (H':Hp):Prop :=
 (∃ kvs k,H a=some (.dK kvs)/\y=kV k/\kvs.length<sizeLine/\H'=upd H a (.dK (jC kvs k v))) \/
 ∃ kvs k b,H a=some (.dT kvs)/\y=.ref b/\H b=some (.tup (k.map kV))/\kvs.length<sizeLine/\H'=upd H a (.dT (jC kvs k v))
def DGet.k {H:Hp} {a:Addr} {kvs:List (Key×V)} {k:Key} (e:H a=some (.dK kvs)):DGet H a (kV k) (kH kvs k):=.inl ⟨kvs,k,.inl e,rfl,rfl⟩
def DPut.k {H:Hp} {a:Addr} {kvs:List (Key×V)} {k:Key} {v:V} (e:H a=some (.dK kvs)) (z:kvs.length<sizeLine):DPut H a (kV k) v (upd H a (.dK (jC kvs k v))):=.inl ⟨kvs,k,e,rfl,z,rfl⟩
section
variable {X:Cx} {pins:List (Addr×Obj)} {σ:St} {H:Hp} {s:Shared} {a:Addr} {y v:V} {u r:Value} {o:Option V} {A:Around} {E:Value->Shared->Prop}
def Inv.big (I:Inv X pins σ H s):sysModules<s.heap.objs.size:=by
 have h:mainGlobals<s.heap.objs.size:=(I.mod.glob.keeps I.bk).lt;exact ut (by decide) h
def W0 {Q:Value->Shared->Prop} (hu:A.units+1<cLine) (I:Inv X pins σ H s) (g:DGet H a y (some v)) (Y:RelV y u) (h:∀ M s',Inv X pins σ H s'->RelV v M->Q M s') :
 wpAny (model X.prog X.w) A (getItem (.ref a) u) Q E s:=by
 rcases g with ⟨kvs,k,e,O,l⟩ | ⟨kvs,k,b,e,O,eb,l⟩
 .subst O;obtain⟨z,hd,vs,J,dd⟩:=qM I.hok e;obtain⟨M,hw,L⟩:=RelO.some_of (v:=v) (o:=valueAt vs k) (by rw[l];exact J.val k);exact wpAny_getItem_of (qL Y) dd.mapOf hw (h M _ (I.tok _) L)
 .subst O;cases (show u=Value.ref b from Y);obtain⟨z,hd,xs,J,dd⟩:=sL I.hok e;obtain⟨M,hw,L⟩:=RelO.some_of (v:=v) (o:=(atKey xs k).map (·.2)) (by rw[l];exact J.val k);obtain⟨p,hp,U⟩:=aEk.mp hw;refine wpAny_getItem_heap (mu hu) (pB I.hok eb) dd hp ?_;rw[U];exact h M _ (I.tok _) L
def aEB {Q:Value->Shared->Prop} (O:A.units+1<cLine) (I:Inv X pins σ H s) (g:DGet H a y o) (M:RelV y u) (h:∀ s',Inv X pins σ H s'->Q (.bool o.isSome) s') :
 wpAny (model X.prog X.w) A (compareOp .In u (.ref a)) Q E s:=by
 rcases g with ⟨kvs,k,e,L,l⟩ | ⟨kvs,k,b,e,L,U,l⟩
 .subst L;obtain⟨z,hd,vs,J,dd⟩:=qM I.hok e;refine wpAny_in_of (qL M) hd dd.mapOf ?_;rw[<- (J.val k).isSome_eq,<- l];exact h _ (I.tok _)
 .subst L;cases (show u=Value.ref b from M);obtain⟨z,hd,xs,J,dd⟩:=sL I.hok e;refine wpAny_in_heap (mu O) (pB I.hok U) hd dd ?_;have q:=(J.val k).isSome_eq;rw[qw]at q;rw[<- q,<- l];exact h _ (I.tok _)
def aAm {Q:Value->Shared->Prop} (O:A.units+1<cLine) (I:Inv X pins σ H s) (g:DGet H a y o) (M:RelV y u) (h:∀ s',Inv X pins σ H s'->Q (.bool (!o.isSome)) s') :
 wpAny (model X.prog X.w) A (compareOp .NotIn u (.ref a)) Q E s:=by
 rcases g with ⟨kvs,k,e,L,l⟩ | ⟨kvs,k,b,e,L,U,l⟩
 .subst L;obtain⟨z,hd,vs,J,dd⟩:=qM I.hok e;refine wpAny_notIn_of (qL M) hd dd.mapOf ?_;rw[<- (J.val k).isSome_eq,<- l];exact h _ (I.tok _)
 .subst L;cases (show u=Value.ref b from M);obtain⟨z,hd,xs,J,dd⟩:=sL I.hok e;refine wpAny_notIn_heap (mu O) (pB I.hok U) hd dd ?_;have q:=(J.val k).isSome_eq;rw[qw]at q;rw[<- q,<- l];exact h _ (I.tok _)
def P8 {h':Heap} {t':Nat} {J:HO} (I:Inv X pins σ H s) (M:Mut (H a)) (hs:Heap.SameBut a s.heap h') (he:∃ q,h'.get? a=some q) (L:ObjOk X.prog X.w (upd H a J) h' a J) :
 Inv X pins σ (upd H a J) { s with heap:=h',toks:=t' } :=
 I.write (x:=a) (e:=a) M (.inl rfl) (λb q O z=>(hs.2 b O).trans z) he L
def m5 {P:Program} {w:World} {H':Hp} {h':Heap} {kvs:List (Key×V)} {vs:List (Key×Value)} (z:kvs.length<=sizeLine) (hd:(a == sysModules)=false) (J:KV kvs vs) (dd:h'.DictOf (bO P w) a vs) :
 ObjOk P w H' h' a (.dK kvs):=⟨z,hd,vs,J,dd⟩
def W1 {H':Hp} {Q:Unit->Shared->Prop} (hu:A.units+1<cLine) (I:Inv X pins σ H s) (g:DPut H a y v H') (ry:RelV y u) (rv:RelV v r) (h:∀ s',Inv X pins σ H' s'->Q () s') :
 wpAny (model X.prog X.w) A (setItem (.ref a) u r) Q E s:=by
 rcases g with ⟨kvs,k,e,O,l,U⟩ | ⟨kvs,k,b,e,O,eb,l,U⟩
 .subst O U;obtain⟨z,hd,vs,J,dd⟩:=zI I.hok e;have Y:vs.length<=sizeLine:=by rw[<- J.length];exact z
  have hl:(jC kvs k v).length<=sizeLine:=by have:=qK kvs k v;lia
  refine wpAny_setItem_pairs (hsz:=Y) (qL ry) dd λh' L hs=>h _ ?_;have he:∃ q,h'.get? a=some q:=let ⟨q,_,_,M,_⟩:=L;⟨q,M⟩;exact P8 I (by rw[e];exact True.intro) hs he (m5 hl hd (J.put k rv) L)
 .subst O U;cases (show u=Value.ref b from ry);obtain⟨z,hd,xs,J,dd⟩:=aDK I.hok e;have Y:xs.length<=sizeLine:=by rw[<- r6 J];exact z
  have hl:(jC kvs k v).length<=sizeLine:=by have:=qK kvs k v;lia
  refine wpAny_setItem_heap (hsz:=Y) (mu hu) (pB I.hok eb) dd λh' L hs=>h _ ?_;obtain⟨q,es,ep,M,h2,h3,h4,_,h5⟩:=L;refine P8 I (by rw[e];exact True.intro) hs ⟨q,M⟩ ⟨hl,hd,_,(J.put k eb rv).keeps λc ys ec=>?_,q,es,ep,M,h2,h3,h4,h5⟩;rw[aL (gQ ec e (λz=>nomatch z))];exact ec
end
section
variable {X:Cx} {pins:List (Addr×Obj)} {σ:St} {H:Hp} {s:Shared} {a:Addr} {kvs:List (Key×V)} {k:Key} {u:Value} {A:Around} {E:Value->Shared->Prop}
def aDL {Q:Value->Shared->Prop} (I:Inv X pins σ H s) (e:Rd H a (.dK kvs)) (h:∀ t s',Inv X pins σ H s'->Q (.int kvs.length t) s'):wpAny (model X.prog X.w) A (call (.builtin "len") [.ref a]) Q E s:=by
 obtain⟨z,hd,vs,J,dd⟩:=qM I.hok e;refine call_len_dict hd dd (by rw[<- J.length];rw[ly]at z;lia) ?_;rw[<- J.length];exact h _ _ (I.tok _)
end
def aCB (i:Expr):Prop:=∀ z J,subscripted i false z J=operate [z,J] (getItem z J)
def P9 {prog:Program} {w:World} {A:Around} {E:Value->Shared->Prop} {s:Shared} {env:Env} {value slice:Expr} {pos:Pos} {T id:String} {Q:Value->Shared->Prop}
 (hl:typeLookup (.type T) "__getitem__"=pure (some (.builtin id))) (hs:aCB slice)
 (h:wpAny (model prog w) A (eval value env) (λo L=>wpAny (model prog w) A (eval slice env) (λi z=>z.TypeIs o T/\wpAny (model prog w) A (getItem o i) Q E z) E L) E s) :
 wpAny (model prog w) A (eval (.Subscript value slice pos) env) Q E s:=by
 refine Subscript_ (eu h (λo L U=>eu U (λi z J=>?_) λ_ _ x=>x) λ_ _ x=>x);obtain⟨hT,J⟩:=J;unfold subscriptTail;refine aEL ?_;rw[getitemInPython_of_ne hT.not_modules];refine aEL (ss hT hl ?_);have O:wpAny (model prog w) A (subscripted slice false o i) (λr M=>wpAny (model prog w) A (letTemporaryGo value o r >>= λ_=>pure r) Q E M) E z:=by
  rw[hs o i];exact wpAny_operating (eu J (λr M Y=>aEL (wpAny_letTemporaryGo (aEM Y))) λ_ _ x=>x)
 first
  | exact aEM (aEL O)
  | exact aEL (aEM (aEL O))
  | exact aEL O
def zJ {X:Cx} {pins:List (Addr×Obj)} {σ:St} {H:Hp} {s:Shared} {a:Addr} {y:V} {o:Option V} (I:Inv X pins σ H s) (g:DGet H a y o):s.TypeIs (.ref a) "dict":=by
 rcases g with ⟨kvs,k,e,_,_⟩ | ⟨kvs,k,b,e,_,_,_⟩
 .obtain⟨_,_,vs,_,dd⟩:=qM I.hok e;exact dd.typeIs
 .obtain⟨_,_,xs,_,dd⟩:=sL I.hok e;exact dd.typeIs
inductive Q0 (Q:VK) (x:V) (y:V) (H2:Hp):Prop
 | mk (a:_) (v:_) (h0_:x=.ref a) (h1_:DGet H2 a y (some v)) (h2_:Q v H2):Q0 Q x y H2
def aDM (td ty:TE):TE:=fun σ H Q=>td σ H λx H1=>ty σ H1 λy H2=>Q0 Q x y H2
inductive m8 (Q:VK) (y:V) (x:V) (H2:Hp):Prop
 | mk (a:_) (o:_) (h0_:x=.ref a) (h1_:DGet H2 a y o) (h2_:Q (.bl o.isSome) H2):m8 Q y x H2
def aEC (ty td:TE):TE:=fun σ H Q=>ty σ H λy H1=>td σ H1 λx H2=>m8 Q y x H2
inductive vW (Q:VK) (y:V) (x:V) (H2:Hp):Prop
 | mk (a:_) (o:_) (h0_:x=.ref a) (h1_:DGet H2 a y o) (h2_:Q (.bl (!o.isSome)) H2):vW Q y x H2
def aAn (ty td:TE):TE:=fun σ H Q=>ty σ H λy H1=>td σ H1 λx H2=>vW Q y x H2
def aDN (td ty tv:TE):TS:=λD σ H=>tv σ H λv H1=>td σ H1 λx H2=>ty σ H2 λy J=>∃ a z,x=.ref a/\DPut J a y v z/\D.nx σ z
section
variable {X:Cx} {o i e value:Expr} {pos pos' ao:Pos} {td ty tv:TE}
def aAo (L:X.A.units+1<cLine) (ho:PE X o td) (hi:PE X i ty) (hs:aCB i):PE X (.Subscript o i pos) (aDM td ty):=by
 intro pins s σ H Q I h;refine P9 PySem.F.slot_dict_getitem.lookup hs (thn (ho pins s σ H _ I h) λu M ⟨x,H1,O,U,Y⟩=>thn (hi pins M σ H1 _ O Y) λiv s2 ⟨y,H2,J,ry,a,v,ex,g,q2⟩=>?_);subst ex;obtain rfl:u=Value.ref a:=U;exact⟨zJ J g,W0 L J g ry λw' s3 I3 z=>⟨v,H2,I3,z,q2⟩⟩
def aCC (z:X.A.units+1<cLine) (hi:PE X i ty) (ho:PE X o td):PC X .In i o (aEC ty td):=by
 intro pins s σ H Q I h;refine thn (hi pins s σ H _ I h) λiv J ⟨y,H1,L,M,O⟩=>thn (ho pins J σ H1 _ L O) λu s2 ⟨x,H2,U,Y,a,ov,ex,g,q2⟩=>?_;subst ex;obtain rfl:u=Value.ref a:=Y;exact aEB z U g M λs3 I3=>⟨.bl ov.isSome,H2,I3,rfl,q2⟩
def W2 (z:X.A.units+1<cLine) (hi:PE X i ty) (ho:PE X o td):PC X .NotIn i o (aAn ty td):=by
 intro pins s σ H Q I h;refine thn (hi pins s σ H _ I h) λiv J ⟨y,H1,L,M,O⟩=>thn (ho pins J σ H1 _ L O) λu s2 ⟨x,H2,U,Y,a,ov,ex,g,q2⟩=>?_;subst ex;obtain rfl:u=Value.ref a:=Y;exact aAm z U g M λs3 I3=>⟨.bl (!ov.isSome),H2,I3,rfl,q2⟩
def Q3 (z:X.A.units+1<cLine) (ho:PE X o td) (hi:PE X i ty) (J:PE X value tv) (hs:swapsWith value (some (.Subscript o i pos')) pos.line X.env=pure false) :
 PS X (.Assign [.Subscript o i pos'] value pos) (aDN td ty tv):=by
 intro pins s σ H D I h;refine wpAny_Assign_Subscript (thn (J pins s σ H _ I h) λr L ⟨v,H1,M,O,U⟩=>thn (ho pins L σ H1 _ M U) λu Y ⟨x,H2,I2,rx,q2⟩=>thn (hi pins Y σ H2 _ I2 q2) λiv s3 ⟨y,H3,I3,ry,a,H4,ex,g,q3⟩=>?_) hs;subst ex;obtain rfl:u=Value.ref a:=rx;exact W1 z I3 g ry O λs4 I4=>⟨σ,H4,I4,q3⟩
end
def m9 {P:Program} {w:World} {H:Hp} (h:Heap) (z:sysModules<h.objs.size):ObjOk P w H (h.push { cls:=.type "dict",data:=.dict #[] }) h.objs.size (.dK []) :=
 ⟨ka _,beq_eq_false_iff_ne.mpr (lq (aE9 z)),[],.nil,Heap.DictOf.new h⟩
def aCD:TE:=λ_ H Q=>∀ p,H p=none->Q (.ref p) (upd H p (.dK []))
section
variable {X:Cx} {pos:Pos}
def nN:PE X (.Dict [] [] pos) aCD:=λpins s σ H Q I h =>
 wpAny_Dict_empty ⟨.ref s.heap.objs.size,_,I.laid (a:=s.heap.objs.size) (o:=.dK []) (t':=s.toks) (λ_ _ q=>aEO _ q) (ah _) (m9 s.heap I.big),rfl,h _ (I.hok.fresh (ah _))⟩
end
structure M2 (X:Cx) (o:Expr) (m:Str) (apos:Pos) (e f:Expr) (aa:Pos):Prop where
 base:attributeBase o m X.env (eval o X.env)=eval o X.env
 few:((backTo aa (starEach [e,f] X.env)).all (λx=>!x.1) && (backToKw aa (keywordEach [] X.env)).all (λx=>x.1.isSome)
  && decide (([e,f]:List Expr).length+([]:List Keyword).length+(if ([]:List Keyword).isEmpty then 0 else 1)<30))=true
 line:(apos.endLine == aa.line)=true
 trees:backTo aa (starEach [e,f] X.env)=[(false,eval e X.env),(false,eval f X.env)]
def IsD (H:Hp) (a:Addr):Prop:=(∃ kvs,Rd H a (.dK kvs))\/∃ kvs,Rd H a (.dT kvs)
def F8 {X:Cx} {pins:List (Addr×Obj)} {σ:St} {H:Hp} {s:Shared} {a:Addr} (I:Inv X pins σ H s) (d:IsD H a) :
 s.TypeIs (.ref a) "dict"/\(∀ b,Value.ref a=.ref b->∃ z,s.heap.get? b=some z/\z.dict=none)/\(a == sysModules)=false:=by
 rcases d with ⟨kvs,e⟩ | ⟨kvs,e⟩
 .obtain⟨_,hd,vs,_,dd⟩:=qM I.hok e;refine⟨dd.typeIs,λb q=>?_,hd⟩;cases q;obtain⟨z,_,_,h1,h2,_⟩:=dd;exact⟨z,h1,h2.2.1⟩
 .obtain⟨_,hd,xs,_,dd⟩:=sL I.hok e;refine⟨dd.typeIs,λb q=>?_,hd⟩;cases q;obtain⟨z,_,_,h1,h2,_⟩:=dd;exact⟨z,h1,h2.2.1⟩
section
variable {X:Cx} {pins:List (Addr×Obj)} {σ:St} {H:Hp} {s:Shared} {a:Addr} {y d:V} {u r:Value} {o:Option V} {A:Around} {E:Value->Shared->Prop}
def aCE {Q:Value->Shared->Prop} (U:A.units+1<cLine) (I:Inv X pins σ H s) (g:DGet H a y o) (M:RelV y u) (rd:RelV d r) (h:∀ O s',Inv X pins σ H s'->RelV (o.getD d) O->Q O s') :
 wpAny (model X.prog X.w) A (call (.builtin "dict.get") [.ref a,u,r]) Q E s:=by
 rcases g with ⟨kvs,k,e,L,l⟩ | ⟨kvs,k,b,e,L,Y,l⟩
 .subst L;obtain⟨z,hd,vs,J,dd⟩:=qM I.hok e;refine su oz dd.typeIs sd (rh _ _ _) (meets_dict_get_default (bO X.prog X.w) a (qL M) hd r) ⟨_,dd.mapOf,h _ _ (I.tok _) ?_⟩;rw[l];exact(J.val k).getD rd
 .subst L;cases (show u=Value.ref b from M);obtain⟨z,hd,xs,J,dd⟩:=sL I.hok e;refine su oz dd.typeIs sd (rh _ _ _) (meetsH_dict_get_default (tupleKind (bO X.prog X.w)) a b hd r) ⟨mu U,k,xs,pB I.hok Y,dd,h _ _ (I.tok _) ?_⟩;rw[l];exact(J.val k).getD rd
end
inductive zK (Q:VK) (a:Addr) (y:V) (z:V) (H3:Hp):Prop
 | mk (o:_) (h0_:DGet H3 a y o) (h1_:Q (o.getD z) H3):zK Q a y z H3
inductive zL (ty:TE) (tx:TE) (σ:St) (Q:VK) (x:V) (H1:Hp):Prop
 | mk (a:_) (h0_:x=.ref a) (h1_:IsD H1 a) (h2_:ty σ H1 λy H2=>tx σ H2 λz H3=>zK Q a y z H3):zL ty tx σ Q x H1
def aCF (td ty tx:TE):TE:=fun σ H Q=>td σ H λx H1=>zL ty tx σ Q x H1
section
variable {X:Cx} {o e f:Expr} {apos aa:Pos} {td ty tx:TE}
def n5 (M:X.A.units+1<cLine) (ho:PE X o td) (he:PE X e ty) (O:PE X f tx) (m:M2 X o "get" apos e f aa):PE X (.Call (.Attribute o "get" apos) [e,f] [] aa) (aCF td ty tx):=by
 intro pins s σ H Q I h;refine wpAny_Call_method m.base m.few m.line oo oz PySem.F.type_dict_get (thn (ho pins s σ H _ I h) λu U ⟨x,H1,L,Y,a,ex,d,q1⟩=>?_);subst ex;obtain rfl:u=Value.ref a:=Y;obtain⟨t1,t2,_⟩:=F8 L d;refine⟨t1,t2,?_⟩;rw[m.trees];refine kt rfl (lp (lf (thn (he pins U σ H1 _ L q1) λiv s2 ⟨y,H2,I2,ry,q2⟩ =>
  lf (thn (O pins s2 σ H2 _ I2 q2) λfv s3 ⟨z,H3,I3,rz,ov,g,q3⟩=>ot ?_))))
 exact aCE M I3 g ry rz λw' s4 I4 J=>⟨_,H3,I4,J,q3⟩
end
section
variable {X:Cx} {pins:List (Addr×Obj)} {σ:St} {H:Hp} {s:Shared} {d:Addr} {kvs:List (Key×V)}
def Inv.freezeD (I:Inv X pins σ H s) (e:H d=some (.dK kvs)):∃ od,s.heap.get? d=some od/\Inv X pins σ (upd H d (.frz od (.dK kvs))) s:=by
 obtain⟨z,hd,vs,L,dd⟩:=zI I.hok e;obtain⟨ep,M⟩:=dd.dictAt;obtain⟨od,es,ho,_⟩:=id M;refine⟨od,ho,?_⟩;have ne:∀ b u,H b=some u->(∀ O,u≠.dK O)->b≠d:=λb u q n z=>by rw[z,e]at q;cases q;exact n _ rfl
 have Y:∀ b,H b=none->b≠d:=λb q z=>by rw[z,e]at q;cases q
 have J:∀ b u,H b=some u->(∀ O,u≠.dK O)->upd H d (.frz od (.dK kvs)) b=some u:=λb u q n=>by rw[aL (ne b u q n)];exact q
 have un:Un X.fs [] H (upd H d (.frz od (.dK kvs))) s.heap s.heap:=⟨λ_ _ q _ _ _=>q,λ_ o q _ _ _=>⟨o.slots,q⟩,λb _ _ n _=>by rw[aL (Y b n)];exact n,λ_ o q _=>⟨o,q⟩,
  λb xs q=>J b _ q (λ_ z=>by cases z),λb o u q=>J b _ q (λ_ z=>by cases z),λb ps q=>⟨#[],by rw[J b _ q (λ_ z=>by cases z)];simp⟩⟩
 exact I.un (t':=s.toks) un λb u q=>by
  by_cases U:b=d
  .subst U;rw[aJ]at q;cases q;exact⟨ho,z,hd,vs,L,dd⟩
  .rw[aL U]at q;exact(I.hok b u q).stay (λ_ _ _ z=>z) (λc z=>J c _ z λ_ z=>by cases z) λc xs z=>J c _ z λ_ z=>by cases z
end
def Itd (d:Addr) (od:Obj) (kvs:List (Key×V)):It :=
 ⟨λi H=>H d=some (.frz od (.dK kvs))/\i<kvs.length,λi H v H'=>∃ t k x,v=.ref t/\H t=none/\kvs[i]?=some (k,x)/\H'=upd H t (.tup [kV k,x]),λi H=>H d=some (.frz od (.dK kvs))/\kvs.length<=i⟩
def aBZ {kvs:List (Key×V)} {vs:List (Key×Value)} (r:KV kvs vs) {i:Nat} {k:Key} {x:V} (e:kvs[i]?=some (k,x)):∃ u,vs[i]?=some (k,u)/\RelV x u:=by
 induction r generalizing i with
 | nil=>simp at e
 | cons h _ z =>
  cases i with
  | zero =>
   rename_i p q _ _ _
   obtain⟨p1,p2⟩:=p;obtain⟨J,L⟩:=q;simp only[List.getElem?_cons_zero,Option.some.injEq,Prod.mk.injEq]at e;obtain⟨rfl,rfl⟩:=e;obtain⟨h1,h2⟩:=h;simp only at h1 h2;subst h1;exact⟨_,rfl,h2⟩
  | succ i=>exact z e
def aCG {P:Program} {w:World} {k:Key} {u:Value} (h:(bO P w).is k u=true):RelV (kV k) u:=by
 rw[E4]at h;rcases cI h with ⟨i,t,rfl,rfl⟩ | ⟨x,t,rfl,rfl⟩
 .exact⟨_,rfl⟩
 .exact⟨_,rfl⟩
def F9 {P:Program} {w:World} {K:PySem.W.Frag} {elts:List Expr} {x1} {pos:Pos} (d it:Addr) (od:Obj) (kvs:List (Key×V)) (vs:List (Key×Value)) (ep:Nat) (rel:KV kvs vs) (hat:∀ h:Heap,h.get? d=some od->h.DictAt (bO P w) d vs ep) (hne:d≠it) :
 wS P w K (.Tuple elts x1 pos) (Itd d od kvs) [it] it (λi h=>∃ ok ov,IsItemIter h it d i vs.length ep ok ov) where
 mem:=by simp
 obj:=λi h st b hb=>by
  obtain⟨ok,ov,he⟩:=st;have z:b=it:=by simpa using hb
  subst z;exact⟨_,he,λv z=>by have z':Data.fields _=Data.cell v:=z;cases z'⟩
 keep:=λi h h' st k=>let ⟨ok,ov,he⟩:=st;⟨ok,ov,k it (by simp) _ he⟩
 item:=by
  intro X hP hw hK hc i pins s σ H E I hf st hg;subst hP hw hK;obtain⟨hd,hi⟩:=hg;obtain⟨⟨k,x⟩,hx⟩:∃ p,kvs[i]?=some p:=⟨kvs[i],by simp[hi]⟩;obtain⟨u,hu,ru⟩:=aBZ rel hx;obtain⟨ok,ov,he⟩:=st;have hod:s.heap.get? d=some od:=(I.hok d _ hd).1;have li:it<s.heap.objs.size:=aET he;refine wpAny_pyNext_items_item he (hat _ hod) hu λkey h' hkey ho hT hsz kp=>?_;refine⟨_,rfl,?_⟩;have hn:H s.heap.objs.size=none:=I.hok.fresh (ah _);have tupOk:∀ h2:Heap,h2.get? s.heap.objs.size=some { cls:=.type "tuple",data:=.seq #[key,u] }->ObjOk X.prog X.w (upd H s.heap.objs.size (.tup [kV k,x])) h2 s.heap.objs.size (.tup [kV k,x]):=λh2 q =>
   ⟨by show 2<=sizeLine;decide,[key,u],.cons (aCG hkey) (.cons ru .nil),_,q,rfl,_,rfl⟩
  refine wpAny_letOwnedTupleGo_items ho λh2 f1 sb=>?_;have k2:∀ b o,b∉[it]->s.heap.get? b=some o->h2.get? b=some o:=λb o hb q=>sb.extBut b o (λz=>hb (by simp[z])) (kp b o (λz=>hb (by simp[z])) q);have n1:s.heap.objs.size≠it:=aEc li;refine⟨.ref s.heap.objs.size,_,I.turnLaid (t':=s.toks) (h':=h2) (o:=.tup [kV k,x]) k2 hf (ah _) (tupOk _ (sb.extBut _ _ n1 hT)),rfl,⟨_,k,x,rfl,hn,hx,rfl⟩,⟨_,_,f1⟩,λb hb=>?_⟩;have hb':b≠s.heap.objs.size:=by
   have z:b=it:=by simpa using hb
   subst z;exact aE9 li
  rw[aL hb'];exact(hf b hb).1
 done:=by
  intro X hP hw hK hc i pins s σ H E I hf st hg;subst hP hw hK;obtain⟨hd,hi⟩:=hg;obtain⟨ok,ov,he⟩:=st;have hod:s.heap.get? d=some od:=(I.hok d _ hd).1;have hl:=rel.length;exact wpAny_pyNext_items_end (I.ok.hd hc) he (hat _ hod) (by simp;omega) λh' eb=>⟨rfl,I.turnedF (fp:=[it]) (t':=s.toks) (λb o hb e=>eb b o (λz=>hb (by simp[z])) e) hf⟩
 self:=λ_ _ _ _ _ st h=>let ⟨_,_,he⟩:=st;PySem.W.kcp_self he h
def aCH (td:TE):TI:=fun σ H R=>td σ H λx H1=>∃ d kvs,x=.ref d/\H1 d=some (.dK kvs)/\∀ od,R (Itd d od kvs) (upd H1 d (.frz od (.dK kvs)))
def n8 {X:Cx} {elts:List Expr} {x1} {ao:Pos} {o:Expr} {td:TE} {apos pos:Pos} (ho:PE X o td) (hbase:attributeBase o "items" X.env (eval o X.env)=eval o X.env:=by rfl) (hline:(apos.endLine == pos.line)=true:=by rfl) :
 PI X (.Tuple elts x1 ao) (.Call (.Attribute o "items" apos) [] [] pos) (aCH td):=by
 intro pins s σ H R I h;refine ri hbase hline (thn (ho pins s σ H _ I h) λu J ⟨x,H1,Y,rx,d,kvs,ex,hd,q⟩=>?_);subst ex;obtain rfl:u=Value.ref d:=rx;obtain⟨z,U,vs,au,dd⟩:=zI Y.hok hd;obtain⟨ep,av⟩:=id dd.dictAt;obtain⟨od,M,I2⟩:=Y.freezeD hd;obtain⟨t1,t2,_⟩:=F8 Y (.inl ⟨kvs,.inl hd⟩);refine⟨"dict","dict.items",oo,rj,PySem.F.type_dict_items,t1,t2,kt rfl (uh ?_)⟩;refine su rj dd.typeIs PySem.F.entry_dict_items (PySem.F.args_dict_items_1 _) (meets_dict_items (bO X.prog X.w) d U) ⟨⟨vs,dd⟩,?_⟩;have hv:(J.heap.push { cls:=.type "dict_items",data:=.fields #[.ref d] }).IsItemsView J.heap.objs.size d:=⟨_,aEU _ rfl,rfl,rfl⟩;have h1:(J.heap.push { cls:=.type "dict_items",data:=.fields #[.ref d] }).get? d=some od:=aEO _ M;have L:∀ h:Heap,h.get? d=some od->h.DictAt (bO X.prog X.w) d vs ep:=λh e=>av.at λo q=>by rw[M]at q;cases q;exact e
 refine wpAny_pyIter_items hv (L _ h1) ?_;generalize aw:({ cls:=.type "dict_itemiterator",data:=.fields #[.none,.bool false,.ref d,.int 0 0,.int vs.length 0,.int ep 0,.none,.none] }:Obj)=ob;have kp:∀ b o,J.heap.get? b=some o->((J.heap.push { cls:=.type "dict_items",data:=.fields #[.ref d] }).push ob).get? b=some o:=λb o e=>aEO _ (aEO _ e);have hsz:(J.heap.push { cls:=.type "dict_items",data:=.fields #[.ref d] }).objs.size=J.heap.objs.size+1:=nu ..;have I3:=I2.kept (t':=J.toks) kp;have O:J.heap.objs.size<=(J.heap.push { cls:=.type "dict_items",data:=.fields #[.ref d] }).objs.size:=by rw[hsz];exact qc _
 have ax:d≠(J.heap.push { cls:=.type "dict_items",data:=.fields #[.ref d] }).objs.size:=λz=>by
  have:=aET M;rw[z]at this;exact absurd this (Nat.not_lt.mpr O)
 refine⟨_,[_],_,_,_,rfl,I3,F9 d _ od kvs vs ep au L ax,⟨.none,.none,?_⟩,λb hb=>?_,q od⟩
 .rw[<- aw];exact aEU _ rfl
 .have z:b=(J.heap.push { cls:=.type "dict_items",data:=.fields #[.ref d] }).objs.size:=by simpa using hb
  rw[z];exact I2.fpOk O (I2.hok.fresh O)
def Inv.thaw {X:Cx} {pins:List (Addr×Obj)} {σ:St} {H:Hp} {s:Shared} {d:Addr} {od:Obj} {kvs:List (Key×V)} (I:Inv X pins σ H s) (e:H d=some (.frz od (.dK kvs))) (h0:∀ o u,X.H₀ d≠some (.frz o u)):Inv X pins σ (upd H d (.dK kvs)) s:=by
 obtain⟨ho,hok⟩:=I.hok d _ e;have ne:∀ b u,H b=some u->(∀ o v,u≠.frz o v)->b≠d:=λb u q n z=>by rw[z,e]at q;cases q;exact n _ _ rfl
 have J:∀ b,H b=none->b≠d:=λb q z=>by rw[z,e]at q;cases q
 have L:∀ b u,H b=some u->(∀ o v,u≠.frz o v)->upd H d (.dK kvs) b=some u:=λb u q n=>by rw[aL (ne b u q n)];exact q
 refine⟨I.ok,I.os,I.bare,⟨I.base.keep,I.base.slot,λb o q n x=>?_,I.base.there,λb xs q=>L b _ (I.base.tups b xs q) (λ_ _ z=>by cases z),λb o u q=>?_,λb ps q=>?_⟩,I.loc,I.cell,?_,λx c q=>?_,λp q=>?_,λb u q=>?_,I.len⟩
 .rw[aL (J b (I.base.free b o q n x))];exact I.base.free b o q n x
 .have M:b≠d:=λz=>by rw[z]at q;exact h0 _ _ q
  rw[aL M];exact I.base.frzs b o u q
 .obtain⟨more,O⟩:=I.base.tbls b ps q;exact⟨more,L b _ O (λ_ _ z=>by cases z)⟩
 .rw[aL (J _ I.free)];exact I.free
 .rw[aL (J _ (I.freeC x c q))];exact I.freeC x c q
 .obtain⟨O,n,U,Y,dd⟩:=I.pin p q;exact⟨O,by rw[aL (J _ n)];exact n,U,Y,dd⟩
 .by_cases M:b=d
  .subst M;rw[aJ]at q;cases q;exact hok
  .rw[aL M]at q;exact(I.hok b u q).stay (λ_ _ _ z=>z) (λc z=>L c _ z λ_ _ z=>by cases z) λc xs z=>L c _ z λ_ _ z=>by cases z
inductive Q4 (Q:VK) (d:Addr) (kvs:List (Key×V)) (v:V) (H':Hp):Prop
 | mk (od:_) (h0_:H' d=some (.frz od (.dK kvs))) (h1_:Q v (upd H' d (.dK kvs))):Q4 Q d kvs v H'
inductive Q5 (t:TE) (σ:St) (H:Hp) (Q:VK):Prop
 | mk (d:_) (kvs:_) (h0_:H d=some (.dK kvs)) (h1_:t σ H λv H'=>Q4 Q d kvs v H'):Q5 t σ H Q
def aDO (t:TE):TE:=fun σ H Q=>Q5 t σ H Q
def aAp {X:Cx} {e:Expr} {t:TE} (h:PE X e t):PE X e (aDO t):=by
 intro pins s σ H Q I q;obtain⟨d,kvs,hd,q⟩:=q;have h0:∀ o u,X.H₀ d≠some (.frz o u):=λo u z=>by
  have:=I.base.frzs d o u z;rw[hd]at this;cases this
 exact thn (h pins s σ H _ I q) λu U ⟨v,H1,J,L,od,M,O⟩=>⟨v,_,J.thaw M h0,L,O⟩
open PySem.W
end L2
namespace L2
open PySem PySem.Spec PyProof.Rows
def Itw (d:Addr) (od:Obj) (kvs:List (Key×V)):It :=
 ⟨λi H=>H d=some (.frz od (.dK kvs))/\i<kvs.length,λi H v H'=>H'=H/\∃ k,kvs[i]?=some (k,v),λi H=>H d=some (.frz od (.dK kvs))/\kvs.length<=i⟩
def zM {P:Program} {w:World} {K:PySem.W.Frag} {tg:Expr} (d it:Addr) (od:Obj) (kvs:List (Key×V)) (vs:List (Key×Value)) (ep:Nat) (rel:KV kvs vs) (hat:∀ h:Heap,h.get? d=some od->h.DictAt (bO P w) d vs ep) (hne:d≠it) :
 wS P w K tg (Itw d od kvs) [it] it (λi h=>h.IsValIter it d i vs.length ep) where
 mem:=by simp
 obj:=λi h st b hb=>by
  obtain⟨o,he,hc,hd⟩:=st;have z:b=it:=by simpa using hb
  subst z;exact⟨o,he,λv z=>by rw[hd]at z;cases z⟩
 keep:=λi h h' st k=>let ⟨o,he,r⟩:=st;⟨o,k it (by simp) _ he,r⟩
 item:=by
  intro X hP hw hK hc i pins s σ H E I hf st hg;subst hP hw hK;obtain⟨hd,hi⟩:=hg;obtain⟨⟨k,x⟩,hx⟩:∃ p,kvs[i]?=some p:=⟨kvs[i],by simp[hi]⟩;obtain⟨u,hu,ru⟩:=aBZ rel hx;have hod:s.heap.get? d=some od:=(I.hok d _ hd).1;refine wpAny_pyNext_values_item st (hat _ hod) hu λh' st' sb=>?_;obtain⟨o,e,c,dd⟩:=id st';exact⟨u,rfl,yV (s:={ s with heap:=h' }) e c dd (by decide) ⟨x,H,I.turnedF (fp:=[it]) (t':=s.toks) (λb o hb e=>sb.extBut b o (λz=>hb (by simp[z])) e) hf,ru,⟨rfl,k,hx⟩,st',λb hb=>(hf b hb).1⟩⟩
 done:=by
  intro X hP hw hK hc i pins s σ H E I hf st hg;subst hP hw hK;obtain⟨hd,hi⟩:=hg;have hod:s.heap.get? d=some od:=(I.hok d _ hd).1;have hl:=rel.length;exact wpAny_pyNext_values_end (I.ok.hd hc) st (hat _ hod) (by simp;lia) λh' eb=>⟨rfl,I.turnedF (fp:=[it]) (t':=s.toks) (λb o hb e=>eb b o (λz=>hb (by simp[z])) e) hf⟩
 self:=λ_ _ _ _ _ st h=>wpAny_pyIter_valiter st h
def aAq (td:TE):TI:=fun σ H R=>td σ H λx H1=>∃ d kvs,x=.ref d/\H1 d=some (.dK kvs)/\∀ od,R (Itw d od kvs) (upd H1 d (.frz od (.dK kvs)))
def W3 {X:Cx} {tg:Expr} {o:Expr} {td:TE} {apos pos:Pos} (ho:PE X o td) (hbase:attributeBase o "values" X.env (eval o X.env)=eval o X.env:=by rfl) (hline:(apos.endLine == pos.line)=true:=by rfl) :
 PI X tg (.Call (.Attribute o "values" apos) [] [] pos) (aAq td):=by
 intro pins s σ H R I h;refine ri hbase hline (thn (ho pins s σ H _ I h) λu J ⟨x,H1,Y,rx,d,kvs,ex,hd,q⟩=>?_);subst ex;obtain rfl:u=Value.ref d:=rx;obtain⟨z,U,vs,au,dd⟩:=zI Y.hok hd;obtain⟨ep,av⟩:=id dd.dictAt;obtain⟨od,M,I2⟩:=Y.freezeD hd;obtain⟨t1,t2,_⟩:=F8 Y (.inl ⟨kvs,.inl hd⟩);refine⟨"dict","dict.values",oo,qx,PySem.F.type_dict_values,t1,t2,kt rfl (uh ?_)⟩;refine su qx dd.typeIs PySem.F.entry_dict_values (PySem.F.args_dict_values_1 _) (meets_dict_values (bO X.prog X.w) d U) ⟨⟨vs,dd⟩,?_⟩;have hv:(J.heap.push { cls:=.type "dict_values",data:=.fields #[.ref d] }).IsValuesView J.heap.objs.size d:=⟨_,aEU _ rfl,rfl,rfl⟩;have h1:(J.heap.push { cls:=.type "dict_values",data:=.fields #[.ref d] }).get? d=some od:=aEO _ M;have L:∀ h:Heap,h.get? d=some od->h.DictAt (bO X.prog X.w) d vs ep:=λh e=>av.at λo q=>by rw[M]at q;cases q;exact e
 refine wpAny_pyIter_values hv (L _ h1) ?_;generalize aw:({ cls:=.type "dict_valueiterator",data:=.fields #[.ref d,.int 0 0,.int vs.length 0,.int ep 0] }:Obj)=ob;have kp:∀ b o,J.heap.get? b=some o->((J.heap.push { cls:=.type "dict_values",data:=.fields #[.ref d] }).push ob).get? b=some o:=λb o e=>aEO _ (aEO _ e);have hsz:(J.heap.push { cls:=.type "dict_values",data:=.fields #[.ref d] }).objs.size=J.heap.objs.size+1:=nu ..;have I3:=I2.kept (t':=J.toks) kp;have O:J.heap.objs.size<=(J.heap.push { cls:=.type "dict_values",data:=.fields #[.ref d] }).objs.size:=by rw[hsz];exact qc _
 have ax:d≠(J.heap.push { cls:=.type "dict_values",data:=.fields #[.ref d] }).objs.size:=λz=>by
  have:=aET M;rw[z]at this;exact absurd this (Nat.not_lt.mpr O)
 refine⟨_,[_],_,_,_,rfl,I3,zM d _ od kvs vs ep au L ax,?_,λb hb=>?_,q od⟩
 .rw[<- aw];exact⟨_,aEU _ rfl,rfl,rfl⟩
 .have z:b=(J.heap.push { cls:=.type "dict_values",data:=.fields #[.ref d] }).objs.size:=by simpa using hb
  rw[z];exact I2.fpOk O (I2.hok.fresh O)
def zN {d:Addr} {od:Obj} {kvs:List (Key×V)} {z:St} {g:TG} {tt:TT} {te:TE} {H:Hp} {Q:VK} (Pv:Nat->List V->Hp->Prop) (h0:Pv 0 [] H) (O:∀ i ys H,i<=kvs.length->Pv i ys H->H d=some (.frz od (.dK kvs))/\ys.length<sizeLine)
 (hs:∀ i k x ys H,kvs[i]?=some (k,x)->Pv i ys H->g x z H λJ H2=>tt J H2 λb M=>if b=true then te J M λy U=>Pv (i+1) (ys++[y]) U else Pv (i+1) ys M) (hd:∀ ys H,Pv kvs.length ys H->∀ D,H D=none->Q (.ref D) (upd H D (.lst ys))) :
 qI (Itw d od kvs) z g tt te Q H:=by
 refine⟨λi m ys H=>m=kvs.length - i/\i<=kvs.length/\Pv i ys H,⟨kvs.length,by simp,ka _,h0⟩,?_⟩;rintro i m ys H ⟨rfl,hi,p⟩;obtain⟨q,Y⟩:=O i ys H hi p;refine⟨Y,?_⟩
 by_cases L:i<kvs.length
 .refine .inr ⟨⟨q,L⟩,Pv (i+1),λau H' p'=>⟨kvs.length - (i+1),by lia,rfl,L,p'⟩,λx H' y=>?_⟩;obtain⟨rfl,k,hx⟩:=y;exact hs i k x ys _ hx p
 .have e:i=kvs.length:=by lia
  subst e;exact .inl ⟨⟨q,ah _⟩,hd ys H p⟩
def vX:bootBuiltins "abs"=some (.builtin "abs"):=by decide +kernel
inductive Q6 (xs:List V) (H:Hp) (Q:VK):Prop
 | mk (i:Int) (h0_:xs=[.int i]) (h1_:Q (.int (if i<0 then -i else i)) H):Q6 xs H Q
def vY {X:Cx}:eX X (.builtin "abs") Q6:=by
 intro pins s σ H xs us Q I r h;obtain⟨i,rfl,q⟩:=h;obtain⟨u,rfl,z⟩:=kE r;obtain⟨t,rfl⟩:=z;exact call_abs_int λu J=>⟨.int (if i<0 then -i else i),H,I.tok _,⟨u,rfl⟩,q⟩
def cx2 (o:Obj):Option Value:=match o.data with | .fields vs=>vs[2]? | _=>none
def DK {z:Type}:Sem z->Prop
 | .pure _=>True
 | .raise _=>True
 | .unsupported _=>True
 | .finish _=>True
 | .rule _ k=>∀ u,DK (k u)
 | .at _ k=>∀ u,DK (k u)
 | .load _ _ k=>∀ o,DK (k o)
 | .update _ _ f k=>(∀ o,(f o).dict=o.dict/\((f o).cls=o.cls/\cx2 (f o)=cx2 o)/\(o.isFreed=false->(f o).isFreed=false))/\∀ u,DK (k u)
 | .alloc _ k=>∀ a,DK (k a)
 | .loadIfAlive _ k=>∀ o,DK (k o)
 | .point _ k=>∀ u,DK (k u)
 | .register _ _=>True
 | .fresh k=>∀ t,DK (k t)
 | .ask k=>∀ x,DK (k x)
 | .choose _ _ k=>∀ n,DK (k n)
 | .os _ _ _=>False
 | .call _ _ _ _ _=>False
 | .handled _ k=>∀ h,DK (k h)
 | .newGen _ _=>False
 | .genState _ k=>∀ g,DK (k g)
 | .resume _ _ _ _=>False
 | .yield _ _ _ _=>False
 | .stack k=>∀ l,DK (k l)
 | .fork _ _=>False
 | .thread k=>∀ n,DK (k n)
 | .await _ _ _ _ _=>False
def DK.bind {M O:Type} {f:M->Sem O}:∀ {t:Sem M},DK t->(∀ a,DK (f a))->DK (t.bind f):=by
 intro t
 induction t with
 | pure a=>intro _ J;exact J a
 | raise e=>intro _ _;trivial
 | unsupported w=>intro _ _;trivial
 | finish e=>intro _ _;trivial
 | rule U k z=>intro h J u;exact z u (h u) J
 | «at» pos k z=>intro h J u;exact z u (h u) J
 | load a part k z=>intro h J o;exact z o (h o) J
 | update a part g k z=>intro h J;exact⟨h.1,λu=>z u (h.2 u) J⟩
 | alloc o k z=>intro h J a;exact z a (h a) J
 | loadIfAlive a k z=>intro h J o;exact z o (h o) J
 | point live k z=>intro h J u;exact z u (h u) J
 | register a k z=>intro _ _;trivial
 | fresh k z=>intro h J t;exact z t (h t) J
 | ask k z=>intro h J x;exact z x (h x) J
 | choose Y n k z=>intro h J x;exact z x (h x) J
 | os au live k z=>intro h _;exact h.elim
 | call c hd gd live k z=>intro h _;exact h.elim
 | handled own k z=>intro h J x;exact z x (h x) J
 | newGen c k z=>intro h _;exact h.elim
 | genState g k z=>intro h J x;exact z x (h x) J
 | resume g r live k z=>intro h _;exact h.elim
 | yield v gd live k z=>intro h _;exact h.elim
 | stack k z=>intro h J x;exact z x (h x) J
 | fork c k z=>intro h _;exact h.elim
 | thread k z=>intro h J x;exact z x (h x) J
 | await a take L live k z=>intro h _;exact h.elim
def HD (h0 h:Heap):Prop:=∀ b o,h0.get? b=some o->∃ o',h.get? b=some o'/\o'.dict=o.dict/\o'.cls=o.cls/\cx2 o'=cx2 o
def HD.refl (h:Heap):HD h h:=λb o e=>⟨o,e,rfl,rfl,rfl⟩
def HD.trans {a b c:Heap} (x:HD a b) (y:HD b c):HD a c:=λd o e=>by
 obtain⟨z,J,L,c1⟩:=x d o e;obtain⟨M,O,U,c2⟩:=y d z J;exact⟨M,O,U.trans L,c2.1.trans c1.1,c2.2.trans c1.2⟩
def HD.kept {h h':Heap} (k:∀ b o,h.get? b=some o->h'.get? b=some o):HD h h':=λb o e=>⟨o,k b o e,rfl,rfl,rfl⟩
inductive Ended (H:Hp) (h:Heap):Addr->Prop
 | one {e:Addr} {o:Obj} (hn:H e=none) (he:h.get? e=some o) (hc:cx2 o=some .none):Ended H h e
 | more {e d:Addr} {o:Obj} (hn:H e=none) (he:h.get? e=some o) (hc:cx2 o=some (.ref d)) (hd:Ended H h d):Ended H h e
def Ended.hd {H:Hp} {h h':Heap} (k:HD h h') {e:Addr} (x:Ended H h e):Ended H h' e:=by
 induction x with
 | one z he J =>
  obtain⟨o',L,_,_,c⟩:=k _ _ he;exact .one z L (c.trans J)
 | more z he J _ M =>
  obtain⟨o',L,_,_,c⟩:=k _ _ he;exact .more z L (c.trans J) M
def Ended.to {H H':Hp} {h h':Heap} (k:∀ b o v,H b=none->h.get? b=some o->cx2 o=some v->H' b=none/\h'.get? b=some o) {e:Addr} (x:Ended H h e):Ended H' h' e:=by
 induction x with
 | one J he z=>exact .one (k _ _ _ J he z).1 (k _ _ _ J he z).2 z
 | more J he z _ L=>exact .more (k _ _ _ J he z).1 (k _ _ _ J he z).2 z L
def G0 {h:Heap} {a:Addr} {o:Obj} (e:h.get? a=some o):o.isFreed=false:=(Heap.get?_some_iff.mp e).2
def HD.update {h:Heap} {a:Addr} {f:Obj->Obj} (z:∀ o,(f o).dict=o.dict/\((f o).cls=o.cls/\cx2 (f o)=cx2 o)/\(o.isFreed=false->(f o).isFreed=false)):HD h (h.update a f):=λb o e=>by
 by_cases q:b=a
 .subst q;exact⟨f o,aE4 f e ((z o).2.2 (G0 e)),(z o).1,(z o).2.1⟩
 .exact⟨o,(qe _ _ _ _ q).trans e,rfl,rfl,rfl⟩
def aDP {O:Type} {M:Model} {U:PySem.Ctx} {h0:Heap}:∀ (t:Sem O),DK t->∀ {Q:O->Pos->Shared->Prop} {E:Value->Pos->Shared->Prop} {p:Pos} {s:Shared},HD h0 s.heap->Sem.wp M U t Q E p s ->
 Sem.wp M U t (λa p s'=>Q a p s'/\HD h0 s'.heap) (λe p s'=>E e p s'/\HD h0 s'.heap) p s:=by
 intro t
 induction t with
 | pure a=>intro _ Q E p s hd h;exact⟨h,hd⟩
 | raise e=>intro _ Q E p s hd h;exact⟨h,hd⟩
 | unsupported w=>intro _ Q E p s hd h;exact h
 | finish e=>intro _ Q E p s hd h;exact h
 | rule Y k z=>intro d Q E p s hd h;exact z () (d ()) hd h
 | «at» pos k z=>intro d Q E p s hd h;exact z () (d ()) hd h
 | load a part k z=>intro d Q E p s hd h;obtain⟨o,e,h⟩:=h;exact⟨o,e,z o (d o) hd h⟩
 | update a part g k z=>intro d Q E p s hd h;exact⟨h.1,z () (d.2 ()) (s:={ s with heap:=s.heap.update a g }) (hd.trans (HD.update d.1)) h.2⟩
 | alloc o k z=>intro d Q E p s hd h;exact z _ (d _) (s:={ s with heap:=s.heap.push o }) (hd.trans (HD.kept λb o e=>aEO _ e)) h
 | loadIfAlive a k z=>intro d Q E p s hd h;exact z _ (d _) hd h
 | point live k z=>intro d Q E p s hd h;exact z () (d ()) hd h
 | register a k z=>intro _ Q E p s hd h;exact h
 | fresh k z=>intro d Q E p s hd h;exact z _ (d _) (s:={ s with toks:=s.toks+1 }) hd h
 | ask k z=>intro d Q E p s hd h;exact z _ (d _) hd h
 | choose J n k z=>intro d Q E p s hd h;exact⟨h.1,z _ (d _) (s:={ s with drawn:=s.drawn.bump J }) hd h.2⟩
 | os au live k z=>intro d;exact d.elim
 | call c hd gd live k z=>intro d;exact d.elim
 | handled own k z=>intro d Q E p s hd h;exact z _ (d _) hd h
 | newGen c k z=>intro d;exact d.elim
 | genState g k z=>intro d Q E p s hd h;obtain⟨st,e,h⟩:=h;exact⟨st,e,z _ (d _) hd h⟩
 | resume g r live k z=>intro d;exact d.elim
 | yield v gd live k z=>intro d;exact d.elim
 | stack k z=>intro d Q E p s hd h;exact z _ (d _) hd h
 | fork c k z=>intro d;exact d.elim
 | thread k z=>intro d Q E p s hd h;exact z _ (d _) hd h
 | await a take L live k z=>intro d;exact d.elim
def fQ {z:Type} {M:Model} {A:Around} {t:Sem z} {Q:z->Shared->Prop} {E:Value->Shared->Prop} {s:Shared} (d:DK t) (h:wpAny M A t Q E s) :
 wpAny M A t (λa s'=>Q a s'/\HD s.heap s'.heap) (λe s'=>E e s'/\HD s.heap s'.heap) s:=λJ p hΓ=>aDP t d (HD.refl _) (h J p hΓ)
def zO (v:Value):DK (fieldsOf v):=by
 unfold fieldsOf;split
 .intro o;show DK (match o.data with | .fields vs=>pure vs | _=>unsupported _);split <;> trivial
 .trivial
def nO (v:Value) (i:Nat):DK (field v i):=DK.bind (zO v) λvs=>by
 split <;> trivial
def xF {i:Nat} {x:Value} (hi:i≠2) (o:Obj):(Obj.mapFields (·.setIfInBounds i x) o).dict=o.dict/\((Obj.mapFields (·.setIfInBounds i x) o).cls=o.cls/\cx2 (Obj.mapFields (·.setIfInBounds i x) o)=cx2 o)/\(o.isFreed=false->(Obj.mapFields (·.setIfInBounds i x) o).isFreed=false):=by
 obtain⟨c,d,data,z⟩:=o;cases data
 case fields vs=>exact⟨rfl,⟨rfl,Array.getElem?_setIfInBounds_ne hi⟩,λ_=>rfl⟩
 all_goals exact⟨rfl,⟨rfl,rfl⟩,λh=>h⟩
def kQ (v:Value) (i:Nat) (x:Value) (hi:i≠2:=by decide):DK (setField v i x):=by
 unfold setField;split
 .unfold updateField;intro o;show DK (match o.data with | .fields vs=>if i<vs.size then update _ (Obj.mapFields (·.setIfInBounds i x))else unsupported _ | _=>unsupported _);split
  .split
   .exact⟨xF hi,λ_=>trivial⟩
   .trivial
  .trivial
 .trivial
def eQ (e:Value) (f:Option Addr):DK (setFlight e f):=DK.bind (nO e 1) λtb=>by
 split
 .exact kQ _ _ _
 .trivial
def kR:∀ l:List Env,DK (readyFrames l)
 | []=>trivial
 | env :: outer=>by
  unfold readyFrames;split
  .intro o;show DK (if ((o.slots.getD 3 none).isSome)=true then _ else _);split
   .trivial
   .refine DK.bind ?_ λimp=>DK.bind ?_ λback=>⟨λo=>⟨rfl,⟨rfl,rfl⟩,λh=>(by obtain⟨c,d,z,J⟩:=o;cases z <;> first | rfl | exact h)⟩,λ_=>kR outer⟩
    .unfold behindIsImport;split
     .trivial
     .split
      .trivial
      .exact DK.bind (nO _ _) λ_=>trivial
    .cases outer with
     | nil =>
      show DK (if (env.scope.isGenerator || env.scope.isCoroutine)=true then pure Value.none else underTheClaimsCaller >>= _);split
      .trivial
      .refine DK.bind ?_ λ_=>trivial;unfold underTheClaimsCaller;intro l
       first | trivial | (dsimp only;first | trivial | (split <;> trivial))
     | cons c r=>trivial
  .trivial
def G1 (env:Env):DK (PySem.frameOf env):=by
 unfold PySem.frameOf;refine DK.bind (t:=frameEnvs) (λl=>trivial) λl=>DK.bind ?_ λf=>?_
 .generalize l.dropWhile (·.frame != env.frame)=r;cases r with
  | nil=>trivial
  | cons e r=>exact DK.bind (kR _) λ_=>trivial
 .split <;> trivial
def jQ (e:Value) (env:Env):DK (noteFrame e env):=by
 unfold noteFrame;split
 .refine DK.bind (nO _ _) λhead=>?_;have z:∀ f,DK (do setField e 1 (<- EntryCells.newEntry head (<- PySem.frameOf env) .none (rawInt f) .none (<- entryPlaceOf f (head != .none)))):=λf=>by
   refine DK.bind (G1 env) λfr=>DK.bind ?_ λpl=>DK.bind ?_ λL=>kQ _ _ _
   .unfold entryPlaceOf;intro l;refine DK.bind (t:=Sem.pure l) trivial λJ=>?_;split <;> trivial
   .unfold EntryCells.newEntry newFields newObj
    first | (intro a;trivial) | (split <;> (first | trivial | (intro a;trivial))) | (repeat' (first | trivial | split | intro))
  split
  .refine DK.bind (nO _ _) λx=>?_;split
   .trivial
   .exact DK.bind (kQ _ _ _) λ_=>z _
  .exact z _
 .trivial
def sM (env:Env) (e:Value):DK (leaving env e):=DK.bind (jQ e env) λ_=>eQ e none
def ObjOk.there {P:Program} {w:World} {H:Hp} {h:Heap} {a:Addr} {u:HO} (x:ObjOk P w H h a u):∃ o,h.get? a=some o:=by
 cases u with
 | lst xs=>obtain⟨_,_,_,_,e⟩:=x;exact⟨_,e⟩
 | tup xs=>obtain⟨_,_,_,o,e,_⟩:=x;exact⟨_,e⟩
 | dK kvs=>obtain⟨_,_,_,_,o,_,_,e,_⟩:=x;exact⟨_,e⟩
 | dT kvs=>obtain⟨_,_,_,_,o,_,_,e,_⟩:=x;exact⟨_,e⟩
 | set S n=>obtain⟨o,_,_,_,e,_⟩:=x;exact⟨_,e⟩
 | ins C dx fs=>obtain⟨_,_,_,e,_⟩:=x;exact⟨_,e⟩
 | own y=>exact x
 | xd fs=>obtain⟨_,⟨_,_,_,e,_⟩,_⟩:=x;exact⟨_,e⟩
 | rng lo hi=>obtain⟨_,_,_,e⟩:=x;exact⟨_,e⟩
 | frz z u=>obtain⟨e,_⟩:=x;exact⟨_,e⟩
 | tbl ps=>exact⟨_,show h.get? a=some _ from x⟩
 | met f y=>exact⟨_,show h.get? a=some _ from x⟩
 | ext φ=>obtain⟨_,e,_⟩:=x;exact e
def CXR (P:Program) (w:World):CXT:=λouter H s E J s'=>∃ (e:Addr) (cls a0:Value) (H':Hp) (B:Heap) (z:Obj),J=.ref e/\s'.os=s.os/\AllBare s'.gens/\Un (frs outer) [] H H' s.heap s'.heap/\HOk P w H' s'.heap/\H' e=none /\
 (s'.heap.get? e=some z/\Ended H' s'.heap e)/\Heap.FlyingW B outer e cls a0 s'.heap/\(∀ b u,H' b=some u->∃ o,B.get? b=some o)/\(∀ b o,s.heap.get? b=some o->b∉frs outer->∃ o',B.get? b=some o')/\E cls z.dict H'
section
variable {X:Cx} {pins:List (Addr×Obj)} {σ:St} {H:Hp} {s:Shared} {E:XK}
structure Body (X:Cx):Prop where
 ex:X.ex=[]
 stk:X.stack=X.env :: X.outer
 fr:X.env.frame=some X.env.locals
def Body.mem (b:Body X) {c:Addr}:c∈frs X.stack↔c=X.env.locals\/c∈X.fs:=by
 rw[b.stk];unfold frs;rw[nw,b.fr,aEm];rfl
def xG (Bd:Body X) (I:Inv X pins σ H s) {B:Heap} {e:Addr} {cls a0:Value} {oe:Obj} {h':Heap} (he:s.heap.get? e=some oe) (av:H e=none) (st:B.StaysIn s.heap) (cov:∀ b u,H b=some u->∃ o,B.get? b=some o)
 (olds:∀ b o,X.s₀.heap.get? b=some o->b∉X.fs->∃ o',B.get? b=some o') (fl:Heap.FlyingW B X.outer e cls a0 h') (O:s.heap.UpToSlots h') (hd:HD s.heap h') (aw:Ended H s.heap e) (q:E cls oe.dict H) :
 CXR X.prog X.w X.outer X.H₀ X.s₀ E (.ref e) { s with heap:=h' }:=by
 have U:B.StaysIn h':=fl.1;have nx:∀ b,b∉X.ex:=λb z=>by rw[Bd.ex]at z;cases z
 have ba:∀ b o,X.s₀.heap.get? b=some o->b≠X.env.locals:=λb o e=>aE9 (aE3 (aET e) I.ok.above);have same:∀ b o o',B.get? b=some o->s.heap.get? b=some o'->h'.get? b=some o':=λb o o' J M=>by
  have:=st b o J;rw[M]at this;cases this;exact U b _ J
 have Y:∀ b∈X.fs,∀ o,s.heap.get? b=some o->∀ vs,o.data≠.fields vs:=λb L o e vs=>by
  obtain⟨_,o',au,ax⟩:=I.funs.mem L;rw[e]at au;cases au;exact ax vs
 obtain⟨ay,az,de,ce⟩:=hd e oe he;refine⟨e,cls,a0,H,B,ay,rfl,I.os,I.bare,⟨λb o J n L _=>?_,λb o J n L _=>?_,λb o J n _=>I.base.free b o J n (nx b),λb o J _=>?_,I.base.tups,I.base.frzs,I.base.tbls⟩,λb u J=>?_,av,⟨az,aw.hd hd⟩,fl,cov,olds,by rw[de];exact q⟩
 .obtain⟨o',eB⟩:=olds b o J L;exact same b o' o eB (I.base.keep b o J n L (nx b))
 .obtain⟨sl,M⟩:=I.base.slot b o J n L (nx b);obtain⟨a_,e3⟩:=O b _ M (Y b L _ M);exact⟨a_,e3⟩
 .by_cases L:b∈X.fs
  .obtain⟨o',M⟩:=I.base.there b o J (nx b);obtain⟨sl,e3⟩:=O b o' M (Y b L o' M);exact⟨_,e3⟩
  .obtain⟨o',eB⟩:=olds b o J L;exact⟨o',U b o' eB⟩
 .refine(I.hok b u J).stay (λc v hc M=>?_) (λ_ z=>z) λ_ _ z=>z;have tr:∃ o,B.get? c=some o:=by
   rcases hc with z | z
   .rw[z];exact cov b u J
   .exact cov c _ z
  obtain⟨o,eB⟩:=tr;exact same c o v eB M
def o0 (L:Body X) (U:X.A.frames=some (X.env :: X.outer)) (I:Inv X pins σ H s) {Y:Value} {s':Shared} {E':Value->Shared->Prop} (h:CXR X.prog X.w X.stack H s E Y s') :
 wpAny (model X.prog X.w) X.A (leaving X.env Y) (λ_ J=>CXR X.prog X.w X.outer X.H₀ X.s₀ E Y J) E' s':=by
 obtain⟨e,cls,a0,H',B,oe,rfl,os,bare,un,hok,au,⟨he,av⟩,fl,cov,olds,q⟩:=h;have I':Inv X pins σ H' s':=I.call' os un hok bare λb z=>absurd z (by simp);have aw:Heap.FlyingW B (X.env :: X.outer) e cls a0 s'.heap:=by rw[L.stk]at fl;exact fl
 have w1:=wpAny_leaves_onW (M:=model X.prog X.w) (A:=X.A) (E:=λ_ _=>False) (s:=s') (Q:=λ_ J=>∃ h',J={ s' with heap:=h' }/\Heap.FlyingW B X.outer e cls a0 h'/\s'.heap.UpToSlots h') U L.fr aw λh' f u=>⟨h',rfl,f,u⟩;refine eu (fQ (sM X.env (.ref e)) w1) (λ_ J ⟨⟨h',O,f,u⟩,hd⟩=>?_) λ_ _ z=>z.1.elim;subst O;refine xG L I' he au fl.1 cov (λb o O hb=>?_) f u hd av q;obtain⟨o1,e2⟩:=I.base.there b o O (by rw[L.ex];simp);refine olds b o1 e2 λz=>?_;rcases L.mem.mp z with z | z
 .exact absurd (aE3 (aET O) I.ok.above) (by rw[z];exact le _)
 .exact hb z
def W4 (O:Body X) (aw:X.A.frames=some (X.env :: X.outer)) (I:Inv X pins σ H s) {e:Addr} {U:Obj} {vs:Array Value} {a0:Value} {E':Value->Shared->Prop} (he:s.heap.get? e=some U) (Y:H e=none) (hold:∀ b o,X.s₀.heap.get? b=some o->b≠e) (hd:U.data=.fields vs) (h1:vs[1]?=some .none) (h0:vs[0]?=some a0) (ax:Ended H s.heap e) (q:E U.cls U.dict H) :
 wpAny (model X.prog X.w) X.A (leaving X.env (.ref e)) (λ_ L=>CXR X.prog X.w X.outer X.H₀ X.s₀ E (.ref e) L) E' s:=by
 have ay:s.heap.FunFrames X.base (X.env :: X.outer):=by have:=I.stack;rw[O.stk]at this;exact this
 have bb:e∉frs X.stack:=λz=>by
  obtain⟨_,o,ho,az⟩:=I.stack.mem z;rw[he]at ho;cases ho;exact az vs hd
 have au:∀ b o,s.heap.get? b=some o->b≠e->b∉frs X.stack->(PySem.W.hideAll s.heap (e :: frs X.stack)).get? b=some o:=λb o J n1 n2=>pz _ J (by simp[n1,n2]);have a_:s.heap.FunFrames (PySem.W.hideAll s.heap (e :: frs X.stack)) (X.env :: X.outer):=by
  refine se ay λenv hm a ha=>aEQ _ ?_;rw[O.stk];exact List.mem_filterMap.mpr ⟨env,hm,ha⟩
 have av:(PySem.W.hideAll s.heap (e :: frs X.stack)).StaysIn s.heap:=λb o J=>qh _ J;have w1:=wpAny_leaving_firstW (M:=model X.prog X.w) (A:=X.A) (E:=λ_ _=>False) (s:=s) (base:=PySem.W.hideAll s.heap (e :: frs X.stack)) (Q:=λ_ L=>∃ h',L={ s with heap:=h' }/\Heap.LeftW (PySem.W.hideAll s.heap (e :: frs X.stack)) (X.env :: X.outer) e U.cls a0 s.heap h') aw a_ O.fr he av (ni _ (by simp)) hd h1 h0 λh' z=>⟨h',rfl,z⟩;refine eu (fQ (sM X.env (.ref e)) w1) (λ_ L ⟨⟨h',J,k1,⟨_,_,k2⟩,k3,k4⟩,ba⟩=>?_) λ_ _ z=>z.1.elim;subst J;refine xG O I he Y av (λb u J=>?_) (λb o J hb=>?_) ⟨k1,ni _ (by simp),k2,k3⟩ k4 ba ax q
 .obtain⟨o,e2⟩:=(I.hok b u J).there;refine⟨o,au b o e2 (λz=>by rw[z,Y]at J;cases J) λz=>?_⟩;rw[I.stkFree b z]at J;cases J
 .obtain⟨o',e2⟩:=I.base.there b o J (by rw[O.ex];simp);have lt:=aET J;refine⟨o',au b o' e2 (hold b o J) λz=>?_⟩
  .rcases O.mem.mp z with z | z
   .rw[z]at lt;exact absurd (aE3 lt I.ok.above) (le _)
   .exact hb z
end
def cK {P:Program} {w:World} {K:PySem.W.Frag} {mg:Str->Option Value} {base:Heap} {N:List Str} {qual:Str} {scope:Scope} {f:Addr} {cd:Value} {A:Around} {outer:List Env} {s:Shared} {H:Hp} {E:XK} (z:A.frames=some outer) :
 dS (CXR P w) (fX (CXR P w) P w K mg base N qual scope f cd A outer s H E) E:=λpins σ H1 J L s' I h =>
 o0 (X:=fX (CXR P w) P w K mg base N qual scope f cd A outer s H E) ⟨rfl,rfl,rfl⟩ (lm z) I h
def FP (X:Cx) (v:Expr) (n:Nat) (t:TE):Prop:=∀ (pins:List (Addr×Obj)) (s:Shared) (σ:St) (H:Hp) (Q:Hp->Prop),Inv X pins σ H s->(t σ H λ_ H'=>Q H') ->
 wpAny (model X.prog X.w) X.A (eval v X.env) (λu s'=>∃ y z H',u=.str y z/\y.length<=n/\Inv X pins σ H' s'/\Q H') X.xe s
def FPs (X:Cx) (vs:List Expr) (n:Nat) (t:TA):Prop:=∀ (pins:List (Addr×Obj)) (s:Shared) (σ:St) (H:Hp) (Q:Hp->Prop) (out:Str),out.length+n<=sizeLine->Inv X pins σ H s->(t σ H λ_ H'=>Q H') ->
 wpAny (model X.prog X.w) X.A (joinParts out (evalEach vs X.env)) (λu s'=>∃ y z H',u=.str y z/\Inv X pins σ H' s'/\Q H') X.xe s
section
variable {X:Cx}
def fY {z:Str} {j pos} (h:z.length<=1000):FP X (.Constant (.str z) j pos) 1000 (tC (.str z)):=λpins s σ H Q I q=>by
 refine thn (aP pins s σ H (λy H'=>y=.str z/\Q H') I ⟨rfl,q⟩) λu s' ⟨v,H',J,r,e,L⟩=>?_;subst e;obtain⟨t,rfl⟩:=r;exact⟨z,t,H',rfl,h,J,L⟩
inductive zP (Q:VK) (x:V) (H1:Hp):Prop
 | mk (i:Int) (h0_:x=.int i) (h1_:i.natAbs.log2<1920) (h2_:(toString i:Str).length<=1000) (h3_:Q x H1):zP Q x H1
def aCI (te:TE):TE:=fun σ H Q=>te σ H λx H1=>zP Q x H1
def pC {v:Expr} {te:TE} {pos:Pos} (h:PE X v te):FP X (.FormattedValue v (-1) none pos) 1000 (aCI te):=λpins s σ H Q I q=>by
 refine pq (thn (h pins s σ H _ I q) λu s' ⟨x,H',J,r,z⟩=>?_);obtain⟨i,rfl,hd,L,z⟩:=z;obtain⟨t,rfl⟩:=r;exact formatField_int_small hd ⟨_,_,H',rfl,L,J.tok _,z⟩
def lS:FPs X [] 0 wU:=λpins s σ H Q out z I q=>joinParts_nil ⟨out,_,H,rfl,I.tok _,q⟩ (by lia)
def cB {v:Expr} {vs:List Expr} {n m:Nat} {te:TE} {t:TA} (h1:FP X v n te) (h2:FPs X vs m t) (he:evalEach (v :: vs) X.env=eval v X.env :: evalEach vs X.env:=by rfl):FPs X (v :: vs) (n+m) (zA te t):=λpins s σ H Q out M I q=>by
 rw[he];refine joinParts_cons (thn (h1 pins s σ H _ I q) λu s' ⟨y,O,H',e,U,J,L⟩=>?_);subst e;have z:(out++y).length=out.length+y.length:=strLen_append _ _;exact⟨by rw[z];lia,h2 pins s' σ H' Q (out++y) (by rw[z];lia) J L⟩
def aDQ (t:TA):TE:=fun σ H Q=>t σ H λ_ H'=>∀ z,Q (.str z) H'
def lT {v w:Expr} {vs:List Expr} {n:Nat} {t:TA} {pos:Pos} (h:FPs X (v :: w :: vs) n t) (M:n<=100000:=by decide) (he:evalEach (v :: w :: vs) X.env=eval v X.env :: eval w X.env :: evalEach vs X.env:=by rfl):PE X (.JoinedStr (v :: w :: vs) pos) (aDQ t):=λpins s σ H Q I q=>by
 refine JoinedStr_many ?_;rw[<- he];refine thn (h pins s σ H (λH'=>∀ z,Q (.str z) H') Str.empty (by
  have:Str.empty.length=0:=rfl;rw[this];exact fy (by lia) (show 100000<=sizeLine by decide)) I q) λu s' ⟨y,O,H',e,J,L⟩=>?_
 subst e;exact⟨.str y,H',J,⟨_,rfl⟩,L y⟩
end
abbrev bmV:List Value:=[.type "ValueError",.type "Exception",.type "BaseException",.type "object"]
def G2 (X:Cx) (E:XK):Prop:=∀ (pins:List (Addr×Obj)) (σ:St) (H:Hp) (s:Shared) (e:Addr) (z:Obj) (vs:Array Value) (a0:Value),Inv X pins σ H s->s.heap.get? e=some z->H e=none->(∀ b o,X.s₀.heap.get? b=some o->b≠e)->z.data=.fields vs->vs[1]?=some .none->vs[0]?=some a0->Ended H s.heap e->E z.cls z.dict H->X.xe (.ref e) s
def dW {P:Program} {w:World} {K:PySem.W.Frag} {mg:Str->Option Value} {base:Heap} {N:List Str} {qual:Str} {scope:Scope} {f:Addr} {cd:Value} {A:Around} {outer:List Env} {s:Shared} {H:Hp} {E:XK} (z:A.frames=some outer) :
 G2 (fX (CXR P w) P w K mg base N qual scope f cd A outer s H E) E:=λpins σ H1 M e O vs a0 I he J hold hd h1 h0 L q =>
 W4 (X:=fX (CXR P w) P w K mg base N qual scope f cd A outer s H E) ⟨rfl,rfl,rfl⟩ (lm z) I he J hold hd h1 h0 L q
section
variable {X:Cx}
def sN (i:Int):Prop:=i.natAbs.log2<1920/\(toString i:Str).length<=1000
def Q7:∀ {zs:List Str} {us:List Value},Vals (zs.map V.str) us->∃ l:List (Str×Tok),us=strValues l/\l.map (·.1)=zs
 | [],_,.nil=>⟨[],rfl,rfl⟩
 | z :: zs,_,.cons ⟨t,e⟩ r=>by
  obtain⟨l,J,L⟩:=Q7 r;exact⟨(z,t) :: l,by rw[e,J];rfl,by rw[aEb,L]⟩
inductive Q8 (x:V) (vs:List V) (H:Hp) (Q:VK):Prop
 | mk (sep:Str) (l:Addr) (zs:List Str) (h0_:x=.str sep) (h1_:vs=[.ref l]) (h2_:H l=some (.lst (zs.map V.str))) (h3_:zs.foldl (λn z=>n+z.length+sep.length) 0<=sizeLine) (h4_:(Builtin.Str.glued sep zs).length<=sizeLine) (h5_:Q (.str (Builtin.Str.glued sep zs)) H):Q8 x vs H Q
def aB0:V->List V->Hp->VK->Prop:=λx vs H Q=>Q8 x vs H Q
def Q9:MtM X "str.join" aB0:=by
 intro pins s σ H x vs v us Q I U Y h;obtain⟨z,l,zs,rfl,rfl,M,O,J,q⟩:=h;obtain⟨t,rfl⟩:=U;obtain⟨u,rfl,ru⟩:=Y.one;cases ru;obtain⟨au,r,pl,_⟩:=I.list (SqL.of M);obtain⟨ps,e1,L⟩:=Q7 r;subst e1;refine tj ph (qu _ _ _) PySem.F.entry_str_join (PySem.F.args_str_join_2 _ _) (meets_str_join_list z t l ps (by rw[L];simp[Builtin.Str.tooLong];exact O)) ⟨pl.isList,?_⟩;rw[<- L]at q J;clear r M O pl L;cases ps with
 | nil=>exact⟨J,.str _,H,I.tok _,⟨_,rfl⟩,q⟩
 | cons p r =>
  cases r with
  | nil=>exact⟨.str p.1,H,I,⟨p.2,rfl⟩,q⟩
  | cons p2 r=>exact⟨J,.str _,H,I.tok _,⟨_,rfl⟩,q⟩
inductive R0 (xs:List V) (H:Hp) (Q:VK):Prop
 | mk (a:Addr) (kvs:List (Key×V)) (h0_:xs=[.ref a]) (h1_:H a=some (.dK kvs)) (h2_:Q (.int kvs.length) H):R0 xs H Q
def W5:eX X (.builtin "len") R0:=by
 intro pins s σ H xs us Q I r h;obtain⟨a,kvs,rfl,z,q⟩:=h;obtain⟨u,rfl,J⟩:=kE r;cases J;exact aDL I (Rd.of z) λt s' L=>⟨.int _,H,L,⟨_,rfl⟩,q⟩
end
open PySem.MeetsSeq
end L2
namespace L2
open PySem PySem.W PySem.Spec PyProof.Rows
end L2
namespace L2
open PySem PySem.Spec PyProof.Rows
def W6 {d:Addr} {od:Obj} {kvs:List (Key×V)} {g:TG} {tb:TS} {D:kI} {σ:St} {H:Hp} (Pv:Nat->St->Hp->Prop) (h0:Pv 0 σ H) (O:∀ i σ H,i<=kvs.length->Pv i σ H->H d=some (.frz od (.dK kvs)))
 (hs:∀ i k x σ H t,kvs[i]?=some (k,x)->Pv i σ H->H t=none->g (.ref t) σ (upd H t (.tup [kV k,x])) λz H2=>tb { D with nx:=Pv (i+1),ct:=Pv (i+1),bk:=D.nx } z H2) (hd:∀ σ H,Pv kvs.length σ H->D.nx σ H) :
 ∃ W:Nat->Nat->St->Hp->Prop,(∃ m,W 0 m σ H)/\∀ i m σ H,W i m σ H ->
  ((Itd d od kvs).stop i H/\D.nx σ H)\/((Itd d od kvs).go i H/\∃ N:St->Hp->Prop,(∀ J H',N J H'->∃ M,M<m/\W (i+1) M J H')/\∀ x H',(Itd d od kvs).yld i H x H'->g x σ H' λz H2=>tb { D with nx:=N,ct:=N,bk:=D.nx } z H2):=by
 refine⟨λi m σ H=>m=kvs.length - i/\i<=kvs.length/\Pv i σ H,⟨kvs.length,by simp,ka _,h0⟩,?_⟩;rintro i m σ H ⟨rfl,hi,p⟩;have q:=O i σ H hi p
 by_cases L:i<kvs.length
 .refine .inr ⟨⟨q,L⟩,Pv (i+1),λJ H' U=>⟨kvs.length - (i+1),by omega,rfl,L,U⟩,λx H' y=>?_⟩;obtain⟨t,k,v,rfl,Y,hx,rfl⟩:=y;exact hs i k v σ _ t hx p Y
 .have e:i=kvs.length:=by omega
  subst e;exact .inl ⟨⟨q,ah _⟩,hd σ H p⟩
inductive R1 (xs:List V) (H:Hp) (Q:VK):Prop
 | mk (i:Int) (h0_:xs=[.int i]) (h1_:sN i) (h2_:Q (.str (toString i:Str)) H):R1 xs H Q
def pD {X:Cx}:eX X (.type "str") R1:=by
 intro pins s σ H xs us Q I r h;obtain⟨i,rfl,hi,q⟩:=h;obtain⟨u,rfl,t,rfl⟩:=kE r;exact PySem.P.str_of_int hi.1 ⟨.str _,H,I.tok _,⟨_,rfl⟩,q⟩
section
variable {X:Cx}
inductive R3 (xs:List V) (H:Hp) (Q:VK):Prop
 | mk (x:Str) (n:Int) (h0_:xs=[.str x]) (h1_:x.length<=640) (h2_:PySem.intText? x=some n) (h3_:Q (.int n) H):R3 xs H Q
def W7:eX X (.type "int") R3:=by
 intro pins s σ H xs us Q I r h;obtain⟨x,n,rfl,z,J,q⟩:=h;obtain⟨u,rfl,t,rfl⟩:=kE r;exact PySem.W.KIN.call_text J z ⟨.int n,H,I.tok _,⟨_,rfl⟩,q⟩
def vZ:∀ l:List (Str×Tok),Vals ((l.map (·.1)).map V.str) (strValues l)
 | []=>.nil
 | p :: l=>.cons ⟨p.2,rfl⟩ (vZ l)
inductive zQ (x:V) (vs:List V) (H:Hp) (Q:VK):Prop
 | mk (t y:Str) (h0_:x=.str t) (h1_:vs=[.str y]) (h2_:(y.length == 0)=false) (h3_:t.length+2<=sizeLine) (h4_:(Txt.split t y).length<=sizeLine) (h5_:∀ l,H l=none->Q (.ref l) (upd H l (.lst ((Txt.split t y).map V.str)))):zQ x vs H Q
def aCJ:V->List V->Hp->VK->Prop:=λx vs H Q=>zQ x vs H Q
def zR:MtM X "str.split" aCJ:=by
 intro pins s σ H x vs v us Q I O U h;obtain⟨t,y,rfl,rfl,M,hz,L,q⟩:=h;obtain⟨tx,rfl⟩:=O;obtain⟨u,rfl,ty,rfl⟩:=U.one;have z:∀ (l:List (Str×Tok)) (k:Nat),l.map (·.1)=Txt.split t y->EP X pins σ Q (.ref s.heap.objs.size) { s with toks:=k,heap:=s.heap.push { cls:=.type "list",data:=.seq (strValues l).toArray } }:=λl k e=>by
  refine⟨.ref s.heap.objs.size,upd H s.heap.objs.size (.lst ((Txt.split t y).map V.str)),I.laid (t':=k) (λb o e=>aEO _ e) (ah _) ⟨by rw[aEN];exact L,strValues l,0,?_,aEU _ rfl⟩,rfl,q _ I.fresh⟩;rw[<- e];exact vZ l
 have Y:(Builtin.Str.partsBetween t (Builtin.Str.occurrences t y 0 t.length (t.length+1)) y.length).length<=sizeLine:=by
  have e1:=StrLaws.occ_length_le t y 0 t.length (t.length+1);rw[length_partsBetween];lia
 cases h1:(decide (t.length<y.length) || decide (Builtin.Str.strKind t<Builtin.Str.strKind y))
 .cases J:(Builtin.Str.occurrences t y 0 t.length (t.length+1)).isEmpty
  .refine tj rq (qu _ _ _) qy (ql _ _) (meets_str_split_sep t y tx ty h1 M J (by lia) Y) ?_;show wants _ _ _ { s with toks:=_,heap:=s.heap.push { cls:=.type "list",data:=.seq (strsFrom s.toks (Builtin.Str.partsBetween t (Builtin.Str.occurrences t y 0 t.length (t.length+1)) y.length)).toArray } };rw[strsFrom_eq];exact z (numbered s.toks _) _ ((numbered_texts _ _).trans ((b3 (qf h1)).trans (b3 (qf J))).symm)
  .exact tj rq (qu _ _ _) qy (ql _ _) (meets_str_split_not_found t y tx ty h1 M J)
    (z [(t,tx)] s.toks ((b3 (qf h1)).trans (b4 J)).symm)
 .exact tj rq (qu _ _ _) qy (ql _ _) (meets_str_split_cannot_occur t y tx ty h1)
   (z [(t,tx)] s.toks (b4 h1).symm)
inductive r9 (x:V) (vs:List V) (H:Hp) (Q:VK):Prop
 | mk (t y:Str) (h0_:x=.str t) (h1_:vs=[.str y]) (h2_:t.length<=sizeLine) (h3_:Q (.str (Txt.removeprefix t y)) H):r9 x vs H Q
def aED:V->List V->Hp->VK->Prop:=λx vs H Q=>r9 x vs H Q
def aCK:MtM X "str.removeprefix" aED:=by
 intro pins s σ H x vs v us Q I z J h;obtain⟨t,y,rfl,rfl,L,q⟩:=h;obtain⟨tx,rfl⟩:=z;obtain⟨u,rfl,ty,rfl⟩:=J.one;exact PySem.SC.removeprefix (λt' k=>⟨.str _,H,I.tok _,⟨_,rfl⟩,q⟩) L
def Its (x:Str):It:=⟨λi _=>i<x.cps.size,λi H v H'=>H'=H/\∃ c,x.cps[i]?=some c/\v=.str ⟨#[c]⟩,λi _=>x.cps.size<=i⟩
def u6 {P:Program} {w:World} {K:PySem.W.Frag} {tg:Expr} (x:Str) (t:Tok) (it:Addr):wS P w K tg (Its x) [it] it (λi h=>h.IsStrIter it "str_ascii_iterator" x t i) where
 mem:=by simp
 obj:=λi h st b hb=>by
  have e:b=it:=by simpa using hb
  subst e;obtain⟨o,e,c,d⟩:=st;exact⟨o,e,λv z=>by rw[d]at z;cases z⟩
 keep:=λi h h' st k=>let ⟨o,he,r⟩:=st;⟨o,k it (by simp) _ he,r⟩
 item:=by
  intro X hP hw hK hc i pins s σ H E I hf st hg;subst hP hw hK;obtain⟨c,hx⟩:∃ c,x.cps[i]?=some c:=⟨_,Array.getElem?_eq_getElem hg⟩;refine wpAny_pyNext_ascii_item st hx λh' st' sb=>?_;obtain⟨o,e,cc,d⟩:=id st';exact⟨_,rfl,yV (s:={ s with heap:=h',toks:=s.toks+1 }) e cc d (by decide) ⟨.str ⟨#[c]⟩,H,I.turnedF (fp:=[it]) (t':=s.toks+1) (λb o hb e=>sb.extBut b o (λz=>hb (by simp[z])) e) hf,⟨_,rfl⟩,⟨rfl,c,hx,rfl⟩,st',λb hb=>(hf b hb).1⟩⟩
 done:=by
  intro X hP hw hK hc i pins s σ H E I hf st hg;subst hP hw hK;exact wpAny_pyNext_ascii_end (I.ok.hd hc) st (Array.getElem?_eq_none hg) λh' eb=>⟨rfl,I.turnedF (fp:=[it]) (t':=s.toks) (λb o hb e=>eb b o (λz=>hb (by simp[z])) e) hf⟩
 self:=λ_ _ _ _ _ st h=>wpAny_pyIter_striter_ascii st h
def aEE (td:TE):TI:=fun σ H R=>td σ H λx H1=>∃ z:Str,x=.str z/\z.cps.all (·<128)=true/\R (Its z) H1
def aCL {tg:Expr} {o:Expr} {td:TE} (ho:PE X o td):PI X tg o (aEE td):=by
 intro pins s σ H R I h;refine thn (ho pins s σ H _ I h) λu J ⟨x,H1,L,M,z,ex,O,q⟩=>?_;subst ex;obtain⟨t,rfl⟩:=M;refine wpAny_pyIter_ascii O ?_;refine⟨J.heap.objs.size,[J.heap.objs.size],_,_,H1,rfl,L.kept (t':=J.toks) λb o e=>aEO _ e,u6 z t _,⟨_,aEU _ rfl,rfl,rfl⟩,λb U=>?_,q⟩;have e:b=J.heap.objs.size:=by simpa using U
 subst e;exact L.fpOk (ah _) (L.hok.fresh (ah _))
def u7 {z:Str} {J:St} {g:TG} {tt:TT} {te:TE} {H:Hp} {Q:VK} (Pv:Nat->List V->Hp->Prop) (h0:Pv 0 [] H) (U:∀ i ys H,i<=z.cps.size->Pv i ys H->ys.length<sizeLine)
 (hs:∀ i c ys H,z.cps[i]?=some c->Pv i ys H->g (.str ⟨#[c]⟩) J H λL H2=>tt L H2 λb O=>if b=true then te L O λy Y=>Pv (i+1) (ys++[y]) Y else Pv (i+1) ys O) (hd:∀ ys H,Pv z.cps.size ys H->∀ D,H D=none->Q (.ref D) (upd H D (.lst ys))) :
 qI (Its z) J g tt te Q H:=by
 refine⟨λi m ys H=>m=z.cps.size - i/\i<=z.cps.size/\Pv i ys H,⟨z.cps.size,by simp,ka _,h0⟩,?_⟩;rintro i m ys H ⟨rfl,hi,p⟩;refine⟨U i ys H hi p,?_⟩
 by_cases M:i<z.cps.size
 .refine .inr ⟨M,Pv (i+1),λau H' p'=>⟨z.cps.size - (i+1),by lia,rfl,M,p'⟩,λx H' y=>?_⟩;obtain⟨e,c,hc,rfl⟩:=y;subst e;exact hs i c ys _ hc p
 .have e:i=z.cps.size:=by lia
  subst e;exact .inl ⟨ah _,hd ys H p⟩
end
open PySem.W
section
variable {prog:Program} {w:World} {A:Around} {E:Value->Shared->Prop} {s:Shared}
def W8 {l:Addr} {items:Array Value} {n i:Nat} {Q:List Value->Shared->Prop} (hl:s.heap.IsList l items) (hh:A.handled=none) (hi:i<n) (hn:n<=items.size+1) (hz:items.size<=16384)
 (h:∀ (h':Heap) (tk:Nat),(∀ b o,s.heap.get? b=some o->h'.get? b=some o)->Q (items.toList.take i++[.ref h'.objs.size]++(items.toList.drop i).drop (items.size+1 - n)) { s with heap:=h'.push (seqObj "list" ((items.toList.drop i).take (items.size+1 - n)).toArray 0),toks:=tk }):wpAny (model prog w) A (unpackItems (.ref l) n (some i)) Q E s:=by
 have au:l≠s.heap.objs.size:=by obtain⟨o,ho,_⟩:=hl;exact aE9 (aET ho)
 unfold unpackItems;refine aEL ?_;unfold notIterableAtAll;refine aEL (ss hl.typeIs slot_list_iter.lookup ?_);refine aEM ?_;simp only[oh,rb];refine aEL (je (qr hl ?_));refine aEL (je (kun_draw au i 0 _ _ ⟨_,aEU _ rfl,rfl,rfl⟩ (hl.push _) (by lia) λU z J=>?_));have L:U.IsList l items:=(hl.push _).extBut J.extBut au;rw[Nat.zero_add]at z;have M:=z;obtain⟨oi,ax,_⟩:=M;have O:=L;obtain⟨ol,ay,_⟩:=O;rw[ou];have az:(items.toList.take i).length=i:=by rw[aE2,jt];lia
 rw[b3 (show ¬ ((items.toList.take i).length<i)by rw[az];lia)];refine aEL (je (kun_collect (s:={ s with heap:=U }) (T:="list_iterator") (.inr (.inr (.inl rfl))) (Walks.list (A:=A.in1) hh s.heap.objs.size l au items) (λj u st=>st.1.typeIs) (k:=i) (by lia) ⟨z,L⟩ (aET ax) (aET ay) (λY tk hk=>?_) (by rw[ly];lia)));have av:(items.toList.drop i).length=items.size - i:=by rw[jp,jt]
 have aw:(items.toList.drop i).length - (n - 1 - i)=items.size+1 - n:=by rw[av];lia
 show wpAny _ _ (if (items.toList.drop i).length<n - 1 - i then _ else _) _ _ _;rw[b3 (by rw[av];lia)];show wpAny _ _ (newList ((items.toList.drop i).take ((items.toList.drop i).length - (n - 1 - i))) >>= λd=>pure (items.toList.take i++[d]++(items.toList.drop i).drop ((items.toList.drop i).length - (n - 1 - i)))) _ _ _;rw[aw];have he:∀ b o,s.heap.get? b=some o->Y.get? b=some o:=λb o e=>hk b o (aE9 (aET e)) (J.extBut b o (aE9 (aET e)) (aEO _ e));exact aEL (wpAny_newList (aEM (h Y tk he)) (by rw[aE2,av,ly];lia))
end
section
variable {X:Cx} {pos:Pos}
inductive R4 (K:PySem.W.Frag) (n:Nat) (i:Nat) (t:TGs) (v:V) (σ:St) (H:Hp) (Q:St->Hp->Prop):Prop
 | mk (a:_) (xs:_) (h0_:v=.ref a) (h1_:SqL K H a xs) (h2_:i<n) (h3_:n<=xs.length+1) (h4_:xs.length<=16384) (h5_:∀ D,H D=none->t (xs.take i++[.ref D]++(xs.drop i).drop (xs.length+1 - n)) σ (upd H D (.lst ((xs.drop i).take (xs.length+1 - n)))) Q):R4 K n i t v σ H Q
def aDR (K:PySem.W.Frag) (n i:Nat) (t:TGs):TG:=λv σ H Q=>R4 K n i t v σ H Q
def jE:∀ {xs:List V} {us:List Value} (n:Nat),Vals xs us->Vals (xs.take n) (us.take n)
 | _,_,0,_=>by simp;exact .nil
 | _,_,_+1,.nil=>.nil
 | _,_,n+1,.cons r t=>.cons r (jE n t)
def fG:∀ {xs:List V} {us:List Value} (n:Nat),Vals xs us->Vals (xs.drop n) (us.drop n)
 | _,_,0,h=>h
 | _,_,_+1,.nil=>.nil
 | _,_,n+1,.cons _ t=>fG n t
def kS:∀ {a:List V} {b:List Value} {z:List V} {J:List Value},Vals a b->Vals z J->Vals (a++z) (b++J)
 | _,_,_,_,.nil,h=>h
 | _,_,_,_,.cons r t,h=>.cons r (kS t h)
def sO {e:Expr} {es:List Expr} {t:TG} {u:TGs} {p:Pos} (h1:PG X e t) (h2:PGs X es u)
 (hs:(assignEach (.Starred e p :: es) X.env).map (·.2)=assign e X.env :: (assignEach es X.env).map (·.2):=by rfl):PGs X (.Starred e p :: es) (a8 t u):=by
 intro pins s σ H vs us Q I r h;obtain⟨v,U,J,h⟩:=h;subst J;cases r with
 | cons r1 r2 =>
  rw[hs];refine assignInOrder_cons (thn (h1 pins s σ H _ _ _ I r1 h) λ_ L ⟨z,H1,M,O⟩=>?_);exact h2 pins L z H1 _ _ Q M r2 O
def R5 {es:List Expr} {k:Nat} {t:TGs} {n i:Nat} (O:X.calm=true) (h:PGs X es t) (U:(assignEach es X.env).length=n:=by rfl) (hst:(assignEach es X.env).findIdx? (·.1)=some i:=by rfl):PG X (.Tuple es k pos) (aDR X.K n i t):=by
 intro pins s σ H v u Q I r hw;obtain⟨a,xs,Y,hq,hi,hl,hz,hw⟩:=hw;subst Y;cases r;obtain⟨J,z,ht,au⟩:=I.list hq;have el:=z.length;rw[assign_Tuple];refine aEL (jw ?_);unfold unpack;rw[U,hst];refine aEL (je (W8 ht.isList (I.ok.hd O) hi (by rw[aEV];lia) (by rw[aEV];lia) λh' L kp=>?_));have M:Inv X pins σ H { s with heap:=h',toks:=L }:=I.kept kp;simp only[aEV,<- el];have I2:Inv X pins σ (upd H h'.objs.size (.lst ((xs.drop i).take (xs.length+1 - n)))) { s with heap:=h'.push (seqObj "list" ((J.drop i).take (xs.length+1 - n)).toArray 0),toks:=L } :=
  M.laid (λb o e=>aEO _ e) (ah _) ⟨by rw[aE2,jp];lia,_,0,jE _ (fG _ z),aEU _ rfl⟩
 exact h pins _ σ _ _ _ Q I2 (kS (kS (jE _ z) (.cons (show RelV (.ref h'.objs.size) (.ref h'.objs.size) from rfl) .nil)) (fG _ (fG _ z))) (hw _ (M.hok.fresh (ah _)))
end
end L2
namespace L2
open PySem PySem.Spec PyProof.Rows
structure GDict (P:Program) (w:World) (K:PySem.W.Frag) (d:Addr) (kvs:List (Key×Value)):Prop where
 nsys:(d == sysModules)=false
 obj:∃ es ep,K.lookup d=some ⟨.type "dict",none,.dict es ep,#[]⟩/\KeysOf (bO P w) es/\Pairs (bO P w) es.toList kvs/\(kvs.map (·.1)).Nodup
def GDict.of {P:Program} {w:World} {K:PySem.W.Frag} {h:Heap} {d:Addr} {kvs:List (Key×Value)} (g:GDict P w K d kvs) (x:K.In h):h.DictOf (bO P w) d kvs:=by
 obtain⟨es,z,a,b,c,e⟩:=g.obj;exact⟨_,es,z,x _ _ a,⟨rfl,rfl,rfl⟩,rfl,b,c,e⟩
def sP (x:Str) (t:Tok):qA (Sum.inr x) (.str x t)=true:=by
 show (x == x)=true;exact ro x
abbrev eW (w:World) (p:Str×Tok×Addr):DictEntry:=⟨PyData.keyHash w.params p.1,.str p.1 p.2.1,.ref p.2.2⟩
def sQ {P:Program} {w:World} {K:PySem.W.Frag} {d:Addr} {L:Nat} (l:List (Str×Tok×Addr)) (h:K.lookup d=some ⟨.type "dict",none,.dict (l.map (eW w)).toArray L,#[]⟩) (hs:(d == sysModules)=false) (nd:(l.map (·.1)).Nodup):GDict P w K d (l.map λp=>(Sum.inr p.1,.ref p.2.2)):=by
 refine⟨hs,_,L,h,λe he=>?_,?_,?_⟩
 .have J:e∈l.map (eW w):=by simpa using he
  obtain⟨p,_,rfl⟩:=aEo.mp J;exact⟨Sum.inr p.1,sP p.1 p.2.1,rfl⟩
 .rw[List.toList_toArray];clear h nd hs
  induction l with
  | nil=>exact .nil
  | cons p l M=>exact .cons (sP p.1 p.2.1) rfl M
 .rw[aEf];have e:(l.map ((·.1)∘λp:Str×Tok×Addr=>((Sum.inr p.1:Key),Value.ref p.2.2)))=(l.map (·.1)).map (Sum.inr:Str->Key):=by rw[aEf];rfl
  rw[e];exact nd.map (f:=(Sum.inr:Str->Key)) λa b h=>by intro z;exact h (jz z)
section
variable {X:Cx} {i:Expr} {ty:TE} {p pos:Pos}
inductive u8 (kvs:List (Key×Value)) (neg:Bool) (Q:VK) (y:V) (H1:Hp):Prop
 | mk (x:Str) (h0_:y=.str x) (h1_:Q (.bl (neg ^^ (valueAt kvs (Sum.inr x)).isSome)) H1):u8 kvs neg Q y H1
def aEF (kvs:List (Key×Value)) (ty:TE) (z:Bool):TE:=fun σ H Q=>ty σ H λy H1=>u8 kvs z Q y H1
def wA {D:Str} {d:Addr} {kvs:List (Key×Value)} (g:GDict X.prog X.w X.K d kvs) (J:Gl X D) (L:X.mg D=some (.ref d)) (hi:PE X i ty) (hdb:(D == ("__debug__":Str))=false:=by decide):PC X .NotIn i (.Name D p) (aEF kvs ty true):=by
 intro pins s σ H Q I h;refine thn (hi pins s σ H _ I h) λU Y ⟨y,H1,z,M,x,O,q⟩=>?_;subst O;refine eG z J L ?_ hdb;refine wpAny_notIn_of (knd:=bO X.prog X.w) (k:=Sum.inr x) (qL (k:=Sum.inr x) M) g.nsys (g.of z.kIn).mapOf ?_;exact⟨.bl _,H1,z.tok _,by rfl,by simpa using q⟩
inductive R6 (kvs:List (Key×Value)) (Q:VK) (y:V) (H1:Hp):Prop
 | mk (x:Str) (t:Addr) (h0_:y=.str x) (h1_:valueAt kvs (Sum.inr x)=some (.ref t)) (h2_:Q (.ref t) H1):R6 kvs Q y H1
def aDS (kvs:List (Key×Value)) (ty:TE):TE:=fun σ H Q=>ty σ H λy H1=>R6 kvs Q y H1
def xH {D:Str} {d:Addr} {kvs:List (Key×Value)} (g:GDict X.prog X.w X.K d kvs) (J:Gl X D) (L:X.mg D=some (.ref d)) (hi:PE X i ty) (hs:aCB i) (hdb:(D == ("__debug__":Str))=false:=by decide):PE X (.Subscript (.Name D p) i pos) (aDS kvs ty):=by
 intro pins s σ H Q I h;refine P9 PySem.F.slot_dict_getitem.lookup hs (eG I J L (thn (hi pins s σ H _ I h) λY s2 ⟨y,H2,z,M,x,t,O,ht,U⟩=>?_) hdb);subst O;have dd:=g.of z.kIn;refine⟨?_,wpAny_getItem_of (knd:=bO X.prog X.w) (k:=Sum.inr x) (qL (k:=Sum.inr x) M) dd.mapOf ht ⟨.ref t,H2,z.tok _,rfl,U⟩⟩;obtain⟨o,es,ep,e,ex,_⟩:=dd;exact⟨o,e,ex.1⟩
end
end L2
namespace CW
open PySem L2
abbrev nT (n:Int):Str:=(toString n:Str)
abbrev aO (x:Str):List Nat:=x.cps.toList
def iK {x y:Str} (h:aO x=aO y):x=y:=by
 cases x;cases y
 congr 1
 exact Array.toList_inj.mp h
def cH (x y:Str):aO (x++y)=aO x++aO y:=by
 show (x.cps++y.cps).toList=_;simp[aO]
def bF (x:Str):(aO x).length=x.length:=jt
abbrev dg (m:Nat):List Nat:=(Nat.toDigits 10 m).map Char.toNat
def sR (m:Nat):aO (nT (m:Int))=dg m:=PySem.W.KIN.signs_num m
def xI (m:Nat):aO (nT (Int.negSucc m))=45 :: dg (m+1):=by
 show aO (Str.ofString ("-"++toString (m+1)))=_;have:=sR (m+1);have z:(Str.ofString ("-"++toString (m+1))).cps.toList=("-"++toString (m+1)).toList.map Char.toNat:=qg _;have J:(Str.ofString (toString ((m+1:Nat):Int))).cps.toList=(toString ((m+1:Nat):Int)).toList.map Char.toNat:=qg _;have L:(toString ((m+1:Nat):Int)).toList.map Char.toNat=dg (m+1):=J.symm.trans this;show (Str.ofString ("-"++toString (m+1))).cps.toList=_;rw[z,String.toList_append,aE1];exact congrArg (λl=>45 :: l) L
def R7 {m:Nat} (h:10<=m):dg m=dg (m / 10)++dg (m % 10):=by
 have z:m % 10<10:=Nat.mod_lt m (by decide);have t:Nat.toDigits 10 (m / 10)++Nat.toDigits 10 (m % 10)=Nat.toDigits 10 (10 * (m / 10)+m % 10):=Nat.toDigits_append_toDigits (by decide) (by lia) z;rw[Nat.div_add_mod]at t;unfold dg;rw[<- t,aE1]
def xJ:∀ m:Nat,m<10->dg m=[48+m]:=by decide
def u9:∀ (k m:Nat),m<10 ^ (k+1)->1<=(dg m).length/\(dg m).length<=k+1
 | 0,m,h=>by rw[xJ m (by simpa using h)];exact⟨ah _,ah _⟩
 | k+1,m,h=>by
  by_cases z:m<10
  .rw[xJ m z];exact⟨ah _,by simp⟩
  .have:=u9 k (m / 10) (by rw[Nat.pow_succ]at h;lia);rw[R7 (by lia),xJ (m % 10) (Nat.mod_lt m (by decide)),aEW];show 1<=(dg (m / 10)).length+1/\(dg (m / 10)).length+1<=k+1+1
   lia
def aAr (m:Nat) (h:0<m):∃ c r,dg m=c :: r/\c≠48:=by
 induction m using Nat.strongRecOn with
 | _ m z =>
  by_cases J:m<10
  .rw[xJ m J];exact⟨_,_,rfl,by lia⟩
  .obtain⟨c,r,e,L⟩:=z (m / 10) (by lia) (by lia);rw[R7 (by lia),e];exact⟨c,_,rfl,L⟩
def pE (m:Nat):PySem.NumText.AllDigits (dg m):=by
 intro c J;obtain⟨ch,z,e⟩:=aEo.mp J;have r:=PyProof.Rows.digit_range (Nat.isDigit_of_mem_toDigits (by decide) (by decide) z);rw[<- e];exact r
abbrev xL:Str:="0123456789"
abbrev cF:Str:="abcdefghijklmnopqrstuvwxyz"
def uO (x:Str):Prop:=x.cps.all (·<128)=true
def fZ {x:Str} (h:∀ c∈aO x,c<128):uO x:=by
 unfold uO;rw[<- nv,jj];intro c z;exact aE8 (h c z)
def bI (t z:Str) (most:Int):Bool:=decide (t≠"") && (decide ((t.length:Int)<=most) && (aO t).all λc=>decide (c∈aO z))
def G3 {t J:Str} {most:Int} (h0:aO t≠[]) (h1:((aO t).length:Int)<=most) (h2:∀ c∈aO t,c∈aO J):bI t J most=true:=by
 unfold bI;have e:t≠"":=λz=>h0 (by rw[z];rfl);rw[aE8 e,aE8 (by rw[<- bF];exact h1),kj,kj,jj];exact λc L=>aE8 (h2 c L)
def rpM (t:Str):Str:=Txt.removeprefix t "-"
def gW (t:Str):Bool:=bI (rpM t) xL 60 && (decide ((⟨#[(aO (rpM t)).headD 0]⟩:Str)≠"0") || decide (t="0"))
def v6 {c:Nat} (h:48<=c/\c<=57):c∈aO xL:=by
 have:aO xL=[48,49,50,51,52,53,54,55,56,57]:=by decide +kernel
 rw[this];simp
 lia
def wB (x:Str):(decide (0+("-":Str).length<=x.length) && Builtin.Str.subAt x "-" 0)=true↔(aO x)[0]?=some 45:=by
 have:=StrLaws.subAt_one x 45 0;rw[eH,decide_eq_true_iff];exact this
def sS {x:Str} (h:(aO x)[0]?≠some 45):rpM x=x:=by
 unfold rpM;rw[rk,b3 (λz=>h ((wB x).mp z))]
def sT {x:Str} {r:List Nat} (h:aO x=45 :: r):aO (rpM x)=r:=by
 unfold rpM;rw[rk,b4 ((wB x).mpr (by rw[h];rfl))];show ((x.cps.toList.drop 1).take (x.length - 1)).toArray.toList=r;have e:x.length=r.length+1:=by rw[<- bF,h];rfl
 have h':x.cps.toList=45 :: r:=h;rw[h',e];simp
def aDT (n:Int):aO (rpM (nT n))=dg n.natAbs:=by
 cases n with
 | ofNat m =>
  have e:aO (nT (Int.ofNat m))=dg m:=sR m;rw[sS]
  .exact e
  .rw[e];intro z;have:=pE m 45 (aEY z)
   lia
 | negSucc m=>exact sT (xI m)
def sU {n:Int} {c:Nat} (h:c∈aO (nT n)):c=45\/(48<=c/\c<=57):=by
 cases n with
 | ofNat m =>
  have e:aO (nT (Int.ofNat m))=dg m:=sR m;rw[e]at h;exact .inr (pE m c h)
 | negSucc m =>
  rw[xI]at h;rcases aEm.mp h with z | z
  .exact .inl z
  .exact .inr (pE _ c z)
def G4 {n:Int} (h:n.natAbs<10 ^ 60):1<=(dg n.natAbs).length/\(dg n.natAbs).length<=60:=u9 59 _ h
def kT {n:Int} (h:n.natAbs<10 ^ 60):1<=(aO (nT n)).length/\(aO (nT n)).length<=61:=by
 have:=G4 h;cases n with
 | ofNat m =>
  have e:aO (nT (Int.ofNat m))=dg m:=sR m;rw[e];have h':1<=(dg m).length/\(dg m).length<=60:=this
  lia
 | negSucc m =>
  rw[xI,aEe];have h':1<=(dg (m+1)).length/\(dg (m+1)).length<=60:=this
  lia
def aAs {n:Int} (h:n.natAbs<10 ^ 60):gW (nT n)=true:=by
 unfold gW;have e:=aDT n;have l:=G4 h;rw[G3 (by rw[e];intro z;rw[z]at l;simp at l) (by rw[e];lia) (λc J=>by rw[e]at J;exact v6 (pE _ c J)),kj]
 by_cases z:n=0
 .rw[z,sr];right
  decide +kernel
 .obtain⟨c,r,L,J⟩:=aAr n.natAbs (by lia);rw[e,L,sr];left
  refine aE8 λz=>J ?_;have M:=congrArg aO z;have:[c]=[48]:=M;exact(py this).1
def v9 {n:Int} (h:n.natAbs<10 ^ 60):PySem.intText? (nT n)=some n:=by
 have l:=kT h;have J:(nT n).length<=4300:=by rw[<- bF];lia
 have ld:=G4 h;cases n with
 | ofNat m =>
  have e:aO (nT (Int.ofNat m))=dg m:=sR m;have:=tq (x:=nT (Int.ofNat m)) (by rw[show (nT (Int.ofNat m)).cps.toList=dg m from e];exact pE m) (by rw[show (nT (Int.ofNat m)).cps.toList=dg m from e];intro z;have h':1<=(dg m).length:=ld.1;rw[z]at h';simp at h') J;rw[this,show (nT (Int.ofNat m)).cps.toList=dg m from e];exact congrArg (λk:Nat=>some (k:Int)) (tu m)
 | negSucc m =>
  have:=PySem.intText_neg (x:=nT (Int.negSucc m)) (xI m) (pE _) (by intro z;have h':1<=(dg (m+1)).length:=ld.1;rw[z]at h';simp at h') J;rw[this];have e:PySem.NumText.digitsVal (dg (m+1))=m+1:=tu (m+1);rw[e];rfl
def zS {c:Nat}:∀ {a b r s:List Nat},c∉a->c∉b->a++c :: r=b++c :: s->a=b/\r=s
 | [],[],_,_,_,_,h=>⟨rfl,(py h).2⟩
 | [],y :: b,_,_,_,J,h=>absurd ((py h).1 ▸ aEP) J
 | x :: a,[],_,_,L,_,h=>absurd ((py h).1 ▸ aEP) L
 | x :: a,y :: b,r,s,L,J,h=>by
  obtain⟨e,t⟩:=py h;obtain⟨M,O⟩:=zS (λz=>L (aEQ _ z)) (λz=>J (aEQ _ z)) t;exact⟨by rw[e,M],O⟩
def dC (z:Str) (rest:List Str) (h:rest≠[]):aO (Str.join " " (z :: rest))=aO z++32 :: aO (Str.join " " rest):=by
 cases rest with
 | nil=>exact absurd rfl h
 | cons y ys =>
  show aO (z++" "++Str.join " " (y :: ys))=_;rw[cH,cH,lw];rfl
def zT:∀ {zs ws:List Str},zs≠[]->ws≠[]->(∀ z∈zs,32∉aO z)->(∀ z∈ws,32∉aO z)->Str.join " " zs=Str.join " " ws->zs=ws
 | [],_,h,_,_,_,_=>absurd rfl h
 | _,[],_,h,_,_,_=>absurd rfl h
 | [z],[w],_,_,_,_,h=>by rw[show z=w from h]
 | [z],w :: L :: ws,_,_,J,hw,h=>by
  have e:=congrArg aO h;rw[dC w (L :: ws) (by simp)]at e;have:32∈aO z:=by
   rw[show aO (Str.join " " [z])=aO z from rfl]at e;rw[e];simp
  exact absurd this (J z aEP)
 | z :: M :: zs,[w],_,_,J,hw,h=>by
  have e:=congrArg aO h;rw[dC z (M :: zs) (by simp)]at e;have:32∈aO w:=by
   rw[show aO (Str.join " " [w])=aO w from rfl]at e;rw[<- e];simp
  exact absurd this (hw w aEP)
 | z :: M :: zs,w :: L :: ws,_,_,J,hw,h=>by
  have e:=congrArg aO h;rw[dC z (M :: zs) (by simp),dC w (L :: ws) (by simp)]at e;obtain⟨U,Y⟩:=zS (J z aEP) (hw w aEP) e;rw[iK U,zT (by simp) (by simp) (λx O=>J x (aEQ _ O)) (λx O=>hw x (aEQ _ O)) (iK Y)]
def sV (x y:Str):Txt.split x y≠[]:=by
 unfold Txt.split;split
 .simp
 .split
  .simp
  .unfold Builtin.Str.partsBetween;intro z;have:=congrArg List.length z;simp at this
def iL {zs:List Str} (h:zs≠[]) (J:∀ z∈zs,32∉aO z):Txt.split (Builtin.Str.glued " " zs) " "=zs:=by
 rw[jl];exact zT (sV _ _) h (λp L=>StrLaws.split_free (Str.join " " zs) 32 p L) J (qm _ _)
def lU (zs:List Str) (n:Nat) (h:∀ z∈zs,z.length<=n):(Builtin.Str.glued " " zs).length<=zs.length * (n+1):=by
 rw[jl]
 induction zs with
 | nil=>exact ka _
 | cons z r J =>
  have h1:=h z aEP;have h2:=J λw hw=>h w (aEQ _ hw);cases r with
  | nil =>
   show z.length<=_;simp
   lia
  | cons y ys =>
   rw[<- bF,dC z (y :: ys) (by simp),aEW,aEe,bF,bF,aEe,Nat.succ_mul]
   lia
def pF {zs:List Str} (h:∀ z∈zs,∀ c∈aO z,c<128):∀ c∈aO (Builtin.Str.glued " " zs),c<128:=by
 rw[jl]
 induction zs with
 | nil=>intro c hc;cases hc
 | cons z r J =>
  cases r with
  | nil=>exact h z aEP
  | cons y ys =>
   intro c hc;rw[dC z (y :: ys) (by simp)]at hc;rcases aEn.mp hc with hc | hc
   .exact h z aEP c hc
   .rcases aEm.mp hc with e | hc
    .lia
    .exact J (λw hw=>h w (aEQ _ hw)) c hc
def x0 (zs:List Str) (n k:Nat) (h:∀ z∈zs,z.length<=n):zs.foldl (λm z=>m+z.length+(" ":Str).length) k<=k+zs.length * (n+1):=by
 induction zs generalizing k with
 | nil=>simp
 | cons z r J =>
  have h1:=h z aEP;have h2:=J (k+z.length+(" ":Str).length) λw hw=>h w (aEQ _ hw);have h3:(" ":Str).length=1:=by decide
  rw[aEd,aEe,Nat.succ_mul]
  lia
end CW
namespace L2
open PySem PySem.Spec PyProof.Rows
section
variable {X:Cx}
@[irreducible] def PEi (X:Cx) (e:Expr) (t:TE):Prop:=PE X e t
def PEi.out {X:Cx} {e:Expr} {t:TE} (h:PEi X e t):PE X e t:=by unfold PEi at h;exact h
def PEi.of {X:Cx} {e:Expr} {t:TE} (h:PE X e t):PEi X e t:=by unfold PEi;exact h
end
end L2
namespace CW
open PySem L2
structure Wd (mg:Str->Option Value):Prop where
 LETTERS:∃ t,mg "LETTERS"=some (.str cF t)
 FIGURES:∃ t,mg "FIGURES"=some (.str xL t)
 MOST_LETTERS:∃ t,mg "MOST_LETTERS"=some (.int 8 t)
 MOST_FIGURES:∃ t,mg "MOST_FIGURES"=some (.int 60 t)
def zU {X:Cx} {x z:Str} {pos:Pos} (L:Gl X x) (J:∃ t,X.mg x=some (.str z t)) (hd:(x == ("__debug__":Str))=false:=by decide):PE X (.Name x pos) (tC (.str z)):=by
 obtain⟨t,J⟩:=J;exact dJ L J ⟨t,rfl⟩ hd
def zV {X:Cx} {x:Str} {z:Int} {pos:Pos} (L:Gl X x) (J:∃ t,X.mg x=some (.int z t)) (hd:(x == ("__debug__":Str))=false:=by decide):PE X (.Name x pos) (tC (.int z)):=by
 obtain⟨t,J⟩:=J;exact dJ L J ⟨t,rfl⟩ hd
def fR (x:Str):Option (Int×Int):=if x="shut" then some (1,0)else if x="walk" then some (1,2)else if x="put" then some (1,1)else if x="take" then some (1,1)else if x="mirror" then some (1,0)else if x="lay" then some (2,1)else if x="late" then some (1,3)else if x="strike" then some (1,1)else none
structure aB1 (P:Program) (w:World) (K:PySem.W.Frag) (d:Addr) (kvs:List (Key×Value)):Prop where
 dict:GDict P w K d kvs
 has:∀ x,(PySem.valueAt kvs (Sum.inr x)).isSome=(fR x).isSome
 tup:∀ x n m,fR x=Option.some (n,m)->∃ t,PySem.valueAt kvs (Sum.inr x)=some (.ref t)/\∀ H,SqT K H t [.int n,.int m]
end CW
namespace L2
open PySem PySem.Spec PyProof.Rows
section
variable {X:Cx}
def x3 {i:Nat} {x:Str} {pos:Pos} {pins:List (Addr×Obj)} {s:Shared} {σ:St} {H:Hp} {v:V} {Q:Value->Shared->Prop} {E:Value->Shared->Prop} (I:Inv X pins σ H s) (M:X.N[i]?=some x) (O:Vis X.env.scope x) (e:σ[i]?=some (some v)) (h:∀ u,RelV v u->Q u s)
 (hd:(x == ("__debug__":Str))=false:=by decide) (J:(x == ("__classdict__":Str))=false:=by decide):wpAny (model X.prog X.w) X.A (eval (.Name x pos) X.env) Q E s:=by
 obtain⟨m,U,Y⟩:=I.loc;obtain⟨u,r,l⟩:=Y i x v M e O;rcases l with ⟨hk,hm⟩ | ⟨hk,c,L,z⟩
 .exact qq (pk I.ok.kind hk U hm (h u r)) hd
 .rcases hk with hk | hk
  .exact qq (qa I.ok.kind hk L z (h u r)) hd
  .exact qq (wpAny_loadName_free I.ok.kind hk L z (h u r) J) hd
end
open PySem.W
end L2
namespace L2
open PySem PySem.Spec PyProof.Rows
def aDU (H:Hp) (Q:VK) (xs:List V):Prop:=∀ (p:Addr) (H':Hp),Same H H'->H' p=some (.tup xs)->Q (.ref p) H'
section
variable {prog:Program} {w:World} {A:Around} {E:Value->Shared->Prop} {s:Shared}
def x4 {t b:Addr} {vs ws:List Value} {Q:Value->Shared->Prop} (ht:IsTup s.heap t vs.toArray) (hb:IsTup s.heap b ws.toArray) (hv:vs=[])
 (h1:Q (.ref b) s):wpAny (model prog w) A (binaryOp .Add (.ref t) (.ref b)) Q E s:=by
 obtain⟨⟨cls,dd,data,sl⟩,ho,U,n,hd⟩:=id ht;obtain⟨⟨Y,M,data2,O⟩,z,J,n2,L⟩:=id hb;simp only at U hd J L;subst U hd J L;exact uq ⟨_,ho,rfl⟩ ⟨_,z,rfl⟩ rn uk oq og (nz _ _)
  (tuple_addW0 t b vs.toArray ws.toArray n n2 dd M sl O (by simp[hv])) ⟨ho,z,h1⟩
def mH {t J:Addr} {items:Array Value} {U Y:Value} {lo hi:Option Int} {Q:Value->Shared->Prop} (ht:IsTup s.heap t items) (hs:s.heap.IsSliceOf J U Y .none) (pl:IsPart U lo) (pu:IsPart Y hi)
 (hw:HT.sIx items.size 0 lo=0/\HT.sIx items.size items.size hi=items.size) (h:Q (.ref t) s):wpAny (model prog w) A (getItem (.ref t) (.ref J)) Q E s:=by
 obtain⟨os,L,M,au⟩:=id hs;have O:s.TypeIs (.ref J) "slice":=⟨os,L,M⟩;unfold getItem
 try with_reducible refine je ?_
 first | refine aEL (aEM ?_) | skip
 refine aEL (wpAny_sequenceKey ht.typeIs (by decide) ?_);refine aEL (rf (name:=Str.ofString "__getitem__") ht.typeIs kc
  (wpAny_call_entry kc ht.typeIs entry_tuple_getitem ?_ (args_tuple_getitem _ _)))
 show wpAny _ _ (Builtin.Tuple.tupleItemsOf (.ref t) >>= _) _ _ s;refine aEL (tupleItemsOf_ ht ?_);refine aEL (sk O ?_);rw[b4 (by decide)];refine aEL (HT.sliceApplied_gen hs pl pu ?_);have z:(((HT.sIx items.size 0 lo:Nat):Int) == 0 && (1:Int) == 1 && (HT.sIx items.size items.size hi - HT.sIx items.size 0 lo) == items.size)=true:=by
  rw[hw.1,hw.2];simp
 show wpAny _ _ (if (((HT.sIx items.size 0 lo:Nat):Int) == 0 && (1:Int) == 1 && (HT.sIx items.size items.size hi - HT.sIx items.size 0 lo) == items.size)=true then _ else _) _ _ s;rw[b4 z];unfold Builtin.Tuple.tupleIsExact;refine aEL (aEL (sk ht.typeIs (aEM ?_)));rw[b4 (by decide)];exact aEL (wpAny_rule (aEM ⟨_,rfl,aEM h⟩))
end
section
variable {X:Cx}
inductive R8 (x:V) (y:V) (H:Hp) (Q:VK):Prop
 | mk (a:_) (b:_) (xs:_) (ys:_) (h0_:x=.ref a) (h1_:y=.ref b) (h2_:H a=some (.tup xs)) (h3_:H b=some (.tup ys)) (h4_:xs.length+ys.length<=sizeLine) (h5_:aDU H Q (xs++ys)):R8 x y H Q
def aDV:R2:=λx y H Q=>R8 x y H Q
def nP:OpR X (binaryOp .Add) aDV:=by
 intro pins s σ H x y v u Q I L M h;obtain⟨a,b,xs,ys,rfl,rfl,z,J,Y,q⟩:=h
 by_cases O:xs=[]
 .subst O;cases L;cases M;obtain⟨au,r1,p1,_⟩:=I.tuple (SqT.of z);obtain⟨U,r2,p2,_⟩:=I.tuple (SqT.of J);exact x4 p1 p2 (r1.nil_iff.mpr rfl) ⟨.ref b,H,I,rfl,q b H (Same.refl _) (by rw[oj];exact J)⟩
 .refine O7 pins s σ H _ _ v u Q I L M ⟨a,b,xs,ys,rfl,rfl,SqT.of z,SqT.of J,O,Y,λe=>?_,λ_ p hp=>q p _ (Same.upd hp) aJ⟩;subst e;exact q a H (Same.refl _) (by rw[jv];exact z)
inductive x5 (x:V) (lo:Option Int) (hi:Option Int) (H:Hp) (Q:VK):Prop
 | mk (a:_) (xs:_) (h0_:x=.ref a) (h1_:H a=some (.tup xs)) (h2_:aDU H Q (fP xs lo hi)):x5 x lo hi H Q
def aEG:V->Option Int->Option Int->Hp->VK->Prop:=λx lo hi H Q=>x5 x lo hi H Q
def R9:SlR X aEG:=by
 intro pins s σ H x v O U lo hi Y Q I L hs pl M h;obtain⟨a,xs,rfl,z,q⟩:=h
 by_cases hw:HT.sIx xs.length 0 lo=0/\HT.sIx xs.length xs.length hi=xs.length
 .cases L;obtain⟨J,r,ht,hz⟩:=I.tuple (SqT.of z);have hlen:J.toArray.size=xs.length:=by rw[aEV];exact r.length.symm
  refine⟨"tuple",_,PyProof.Rows.slot_tuple_getitem.lookup,ht.typeIs,?_⟩;refine mH ht hs pl M (by rw[hlen];exact hw) ⟨.ref a,H,I,rfl,q a H (Same.refl _) ?_⟩;unfold fP;rw[hw.1,hw.2,ou,so,aE0];exact z
 .exact i3 pins s σ H _ v O U lo hi Y Q I L hs pl M ⟨a,xs,rfl,SqT.of z,hw,λp hp=>q p _ (Same.upd hp) aJ⟩
end
section
variable {prog:Program} {w:World} {A:Around} {E:Value->Shared->Prop} {s:Shared}
def x6 {l:Addr} {items:Array Value} {n i:Nat} {Q:List Value->Shared->Prop} (hl:IsTup s.heap l items) (hh:A.handled=none) (hi:i<n) (hn:n<=items.size+1) (hz:items.size<=16384)
 (h:∀ (h':Heap) (tk:Nat),(∀ b o,s.heap.get? b=some o->h'.get? b=some o)->Q (items.toList.take i++[.ref h'.objs.size]++(items.toList.drop i).drop (items.size+1 - n)) { s with heap:=h'.push (seqObj "list" ((items.toList.drop i).take (items.size+1 - n)).toArray 0),toks:=tk }):wpAny (model prog w) A (unpackItems (.ref l) n (some i)) Q E s:=by
 have au:l≠s.heap.objs.size:=by obtain⟨o,ho,_⟩:=hl;exact aE9 (aET ho)
 unfold unpackItems;refine aEL ?_;unfold notIterableAtAll;refine aEL (ss hl.typeIs slot_tuple_iter.lookup ?_);refine aEM ?_;simp only[oh,rb];refine aEL (je (iter_tuple hl ?_));refine aEL (je (draw_tuple au i 0 _ _ ⟨_,aEU _ rfl,rfl,rfl⟩ (hl.push _) (by lia) λU z J=>?_));have L:IsTup U l items:=(hl.push _).extBut J.extBut au;rw[Nat.zero_add]at z;have M:=z;obtain⟨oi,ax,_⟩:=M;have O:=L;obtain⟨ol,ay,_⟩:=O;rw[ou];have az:(items.toList.take i).length=i:=by rw[aE2,jt];lia
 rw[b3 (show ¬ ((items.toList.take i).length<i)by rw[az];lia)];refine aEL (je (PySem.W.kun_collect (s:={ s with heap:=U }) (T:="tuple_iterator") (.inr (.inr (.inr rfl))) (Walks.tuple (A:=A.in1) hh s.heap.objs.size l au items) (λj u st=>st.1.typeIs) (k:=i) (by lia) ⟨z,L⟩ (aET ax) (aET ay) (λY tk hk=>?_) (by rw[ly];lia)));have av:(items.toList.drop i).length=items.size - i:=by rw[jp,jt]
 have aw:(items.toList.drop i).length - (n - 1 - i)=items.size+1 - n:=by rw[av];lia
 show wpAny _ _ (if (items.toList.drop i).length<n - 1 - i then _ else _) _ _ _;rw[b3 (by rw[av];lia)];show wpAny _ _ (newList ((items.toList.drop i).take ((items.toList.drop i).length - (n - 1 - i))) >>= λd=>pure (items.toList.take i++[d]++(items.toList.drop i).drop ((items.toList.drop i).length - (n - 1 - i)))) _ _ _;rw[aw];have he:∀ b o,s.heap.get? b=some o->Y.get? b=some o:=λb o e=>hk b o (aE9 (aET e)) (J.extBut b o (aE9 (aET e)) (aEO _ e));exact aEL (wpAny_newList (aEM (h Y tk he)) (by rw[aE2,av,ly];lia))
end
section
variable {X:Cx} {pos:Pos}
inductive zW (K:PySem.W.Frag) (n:Nat) (i:Nat) (t:TGs) (v:V) (σ:St) (H:Hp) (Q:St->Hp->Prop):Prop
 | mk (a:_) (xs:_) (h0_:v=.ref a) (h1_:SqT K H a xs) (h2_:i<n) (h3_:n<=xs.length+1) (h4_:xs.length<=16384) (h5_:∀ D,H D=none->t (xs.take i++[.ref D]++(xs.drop i).drop (xs.length+1 - n)) σ (upd H D (.lst ((xs.drop i).take (xs.length+1 - n)))) Q):zW K n i t v σ H Q
def aCM (K:PySem.W.Frag) (n i:Nat) (t:TGs):TG:=λv σ H Q=>zW K n i t v σ H Q
def x8 {es:List Expr} {k:Nat} {t:TGs} {n i:Nat} (O:X.calm=true) (h:PGs X es t) (U:(assignEach es X.env).length=n:=by rfl) (hst:(assignEach es X.env).findIdx? (·.1)=some i:=by rfl):PG X (.Tuple es k pos) (aCM X.K n i t):=by
 intro pins s σ H v u Q I r hw;obtain⟨a,xs,Y,hq,hi,hl,hz,hw⟩:=hw;subst Y;cases r;obtain⟨J,z,ht,au⟩:=I.tuple hq;have el:=z.length;rw[assign_Tuple];refine aEL (jw ?_);unfold unpack;rw[U,hst];refine aEL (je (x6 ht (I.ok.hd O) hi (by rw[aEV];lia) (by rw[aEV];lia) λh' L kp=>?_));have M:Inv X pins σ H { s with heap:=h',toks:=L }:=I.kept kp;simp only[aEV,<- el];have I2:Inv X pins σ (upd H h'.objs.size (.lst ((xs.drop i).take (xs.length+1 - n)))) { s with heap:=h'.push (seqObj "list" ((J.drop i).take (xs.length+1 - n)).toArray 0),toks:=L } :=
  M.laid (λb o e=>aEO _ e) (ah _) ⟨by rw[aE2,jp];lia,_,0,jE _ (fG _ z),aEU _ rfl⟩
 exact h pins _ σ _ _ _ Q I2 (kS (kS (jE _ z) (.cons (show RelV (.ref h'.objs.size) (.ref h'.objs.size) from rfl) .nil)) (fG _ (fG _ z))) (hw _ (M.hok.fresh (ah _)))
end
def mX (P:Program) (w:World) (K:PySem.W.Frag) (mg:Str->Option Value) (base:Heap) (C:Addr) (m:Str) (k:Nat) (ps:List Str) (sp:Sp):Prop :=
 ∃ f fd,FnOk P w K mg base CX0 k f fd ps sp/\V2 K C m f/\Binds K fd ps []
def iM (P:Program) (w:World) (K:PySem.W.Frag) (mg:Str->Option Value) (base:Heap) (x:Str) (C:Addr) (k:Nat) (ps:List Str) (sp:Sp):Prop :=
 ∃ f fd,FnOk P w K mg base CX0 k f fd ps sp/\Mk K C f/\mg x=some (.ref C)/\Binds K fd ps []
section
variable {X:Cx} {C:Addr} {x m:Str} {j k:Nat} {ps:List Str} {sp:Sp} {ta:TE} {t:TA} {o e:Expr} {es:List Expr} {p pos apos:Pos}
def xM {pl:Sem Bool} (M:mX X.prog X.w X.K X.mg X.base C m j ps sp) (c:Cls X.K C) (J:Room k X.A) (he:PE X o ta) (L:PA X (e :: es) t) (O:j<=k:=by decide)
 (hst:starEach (e :: es) X.env=(false,eval e X.env) :: starEach es X.env:=by rfl) (hpl:(backTo pos (starEach es X.env)).any (·.1)=false:=by rfl)
 (ht:eval (.Call (.Attribute o m apos) (e :: es) [] pos) X.env=(do
  let z <- eval o X.env
  standAt apos.atName
  let (f,first) <- holding [z] (getMethod z m pl)
  callWith pos f first (backTo pos (starEach (e :: es) X.env)) (backToKw pos (keywordEach [] X.env))):=by rfl) :
 PE X (.Call (.Attribute o m apos) (e :: es) [] pos) (vK C m sp [] E0 ta t):=by
 obtain⟨f,fd,G,U,Y⟩:=M;exact O3 (pl:=pl) (hst:=hst) (hpl:=hpl) (ht:=ht) he c U G (J.mono O) Y .nil eJ L
def S0 {pl:Sem Bool} (M:mX X.prog X.w X.K X.mg X.base C m j ps sp) (c:Cls X.K C) (J:Room k X.A) (he:PE X o ta) (L:j<=k:=by decide)
 (ht:eval (.Call (.Attribute o m apos) [] [] pos) X.env=(do
  let z <- eval o X.env
  standAt apos.atName
  let (f,first) <- holding [z] (getMethod z m pl)
  callWith pos f first (backTo pos (starEach [] X.env)) (backToKw pos (keywordEach [] X.env))):=by rfl) :
 PE X (.Call (.Attribute o m apos) [] [] pos) (vK C m sp [] E0 ta wU):=by
 obtain⟨f,fd,G,O,U⟩:=M;exact zC (pl:=pl) (ht:=ht) he c O G (J.mono L) U .nil eJ
def sW (N:iM X.prog X.w X.K X.mg X.base x C j ps sp) (z:Room k X.A) (J:Gl X x) (L:PA X (e :: es) t) (O:j+1<=k:=by decide) (hdb:(x == ("__debug__":Str))=false:=by decide)
 (he:starEach (e :: es) X.env=(false,eval e X.env) :: starEach es X.env:=by rfl) (hpl:(backTo pos (starEach es X.env)).any (·.1)=false:=by rfl) :
 PE X (.Call (.Name x p) (e :: es) [] pos) (O1 C sp [] E0 t):=by
 obtain⟨f,fd,G,M,U,Y⟩:=N;exact aAe (hdb:=hdb) (he:=he) (hpl:=hpl) M G (z.mono O) J U Y .nil eJ L
def S1 (N:iM X.prog X.w X.K X.mg X.base x C j ps sp) (z:Room k X.A) (J:Gl X x) (L:j+1<=k:=by decide) (hdb:(x == ("__debug__":Str))=false:=by decide) :
 PE X (.Call (.Name x p) [] [] pos) (O1 C sp [] E0 wU):=by
 obtain⟨f,fd,G,M,O,U⟩:=N;exact c9 (hdb:=hdb) M G (z.mono L) J O U .nil eJ
inductive zX (xs:List V) (H:Hp) (Q:VK):Prop
 | mk (a:_) (kvs:_) (h0_:xs=[.ref a]) (h1_:H a=some (.dK kvs)) (h2_:∀ d,H d=none->Q (.ref d) (upd H d (.dK kvs))):zX xs H Q
def sX:eX X (.type "dict") zX:=by
 intro pins s σ H xs us Q I r h;obtain⟨a,kvs,rfl,M,q⟩:=h;obtain⟨u,rfl,O⟩:=kE r;cases O;obtain⟨z,J,vs,L,dd⟩:=zI I.hok M;have U:vs.length<=sizeLine:=by have:=L.length;lia
 refine kt_call_dict (knd:=bO X.prog X.w) J dd U λh' hd hs=>?_;have Y:=I.hok.fresh (ah s.heap.objs.size);refine⟨.ref s.heap.objs.size,_,I.laid (h':=h') (t':=s.toks) (λb o e=>?_) (ah _) (m5 z (beq_eq_false_iff_ne.mpr (lq (aE9 I.big))) L hd),rfl,q _ Y⟩;exact hs.extBut b o (aE9 (aET e)) (aEO _ e)
end
end L2
namespace CW
open PySem L2
def SameD (d:Addr) (H H':Hp):Prop:=∀ b o,b≠d->H b=some o->H' b=some o
end CW
namespace CW
abbrev Trs:=List (Int×Int)
end CW
namespace CW
open PySem L2
end CW
namespace L2
open PySem PySem.Spec PyProof.Rows
def aDW (t u:TS):TS:=λD σ H=>∀ M:St->Hp->Prop,(∀ z H',u D z H'->M z H')->t { D with nx:=M } σ H
def fH {X:Cx} {st:Stmt} {rest:List Stmt} {t u:TS} (h1:PS X st t) (h2:PSs X rest u):PSs X (st :: rest) (aDW t u):=λpins s σ H D I h=>aE h1 h2 pins s σ H D I (h (u D) λ_ _ z=>z)
end L2
namespace L2
open PySem
open PyProof.Rows PySem.MeetsSeq PySem.SeqAt PySem.Spec
open PySem.AutoSeq1 (wpAny_loadPart')
section
variable {X:Cx}
inductive zY (t:TS) (D:kI) (σ:St) (H:Hp):Prop
 | mk (d:_) (kvs:_) (h0_:H d=some (.dK kvs)) (h1_:t { D with nx:=fun σ' H'=>∃ od,H' d=some (.frz od (.dK kvs))/\D.nx σ' (upd H' d (.dK kvs)) } σ H):zY t D σ H
def aCN (t:TS):TS:=λD σ H=>zY t D σ H
def aAt {st:Stmt} {t:TS} (h:PS X st t):PS X st (aCN t):=by
 intro pins s σ H D I q;obtain⟨d,kvs,hd,q⟩:=q;have h0:∀ o u,X.H₀ d≠some (.frz o u):=λo u z=>by
  have:=I.base.frzs d o u z;rw[hd]at this;cases this
 refine thn (h pins s σ H _ I q) λf U J=>?_;cases f with
 | next =>
  obtain⟨L,H',M,od,O,J⟩:=J;exact⟨L,_,M.thaw O h0,J⟩
 | ret v=>exact J
 | brk=>exact J
 | cont=>exact J
end
end L2
namespace CW
open PySem L2
end CW
namespace CW
end CW
namespace CW
open PySem L2
end CW
namespace CW
end CW
namespace CW
open PySem L2
structure Rw (r:List Int):Prop where
 row:Row r
 len:r.length<=60
abbrev kvW (ws:Trs):List (Key×V):=ws.map λq=>((Sum.inl q.1:Key),V.int q.2)
def W9 {κ:Type} [DecidableEq κ] {p:κ×V} {r:List (κ×V)} {k:κ} {v:V} (e:p.1=k) (h:k∉r.map (·.1)):jC (p :: r) k v=(p.1,v) :: r:=by
 unfold jC;rw[b4 (by rw[mi,aE8 e,ur]),aEb,b4 e]
 congr 1
 conv=>rhs;rw[<- List.map_id r]
 refine ug λx J=>?_;rw[b3 (λz=>h (aEo.mpr ⟨x,J,z⟩))];rfl
def X0 {κ:Type} [DecidableEq κ] {p:κ×V} {r:List (κ×V)} {k:κ} {v:V} (e:¬ p.1=k):jC (p :: r) k v=p :: jC r k v:=by
 unfold jC;rw[mi,aE7 e,ul]
 by_cases c:(r.any λz=>decide (z.1=k))=true
 .rw[b4 c,b4 c,aEb,b3 e]
 .rw[b3 c,b3 c];rfl
def pG {x:Str} (h:uO x):PyData.strOk x=true:=by
 unfold uO at h;unfold PyData.strOk;rw[<- nv,jj]at *;intro c z;have:=ke (h c z);exact aE8 (by lia)
def jF {x:Str} (h:uO x):SeqAt.shaped (.str x)=true:=by
 simp[SeqAt.shaped,PyData.canLay0,PyData.depth,pG h]
def S3 (x y:Str):PyData.eqv (.str x) (.str y)=decide (x=y):=by
 simp only[PyData.eqv]
 by_cases h:x=y
 .rw[aE8 h,h];exact ro y
 .rw[aE7 h];exact beq_eq_false_iff_ne.mpr h
structure Txs (x:Str):Prop where
 asc:uO x
 len:x.length<=5000
inductive xN (vs:List V) (H:Hp) (Q:VK) (E_:XK):Prop
 | mk (t sg:Str) (most:Int) (h0_:vs=[.str t,.str sg,.int most]) (h1_:Txs t) (h2_:∀ H',Same H H'->Q (.bl (bI t sg most)) H'):xN vs H Q E_
inductive rD (vs:List V) (H:Hp) (Q:VK) (E_:XK):Prop
 | mk (t:Str) (h0_:vs=[.str t]) (h1_:Txs t) (h2_:∀ H',Same H H'->Q (.bl (bI t cF 8)) H'):rD vs H Q E_
inductive G5 (vs:List V) (H:Hp) (Q:VK) (E_:XK):Prop
 | mk (t:Str) (h0_:vs=[.str t]) (h1_:Txs t) (h2_:∀ H',Same H H'->Q (.bl (gW t)) H'):G5 vs H Q E_
def aCO {t:Str} (h:Txs t):Txs (rpM t):=by
 by_cases c:(aO t)[0]?=some 45
 .obtain⟨r,e⟩:∃ r,aO t=45 :: r:=by
   cases hs:aO t with
   | nil=>rw[hs]at c;cases c
   | cons x r=>rw[hs]at c;exact⟨r,by rw[show x=45 by simpa using c]⟩
  have J:=sT e;have z:=h.asc;unfold uO at z;rw[<- nv,jj]at z;refine⟨fZ λd hd=>?_,?_⟩
  .rw[J]at hd;exact ke (z d (by show d∈aO t;rw[e];exact aEQ _ hd))
  .rw[<- bF,J];have:=h.len;rw[<- bF,e]at this;simp at this
   lia
 .rw[sS c];exact h
def S4 {t z:Str} {most:Int} (h:bI t z most=true):∃ c r,aO t=c :: r:=by
 cases hs:aO t with
 | nil =>
  have:t="":=iK (by rw[hs];rfl);unfold bI at h;rw[this]at h;simp at h
 | cons c r=>exact⟨c,r,rfl⟩
structure Dd where
 word:Str
 names:List Str
 nums:List Int
 b:Bool
inductive DeedAt (H:Hp):V->Dd->Prop
 | plain {a:Addr} {w:Str} {ns:List Str} {xs:List Int}:H a=some (.tup (.str w :: (ns.map V.str++xs.map V.int)))->DeedAt H (.ref a) ⟨w,ns,xs,false⟩
 | build {a t:Addr} {w n:Str} {xs:List Int}:H a=some (.tup [.str w,.str n,.ref t])->H t=some (.tup (xs.map V.int))->DeedAt H (.ref a) ⟨w,[n],xs,true⟩
def DeedAt.same {H H':Hp} {v:V} {d:Dd} (g:Same H H') (h:DeedAt H v d):DeedAt H' v d:=by
 cases h with
 | plain e=>exact .plain (g _ _ e)
 | build z J=>exact .build (g _ _ z) (g _ _ J)
def txs (d:Dd):List Str:=d.word :: (d.names++d.nums.map nT)
def txt (d:Dd):Str:=Builtin.Str.glued " " (txs d)
def sY:List Str:=["build","shut","walk","put","take","mirror","lay","late","strike"]
def wC {w:Str} {p:Int×Int} (h:fR w=some p):w∈sY/\w≠"build"/\(1:Int)<=p.1:=by
 unfold fR at h
 repeat' split at h
 all_goals first
  | (rename_i e;subst e;cases h;exact⟨by simp[sY],by decide +kernel,by decide⟩)
  | cases h
def zZ:∀ w∈sY,(∀ c∈aO w,97<=c/\c<=122)/\w.length<=6:=by decide +kernel
def aAu {c:Nat} (h:c∈aO cF):97<=c/\c<=122:=by
 have:∀ c∈aO cF,97<=c/\c<=122:=by decide +kernel
 exact this c h
def jG {n:Str} (h:bI n cF 8=true):(∀ c∈aO n,97<=c/\c<=122)/\n.length<=8:=by
 unfold bI at h;rw[eH,eH,jj]at h;obtain⟨_,h1,h2⟩:=h;exact⟨λc z=>aAu (ke (h2 c z)),by have:=ke h1;lia⟩
def log2_lt {m k:Nat} (h:m<2 ^ k) (h0:0<k):m.log2<k:=by
 by_cases z:m=0
 .subst z;simpa using h0
 .exact(Nat.log2_lt z).mpr h
def iO {n:Int} (h:n.natAbs<10 ^ 60):sN n:=by
 refine⟨ut (log2_lt (k:=200) (ut h (by decide)) (by decide)) (by decide),?_⟩;have:=kT h;rw[bF]at this;exact fy this.2 (by decide)
def x9 (us:List V) (i j:Nat) (hi:i<=us.length) (z:j<=us.length):fP us (some (i:Int)) (some (j:Int))=(us.drop i).take (j - i):=by
 unfold fP;rw[HT.sIx_nat,HT.sIx_nat,om hi,om z]
def nQ (d:Dd):PyData:=if d.b=true then .tuple [.str d.word,.str (d.names.headD ""),.tuple (d.nums.map PyData.int)]else .tuple (.str d.word :: (d.names.map PyData.str++d.nums.map PyData.int))
def Dens.strs {H:Hp}:∀ ns:List Str,Dens H (ns.map V.str) (ns.map PyData.str)
 | []=>.nil
 | n :: r=>.cons (.str n) (Dens.strs r)
def DeedAt.den {H:Hp} {v:V} {d:Dd} (h:DeedAt H v d):Den H v (nQ d):=by
 cases h with
 | plain e=>exact .tup e (.cons (.str _) (Dens.append (Dens.strs _) (Dens.ints _)))
 | build z J=>exact .tup z (.cons (.str _) (.cons (.str _) (.cons (.tup J (Dens.ints _)) .nil)))
def A0 {ns:List Str} (h:∀ n∈ns,PyData.strOk n=true):PyData.canLayAll0 (ns.map PyData.str)=true:=by
 induction ns with
 | nil=>rfl
 | cons p r z=>simp[PyData.canLayAll0,PyData.canLay0,h p aEP,z λn J=>h n (aEQ _ J)]
def G6 {a b:List PyData} (z:PyData.canLayAll0 a=true) (J:PyData.canLayAll0 b=true):PyData.canLayAll0 (a++b)=true:=by
 induction a with
 | nil=>exact J
 | cons p r L =>
  simp only[PyData.canLayAll0,eH,rs]at z ⊢;exact⟨z.1,L z.2⟩
def X1 {a b:List PyData} {n:Nat} (z:PyData.depthAll a<=n) (J:PyData.depthAll b<=n):PyData.depthAll (a++b)<=n:=by
 induction a with
 | nil=>exact J
 | cons p r L =>
  simp only[PyData.depthAll,rs]at z ⊢;have:=L (by lia)
  lia
def G7 (ns:List Str):PyData.depthAll (ns.map PyData.str)<=0:=by
 induction ns with
 | nil=>simp[PyData.depthAll]
 | cons p r z=>simp[PyData.depthAll,PyData.depth];lia
def G8 (d:Dd):(nQ d).depth<=2:=by
 have h1:=F6 d.nums;unfold nQ;split
 .simp[PyData.depth,PyData.depthAll,h1]
 .have:=X1 (n:=0) (G7 d.names) (qj h1);simp only[PyData.depth,PyData.depthAll]
  lia
def y0 {P:Program} {w:World} {K:PySem.W.Frag} {d:Addr} {ep:Nat} {t0 t1 t2 t3 t4 t5 t6 t7:Tok} {M r1 r2 r3 r4 O U Y:Addr}
 (h:K.lookup d=some ⟨.type "dict",none,.dict #[eW w ("shut",t0,M),eW w ("walk",t1,r1),eW w ("put",t2,r2),eW w ("take",t3,r3),eW w ("mirror",t4,r4),eW w ("lay",t5,O),eW w ("late",t6,U),eW w ("strike",t7,Y)] ep,#[]⟩) (hs:(d == sysModules)=false)
 (e0:∀ H,SqT K H M [.int 1,.int 0]) (e1:∀ H,SqT K H r1 [.int 1,.int 2]) (e2:∀ H,SqT K H r2 [.int 1,.int 1]) (e3:∀ H,SqT K H r3 [.int 1,.int 1]) (e4:∀ H,SqT K H r4 [.int 1,.int 0]) (e5:∀ H,SqT K H O [.int 2,.int 1]) (e6:∀ H,SqT K H U [.int 1,.int 3]) (e7:∀ H,SqT K H Y [.int 1,.int 1]) :
 ∃ kvs,aB1 P w K d kvs:=by
 have g:=sQ (P:=P) (w:=w) [("shut",t0,M),("walk",t1,r1),("put",t2,r2),("take",t3,r3),("mirror",t4,r4),("lay",t5,O),("late",t6,U),("strike",t7,Y)] h hs (show (["shut","walk","put","take","mirror","lay","late","strike"]:List Str).Nodup by decide +kernel);have au:∀ x:Str,PySem.valueAt (([("shut",t0,M),("walk",t1,r1),("put",t2,r2),("take",t3,r3),("mirror",t4,r4),("lay",t5,O),("late",t6,U),("strike",t7,Y)]:List (Str×Tok×Addr)).map λp=>((Sum.inr p.1:Key),Value.ref p.2.2)) (Sum.inr x) =
  if x="shut" then some (.ref M)else if x="walk" then some (.ref r1)else if x="put" then some (.ref r2)else if x="take" then some (.ref r3)else if x="mirror" then some (.ref r4)else if x="lay" then some (.ref O)else if x="late" then some (.ref U)else if x="strike" then some (.ref Y)else none:=λx=>by
  have st:∀ (y:Str) (v:Value) (l:List (Key×Value)),PySem.valueAt (((Sum.inr y:Key),v) :: l) (Sum.inr x)=if x=y then some v else PySem.valueAt l (Sum.inr x):=λy v l=>by
   unfold PySem.valueAt;rw[jx]
   by_cases c:x=y
   .rw[b4 c,c];simp
   .rw[b3 c];have:decide ((Sum.inr y:Key)=Sum.inr x)=false:=aE7 λz=>c (jz z).symm;simp only[this]
  simp only[aEb,oy];rw[st,st,st,st,st,st,st,st];rfl
 refine⟨_,g,λx=>?_,λx n m J=>?_⟩
 .rw[au];unfold fR
  repeat' split
  all_goals rfl
 .rw[au];unfold fR at J;split at J
  .rename_i c;rw[b4 c];cases J;exact⟨_,rfl,e0⟩
  rename_i L
  rw[b3 L];split at J
  .rename_i c;rw[b4 c];cases J;exact⟨_,rfl,e1⟩
  rename_i L
  rw[b3 L];split at J
  .rename_i c;rw[b4 c];cases J;exact⟨_,rfl,e2⟩
  rename_i L
  rw[b3 L];split at J
  .rename_i c;rw[b4 c];cases J;exact⟨_,rfl,e3⟩
  rename_i L
  rw[b3 L];split at J
  .rename_i c;rw[b4 c];cases J;exact⟨_,rfl,e4⟩
  rename_i L
  rw[b3 L];split at J
  .rename_i c;rw[b4 c];cases J;exact⟨_,rfl,e5⟩
  rename_i L
  rw[b3 L];split at J
  .rename_i c;rw[b4 c];cases J;exact⟨_,rfl,e6⟩
  rename_i L
  rw[b3 L];split at J
  .rename_i c;rw[b4 c];cases J;exact⟨_,rfl,e7⟩
  .cases J
def gB {K:PySem.W.Frag} {r:Addr} {od:Option Addr} {z:Array (Option Value)} {a b:Int} {ta tb:Tok} {n:Nat} (h:K.lookup r=some ⟨.type "tuple",od,.seq #[.int a ta,.int b tb] n,z⟩) (H:Hp):SqT K H r [.int a,.int b] :=
 .inr ⟨_,_,n,h,rfl,rfl,by show 2<=sizeLine;decide,.cons ⟨_,rfl⟩ (.cons ⟨_,rfl⟩ .nil)⟩
mutual
inductive DT (H:Hp):V->PyData->Prop
 | int (i:Int):DT H (.int i) (.int i)
 | str (x:Str):DT H (.str x) (.str x)
 | tup {a:Addr} {vs:List V} {ds:List PyData}:H a=some (.tup vs)->DTs H vs ds->DT H (.ref a) (.tuple ds)
inductive DTs (H:Hp):List V->List PyData->Prop
 | nil:DTs H [] []
 | cons {v:V} {d:PyData} {vs:List V} {ds:List PyData}:DT H v d->DTs H vs ds->DTs H (v :: vs) (d :: ds)
end
mutual
def DT.mono {H H':Hp} (e:aCA H H'):∀ {v:V} {d:PyData},DT H v d->DT H' v d
 | _,_,.int i=>.int i
 | _,_,.str x=>.str x
 | _,_,.tup h t=>.tup (e _ _ h) (DTs.mono e t)
def DTs.mono {H H':Hp} (e:aCA H H'):∀ {vs:List V} {ds:List PyData},DTs H vs ds->DTs H' vs ds
 | _,_,.nil=>.nil
 | _,_,.cons r t=>.cons (DT.mono e r) (DTs.mono e t)
end
mutual
def DT.den {H:Hp}:∀ {v:V} {d:PyData},DT H v d->Den H v d
 | _,_,.int i=>.int i
 | _,_,.str x=>.str x
 | _,_,.tup h t=>.tup h (DTs.dens t)
def DTs.dens {H:Hp}:∀ {vs:List V} {ds:List PyData},DTs H vs ds->Dens H vs ds
 | _,_,.nil=>.nil
 | _,_,.cons r t=>.cons (DT.den r) (DTs.dens t)
end
structure Hc (K:PySem.W.Frag) where
 Rd:Addr
 Cs:Addr
 Hs:Addr
 rd:Cls K Rd
 cs:Cls K Cs
 hs:Cls K Hs
 ne1:Rd≠Hs
 ne2:Cs≠Hs
 rEn:NoAttr K Rd "entries"
 rRe:NoAttr K Rd "rests"
 rCo:NoAttr K Rd "course"
 cRe:NoAttr K Cs "rested"
 cWa:NoAttr K Cs "walks"
 cTu:NoAttr K Cs "turned"
 hSt:NoAttr K Hs "standing"
 hPa:NoAttr K Hs "past"
 hAh:NoAttr K Hs "ahead"
def RowA (N:Addr->Prop) (H:Hp) (t:Addr) (r:List Int):Prop:=N t/\H t=some (.lst (r.map V.int))\/H t=some (.tup (r.map V.int))
abbrev aDX (t d:Addr) (b:Bool):List (Str×V):=[("rested",.ref t),("walks",.ref d),("turned",.bl b)]
abbrev aDY (e r c:Addr):List (Str×V):=[("entries",.ref e),("rests",.ref r),("course",.ref c)]
abbrev kU (d p q:Addr):List (Str×V):=[("standing",.ref d),("past",.ref p),("ahead",.ref q)]
section
variable {K:PySem.W.Frag} (G:Hc K)
variable {G}
def RowA.same {N:Addr->Prop} {H H':Hp} (g:Same H H') {t:Addr} {r:List Int} (h:RowA N H t r):RowA N H' t r:=by
 rcases h with ⟨h1,h2⟩ | h
 .exact .inl ⟨h1,g _ _ h2⟩
 .exact .inr (g _ _ h)
def RowA.imp {N z:Addr->Prop} {H:Hp} {t:Addr} {r:List Int} (k:∀ t xs,N t->H t=some (.lst xs)->z t) (h:RowA N H t r):RowA z H t r:=by
 rcases h with ⟨h1,h2⟩ | h
 .exact .inl ⟨k _ _ h1 h2,h2⟩
 .exact .inr h
end
def dE (t:Str):Int:=(PySem.intText? t).getD 0
def aB2:∀ (cs:List Nat) (z k:Nat),PySem.NumText.AllDigits cs->z<10 ^ k->cs.foldl (λz c=>z * 10+(c - 48)) z<10 ^ (k+cs.length)
 | [],z,k,_,h=>by simpa using h
 | c :: cs,z,k,hd,h=>by
  have J:=hd.head;have:=aB2 cs (z * 10+(c - 48)) (k+1) hd.tail (by rw[Nat.pow_succ];lia);rw[aEd,aEe,show k+(cs.length+1)=k+1+cs.length by lia];exact this
def X2 {n:Str} {m:Int} (h:bI n xL m=true):PySem.NumText.AllDigits (aO n)/\(n.length:Int)<=m/\aO n≠[]:=by
 obtain⟨c,r,e⟩:=S4 h;unfold bI at h;rw[eH,eH,jj]at h;obtain⟨_,h1,h2⟩:=h;refine⟨λc z=>?_,ke h1,by rw[e];simp⟩;have h3:=ke (h2 c z);have:aO xL=[48,49,50,51,52,53,54,55,56,57]:=by decide +kernel
 rw[this]at h3;simp at h3;omega
def G9 {t:Str} (h:gW t=true):PySem.intText? t=some (dE t)/\(dE t).natAbs<10 ^ 60/\t.length<=61:=by
 unfold gW at h;rw[eH]at h;obtain⟨hd,U,L⟩:=X2 h.1;have z:(aO (rpM t)).length<=60:=by rw[bF];lia
 have M:PySem.NumText.digitsVal (aO (rpM t))<10 ^ 60:=aE3 (aB2 _ 0 0 hd (by decide)) (Nat.pow_le_pow_right (by decide) (by lia))
 by_cases c:(aO t)[0]?=some 45
 .obtain⟨r,e⟩:∃ r,aO t=45 :: r:=by
   cases hs:aO t with
   | nil=>rw[hs]at c;cases c
   | cons x r=>rw[hs]at c;exact⟨r,by rw[show x=45 by simpa using c]⟩
  have O:=sT e;rw[O]at hd L z M;have J:t.length<=61:=by rw[<- bF,e,aEe];lia
  have:=PySem.intText_neg (x:=t) e hd L (by lia);refine⟨by unfold dE;rw[this];rfl,?_,J⟩;unfold dE;rw[this];show (-((PySem.NumText.digitsVal r:Nat):Int)).natAbs<_;rw[Int.natAbs_neg];exact M
 .rw[sS c]at hd L z M;have J:t.length<=60:=by rw[<- bF];lia
  have:=tq (x:=t) hd L (by lia);refine⟨by unfold dE;rw[this];rfl,?_,by lia⟩;unfold dE;rw[this];exact M
def iP (w:Str) (ps:List Str):Option Dd :=
 if w="build" then
  (match ps with
   | []=>none
   | n :: xs=>if bI n cF 8=true/\xs.all gW=true then some ⟨w,[n],xs.map dE,true⟩else none)
 else match fR w with
  | none=>none
  | some (a,b)=>if (ps.length:Int)=a+b/\(ps.take a.toNat).all (λn=>bI n cF 8)=true/\(ps.drop a.toNat).all gW=true then some ⟨w,ps.take a.toNat,(ps.drop a.toNat).map dE,false⟩else none
def eY (t:Str):Option Dd:=match Txt.split t " " with
 | []=>none
 | w :: ps=>iP w ps
def X3 {w:Str} {p:Int×Int} (h:fR w=some p):∃ a b:Nat,p=((a:Int),(b:Int))/\1<=a/\a<=2/\b<=3:=by
 unfold fR at h
 repeat' split at h
 all_goals first
  | (rename_i e;subst e;cases h;first | exact⟨1,0,rfl,by decide,by decide,by decide⟩ | exact⟨1,1,rfl,by decide,by decide,by decide⟩ | exact⟨1,2,rfl,by decide,by decide,by decide⟩ | exact⟨1,3,rfl,by decide,by decide,by decide⟩ | exact⟨2,1,rfl,by decide,by decide,by decide⟩)
  | cases h
structure TxB (n:Nat) (t:Str):Prop where
 asc:∀ c∈aO t,c<128
 len:t.length<=n
def TxB.txs {n:Nat} {t:Str} (h:TxB n t) (z:n<=5000):Txs t:=⟨fZ h.asc,fy h.len z⟩
def TxB.of {t:Str} (h:Txs t) {n:Nat} (J:t.length<=n):TxB n t:=by
 refine⟨λc L=>?_,J⟩;have z:=h.asc;unfold uO at z;rw[<- nv,jj]at z;exact ke (z c L)
def wt (ws:List Str):Nat:=(ws.map λz=>z.length+1).sum
def xO (a:Str) (b:List Str):wt (a :: b)=a.length+1+wt b:=by unfold wt;rw[aEb,List.sum_cons]
def S5:∀ (z:Str) (ws:List Str),(Str.join " " (z :: ws)).length+1=wt (z :: ws)
 | z,[]=>by show z.length+1=_;simp[wt]
 | z,y :: ws=>by
  have:=S5 y ws;rw[<- bF,dC z (y :: ws) (by simp),aEW,aEe,bF,bF,xO]
  lia
def y3 (t:Str):wt (Txt.split t " ")=t.length+1:=by
 have h:=qm t " ";cases hs:Txt.split t " " with
 | nil=>exact absurd hs (sV t " ")
 | cons z ws =>
  have h2:Str.join " " (z :: ws)=t:=by rw[<- hs];exact h
  rw[<- S5,h2]
def A3:∀ {ws:List Str} {z:Str} {c:Nat},z∈ws->c∈aO z->c∈aO (Str.join " " ws)
 | [w],z,c,hz,J=>by rw[aEg.mp hz]at J;exact J
 | w :: y :: ws,z,c,hz,J=>by
  rw[dC w (y :: ws) (by simp)];rcases aEm.mp hz with e | hz
  .rw[e]at J;exact aE5 _ J
  .exact aER _ (aEQ _ (A3 hz J))
def y4:∀ {ws:List Str} {z:Str},z∈ws->z.length+1<=wt ws
 | w :: ws,z,h=>by
  rw[xO];rcases aEm.mp h with e | h
  .rw[e];lia
  .have:=y4 h;lia
def y6:∀ (ws:List Str),ws.length<=wt ws
 | []=>ah _
 | w :: ws=>by have:=y6 ws;rw[xO,aEe];lia
def TxB.split {n:Nat} {t:Str} (h:TxB n t):(∀ z∈Txt.split t " ",TxB n z)/\(Txt.split t " ").length<=n+1/\wt (Txt.split t " ")<=n+1:=by
 have hw:=y3 t;have M:=h.len;refine⟨λz J=>⟨λc L=>h.asc c ?_,?_⟩,by have:=y6 (Txt.split t " ");lia,by lia⟩
 .have:=A3 J L;rw[show Str.join " " (Txt.split t " ")=t from qm t " "]at this;exact this
 .have:=y4 J
  lia
end CW
namespace L2
open PySem PySem.Spec PyProof.Rows
open Sem (wp)
def mP (ag bm:List Value):Prop:=∀ {X:String} {b:Bool},ag.contains (.type X)=b->bm.contains (.type X)=b
def J0:List Value->List Value
 | .ref _ :: r=>J0 r
 | l=>l
def A4 {ag:List Value}:∀ {bm:List Value},J0 bm=ag->mP ag bm
 | [],e=>λz=>by
  have J:([]:List Value)=ag:=e;rw[J];exact z
 | v :: r,e=>λz=>by
  cases v
  case ref a =>
   have L:=A4 (bm:=r) e z;rw[ji,L];rfl
  all_goals (rw[show _ :: r=ag from e];exact z)
section
variable {prog:Program} {w:World} {A:Around} {E:Value->Shared->Prop} {h:Heap} {g:Array GenState} {d:Drawn} {t:Nat} {os:OsState}
variable {nm q:Str} {C N:Addr} {bs bm ag:List Value} {hdct:Bool} {sn:List Str} {sub:List Value} {ab:Bool} {col:Option Bool} {dd:Option Addr} {k0 k1 k2 k3 k5:Option Value} {B newId aj:String}
def J1 {M:Model} (F:ExcBaseFacts B newId aj ag) (T:mP ag bm) {rest:List Value} {Q:Unit->Shared->Prop} (J:h.get? C=some (excClassObj nm q C N bs bm hdct sn sub ab col dd k0 k1 k2 k3 k5 newId))
 (kq:Q () ⟨h,g,d,t,os⟩):wpAny M A (checkBuiltinCall newId ⟨.ref C :: rest,[]⟩) Q E ⟨h,g,d,t,os⟩:=by
 have z:(Value.ref C :: bm).contains (.type B)=true:=by
  rw[ji,T F.hasB];exact my _
 have ns:=F.noStar;simp only[checkBuiltinCall,F.newRow,F.newSplit,F.newKind]
 repeat (first
  | refine jf J ?_
  | (refine ks J ?_;rw[z])
  | refine wpAny_staticBase_exc J ?_
  | refine wpAny_madeBy_exc J ?_
  | simp only[bne_self_eq_false,rb,oh]
  | wp_step)
 exact kq
def y8 {R:Result->Shared->Prop} (F:ExcBaseFacts B newId aj ag) (T:mP ag bm) {rest:List Value} (M:h.get? C=some (excClassObj nm q C N bs bm hdct sn sub ab col dd k0 k1 k2 k3 k5 newId))
 (kq:R (.ok (.ret (.ref (h.objs.size+1)))) ⟨(h.push { cls:=.type "tuple",data:=.seq rest.toArray }).push { cls:=.ref C,data:=.fields #[.ref h.objs.size,.none,.none,.none,.bool false,.none] },g,d,t,os⟩) (hrest:rest.length<=sizeLine:=by size_fits) :
 codeAny (model prog w) A (.builtin newId ⟨.ref C :: rest,[]⟩) R ⟨h,g,d,t,os⟩:=by
 have ends:=F.ends;have z:(Value.ref C :: bm).contains (.type B)=true:=by
  rw[ji,T F.hasB];exact my _
 have J:(Value.ref C :: bm).contains (.type "AttributeError")=false:=by
  rw[ji,T F.noAttr];rfl
 have L:(Value.ref C :: bm).contains (.type "NameError")=false:=by
  rw[ji,T F.noName];rfl
 refine codeAny_builtinAt F.entry ?_;unfold Builtin.«BaseException.__new__»;refine PySem.wpAt_bind ?_;show PySem.wpAt _ _ _ (stack >>= _) _ _ _;refine PySem.wpAt_bind (PySem.wpAt_stack λ_ _=>ui ?_)
 wp_walk
 refine ui ?_;rw[F.owner]
 repeat (first
  | with_reducible refine wpAny_madeHere_exc F.canon M ?_
  | with_reducible refine jf M ?_
  | (with_reducible refine ks M ?_;first | rw[z] | rw[J] | rw[L])
  | wp_step)
 show R _ _;rw[nu];exact kq
def A5 {M:Model} (F:ExcBaseFacts B newId aj ag) (T:mP ag bm) {e:Addr} {oe:Obj} {rest:List Value} {Q:Unit->Shared->Prop}
 (oC:h.get? C=some (excClassObj nm q C N bs bm hdct sn sub ab col dd k0 k1 k2 k3 k5 newId)) (oE:h.get? e=some oe) (ocl:oe.cls=.ref C) (kq:Q () ⟨h,g,d,t,os⟩) :
 wpAny M A (checkBuiltinCall aj ⟨.ref e :: rest,[]⟩) Q E ⟨h,g,d,t,os⟩:=by
 have hasIt:(Value.ref C :: bm).contains (.type B)=true:=by
  rw[ji,T F.hasB];exact my _
 have ns:=F.noStar;simp only[checkBuiltinCall,F.initRow,F.initSplit,F.initKind]
 repeat (first
  | (with_reducible refine jf oE ?_;rw[ocl])
  | with_reducible refine jf oC ?_
  | (with_reducible refine ks oC ?_;rw[hasIt])
  | wp_step)
 refine wpAny_onRaise ?_;rw[show ∀ (a b:String) (n:Nat),Bind.check ⟨.positional,"*",B,.self,[⟨"args",.varPos,false⟩]⟩ a b n (List.map (λx=>x.fst) ({ pos:=Value.ref e :: rest }:Args).kw)=pure () from λa b n=>check_star_args _ _ _ _ _ _];exact aEM kq
def qS (F:ExcBaseFacts B newId aj ag) (T:mP ag bm) {mN:Str->Option Value} {rest:List Value} {fI:Addr} {oI:Obj} {Q:Fin->Shared->Prop}
 (O:h.get? C=some (excClassObj nm q C N bs bm hdct sn sub ab col dd k0 k1 k2 k3 k5 newId)) (hn:h.Ns N mN) (hi:mN "__init__"=some (.ref fI))
 (U:h.get? fI=some oI) (Y:oI.cls=.type "function")
 (hq:∀ h' e,Heap.MadeExcOf h h' e (.ref C) rest ->
  wpAny (model prog w) A (call (.ref fI) (.ref e :: rest)) (λr s'=>r=.none/\Q (.done (.ret (.ref e))) s') E ⟨h',g,d,t,os⟩) (hrest:rest.length<=sizeLine:=by size_fits) :
 wpAny (model prog w) A (Builtin.«type.__call__» ⟨.ref C :: rest,[]⟩) Q E ⟨h,g,d,t,os⟩:=by
 repeat (first | with_reducible refine jf O ?_ | with_reducible refine wpAny_madeBy_exc O ?_ | wp_step)
 refine codeAny_call_builtin_code (Code.quiet_builtin _ F.quiet) (J1 F T O ?_);refine y8 F T O ?_ hrest;show wpAny _ _ _ _ _ _;have k2:∀ b o,h.get? b=some o->((h.push { cls:=.type "tuple",data:=.seq rest.toArray }).push { cls:=.ref C,data:=.fields #[.ref h.objs.size,.none,.none,.none,.bool false,.none] }).get? b=some o :=
  λb o e=>aEO _ (aEO _ e)
 have z:=k2 _ _ O;have J:=k2 _ _ U;have M:=hn.keeps k2;have L:((h.push { cls:=.type "tuple",data:=.seq rest.toArray }).push
  { cls:=.ref C,data:=.fields #[.ref h.objs.size,.none,.none,.none,.bool false,.none] }).get? (h.objs.size+1)=some
  { cls:=.ref C,data:=.fields #[.ref h.objs.size,.none,.none,.none,.bool false,.none] }:=by heap_get
 have au:(Value.ref C :: bm).contains (.ref C)=true:=by simp
 unfold isInstance
 repeat (first | with_reducible refine jf L ?_ | (with_reducible refine ks z ?_;rw[au]) | wp_step)
 show wpAny _ _ (typeLookup (.ref C) _) _ _ _;rw[typeLookup_eq];refine aEL (wpAny_mroOf_exc z ?_);rw[lookupAlong_cons];refine aEL (wpAny_classOwn_exc z M ?_);rw[hi];refine aEM ?_;refine je (aEL ?_);unfold bindSpecial;refine aEL (sk (T:="function") ⟨_,J,Y⟩ ?_);rw[b4 (by decide)];refine aEM (aEL (eu (hq _ (h.objs.size+1) ⟨k2,nj (qc _),h.objs.size,L,nj (ah _),?_⟩) (λr s' hr=>?_) λ_ _ x=>x))
 .exact aEO _ (Heap.get?_push_at rfl rfl)
 .obtain⟨rfl,hQ⟩:=hr
  wp_walk
  exact hQ
def sZ (F:ExcBaseFacts B newId aj ag) (T:mP ag bm) {mN:Str->Option Value} {rest:List Value} {fI:Addr} {oI:Obj} {Q:Value->Shared->Prop}
 (hC:h.get? C=some (excClassObj nm q C N bs bm hdct sn sub ab col dd k0 k1 k2 k3 k5 newId)) (hn:h.Ns N mN) (hi:mN "__init__"=some (.ref fI))
 (hfI:h.get? fI=some oI) (hfc:oI.cls=.type "function")
 (hq:∀ h' e,Heap.MadeExcOf h h' e (.ref C) rest ->
  wpAny (model prog w) (A.under (.builtin "type.__call__" ⟨.ref C :: rest,[]⟩)) (call (.ref fI) (.ref e :: rest)) (λr s'=>r=.none/\Q (.ref e) s') E ⟨h',g,d,t,os⟩) (hrest:rest.length<=sizeLine:=by size_fits) :
 wpAny (model prog w) A (call (.ref C) rest) Q E ⟨h,g,d,t,os⟩:=by
 have f1:=tc_lookup;have f2:=tc_bind (.ref C);have hT:(⟨h,g,d,t,os⟩:Shared).TypeIs (.ref C) "type":=⟨_,hC,rfl⟩;refine ny (codeAny_of_tree ?_);show wpAny _ _ (callAny (.ref C) _) _ _ _
 repeat (any_goals (first | assumption | with_reducible refine jf hC ?_ | wp_step))
 refine⟨rfl,?_⟩;refine codeAny_call_builtin_at (Code.quiet_builtin _ (by decide +kernel)) entry_typeCall (wpAny_check_type_call_sub hC (qS (hrest:=hrest) F T hC hn hi hfI hfc λh' e hm=>?_));exact hq h' e hm
def uP {M:Model} {s:Shared} {env:Env} {x:Sem Value} {Q:Flow->Shared->Prop} (hbase:bm.contains (.type "BaseException")=true) (U:A.handled=none)
 (h:wpAny M A x (λv z=>∃ e od t,v=.ref e/\z.heap.get? C=some (excClassObj nm q C N bs bm hdct sn sub ab col dd k0 k1 k2 k3 k5 newId) /\
  z.heap.get? e=some { cls:=.ref C,dict:=od,data:=.fields #[.ref t,.none,.none,.none,.bool false,.none] }/\E (.ref e) z) E s) :
 wpAny M A (raiseStmt env (some x) none) Q E s:=by
 have L:(Value.ref C :: bm).contains (.type "BaseException")=true:=by rw[ji,hbase,my]
 unfold raiseStmt;refine aEL (eu h (λv z J=>?_) λ_ _ x=>x);obtain⟨e,od,t,rfl,O,he,Y⟩:=J;obtain⟨hp,g,d,tk,os⟩:=z
 repeat (first | with_reducible refine jf he ?_ | with_reducible refine jf O ?_ | (with_reducible refine ks O ?_;rw[L]) | wp_step)
 exact wpAny_raiseNew_none U Y
def A6 {s:Shared} {env:Env} (F:ExcBaseFacts B newId aj ag) {mN:Str->Option Value} {x:Str} {np aa pos:Pos} {args:List Expr} {fI:Addr} {oI:Obj} {Q:Flow->Shared->Prop}
 (hbase:bm.contains (.type "BaseException")=true) (hh:A.handled=none) (hplain:(backTo aa (starEach args env)).any (·.1)=false) (hi:mN "__init__"=some (.ref fI)) (Y:oI.cls=.type "function")
 (h:wpAny (model prog w) A (eval (.Name x np) env) (λf O=>f=.ref C/\wpAny (model prog w) A (evalArgs (.ref C) true (backTo aa (starEach args env)) [])
  (λa J=>a.kw=[]/\a.pos.length<=sizeLine/\J.heap.get? C=some (excClassObj nm q C N bs bm hdct sn sub ab col dd k0 k1 k2 k3 k5 newId)/\J.heap.Ns N mN/\mP ag bm/\J.heap.get? fI=some oI /\
   ∀ h' e,Heap.MadeExcOf J.heap h' e (.ref C) a.pos->wpAny (model prog w) (A.under (.builtin "type.__call__" ⟨.ref C :: a.pos,[]⟩)) (call (.ref fI) (.ref e :: a.pos)) (λr s'=>r=.none /\
    (s'.heap.get? C=some (excClassObj nm q C N bs bm hdct sn sub ab col dd k0 k1 k2 k3 k5 newId))/\(∃ od t,s'.heap.get? e=some { cls:=.ref C,dict:=od,data:=.fields #[.ref t,.none,.none,.none,.bool false,.none] })/\E (.ref e) s') E { J with heap:=h' }) E O) E s) :
 wpAny (model prog w) A (exec (.Raise (some (.Call (.Name x np) args [] aa)) none pos) env) Q E s:=by
 rw[arm_exec_Raise];simp only[evalOpt,Option.map];refine aEL (jw (uP (C:=C) (nm:=nm) (q:=q) (N:=N) (bs:=bs) (bm:=bm) (hdct:=hdct) (sn:=sn) (sub:=sub) (ab:=ab) (col:=col) (dd:=dd) (k0:=k0) (k1:=k1) (k2:=k2) (k3:=k3) (k5:=k5) (newId:=newId) hbase hh (aEL (eu (wpAny_Call_ofName (eu h (λf O L=>?_) λ_ _ x=>x)) (λv ax U=>aEL (jw (aEM U))) λ_ _ x=>x))));obtain⟨rfl,L⟩:=L;unfold callWith;refine aEL (je (eu L (λa J M=>aEL (jw ?_)) λ_ _ x=>x));obtain⟨apos,au⟩:=a;obtain⟨av,hlen,hC,hn,T,aw,M⟩:=M;obtain rfl:au=[]:=av;obtain⟨hp,g,d,tk,os⟩:=J;simp only[hplain];refine aEL (wpAny_keeperOf_exc hC ?_);refine aEL (sZ (hrest:=hlen) F T hC hn hi aw Y λh' e hm=>eu (M h' e hm) (λr s' ⟨hr,z1,⟨od,vs,z2⟩,z3⟩=>⟨hr,?_⟩) λ_ _ z=>z);refine aEL (je (wpAny_point (aEM ?_)));exact⟨e,od,vs,rfl,z1,z2,z3⟩
def J2 (F:ExcBaseFacts B newId aj ag) (T:mP ag bm) {rest:List Value} {e J:Addr} {od:Option Addr} {Q:Value->Shared->Prop}
 (L:h.get? C=some (excClassObj nm q C N bs bm hdct sn sub ab col dd k0 k1 k2 k3 k5 newId)) (he:h.get? e=some { cls:=.ref C,dict:=od,data:=.fields #[.ref J,.none,.none,.none,.bool false,.none] })
 (M:∀ h' t1,(∀ b o,b≠e->h.get? b=some o->h'.get? b=some o)->h'.get? e=some { cls:=.ref C,dict:=od,data:=.fields #[.ref t1,.none,.none,.none,.bool false,.none] }->Q .none ⟨h',g,d,t,os⟩) (hrest:rest.length<=sizeLine:=by size_fits) :
 wpAny (model prog w) A (call (.builtin aj) (.ref e :: rest)) Q E ⟨h,g,d,t,os⟩:=by
 refine ny (nn F.init.plain F.initEntry (A5 F T L he rfl ?_));have z:=aEO { cls:=.type "tuple",data:=.seq rest.toArray } he
 wp_walk
 refine M _ h.objs.size (λb o n O=>?_) ?_
 .rw[aES _ _ n.symm];exact aEO _ O
 .rw[aE4 _ z rfl];rfl
end
open Sem (wp)
open Builtin Builtin.ObjectAttr
structure gY (K:PySem.W.Frag) (C:Addr) (name:Str):Prop where
 cls:∃ cd bm,PySem.W.clsIn K C=some cd/\cd.mro=.ref C :: bm/\(∀ self,refuseLoop self "__setattr__" bm=pure ())/\bm.contains (.type "object")=true/\cd.hasDict=true
 set:PySem.W.findIn K (.ref C) "__setattr__"=some (some (.builtin "object.__setattr__"))
 free:PySem.W.findIn K (.ref C) name=some none
section
variable {prog:Program} {w:World} {A:Around} {E:Value->Shared->Prop} {h:Heap} {g:Array GenState} {d:Drawn} {t:Nat} {os:OsState} {K:PySem.W.Frag} {C e:Addr} {name:Str} {v:Value} {vs:Array Value}
def X4 {Q:Unit->Shared->Prop} (X:K.In h) (S:gY K C name) (hx:h.get? e=some { cls:=.ref C,dict:=none,data:=.fields vs })
 (hq:∀ h' dx tk',h.get? dx=none->(∀ b o,b≠e->h.get? b=some o->h'.get? b=some o)->h'.get? e=some { cls:=.ref C,dict:=some dx,data:=.fields vs }->h'.Ns1 dx (λy=>if y=name then some v else none)->Q () ⟨h',g,d,tk',os⟩) :
 wpAny (model prog w) A (setAttr (.ref e) name v) Q E ⟨h,g,d,t,os⟩:=by
 obtain⟨⟨cd,bm,hc,hm,href,hob,hdct⟩,hs,hfree⟩:=S;have SF:=qz;have I:PySem.W.InstAt h e { cls:=.ref C,dict:=none,data:=.fields vs } C none:=⟨hx,rfl,rfl,trivial⟩;have hmro:PySem.W.Looks (model prog w) h (mroOf (.ref C)) cd.mro:=(mf X hc).andThen .now;have hsub:PySem.W.Looks (model prog w) h (isInstance (.ref e) (.type "object")) true:=I.type.andThen (uj X (by
  unfold PySem.W.mroIn;rw[hc,Option.bind_some,hm,b3 (by simp),ji,hob,my]))
 refine qs (s:=⟨h,g,d,t,os⟩) X I hs ?_;refine nn SF.slot.plain SF.entry (@PySem.W.check_slot (model prog w) _ _ _ "object.__setattr__" "object" "__setattr__" (.ref e) [.str name t,v] [] _ SF.kind SF.split hsub (SF.args (.ref e) (.str name t) v) ?_);rw[PySem.W.osa_eq,refuse_eq];refine aEL (aEL (I.type.at (aEL (hmro.at ?_))));rw[hm,refuseLoop_ref,href];refine aEM (aEL (I.type.at (aEL ((ll X hfree).at (aEL ?_)))));refine aEM ?_;dsimp only;have hx₁:(h.push { cls:=.type "dict",data:=.dict #[] }).get? e=some { cls:=.ref C,dict:=none,data:=.fields vs }:=aEO _ hx;have hxs:e≠h.objs.size:=aE9 (aET hx);refine aEL (aEM (aEL (aEL (tz hx (aEL ((mf X hc).at ?_))))));rw[hdct];rw[b3 (by decide)];dsimp only;rw[b3 (by simp[typeHasDict])];refine aEL (wpAny_alloc' ?_);refine aEL (wpAny_update' hx₁ ?_);refine aEM ?_;dsimp only;have hgd:((h.push { cls:=.type "dict",data:=.dict #[] }).update e λo=>{ cls:=o.cls,dict:=some h.objs.size,data:=o.data,slots:=o.slots }).get? h.objs.size
  = some { cls:=.type "dict",data:=.dict #[] }:=(qe _ _ _ _ hxs.symm).trans (Heap.get?_push_at rfl rfl)
 have hnd:((h.push { cls:=.type "dict",data:=.dict #[] }).update e λo=>{ cls:=o.cls,dict:=some h.objs.size,data:=o.data,slots:=o.slots }).Ns h.objs.size (λ_=>none) :=
  ⟨_,#[],_,hgd,rfl,λe he=>absurd he (by simp),λ_=>rfl⟩
 unfold storeInDict newKeyGuard;refine aEL (aEM (aEL (um (Heap.Ns1.of_empty hnd) λh' hn' hs=>?_)));obtain⟨oD,esD,epD,hoD,hdD,hcD⟩:=hn'.count (Within.cons name v Within.nil);refine aEL (rl hoD (by rw[hdD];exact rm (fy hcD (by rw[aEe,qd,ly];lia))) ?_)
 wp_walk
 refine hq h' h.objs.size _ (nj (ah _)) (λb o n hb=>?_) ?_ hn'
 .exact(hs.2 b (aE9 (aET hb))).trans ((qe _ _ _ _ n).trans (aEO _ hb))
 .exact(hs.2 e hxs).trans (aE4 _ hx₁ rfl)
end
end L2
namespace L2
open PySem PySem.Spec PyProof.Rows
def XO (C e:Addr) (od:Option Addr):HO:=.ext λh=>∃ t,h.get? e=some { cls:=.ref C,dict:=od,data:=.fields #[.ref t,.none,.none,.none,.bool false,.none] }
def XO.mk {P:Program} {w:World} {H:Hp} {h:Heap} {C e t:Addr} {od:Option Addr} (x:h.get? e=some { cls:=.ref C,dict:=od,data:=.fields #[.ref t,.none,.none,.none,.bool false,.none] }):ObjOk P w H h e (XO C e od) :=
 ⟨⟨t,x⟩,⟨_,x⟩,λh1 h2 ⟨t,z⟩ k=>⟨t,k _ z⟩⟩
def del (H:Hp) (a:Addr):Hp:=λb=>if b=a then none else H b
def jH {H:Hp} {a:Addr}:del H a a=none:=by unfold del;rw[b4 rfl]
def gC {H:Hp} {a b:Addr} (h:b≠a):del H a b=H b:=by unfold del;rw[b3 h]
section
variable {X:Cx} {pins:List (Addr×Obj)} {σ:St} {H:Hp} {s:Shared} {h':Heap} {C e dx:Addr} {od:Option Addr} {φ:Heap->Prop}
def Inv.forget (I:Inv X pins σ H s) (he:H e=some (.ext φ)):Inv X pins σ (del H e) s:=by
 have ne:∀ b u,H b=some u->(∀ L,u≠.ext L)->b≠e:=λb u q n z=>by rw[z,he]at q;cases q;exact n _ rfl
 have un:Un X.fs [] H (del H e) s.heap s.heap:=⟨λ_ _ q _ _ _=>q,λ_ o q _ _ _=>⟨o.slots,q⟩,λb _ _ n _=>by unfold del;split <;> first | rfl | exact n,λ_ o q _=>⟨o,q⟩,
  λb xs q=>by rw[gC (ne b _ q λ_ z=>by cases z)];exact q,λb o u q=>by rw[gC (ne b _ q λ_ z=>by cases z)];exact q,λb ps q=>⟨#[],by rw[gC (ne b _ q λ_ z=>by cases z),q];simp⟩⟩
 exact I.un (t':=s.toks) un λb u q=>by
  by_cases J:b=e
  .rw[J,jH]at q;cases q
  .rw[gC J]at q;exact(I.hok b u q).stay (λ_ _ _ z=>z) (λc z=>by rw[gC (ne c _ z λ_ z=>by cases z)];exact z) λc xs z=>by rw[gC (ne c _ z λ_ z=>by cases z)];exact z
def Inv.unthere (I:Inv X pins σ H s) {a:Addr} (z:s.heap.get? a=none):H a=none:=by
 cases J:H a with
 | none=>rfl
 | some u =>
  obtain⟨o,ho⟩:=(I.hok a u J).there;rw[z]at ho;cases ho
def Inv.newX (I:Inv X pins σ H s) {args:List Value} (J:Heap.MadeExcOf s.heap h' e (.ref C) args):Inv X pins σ (upd H e (XO C e none)) { s with heap:=h' }:=by
 have M:=I.unthere J.new;have ne:∀ b u,H b=some u->b≠e:=λb u q z=>by rw[z,M]at q;cases q
 have O:∀ b o,s.heap.get? b=some o->b≠e:=λb o q z=>by rw[z,J.new]at q;cases q
 obtain⟨t,ht,_,_⟩:=J.there;have un:Un X.fs [] H (upd H e (XO C e none)) s.heap h':=⟨λb o q _ _ _=>J.keeps b o q,λb o q _ _ _=>⟨o.slots,J.keeps b o q⟩,λb o q n _=>by rw[aL (O b o q)];exact n,λb o q _=>⟨o,J.keeps b o q⟩,
  λb xs q=>by rw[aL (ne b _ q)];exact q,λb o u q=>by rw[aL (ne b _ q)];exact q,λb ps q=>⟨#[],by rw[aL (ne b _ q),q];simp⟩⟩
 exact I.un (t':=s.toks) un λb u q=>by
  by_cases L:b=e
  .subst L;rw[aJ]at q;cases q;exact XO.mk ht
  .rw[aL L]at q;exact(I.hok b u q).stay (λc v _ z=>J.keeps c v z) (λc z=>by rw[aL (ne c _ z)];exact z) λc xs z=>by rw[aL (ne c _ z)];exact z
def Inv.dictX (I:Inv X pins σ H s) {t':Nat} {fs:List (Str×V)} (he:H e=some (XO C e none)) (L:s.heap.get? dx=none) (k:∀ b o,b≠e->s.heap.get? b=some o->h'.get? b=some o) {t:Addr}
 (hx:h'.get? e=some { cls:=.ref C,dict:=some dx,data:=.fields #[.ref t,.none,.none,.none,.bool false,.none] }) (hd:∃ mA,h'.Ns1 dx mA/\∀ f,RelO (fs.lookup f) (mA f)) :
 Inv X pins σ (upd (upd H dx (.xd fs)) e (XO C e (some dx))) { s with heap:=h',toks:=t' }:=by
 have hn:=I.unthere L;have ne:∀ b u,H b=some u->(∀ O,u≠.ext O)->b≠e:=λb u q n z=>by rw[z,he]at q;cases q;exact n _ rfl
 have nd:∀ b u,H b=some u->b≠dx:=λb u q z=>by rw[z,hn]at q;cases q
 have U:∀ b,H b=none->b≠e:=λb q z=>by rw[z,he]at q;cases q
 have nh:∀ b o,s.heap.get? b=some o->b≠dx:=λb o q z=>by rw[z,L]at q;cases q
 have M:∀ b u,H b=some u->(∀ O,u≠.ext O)->upd (upd H dx (.xd fs)) e (XO C e (some dx)) b=some u:=λb u q n=>by rw[aL (ne b u q n),aL (nd b u q)];exact q
 have un:Un X.fs [] H (upd (upd H dx (.xd fs)) e (XO C e (some dx))) s.heap h':=⟨λb o q n _ _=>k b o (U b n) q,λb o q n _ _=>⟨o.slots,k b o (U b n) q⟩,λb o q n _=>by rw[aL (U b n),aL (nh b o q)];exact n,
  λb o q _=>by
   by_cases J:b=e
   .rw[J];exact⟨_,hx⟩
   .exact⟨o,k b o J q⟩,
  λb xs q=>M b _ q (λ_ z=>by cases z),λb o u q=>M b _ q (λ_ z=>by cases z),λb ps q=>⟨#[],by rw[M b _ q (λ_ z=>by cases z)];simp⟩⟩
 exact I.un (t':=t') un λb u q=>by
  by_cases J:b=e
  .subst J;rw[aJ]at q;cases q;exact XO.mk hx
  .rw[aL J]at q
   by_cases hc:b=dx
   .subst hc;rw[aJ]at q;cases q;exact hd
   .rw[aL hc]at q;refine(I.hok b u q).stay (λc v Y z=>k c v (λz'=>?_) z) (λc z=>M c _ z λ_ z=>by cases z) λc xs z=>M c _ z λ_ z=>by cases z
    subst z';rcases Y with z1 | z1
    .exact J z1.symm
    .rw[he]at z1;cases z1
end
def tD (K:PySem.W.Frag) (C:Addr) (i:Option Value):Prop:=∀ h:Heap,K.In h->∃ bm N nm q bs hdct sn sub ab col dd k0 k1 k2 k3 k5 mN,h.get? C=some (excClassObj nm q C N bs bm hdct sn sub ab col dd k0 k1 k2 k3 k5 "ValueError.__new__")/\h.Ns N mN/\mN "__init__"=i/\mP bmV bm
def xP (K:PySem.W.Frag) (C:Addr) (i:Option Value):Bool:=match K.lookup C with
 | some ⟨.type "type",_,.cls cd,z⟩=>(match cd.mro,z.toList with
  | .ref J :: bm,[_,_,_,_,some (.builtin n),_]=>J == C && n == "ValueError.__new__" && !cd.hasDel && J0 bm == bmV && PySem.W.nsOkIn K cd.ns && PySem.W.nsIn K cd.ns "__init__" == some i
  | _,_=>false)
 | _=>false
def A7 {K:PySem.W.Frag} {h:Heap} {N:Addr} {x:Str} {v:Value} (X:K.In h) (e:PySem.W.nsOkIn K N=true) (q:PySem.W.nsIn K N x=some (some v)):h.nsMap N x=some v:=by
 obtain⟨o,es,M,ho,hd,_,J⟩:=Heap.Ns.of_isNs (PySem.W.isNs_of_in X e);unfold PySem.W.nsIn at q;split at q
 .rename_i c d L O U z
  have:=X _ _ z;rw[ho]at this;cases this;cases hd;split at q
  .rename_i Y he
   cases q;rw[<- J];unfold nsFind findBy;rw[<- Array.find?_toList,he];rfl
  .split at q <;> cases q
 .cases q
def S6 {K:PySem.W.Frag} {C:Addr} {i:Option Value} (q:xP K C i=true):tD K C i:=λh kin=>by
 unfold xP at q;split at q
 .rename_i dd cd M ho
  split at q
  .rename_i C' bm k0 k1 k2 k3 n k5 L hs
   simp only[eH,tm,Bool.not_eq_true']at q;obtain⟨⟨⟨⟨⟨O,U⟩,z⟩,ht⟩,hok⟩,J⟩:=q;subst O U;obtain⟨nm,bs,Y,ns,qn,hd,sn,sub,ab,col,del⟩:=cd;dsimp only at L z hok J;subst L z;obtain⟨l⟩:=M;dsimp only at hs;subst hs;refine⟨bm,ns,nm,qn,bs,hd,sn,sub,ab,col,dd,k0,k1,k2,k3,k5,_,kin _ _ ho,.of_isNs (PySem.W.isNs_of_in kin hok),?_,A4 ht⟩;cases i with
   | none=>exact PySem.W.nsMap_none_of_in kin hok J
   | some v=>exact A7 kin hok J
  .cases q
 .cases q
def S7 {K:PySem.W.Frag} {h:Heap} {f:Addr} (kin:K.In h) (z:PySem.W.isFn K (.ref f)=true):∃ o,h.get? f=some o/\o.cls=.type "function":=by
 unfold PySem.W.isFn at z;have e:=beq_iff_eq.mp z;unfold PySem.W.typeIn at e;cases q:K.lookup f with
 | none=>simp[q]at e
 | some o=>exact⟨o,kin _ _ q,by simpa[q]using e⟩
inductive A8 (K:PySem.W.Frag) (Q:VK) (vs:List V) (H1:Hp):Prop
 | mk (a:_) (C:_) (i:_) (od:_) (rest:_) (h0_:vs=.ref a :: rest) (h1_:rest.length<=sizeLine) (h2_:H1 a=some (XO C a od)) (h3_:tD K C i) (h4_:Q .non H1):A8 K Q vs H1
def aCP (K:PySem.W.Frag) (t:TA):TE:=fun σ H Q=>t σ H λvs H1=>A8 K Q vs H1
section
variable {X:Cx}
def aEH (K:PySem.W.Frag) (ta tv:TE) (f:Str):TS:=λD σ H=>tv σ H λy H1=>ta σ H1 λx H2=>∃ a C,x=.ref a/\H2 a=some (XO C a none)/\gY K C f /\
 ∀ dx,H2 dx=none->dx≠a->D.nx σ (upd (upd H2 dx (.xd [(f,y)])) a (XO C a (some dx)))
def aCQ {o value:Expr} {f:Str} {ta tv:TE} {pos pos':Pos} (ha:PE X o ta) (hv:PE X value tv) (hs:swapsWith value (some (.Attribute o f pos')) pos.line X.env=pure false):PS X (.Assign [.Attribute o f pos'] value pos) (aEH X.K ta tv f):=by
 intro pins s σ H D I h;refine lu (thn (hv pins s σ H _ I h) λu s1 ⟨y,H1,I1,ry,q⟩=>thn (ha pins s1 σ H1 _ I1 q) λov s2 ⟨x,H2,L,rx,a,C,ex,ea,S,q2⟩=>?_) hs;subst ex;obtain rfl:ov=Value.ref a:=rx;obtain⟨⟨t0,ho⟩,_⟩:=L.hok a _ ea;refine X4 L.kIn S ho λh' dx M J k O U=>?_;have ne:dx≠a:=λz=>by rw[z,ho]at J;cases J
 refine⟨σ,_,L.dictX (t':=M) (fs:=[(f,y)]) ea J k O ⟨_,U,λg=>?_⟩,q2 dx (L.unthere J) ne⟩
 by_cases Y:g=f
 .subst Y;rw[sv,b4 rfl];exact ry
 .have au:(g == f)=false:=by simpa using Y
  rw[jh,au,b3 Y];exact True.intro
def T0 (C:Addr) (sp:Sp) (E:XK) (t:TA):TS:=λ_ σ H=>t σ H λvs H1=>vs.length<=sizeLine/\∀ e,H1 e=none ->
 sp (.ref e :: vs) (upd H1 e (XO C e none)) (λv H2=>v=.non/\∃ od,H2 e=some (XO C e od)/\E (.ref C) od (del H2 e)) E0
def X5 {E:XK} {C fI:Addr} {fd:FuncData} {ps:List Str} {sp:Sp} {k:Nat} {x:Str} {e:Expr} {es:List Expr} {t:TA} {np aa pos:Pos} (RX:G2 X E) (hx:X.ex=[]) (M:X.calm=true) (hc:tD X.K C (some (.ref fI)))
 (hf:PySem.W.isFn X.K (.ref fI)=true) (F:FnOk X.prog X.w X.K X.mg X.base CX0 k fI fd ps sp) (hr:Room (k+1) X.A) (hb:Binds X.K fd ps [])
 (hg:Gl X x) (hm:X.mg x=some (.ref C)) (ha:PA X (e :: es) t) (hdb:(x == ("__debug__":Str))=false:=by decide)
 (he:starEach (e :: es) X.env=(false,eval e X.env) :: starEach es X.env:=by rfl) (hpl:(backTo aa (starEach es X.env)).any (·.1)=false:=by rfl):PS X (.Raise (some (.Call (.Name x np) (e :: es) [] aa)) none pos) (T0 C sp E t):=by
 intro pins s σ H D I h;obtain⟨bm,N,nm,q,bs,hdct,sn,sub,ab,col,dd,k0,k1,k2,k3,k5,mN,hC,hN,hi,T⟩:=hc X.base I.mod.kin;obtain⟨oI,aw,ax⟩:=S7 I.mod.kin hf;have hplain:(backTo aa (starEach (e :: es) X.env)).any (·.1)=false:=by
  rw[he];show (false || (backTo aa (starEach es X.env)).any (·.1))=false;rw[hpl];rfl
 refine A6 (C:=C) (nm:=nm) (q:=q) (N:=N) (bs:=bs) (bm:=bm) (hdct:=hdct) (sn:=sn) (sub:=sub) (ab:=ab) (col:=col) (dd:=dd) (k0:=k0) (k1:=k1) (k2:=k2) (k3:=k3) (k5:=k5) (mN:=mN) (fI:=fI) (oI:=oI) ng (T PySem.F.excBase_ValueError.hasBase) (I.ok.hd M) hplain hi ax (eG I hg hm ⟨rfl,?_⟩ hdb);have au:=ha aa pins s σ H _ I h;rw[he]at au ⊢;refine lp (thn au λus s2 ⟨vs,H2,Y,r,hz,q2⟩=>?_);refine⟨rfl,by have:=r.length;show us.length<=_;lia,Y.bk _ _ hC,hN.keeps Y.bk,T,Y.bk _ _ aw,λh' L O=>?_⟩;have I3:=Inv.newX (C:=C) Y O;have hq:=q2 L (Y.unthere O.new);have r2:Vals (V.ref L :: (vs++[])) (Value.ref L :: (us++[])):=.cons rfl (r.append .nil);rw[jv,jv]at r2;have hl:((Value.ref L :: us)++[]).length=ps.length:=by
  rw[jv,<- r2.length];exact F.len _ _ _ _ hq
 have av:=hb { s2 with heap:=h' } (Value.ref L :: us) I3.kIn hl;rw[jv]at av;refine ny (mw (F.run _ X.stack _ _ ⟨Value.ref L :: us,[]⟩ (Value.ref L :: us) _ _ E0 (hr.make C us []) (I3.env0.make C us []) av r2 hq) λrr s' J=>?_);cases rr with
 | error ev=>exact J.elim
 | ok fl =>
  cases fl with
  | ret u =>
   obtain⟨v,H',I4,rv,ev,od,ho,q3⟩:=I3.after J;subst ev;obtain⟨⟨t0,U⟩,_⟩:=I4.hok L _ ho;refine⟨rv,I4.bk _ _ hC,⟨od,t0,U⟩,RX pins σ (del H' L) s' L _ _ (.ref t0) (I4.forget ho) U jH (λb o e1 z=>?_) rfl rfl rfl (.one jH U rfl) q3⟩;obtain⟨o',e2⟩:=Y.base.there b o e1 (by rw[hx];simp);rw[z,O.new]at e2;cases e2
  | next=>exact False.elim J
  | brk=>exact False.elim J
  | cont=>exact False.elim J
end
section
variable {P:Program} {w:World} {l:List Env} {H:Hp} {s s':Shared} {E:XK} {e:Addr}
structure Fly (P:Program) (w:World) (l:List Env) (H:Hp) (s:Shared) (e:Addr) (cls a0:Value) (od:Option Addr) (H':Hp) (B:Heap) (s':Shared):Prop where
 os:s'.os=s.os
 bare:AllBare s'.gens
 un:Un (frs l) [] H H' s.heap s'.heap
 hok:HOk P w H' s'.heap
 no:H' e=none
 at_:∃ oe,s'.heap.get? e=some oe/\oe.dict=od
 ended:Ended H' s'.heap e
 fl:Heap.FlyingW B l e cls a0 s'.heap
 cov:∀ b u,H' b=some u->∃ o,B.get? b=some o
 olds:∀ b o,s.heap.get? b=some o->b∉frs l->∃ o',B.get? b=some o'
def CXR.fly {L:Value} (h:CXR P w l H s E L s'):∃ e cls a0 od H' B,L=.ref e/\Fly P w l H s e cls a0 od H' B s'/\E cls od H':=by
 obtain⟨e,cls,a0,H',B,M,rfl,os,bare,un,hok,z,⟨he,J⟩,fl,cov,olds,q⟩:=h;exact⟨e,cls,a0,M.dict,H',B,rfl,⟨os,bare,un,hok,z,⟨M,he,rfl⟩,J,fl,cov,olds⟩,q⟩
variable {cls a0:Value} {od:Option Addr} {H':Hp} {B:Heap}
def Fly.frame (f:Fly P w l H s e cls a0 od H' B s') {b:Addr} (L:b∈frs l) {o:Obj} (ho:s'.heap.get? b=some o):∀ vs,o.data≠.fields vs:=by
 obtain⟨_,o',z,J⟩:=f.fl.2.2.1.mem L;rw[ho]at z;cases z;exact J
def Fly.turn (f:Fly P w l H s e cls a0 od H' B s') {h':Heap} {t':Nat} (fl:Heap.FlyingW B l e cls a0 h') (O:s'.heap.UpToSlots h') (hd:HD s'.heap h'):Fly P w l H s e cls a0 od H' B { s' with heap:=h',toks:=t' }:=by
 have same:∀ b o o',B.get? b=some o->s'.heap.get? b=some o'->h'.get? b=some o':=λb o o' J L=>by
  have:=f.fl.1 b o J;rw[L]at this;cases this;exact fl.1 b _ J
 obtain⟨oe,he,hdct⟩:=f.at_;obtain⟨au,av,de,ce⟩:=hd e oe he;refine⟨f.os,f.bare,⟨λb o J n M U=>?_,λb o J n M U=>?_,f.un.free,λb o J U=>?_,f.un.tups,f.un.frzs,f.un.tbls⟩,λb u J=>?_,f.no,⟨au,av,de.trans hdct⟩,f.ended.hd hd,fl,f.cov,f.olds⟩
 .obtain⟨o',Y⟩:=f.olds b o J M;exact same b o' o Y (f.un.keep b o J n M U)
 .obtain⟨sl,L⟩:=f.un.slot b o J n M U;obtain⟨aw,e3⟩:=O b _ L (f.frame M L);exact⟨aw,e3⟩
 .by_cases M:b∈frs l
  .obtain⟨o',L⟩:=f.un.there b o J U;obtain⟨sl,e3⟩:=O b o' L (f.frame M L);exact⟨_,e3⟩
  .obtain⟨o',Y⟩:=f.olds b o J M;exact⟨o',fl.1 b o' Y⟩
 .refine(f.hok b u J).stay (λc v hc L=>?_) (λ_ z=>z) λ_ _ z=>z;have tr:∃ o,B.get? c=some o:=by
   rcases hc with z | z
   .rw[z];exact f.cov b u J
   .exact f.cov c _ z
  obtain⟨o,Y⟩:=tr;exact same c o v Y L
def Fly.fresh (f:Fly P w l H s e cls a0 od H' B s') {b:Addr} {o:Obj} (J:s.heap.get? b=some o):b≠e:=λz=>by
 subst z
 by_cases L:b∈frs l
 .obtain⟨o',O⟩:=f.un.there b o J (by simp);obtain⟨U,vs,he,_,hd,_⟩:=f.fl.first
  exact f.frame L he vs hd
 .obtain⟨o',M⟩:=f.olds b o J L;rw[f.fl.2.1]at M;cases M
end
def XH (e:Addr) (cls:Value) (od:Option Addr):HO:=.ext λh=>∃ o vs,h.get? e=some o/\o.cls=cls/\o.dict=od/\o.data=.fields vs
section
variable {X:Cx} {pins:List (Addr×Obj)} {σ:St} {H:Hp} {s s':Shared} {e:Addr} {cls a0:Value} {od:Option Addr} {H':Hp} {B:Heap}
def Fly.inv (I:Inv X pins σ H s) (f:Fly X.prog X.w X.stack H s e cls a0 od H' B s'):Inv X pins σ H' s':=I.call' f.os f.un f.hok f.bare λb z=>absurd z (by simp)
def Fly.held (I:Inv X pins σ H s) (f:Fly X.prog X.w X.stack H s e cls a0 od H' B s'):Inv X pins σ (upd H' e (XH e cls od)) s':=by
 have ne:∀ b u,H' b=some u->b≠e:=λb u q z=>by rw[z,f.no]at q;cases q
 obtain⟨U,vs,he,L,hd,_⟩:=f.fl.first
 obtain⟨Y,J,hdct⟩:=f.at_;rw[he]at J;cases J;refine I.call' f.os ⟨f.un.keep,f.un.slot,λb o M n hx=>?_,f.un.there,λb xs q=>?_,λb o u q=>?_,λb ps q=>?_⟩ (λb u q=>?_) f.bare λb z=>absurd z (by simp)
 .rw[aL (f.fresh M)];exact f.un.free b o M n hx
 .have:=f.un.tups b xs q;rw[aL (ne b _ this)];exact this
 .have:=f.un.frzs b o u q;rw[aL (ne b _ this)];exact this
 .obtain⟨more,this⟩:=f.un.tbls b ps q;exact⟨more,by rw[aL (ne b _ this)];exact this⟩
 .by_cases O:b=e
  .subst O;rw[aJ]at q;cases q;exact⟨⟨U,vs,he,L,hdct,hd⟩,⟨_,he⟩,λh1 h2 ⟨o,vs,z,zz⟩ k=>⟨o,vs,k _ z,zz⟩⟩
  .rw[aL O]at q;exact(f.hok b u q).stay (λ_ _ _ z=>z) (λc z=>by rw[aL (ne c _ z)];exact z) λc xs z=>by rw[aL (ne c _ z)];exact z
end
def HD.trans' {a b c:Heap} (x:HD a b) (y:HD b c):HD a c:=HD.trans x y
def Cx.inX (X:Cx) (e:Addr):Cx:={ X with A:=X.A.mark (some (.ref e)),calm:=false,xe:=λ_ _=>False }
section
variable {X:Cx} {pins:List (Addr×Obj)} {σ:St} {H:Hp} {s s':Shared} {e:Addr} {cls a0:Value} {od:Option Addr} {H':Hp} {B:Heap}
def Cx.Ok.inX (o:X.Ok):(X.inX e).Ok:=⟨o.mod,o.kind,o.glob,o.blt,o.above,o.inj,o.has,o.cab,(λz=>by cases z),o.frames,o.stk,o.exf,o.bs,o.bsz,o.noex,o.exfs,o.funs,o.frf⟩
def Inv.inX (I:Inv X pins σ H s):Inv (X.inX e) pins σ H s:=⟨I.ok.inX,I.os,I.bare,I.base,I.loc,I.cell,I.free,I.freeC,I.pin,I.hok,I.len⟩
def Inv.outX (ok:X.Ok) (I:Inv (X.inX e) pins σ H s):Inv X pins σ H s:=⟨ok,I.os,I.bare,I.base,I.loc,I.cell,I.free,I.freeC,I.pin,I.hok,I.len⟩
def A9 (U:Body X) (I:Inv X pins σ H s) (f:Fly X.prog X.w X.stack H s e cls a0 od H' B s') {hs:List ExceptHandler} {Q:Flow->Shared->Prop} {E:Value->Shared->Prop}
 (k:∀ J,Fly X.prog X.w X.stack H s e cls a0 od H' B J->wpAny (model X.prog X.w) X.A (handleBy (.ref e) X.env hs) Q E J) :
 wpAny (model X.prog X.w) X.A (noteFrame (.ref e) X.env) (λ_ L=>wpAny (model X.prog X.w) X.A (setFlight (.ref e) none) (λ_ O=>wpAny (model X.prog X.w) X.A (handleBy (.ref e) X.env hs) Q E O) E L) E s':=by
 have Y:X.A.frames=some (X.env :: X.outer):=by rw[I.ok.frames,U.stk]
 have au:Heap.FlyingW B (X.env :: X.outer) e cls a0 s'.heap:=by rw[<- U.stk];exact f.fl
 have w1:=wpAny_looks_onW (M:=model X.prog X.w) (A:=X.A) (E:=λ_ _=>False) (s:=s') (Q:=λ_ J=>∃ h',J={ s' with heap:=h' }/\Heap.HeldW B (X.env :: X.outer) e cls a0 X.env.locals h'/\s'.heap.UpToSlots h') Y U.fr au λh' a b=>⟨h',rfl,a,b⟩;refine eu (fQ (jQ (.ref e) X.env) w1) (λ_ s2 ⟨⟨h4,e4,held,u4⟩,av⟩=>?_) λ_ _ z=>z.1.elim;subst e4;have w2:=wpAny_landsW (M:=model X.prog X.w) (A:=X.A) (E:=λ_ _=>False) (s:={ s' with heap:=h4 }) (Q:=λ_ J=>∃ h',J={ s' with heap:=h' }/\Heap.FlyingW B (X.env :: X.outer) e cls a0 h'/\h4.UpToSlots h') held λh' a b=>⟨h',rfl,a,b⟩;refine eu (fQ (eQ (.ref e) none) w2) (λ_ s3 ⟨⟨h5,e5,aw,u5⟩,ax⟩=>?_) λ_ _ z=>z.1.elim;subst e5;exact k _ (f.turn (t':=s'.toks) (by rw[U.stk];exact aw) (u4.trans u5) (HD.trans' av ax))
def wD (f:Fly X.prog X.w X.stack H s e cls a0 od H' B s') {A:Around} {Q:Unit->Shared->Prop} {E:Value->Shared->Prop} (k:∀ J,Fly X.prog X.w X.stack H s e cls a0 od H' B J->Q () J):wpAny (model X.prog X.w) A (setFlight (.ref e) none) Q E s':=by
 have U:=lands_againW (M:=model X.prog X.w) (A:=A) (E:=λ_ _=>False) (s:=s') (Q:=λ_ J=>∃ h',J={ s' with heap:=h' }/\Heap.FlyingW B X.stack e cls a0 h'/\s'.heap.UpToSlots h') f.fl λh' a b=>⟨h',rfl,a,b⟩;refine eu (fQ (eQ (.ref e) none) U) (λ_ s3 ⟨⟨h5,Y,L,u5⟩,O⟩=>?_) λ_ _ z=>z.1.elim;subst Y;exact k _ (f.turn (t':=s'.toks) L u5 O)
def z0 (I:Inv X pins σ H s) (f:Fly X.prog X.w X.stack H s e cls a0 od H' B s') {A:Around} {x:Str} {c:Value} {b:Bool} {np:Pos} {Q:Bool->Shared->Prop} {E M:Value->Shared->Prop} (O:Gl X x) (U:X.mg x=some c) (Y:PySem.W.exmOne X.K cls c=some b) (q:Q b s') (hd:(x == ("__debug__":Str))=false:=by decide) :
 wpAny (model X.prog X.w) A (eval (.Name x np) X.env) (λc z=>wpAny (model X.prog X.w) A (excMatches (.ref e) c) Q E z) M s':=by
 have J:=f.inv I;refine kx J.ok.kind O (oa (by rw[J.ok.glob];exact J.mod.glob.keeps J.bk) U ?_) hd;obtain⟨oe,vs,he,L,_,_⟩:=f.fl.first
 have LT:PySem.W.Looks (model X.prog X.w) s'.heap (typeOf (.ref e)) cls:=L ▸ (PySem.W.Looks.ld he).andThen .now;exact(PySem.W.exm_one J.kIn LT Y).here q
end
abbrev HR:=Value->Option Addr->Addr->kI->St->Hp->Prop
def PH (X:Cx) (hs:List ExceptHandler) (r:HR):Prop:=∀ (pins:List (Addr×Obj)) (z:Hp) (J:Shared) (σ:St) (e:Addr) (cls a0:Value) (od:Option Addr) (H':Hp) (B:Heap) (s':Shared) (D:kI),Inv X pins σ z J ->
 Fly X.prog X.w X.stack z J e cls a0 od H' B s'->r cls od e D σ H'->wpAny (model X.prog X.w) X.A (handleBy (.ref e) X.env hs) (SP X pins D) X.xe s'
def aCR (K:PySem.W.Frag) (c:Value) (i:Nat) (ts:TS) (r:HR):HR:=λcls od e D σ H=>∃ b,PySem.W.exmOne K cls c=some b/\if b=true then
 ts { nx:=λz H2=>D.nx (z.set i none) H2,rt:=D.rt,bk:=λz H2=>D.bk (z.set i none) H2,ct:=λz H2=>D.ct (z.set i none) H2 } (σ.set i (some (.ref e))) (upd H e (XH e cls od))else r cls od e D σ H
def aEI:HR:=λ_ _ _ _ _ _=>False
section
variable {X:Cx} {x:Str} {c:Value} {np pos:Pos} {aq:Stmt} {ap:List Stmt} {rest:List ExceptHandler} {ts:TS} {r:HR}
def aCS:PH X [] aEI:=λ_ _ _ _ _ _ _ _ _ _ _ _ _ _ q=>q.elim
def SP.outX {pins:List (Addr×Obj)} {D:kI} {f:Flow} {s:Shared} {e:Addr} (ok:X.Ok) (h:SP (X.inX e) pins D f s):SP X pins D f s:=by
 cases f with
 | next=>obtain⟨z,H',I,q⟩:=h;exact⟨z,H',I.outX ok,q⟩
 | brk=>obtain⟨z,H',I,q⟩:=h;exact⟨z,H',I.outX ok,q⟩
 | cont=>obtain⟨z,H',I,q⟩:=h;exact⟨z,H',I.outX ok,q⟩
 | ret u=>obtain⟨v,z,H',I,q⟩:=h;exact⟨v,z,H',I.outX ok,q⟩
end
section
variable {X:Cx} {pins:List (Addr×Obj)} {σ:St} {H:Hp} {s:Shared}
def lV {M:Model} {A:Around} {E:Value->Shared->Prop} {i:Nat} {x:Str} {pos:Pos} {Q:Unit->Shared->Prop} (I:Inv X pins σ H s) (hN:X.N.Nodup) (hi:X.N[i]?=some x) (hk:X.env.scope.names.lookup x=some .local)
 (h:∀ s',Inv X pins (σ.set i none) H s'->Q () s'):wpAny M A (do bindName X.env x .none;unbindBehindTheSuite X.env x pos) Q E s:=by
 obtain⟨m,hn,hl⟩:=id I.loc;have L:(X.env.scope.kind == .class || (X.env.scope.kind == .module && X.env.locals != X.env.globals))=false:=by rw[I.ok.kind];rfl
 have O:i<σ.length:=by rw[I.len];exact(aEl.mp hi).1
 have cne:=I.cne;refine wpAny_nameGoes_keeps hk hn L λh' v au hs=>?_;have tracked:HOk X.prog X.w H h':=λb ob e=>by
  refine(I.hok b ob e).stay (λc w' hc q=>(hs.2 c ?_).trans q) (λ_ q=>q) λ_ _ q=>q;rintro rfl;rcases hc with z | hc
  .rw[<- z,I.free]at e;cases e
  .rw[I.free]at hc;cases hc
 refine h _ ⟨I.ok,I.os,I.bare,⟨λb o e n hb U=>?_,λb o e n hb U=>?_,I.base.free,λb o e U=>?_,I.base.tups,I.base.frzs,I.base.tbls⟩,⟨_,au,λj y v' J Y e3=>?_⟩,λy c e=>?_,I.free,I.freeC,λp hp=>?_,tracked,by simpa using I.len⟩
 .exact(hs.2 b (aE9 (aE3 (aET e) I.ok.above))).trans (I.base.keep b o e n hb U)
 .obtain⟨sl,J⟩:=I.base.slot b o e n hb U;exact⟨sl,(hs.2 b (aE9 (aE3 (aET e) I.ok.above))).trans J⟩
 .obtain⟨o',J⟩:=I.base.there b o e U;exact⟨o',(hs.2 b (aE9 (aE3 (aET e) I.ok.above))).trans J⟩
 .by_cases hj:j=i
  .subst hj;rw[op O]at Y;cases Y
  .rw[lj (lq hj)]at Y;obtain⟨u',r',q⟩:=hl j y v' J Y e3;refine⟨u',r',?_⟩;rcases q with ⟨k,e⟩ | ⟨k,c,e,z⟩
   .refine .inl ⟨k,?_⟩;have:y≠x:=λe=>hj (rL hN J (e ▸ hi));simp[this,e]
   .exact .inr ⟨k,c,e,z.sameBut hs (cne y c e)⟩
 .obtain⟨w',z⟩:=I.cell y c e;exact⟨w',z.sameBut hs (cne y c e)⟩
 .obtain⟨e,n,ne,nf,d⟩:=I.pin p hp;exact⟨(hs.2 p.1 ne).trans e,n,ne,nf,d⟩
end
section
variable {X:Cx} {x n:Str} {c:Value} {np pos:Pos} {aq:Stmt} {ap:List Stmt} {rest:List ExceptHandler} {ts:TS} {r:HR} {i:Nat}
def z5 (hg:Gl X x) (hm:X.mg x=some c) (Y:X.N.Nodup) (hi:X.N[i]?=some n) (U:X.env.scope.names.lookup n=some .local) (hs:∀ e,PSs (X.inX e) (aq :: ap) ts) (hr:PH X rest r) (hd:(x == ("__debug__":Str))=false:=by decide) :
 PH X (.ExceptHandler (some (.Name x np)) (some n) (aq :: ap) pos :: rest) (aCR X.K c i ts r):=λpins H0 s0 σ e cls a0 od H' B s' D I f q=>by
 obtain⟨b,hb,q⟩:=q;refine wpAny_handleBy_cons (sw (z0 I f hg hm hb ?_ hd)) (by intro q;cases q);cases b with
 | false =>
  rw[b3 (by decide)]at q;exact hr pins H0 s0 σ e cls a0 od H' B s' D I f q
 | true =>
  rw[b4 rfl]at q;refine codeAny_handlers_suite_as (wD f λav au=>?_);refine oN (au.held I) Y hi (.inl U) (v:=.ref e) (u:=.ref e) rfl (λs3 I3 _=>?_) (.inr U);refine eu (hs e pins s3 _ _ _ I3.inX q) (λfl s4 z=>?_) λ_ _ z=>z.elim;have z:=z.outX I.ok;cases fl with
  | next=>obtain⟨J,H2,L,M⟩:=z;exact lV L Y hi U λs5 O=>⟨_,_,O,M⟩
  | brk=>obtain⟨J,H2,L,M⟩:=z;exact lV L Y hi U λs5 O=>⟨_,_,O,M⟩
  | cont=>obtain⟨J,H2,L,M⟩:=z;exact lV L Y hi U λs5 O=>⟨_,_,O,M⟩
  | ret u=>obtain⟨v,J,H2,L,rv,M⟩:=z;exact lV L Y hi U λs5 O=>⟨v,_,_,O,rv,M⟩
end
abbrev SpS:=Shared->List Env->List V->Hp->VK->XK->Prop
structure aDZ (P:Program) (w:World) (K:PySem.W.Frag) (mg:Str->Option Value) (base:Heap) (CX:CXT) (k:Nat) (f:Addr) (fd:FuncData) (ps:List Str) (sp:SpS):Prop where
 len:∀ s o vs H Q E,sp s o vs H Q E->vs.length=ps.length
 run:∀ (A:Around) (outer:List Env) (s:Shared) (H:Hp) (args:Args) (us:List Value) (vs:List V) (Q:VK) (E:XK),Room k A->Env0 P w K mg base A outer s H->BindsTo s fd args (ps.zip us)->Vals vs us->sp s outer vs H Q E ->
  codeAny (model P w) A (.call (.ref f) args) (CR CX outer P w H s Q E) s
def z6 {CX:CXT} {P:Program} {w:World} {K:PySem.W.Frag} {mg:Str->Option Value} {base:Heap} {k:Nat} {f:Addr} {name qual:Str} {params:Arguments} {body:List Stmt} {scope:Scope} {dV kV M pm z ct oc:Value} {an od:Option Addr}
 {Y:Array (Option Value)} {N ps:List Str} {sp:SpS} (lk:K.lookup f=some ⟨oc,od,.func (PySem.W.fnOf name qual params body scope dV kV M pm an z ct),Y⟩) (au:PySem.W.codeIn K z qual=true) (S:FnScope N ps scope)
 (len:∀ s o vs H Q E,sp s o vs H Q E->vs.length=ps.length)
 (L:∀ (A:Around) (outer:List Env) (s:Shared) (H:Hp) (vs:List V) (Q:VK) (E:XK),A.frames=some outer->Room k (A.deeper (envOfC qual scope s.heap.objs.size f z))->sp s outer vs H Q E ->
  ∃ t,PSs (fX CX P w K mg base N qual scope f z A outer s H E) body t/\t { nx:=λ_ H'=>Q .non H',rt:=Q } (dQ N vs) H) :
 aDZ P w K mg base CX (k+1) f (PySem.W.fnOf name qual params body scope dV kV M pm an z ct) ps sp:=by
 refine⟨len,λA outer s H args us vs Q E hr O hb r U=>?_⟩;have kp:∀ b o,base.get? b=some o->s.heap.get? b=some o:=λb o e=>(O.bs b o e).1;have KX:K.In s.heap:=O.mod.kin.keeps kp;refine ow hr.depth (KX _ _ lk) rfl S.co S.gen rfl (qk KX au) (hb _ _ _ _ (nc S.kind (λ⟨n,v⟩ hy=>?_) λenv he s1 x=>?_))
 .exact(S.par n (lv hy).1).imp (λq=>q) λq=>⟨q,mr _ _ _ (.inl q)⟩
 .subst he;obtain⟨t,ht,hq⟩:=L A outer s H vs Q E O.frames (hr.deeper _) U;have I:Inv (fX CX P w K mg base N qual scope f z A outer s H E) [] (dQ N vs) H s1:=oU S hr.hd O (len _ _ _ _ _ _ U) r x;refine⟨(O.mod.nolimit.keeps kp).keeps x.toInCall.keep,uo (eu (ht [] s1 (dQ N vs) H _ I hq) (λfl s' hs=>?_) λ_ _ hs=>hs)⟩;cases fl with
  | ret u=>obtain⟨v,av,H',J,rv,q⟩:=hs;exact⟨v,H',J.os,J.bare,J.base,J.hok,rv,q⟩
  | next=>obtain⟨av,H',J,q⟩:=hs;exact⟨.non,H',J.os,J.bare,J.base,J.hok,rfl,q⟩
  | brk=>obtain⟨_,_,_,q⟩:=hs;exact q.elim
  | cont=>obtain⟨_,_,_,q⟩:=hs;exact q.elim
def cQ (P:Program) (w:World) (K:PySem.W.Frag) (mg:Str->Option Value) (base:Heap) (x:Str) (k:Nat) (ps:List Str) (sp:Sp):Prop :=
 ∃ f fd,FnOk P w K mg base (CXR P w) k f fd ps sp/\mg x=some (.ref f)/\PySem.W.keepIn K (.ref f)=true/\Binds K fd ps []
section
variable {X:Cx} {x:Str} {j k:Nat} {ps:List Str} {sp:Sp} {t:TA} {e:Expr} {es:List Expr} {p pos:Pos}
def cC {E:XK} (F:cQ X.prog X.w X.K X.mg X.base x j ps sp) (z:Room k X.A) (J:Gl X x) (L:dS (CXR X.prog X.w) X E) (M:PA X (e :: es) t) (O:j<=k:=by decide) (hdb:(x == ("__debug__":Str))=false:=by decide)
 (he:starEach (e :: es) X.env=(false,eval e X.env) :: starEach es X.env:=by rfl) (hpl:(backTo pos (starEach es X.env)).any (·.1)=false:=by rfl) :
 PE X (.Call (.Name x p) (e :: es) [] pos) (zB sp [] E t):=by
 obtain⟨f,fd,G,U,Y,hb⟩:=F;exact O2 (hdb:=hdb) (he:=he) (hpl:=hpl) G (z.mono O) J U Y hb .nil L M
end
def Cx.withE (X:Cx) (E:Value->Shared->Prop):Cx:={ X with xe:=E }
def Inv.withE {X:Cx} {pins:List (Addr×Obj)} {σ:St} {H:Hp} {s:Shared} {E:Value->Shared->Prop} (I:Inv X pins σ H s):Inv (X.withE E) pins σ H s :=
 ⟨⟨I.ok.mod,I.ok.kind,I.ok.glob,I.ok.blt,I.ok.above,I.ok.inj,I.ok.has,I.ok.cab,I.ok.hd,I.ok.frames,I.ok.stk,I.ok.exf,I.ok.bs,I.ok.bsz,I.ok.noex,I.ok.exfs,I.ok.funs,I.ok.frf⟩,I.os,I.bare,I.base,I.loc,I.cell,I.free,I.freeC,I.pin,I.hok,I.len⟩
def Inv.noE {X:Cx} {pins:List (Addr×Obj)} {σ:St} {H:Hp} {s:Shared} {E:Value->Shared->Prop} (ok:X.Ok) (I:Inv (X.withE E) pins σ H s):Inv X pins σ H s :=
 ⟨ok,I.os,I.bare,I.base,I.loc,I.cell,I.free,I.freeC,I.pin,I.hok,I.len⟩
section
variable {prog:Program} {w:World} {A:Around} {E:Value->Shared->Prop} {s:Shared} {K:PySem.W.Frag} {x C:Addr} {ox:Obj} {od:Option Obj} {name:Str} {expr:Bool} {Q:Value->Shared->Prop}
def aAv {v:Value} (X:K.In s.heap) (I:PySem.W.InstAt s.heap x ox C od) (hga:PySem.W.findIn K (.ref C) "__getattribute__"=some (some (.builtin "BaseException.__getattribute__"))) (hk:PySem.W.findIn K (.ref C) "__getattr__"=some none)
 (hs:PySem.W.subIn K (.ref C) (.type "BaseException")=some true) (hf:PySem.W.findObj K C od name=some (.value v)) (hh:PySem.W.handedIn v=true) (h:Q v { s with toks:=s.toks+1 }):wpAny (model prog w) A (getAttr (.ref x) name expr) Q E s:=by
 have FB:=PySem.F.attrBase_ValueError;have L0:=I.type (M:=model prog w);have L1:=PySem.W.looks_find (M:=model prog w) X I hf;have ht:PySem.W.Looks (model prog w) s.heap (isInstance (.ref x) (.type "BaseException")) true:=L0.andThen (PySem.W.looks_subIn X hs);have hook:PySem.W.Looks (model prog w) s.heap (hookBefore (.ref C)) none:=PySem.W.looks_hook X (by rw[b4 (show onTheHeap (Value.ref C)=true from rfl)];exact hk);obtain⟨hh',g,d,t,os⟩:=s;refine aEL (wpAny_mkText (je (aEL (L0.at (aEL ((ll X hga).at ?_))))));dsimp only;rw[show (onTheHeap (Value.ref C) && Value.builtin "BaseException.__getattribute__" == Value.builtin "object.__getattribute__")=false from by rw[show (Value.builtin "BaseException.__getattribute__" == Value.builtin "object.__getattribute__")=false from by decide +kernel,Bool.and_false],b3 (by decide)];refine aEL (hook.at (aEL (wpAny_attempt (je ?_))));unfold callGetattribute;rw[show (expr && onTheHeap (Value.builtin "BaseException.__getattribute__"))=false from Bool.and_false _,b3 (by decide)];unfold boundAndCalled;rw[FB.ga.bind];refine aEL (aEM ?_);show wpAny _ _ (call (.builtin "BaseException.__getattribute__") [.ref x,.str name t]) _ _ _;refine ny ?_;refine nn FB.ga.plain PySem.F.entry_bexc_ga ?_;refine @PySem.W.check_slot (model prog w) _ _ ⟨hh',g,d,t+1,os⟩ "BaseException.__getattribute__" "BaseException" "__getattribute__" (.ref x) [.str name t] [] _ (by decide +kernel) (by decide +kernel) ht (PySem.F.args_bexc_ga (.ref x) (.str name t)) ?_;refine aEL (aEM (aEL (aEM (aEL (L0.at (aEL (L1.at ?_)))))));refine aEM ?_;show wpAny _ _ (handedOut v) _ _ _;rw[tw hh];exact aEM h
end
structure z7 (K:PySem.W.Frag) (C:Addr) (f:Str):Prop where
 ga:PySem.W.findIn K (.ref C) "__getattribute__"=some (some (.builtin "BaseException.__getattribute__"))
 hook:PySem.W.findIn K (.ref C) "__getattr__"=some none
 sub:PySem.W.subIn K (.ref C) (.type "BaseException")=some true
 hd:PySem.W.hasDictIn K C=true
 free:PySem.W.findIn K (.ref C) f=some none
inductive T1 (K:PySem.W.Frag) (f:Str) (Q:VK) (x:V) (H1:Hp):Prop
 | mk (a:_) (C:_) (dx:_) (fs:_) (v:_) (h0_:x=.ref a) (h1_:H1 a=some (XH a (.ref C) (some dx))) (h2_:H1 dx=some (.xd fs)) (h3_:z7 K C f) (h4_:fs.lookup f=some v) (h5_:Q v H1):T1 K f Q x H1
def aB3 (K:PySem.W.Frag) (ta:TE) (f:Str):TE:=fun σ H Q=>ta σ H λx H1=>T1 K f Q x H1
def aAw {X:Cx} {e:Expr} {ta:TE} {f:Str} {pos:Pos} (he:PE X e ta) (hb:attributeBase e f X.env (eval e X.env)=eval e X.env):PE X (.Attribute e f pos) (aB3 X.K ta f):=by
 intro pins s σ H Q I h;refine N9 hb (thn (he pins s σ H _ I h) λu s1 ⟨x,H1,L,rx,a,C,dx,fs,v,ex,ea,ed,G,l,q⟩=>?_);subst ex;obtain rfl:u=Value.ref a:=rx;obtain⟨⟨o,vs,ho,M,hdct,z⟩,_⟩:=L.hok a _ ea;obtain⟨mA,O,U⟩:=L.hok dx _ ed;obtain⟨od,Y,hl⟩:=vI O;obtain⟨u,hu,ru⟩:=RelO.some_of (v:=v) (o:=mA f) (by rw[<- l];exact U f);have J:PySem.W.InstAt s1.heap a o C (some od):=⟨ho,M,by unfold PySem.W.notCls;rw[z],by rw[hdct];exact Y⟩;exact aAv L.kIn J G.ga G.hook G.sub (uc G.hd G.free rfl (by rw[hl,hu])) (vJ ru) ⟨v,H1,L.tok _,ru,q⟩
section
variable {P:Program} {w:World} {K:PySem.W.Frag} {mg:Str->Option Value} {base:Heap}
def Fun.okX {x qual:Str} {st:Stmt} {f:Addr} {fd:FuncData} {N ps:List Str} {k:Nat} {sp:Sp} (F:Fun K x qual st f fd) (S:FnScope N ps (aG st)) (len:∀ vs H Q E,sp vs H Q E->vs.length=ps.length)
 (J:∀ (z:Value) (A:Around) (outer:List Env) (s:Shared) (H:Hp) (vs:List V) (Q:VK) (E:XK),A.frames=some outer->Room k (A.deeper (envOfC qual (aG st) s.heap.objs.size f z))->sp vs H Q E ->
  ∃ t,PSs (fX (CXR P w) P w K mg base N qual (aG st) f z A outer s H E) (bC st) t/\t { nx:=λ_ H'=>Q .non H',rt:=Q } (dQ N vs) H):FnOk P w K mg base (CXR P w) (k+1) f fd ps sp:=by
 obtain⟨oc,od,kV,U,pm,an,z,ct,Y,rfl,lk,L⟩:=F.ex;have G:=z6 (CX:=CXR P w) (P:=P) (w:=w) (mg:=mg) (base:=base) (k:=k) (sp:=λ_ _ vs H Q E=>sp vs H Q E) lk L S (λ_ _ vs H Q E h=>len vs H Q E h) λA outer s H vs Q E M hr O=>J z A outer s H vs Q E M hr O;exact⟨len,G.run⟩
def aB4 {CX:CXT} {N:List Str} {qual:Str} {scope:Scope} {f:Addr} {cd:Value} {A:Around} {outer:List Env} {s:Shared} {H:Hp} {E:XK} :
 PassesOwn (model P w) (fX CX P w K mg base N qual scope f cd A outer s H E).A (fX CX P w K mg base N qual scope f cd A outer s H E).env (fX CX P w K mg base N qual scope f cd A outer s H E).xe :=
 PassesOwn.leaving (Q₁:=λe z=>CX outer H s E e z) (E₁:=λe z=>CX outer H s E e z)
end
open Sem (wp)
open Builtin Builtin.ObjectAttr
section
variable {prog:Program} {w:World} {A:Around} {E:Value->Shared->Prop} {h:Heap} {g:Array GenState} {d:Drawn} {t:Nat} {os:OsState} {K:PySem.W.Frag} {C e:Addr} {name:Str} {v:Value} {vs:Array Value}
def J3 {Q:Unit->Shared->Prop} {dx:Addr} {mA:Str->Option Value} {ns:List Str} (X:K.In h) (S:gY K C name) (hx:h.get? e=some { cls:=.ref C,dict:=some dx,data:=.fields vs }) (hn:h.Ns1 dx mA) (ne:e≠dx)
 (hw:Within mA ns) (hsz:ns.length<=1000)
 (hq:∀ h' tk',Heap.SameBut dx h h'->h'.Ns1 dx (λy=>if y=name then some v else mA y)->Q () ⟨h',g,d,tk',os⟩) :
 wpAny (model prog w) A (setAttr (.ref e) name v) Q E ⟨h,g,d,t,os⟩:=by
 obtain⟨⟨cd,bm,hc,hm,href,hob,hdct⟩,hs,hfree⟩:=S;have SF:=qz;obtain⟨oD0,esD0,epD0,hoD0,hdD0,hcD0⟩:=hn.count hw;have I:PySem.W.InstAt h e { cls:=.ref C,dict:=some dx,data:=.fields vs } C (some oD0):=⟨hx,rfl,rfl,hoD0⟩;have hmro:PySem.W.Looks (model prog w) h (mroOf (.ref C)) cd.mro:=(mf X hc).andThen .now;have hsub:PySem.W.Looks (model prog w) h (isInstance (.ref e) (.type "object")) true:=I.type.andThen (uj X (by
  unfold PySem.W.mroIn;rw[hc,Option.bind_some,hm,b3 (by simp),ji,hob,my]))
 refine qs (s:=⟨h,g,d,t,os⟩) X I hs ?_;refine nn SF.slot.plain SF.entry (@PySem.W.check_slot (model prog w) _ _ _ "object.__setattr__" "object" "__setattr__" (.ref e) [.str name t,v] [] _ SF.kind SF.split hsub (SF.args (.ref e) (.str name t) v) ?_);rw[PySem.W.osa_eq,refuse_eq];refine aEL (aEL (I.type.at (aEL (hmro.at ?_))));rw[hm,refuseLoop_ref,href];refine aEM (aEL (I.type.at (aEL ((ll X hfree).at (aEL ?_)))));refine aEM ?_;dsimp only;refine aEL (aEM (aEL (aEL (tz hx (aEL ((mf X hc).at ?_))))));rw[hdct];refine aEM (a:=some dx) (aEL (aEM (aEL ?_)));refine um hn λh' hn' hs=>?_;obtain⟨oD,esD,epD,hoD,hdD,hcD⟩:=hn'.count (Within.cons name v hw);refine aEL (rl hoD (by rw[hdD];exact rm (fy hcD (by rw[aEe,ly];lia))) ?_);exact aEM (hq h' _ hs hn')
end
section
variable {X:Cx} {pins:List (Addr×Obj)} {σ:St} {H:Hp} {s:Shared} {h':Heap} {dx:Addr}
def Inv.xdPut (I:Inv X pins σ H s) {t':Nat} {fs fs':List (Str×V)} (M:H dx=some (.xd fs)) (k:∀ b o,b≠dx->s.heap.get? b=some o->h'.get? b=some o) (hd:∃ mA,h'.Ns1 dx mA/\∀ f,RelO (fs'.lookup f) (mA f)) :
 Inv X pins σ (upd H dx (.xd fs')) { s with heap:=h',toks:=t' }:=by
 have ne:∀ b u,H b=some u->(∀ O,u≠.xd O)->b≠dx:=λb u q n z=>by rw[z,M]at q;cases q;exact n _ rfl
 have U:∀ b,H b=none->b≠dx:=λb q z=>by rw[z,M]at q;cases q
 have L:∀ b u,H b=some u->(∀ O,u≠.xd O)->upd H dx (.xd fs') b=some u:=λb u q n=>by rw[aL (ne b u q n)];exact q
 have th:∃ u,h'.get? dx=some u:=by
  obtain⟨mA,⟨o,es,ep,e,_⟩,_⟩:=hd;exact⟨o,e⟩
 have un:Un X.fs [] H (upd H dx (.xd fs')) s.heap h':=⟨λb o q n _ _=>k b o (U b n) q,λb o q n _ _=>⟨o.slots,k b o (U b n) q⟩,λb o q n _=>by rw[aL (U b n)];exact n,
  λb o q _=>by
   by_cases J:b=dx
   .rw[J];exact th
   .exact⟨o,k b o J q⟩,
  λb xs q=>L b _ q (λ_ z=>by cases z),λb o u q=>L b _ q (λ_ z=>by cases z),λb ps q=>⟨#[],by rw[L b _ q (λ_ z=>by cases z)];simp⟩⟩
 exact I.un (t':=t') un λb u q=>by
  by_cases J:b=dx
  .subst J;rw[aJ]at q;cases q;exact hd
  .rw[aL J]at q;refine(I.hok b u q).stay (λc v Y z=>k c v (λz'=>?_) z) (λc z=>L c _ z λ_ z=>by cases z) λc xs z=>L c _ z λ_ z=>by cases z
   subst z';rcases Y with z1 | z1
   .exact J z1.symm
   .rw[M]at z1;cases z1
def X6 {mA:Str->Option Value}:∀ {fs:List (Str×V)},(∀ f,RelO (fs.lookup f) (mA f))->Within mA (fs.map (·.1)):=by
 intro fs r y z;have:=r y;cases q:fs.lookup y with
 | none=>rw[q]at this;exact absurd this.none_of z
 | some v =>
  clear this r z
  induction fs with
  | nil=>cases q
  | cons p r J =>
   obtain⟨a,b⟩:=p;rw[jh]at q
   by_cases h:(y == a)=true
   .rw[tm]at h;subst h;simp
   .rw[Bool.not_eq_true]at h;rw[h]at q;exact aEQ _ (J q)
end
section
variable {X:Cx}
def aD0 (K:PySem.W.Frag) (ta tv:TE) (f:Str):TS:=λD σ H=>tv σ H λy H1=>ta σ H1 λx H2=>∃ a C dx fs,x=.ref a/\H2 a=some (XO C a (some dx))/\H2 dx=some (.xd fs)/\fs.length<=1000/\gY K C f /\
 D.nx σ (upd H2 dx (.xd ((f,y) :: fs)))
def T2 {o value:Expr} {f:Str} {ta tv:TE} {pos pos':Pos} (ha:PE X o ta) (hv:PE X value tv) (hs:swapsWith value (some (.Attribute o f pos')) pos.line X.env=pure false):PS X (.Assign [.Attribute o f pos'] value pos) (aD0 X.K ta tv f):=by
 intro pins s σ H D I h;refine lu (thn (hv pins s σ H _ I h) λu s1 ⟨y,H1,I1,ry,q⟩=>thn (ha pins s1 σ H1 _ I1 q) λov s2 ⟨x,H2,M,rx,a,C,dx,fs,ex,O,U,hl,S,q2⟩=>?_) hs;subst ex;obtain rfl:ov=Value.ref a:=rx;obtain⟨⟨t0,ho⟩,_⟩:=M.hok a _ O;obtain⟨mA,Y,J⟩:=M.hok dx _ U;have ne:a≠dx:=λz=>by rw[z,U]at O;cases O
 refine J3 M.kIn S ho Y ne (X6 J) (by rw[aEN];exact hl) λh' au sb L=>?_;refine⟨σ,_,M.xdPut (t':=au) (fs':=(f,y) :: fs) U (λb o n z=>(sb.2 b n).trans z) ⟨_,L,λg=>?_⟩,q2⟩
 by_cases hg:g=f
 .subst hg;rw[sv,b4 rfl];exact ry
 .have av:(g == f)=false:=by simpa using hg
  rw[jh,av,b3 hg];exact J g
structure B0 (K:PySem.W.Frag) (D fB:Addr):Prop where
 ga:PySem.W.specialIn K (.ref D) "__getattribute__"=some (some (.builtin "type.__getattribute__"))
 reads:PySem.W.readsIn K D (.type "type")=true
 find:PySem.W.findCls K (.ref D) (.type "type") "__init__"=some (.val (.ref fB))
 keep:PySem.W.keepIn K (.ref fB)=true
def cZ {CX:CXT} {k:Nat} {D fB:Addr} {fd:FuncData} {ps:List Str} {sp:Sp} {E:XK} {x:Str} {e:Expr} {es:List Expr} {t:TA} {np apos pos:Pos} {pl:Sem Bool} (B:B0 X.K D fB) (F:FnOk X.prog X.w X.K X.mg X.base CX k fB fd ps sp) (L:Room k X.A) (M:Binds X.K fd ps []) (O:dS CX X E)
 (U:Gl X x) (Y:X.mg x=some (.ref D)) (ha:PA X (e :: es) t) (hdb:(x == ("__debug__":Str))=false:=by decide)
 (hst:starEach (e :: es) X.env=(false,eval e X.env) :: starEach es X.env:=by rfl) (hpl:(backTo pos (starEach es X.env)).any (·.1)=false:=by rfl)
 (ht:eval (.Call (.Attribute (.Name x np) "__init__" apos) (e :: es) [] pos) X.env=(do
  let z <- eval (.Name x np) X.env
  standAt apos.atName
  let (f,first) <- holding [z] (getMethod z "__init__" pl)
  callWith pos f first (backTo pos (starEach (e :: es) X.env)) (backToKw pos (keywordEach [] X.env))):=by rfl) :
 PE X (.Call (.Attribute (.Name x np) "__init__" apos) (e :: es) [] pos) (zB sp [] E t):=by
 intro pins s σ H Q I h;refine lh (pl:=pl) (eG I U Y ?_ hdb) ht;refine PySem.W.method_cls I.kIn B.ga (PySem.W.cls_value I.kIn B.reads B.find rfl ?_);refine ki (h₀:=X.base) I.ok.mod.kin B.keep (thn (ha pos pins { s with toks:=s.toks+1 } σ H _ (I.tok _) h) λus s1 ⟨vs,H1,J,r,q⟩=>⟨J.kIn,?_⟩) hst hpl;exact rR F L M .nil O J r q
def aAx (K:PySem.W.Frag):PySem.W.findCls K (.type "ValueError") (.type "type") "__init__"=some (.val (.builtin "ValueError.__init__")):=by kernel_rfl
def xQ {prog:Program} {w:World} {A:Around} {E:Value->Shared->Prop} {s:Shared} {K:PySem.W.Frag} {name:Str} {v:Value} {T:String} {pl:Sem Bool} {Q:Value×List Value->Shared->Prop} (X:K.In s.heap) (ht:typeOf (.type T)=pure (.type "type")) (hs:Manifest.isStub T=false)
 (e:PySem.W.findCls K (.type T) (.type "type") name=some (.val v)) (O:PySem.W.handedIn v=true) (h:Q (v,[]) { s with toks:=s.toks+1 }):wpAny (model prog w) A (getMethod (.type T) name pl) Q E s:=by
 have J:opaqueClassAbove (.type T)=pure none:=by unfold opaqueClassAbove;dsimp only;rw[hs];rfl
 have L:PySem.W.Looks (model prog w) s.heap (typeOf (.type T)) (.type "type"):=sx ht;have M:PySem.W.findIn K (.type "type") "__getattribute__"=some (some (.builtin "type.__getattribute__")):=PySem.W.type_tga;unfold getMethod specialOf;refine aEL (aEL (L.here ((ll X M).here ?_)));dsimp only;rw[b4 PySem.W.canon_tga];refine aEL (eu (Q:=λv=>Q (v,[])) (E:=E) ?_ (λ_ _ z=>aEM z) λ_ _ z=>z);have U:PySem.W.Looks (model prog w) s.heap (opaqueClassAbove (.type T)) none:=sx J;refine PySem.W.cls_open X U L M (PySem.W.looks_hook X (r:=none) (by rfl)) (by show PySem.W.subIn K _ _=_;rfl) e
  (aEM (by show wpAny _ _ (handedOut v) _ _ _;rw[tw O];exact aEM h))
def z8 {e:Expr} {es:List Expr} {t:TA} {np apos pos:Pos} {pl:Sem Bool} (Y:Gl X "ValueError") (hm:X.mg "ValueError"=none) (ha:PA X (e :: es) t)
 (hst:starEach (e :: es) X.env=(false,eval e X.env) :: starEach es X.env:=by rfl) (hpl:(backTo pos (starEach es X.env)).any (·.1)=false:=by rfl)
 (ht:eval (.Call (.Attribute (.Name "ValueError" np) "__init__" apos) (e :: es) [] pos) X.env=(do
  let M <- eval (.Name "ValueError" np) X.env
  standAt apos.atName
  let (f,first) <- holding [M] (getMethod M "__init__" pl)
  callWith pos f first (backTo pos (starEach (e :: es) X.env)) (backToKw pos (keywordEach [] X.env))):=by rfl) :
 PE X (.Call (.Attribute (.Name "ValueError" np) "__init__" apos) (e :: es) [] pos) (aCP X.K t):=by
 intro pins s σ H Q I h;refine lh (pl:=pl) (mW I Y hm (u:=.type "ValueError") (by kernel_rfl) ?_) ht;refine xQ I.kIn (by kernel_rfl) (by decide +kernel) (aAx X.K) (by decide +kernel) ?_;have hplain:(backTo pos (starEach (e :: es) X.env)).any (·.1)=false:=by
  rw[hst];show (false || (backTo pos (starEach es X.env)).any (·.1))=false;rw[hpl];rfl
 refine kt hplain ?_;have sp:=ha pos pins { s with toks:=s.toks+1 } σ H _ (I.tok _) h;rw[hst]at sp ⊢;refine lp (thn sp λus O ⟨vs,H2,J,r,a,C,i,od,rest,ev,hz,U,hC,q⟩=>?_);subst ev;cases r with
 | cons r0 rr =>
  rename_i u us _
  obtain rfl:u=Value.ref a:=r0;obtain⟨bm,N,nm,qn,bs,hdct,sn,sub,ab,col,dd,k0,k1,k2,k3,k5,mN,L,hN,au,T⟩:=hC O.heap J.kIn;obtain⟨⟨t0,ho⟩,_⟩:=J.hok a _ U;refine J2 (hrest:=by have:=rr.length;show us.length<=_;lia) ng T L ho λh' t1 k z=>?_;refine⟨.non,H2,?_,rfl,q⟩;have:=J.write (x:=a) (e:=a) (o:=XO C a od) (t':=O.toks) (by rw[U];exact True.intro) (.inl rfl) k ⟨_,z⟩ (XO.mk z)
  rwa [show upd H2 a (XO C a od)=H2 from by funext b;unfold upd;split <;> simp_all]at this
end
structure FunD (K:PySem.W.Frag) (x qual:Str) (st:Stmt) (f:Addr) (fd:FuncData):Prop where
 ex:∃ (oc:Value) (od:Option Addr) (dV kV doc pm:Value) (an:Option Addr) (cdv ct:Value) (osl:Array (Option Value)),
  fd=PySem.W.fnOf x qual (bQ st) (bC st) (aG st) dV kV doc pm an cdv ct/\K.lookup f=some ⟨oc,od,.func fd,osl⟩/\PySem.W.codeIn K cdv qual=true
 kp:PySem.W.keepIn K (.ref f)=true
section
variable {P:Program} {w:World} {K:PySem.W.Frag} {mg:Str->Option Value} {base:Heap}
def FunD.ok {x qual:Str} {st:Stmt} {f:Addr} {fd:FuncData} {N ps:List Str} {k:Nat} {sp:Sp} (F:FunD K x qual st f fd) (S:FnScope N ps (aG st)) (len:∀ vs H Q E,sp vs H Q E->vs.length=ps.length)
 (J:∀ (z:Value) (A:Around) (outer:List Env) (s:Shared) (H:Hp) (vs:List V) (Q:VK) (E:XK),Room k (A.deeper (envOfC qual (aG st) s.heap.objs.size f z))->sp vs H Q E ->
  ∃ t,PSs (fX CX0 P w K mg base N qual (aG st) f z A outer s H E).nox (bC st) t/\t { nx:=λ_ H'=>Q .non H',rt:=Q } (dQ N vs) H):FnOk P w K mg base CX0 (k+1) f fd ps sp:=by
 obtain⟨oc,od,dV,kV,O,pm,an,z,ct,U,rfl,lk,L⟩:=F.ex;refine aBV lk L S len λA outer s H vs Q E Y M=>?_;obtain⟨t,h,q⟩:=J z A outer s H vs Q E Y M;exact⟨t,h.nox,q⟩
def T3 {x qual:Str} {st:Stmt} {f:Addr} {Y:Value} {od M:Option Addr} {L:Array (Option Value)} {O kV J U z ct:Value} (l:K.lookup f=some ⟨Y,od,.func (PySem.W.fnOf x qual (bQ st) (bC st) (aG st) O kV J U M z ct),L⟩)
 (c:PySem.W.codeIn K z qual=true) (k:PySem.W.keepIn K (.ref f)=true):FunD K x qual st f (PySem.W.fnOf x qual (bQ st) (bC st) (aG st) O kV J U M z ct):=⟨⟨Y,od,O,kV,J,U,M,z,ct,L,rfl,l,c⟩,k⟩
end
end L2
namespace L2
open PySem PySem.Spec PyProof.Rows
open PySem.W PySem.Calls
section
variable {X:Cx}
abbrev TC2:=St->Hp->(St->Hp->Prop)->XK->Prop
def z9 (X:Cx) (st:Stmt) (t:TC2):Prop:=∀ (pins:List (Addr×Obj)) (s:Shared) (σ:St) (H:Hp) (Q:St->Hp->Prop) (E:XK),Inv X pins σ H s->t σ H Q E ->
 wpAny (model X.prog X.w) X.A (exec st X.env) (λf J=>f=.next/\∃ z H',Inv X pins z H' J/\Q z H') (λO J=>∃ L M,Inv X pins σ L M/\CXR X.prog X.w X.stack L M E O J) s
def aD1 (t:TC2) (r:HR):TS:=λD σ H=>t σ H (λz H'=>D.nx z H') λcls od H'=>∀ e,H' e=none->r cls od e D σ H'
def aAy {st:Stmt} {h:ExceptHandler} {hs:List ExceptHandler} {t:TC2} {r:HR} {pos:Pos} (Y:Body X) (hc:z9 X st t) (hh:PH X (h :: hs) r):PS X (.Try [st] (h :: hs) [] [] pos) (aD1 t r):=by
 intro pins s σ H D I q;refine wpAny_Try_except (ml (eu (hc pins s σ H _ _ I q) (λf s1 z=>?_) λev s1 z=>?_))
 .obtain⟨rfl,J,H',I',L⟩:=z;exact mv (mv ⟨J,H',I',L⟩)
 .obtain⟨H0,s0,U,z⟩:=z;obtain⟨e,cls,a0,od,H',B,rfl,f,L⟩:=z.fly;exact A9 Y U f λM O=>hh pins H0 s0 σ e cls a0 od H' B M D U O (L e f.no)
end
end L2
namespace CW
open PySem L2
section
variable {P:Program} {w:World} {K:PySem.W.Frag} {mg:Str->Option Value} {base:Heap}
def J4 (i:Int):Prop:=i.natAbs.log2<1920/\(toString i:Str).length<=1000
def aAA {i:Int} (h0:0<=i) (h1:i<256):J4 i:=by
 have:∀ n:Nat,n<256->((n:Int).natAbs.log2<1920/\(toString (n:Int):Str).length<=1000):=by decide +kernel
 have:=this i.toNat (by lia)
 rwa [show ((i.toNat:Nat):Int)=i from by lia]at this
def aCT (K:PySem.W.Frag):Sp:=λvs H Q E=>∃ e C i a b,vs=[.ref e,.str a,.str b]/\H e=some (XO C e none)/\tD K C i/\gY K C "word" /\
 ∀ dx,H dx=none->dx≠e->Q .non (upd (upd H dx (.xd [("word",.str b)])) e (XO C e (some dx)))
def aD2 (nm:Str) (C:Addr):Sp:=λvs H Q E=>∃ e a,vs=[.ref e,.str a]/\H e=some (XO C e none) /\
 ∀ dx,H dx=none->dx≠e->Q .non (upd (upd H dx (.xd [("word",.str nm)])) e (XO C e (some dx)))
def aAB (nm:Str) (C:Addr):Sp:=λvs H Q E=>∃ e i,vs=[.ref e,.int i]/\J4 i/\H e=some (XO C e none) /\
 ∀ dx,H dx=none->dx≠e->Q .non (upd (upd H dx (.xd [("at",.int i),("word",.str nm)])) e (XO C e (some dx)))
def wE {H:Hp} {e dx:Addr} {o z J:HO} (n:dx≠e):upd (upd (upd H dx o) e z) dx J=upd (upd H dx J) e z:=by
 funext b
 unfold upd
 by_cases h1:b=dx
 .subst h1;rw[b4 rfl,b3 n,b4 rfl]
 .rw[b3 h1]
  by_cases h2:b=e
  .rw[b4 h2,b4 h2]
  .rw[b3 h2,b3 h2,b3 h1,b3 h1]
def T4 {H:Hp} {e dx:Addr} {o o' z:HO} (he:H e=none) (n:dx≠e):del (upd (upd (upd H e o) dx o') e z) e=upd H dx o':=by
 funext b
 unfold del upd
 by_cases h1:b=e
 .subst h1;rw[b4 rfl,b3 (lq n),he]
 .rw[b3 h1,b3 h1]
  by_cases h2:b=dx
  .rw[b4 h2,b4 h2]
  .rw[b3 h2,b3 h2,b3 h1]
def Rf (E:XK) (C:Addr) (fs:List (Str×V)) (H:Hp):Prop:=∀ dx,H dx=none->E (.ref C) (some dx) (upd H dx (.xd fs))
def Rf0 (E:XK) (C:Addr) (nm:Str) (H:Hp):Prop:=Rf E C [("word",.str nm)] H
def RfI (E:XK) (C:Addr) (nm:Str) (i:Int) (H:Hp):Prop:=Rf E C [("at",.int i),("word",.str nm)] H
def rd0 {E:XK} {C:Addr} {nm a:Str} {H:Hp} (k:Rf0 E C nm H):[V.str a].length<=sizeLine/\∀ e,H e=none->aD2 nm C (.ref e :: [V.str a]) (upd H e (XO C e none)) (λv H2=>v=.non/\∃ od,H2 e=some (XO C e od)/\E (.ref C) od (del H2 e)) E0 :=
 ⟨by show 1<=sizeLine;decide,λe he=>⟨e,a,rfl,aJ,λdx h1 h2=>⟨rfl,some dx,aJ,by
  rw[aL h2]at h1;rw[T4 he h2];exact k dx h1⟩⟩⟩
def rdI {E:XK} {C:Addr} {nm:Str} {i:Int} {H:Hp} (hi:J4 i) (k:RfI E C nm i H):[V.int i].length<=sizeLine/\∀ e,H e=none->aAB nm C (.ref e :: [V.int i]) (upd H e (XO C e none)) (λv H2=>v=.non/\∃ od,H2 e=some (XO C e od)/\E (.ref C) od (del H2 e)) E0 :=
 ⟨by show 1<=sizeLine;decide,λe he=>⟨e,i,rfl,hi,aJ,λdx h1 h2=>⟨rfl,some dx,aJ,by
  rw[aL h2]at h1;rw[T4 he h2];exact k dx h1⟩⟩⟩
structure kW (P:Program) (w:World) (K:PySem.W.Frag) (mg:Str->Option Value) (base:Heap) (x:Str) (C:Addr) (ps:List Str) (sp:Sp):Prop where
 m:mg x=some (.ref C)
 i:∃ fI fd,tD K C (some (.ref fI))/\PySem.W.isFn K (.ref fI)=true/\FnOk P w K mg base CX0 2 fI fd ps sp/\Binds K fd ps []
def bX {X:Cx} {E:XK} {C:Addr} {ps:List Str} {sp:Sp} {k:Nat} {x:Str} {e:Expr} {es:List Expr} {t:TA} {np aa pos:Pos} (J:G2 X E) (R:kW X.prog X.w X.K X.mg X.base x C ps sp) (L:X.ex=[]) (z:X.calm=true)
 (M:Room k X.A) (O:Gl X x) (U:PA X (e :: es) t) (Y:3<=k:=by decide) (hdb:(x == ("__debug__":Str))=false:=by decide)
 (he:starEach (e :: es) X.env=(false,eval e X.env) :: starEach es X.env:=by rfl) (hpl:(backTo aa (starEach es X.env)).any (·.1)=false:=by rfl):PS X (.Raise (some (.Call (.Name x np) (e :: es) [] aa)) none pos) (T0 C sp E t):=by
 obtain⟨m,fI,fd,h1,h2,h3,h4⟩:=R;exact X5 (hdb:=hdb) (he:=he) (hpl:=hpl) J L z h1 h2 h3 (M.mono Y) h4 O m U
def aAC (K:PySem.W.Frag) (C D:Addr) (name:Str):Bool:=(match PySem.W.clsIn K C with
 | some cd=>cd.mro == .ref C :: .ref D :: bmV && cd.hasDict
 | none=>false) && PySem.W.findIn K (.ref C) "__setattr__" == some (some (.builtin "object.__setattr__")) && PySem.W.findIn K (.ref C) name == some none
def B1 (D:Addr) (self:Value):PySem.refuseLoop self "__setattr__" (.ref D :: bmV)=pure ():=by
 rw[PySem.refuseLoop_ref];rfl
def aAD {C D:Addr} {name:Str} (h:aAC K C D name=true):gY K C name:=by
 simp only[aAC,eH,tm]at h;obtain⟨⟨h1,h2⟩,h3⟩:=h;split at h1
 .rename_i cd z
  rw[eH,tm]at h1;exact⟨⟨cd,.ref D :: bmV,z,h1.1,B1 D,by rw[ji];rfl,h1.2⟩,h2,h3⟩
 .cases h1
def aCU (K:PySem.W.Frag) (C:Addr) (f:Str):Bool:=PySem.W.findIn K (.ref C) "__getattribute__" == some (some (.builtin "BaseException.__getattribute__")) && PySem.W.findIn K (.ref C) "__getattr__" == some none &&
 PySem.W.subIn K (.ref C) (.type "BaseException") == some true && PySem.W.hasDictIn K C && PySem.W.findIn K (.ref C) f == some none
def aD3 {C:Addr} {f:Str} (h:aCU K C f=true):z7 K C f:=by
 simp only[aCU,eH,tm]at h;exact⟨h.1.1.1.1,h.1.1.1.2,h.1.1.2,h.1.2,h.2⟩
def aAz (K:PySem.W.Frag) {X:Cx} {e:Expr} {ta:TE} {f:Str} {pos:Pos} (z:X.K=K) (he:PE X e ta) (J:attributeBase e f X.env (eval e X.env)=eval e X.env):PE X (.Attribute e f pos) (aB3 K ta f):=by
 subst z;exact aAw he J
def aBA (row:List Int):Prop:=∀ j,1<=j->j<row.length->row.getD (j - 1) 0<row.getD j 0
def kX (row:List Int) (i:Nat):Prop:=1<=i/\i<row.length/\row.getD i 0<=row.getD (i - 1) 0/\∀ j,1<=j->j<i->row.getD (j - 1) 0<row.getD j 0
inductive WhyRow (row:List Int):Str->Int->Prop where
 | many:60<row.length->WhyRow row "TooMany" 0
 | good:row.length<=60->aBA row->WhyRow row "" 0
 | bad {i:Nat}:row.length<=60->kX row i->WhyRow row "BadRow" i
def T5 (row:List Int):∀ n,(∀ j,1<=j->j<n->j<row.length->row.getD (j - 1) 0<row.getD j 0)\/∃ i,kX row i
 | 0=>.inl λj h1 h2=>by lia
 | n+1=>by
  rcases T5 row n with h | h
  .by_cases z:1<=n/\n<row.length
   .by_cases L:row.getD n 0<=row.getD (n - 1) 0
    .exact .inr ⟨n,z.1,z.2,L,λj h1 h2=>h j h1 h2 (by lia)⟩
    .refine .inl λj h1 h2 h3=>?_
     by_cases J:j<n
     .exact h j h1 J h3
     .obtain rfl:j=n:=by lia
      lia
   .refine .inl λj h1 h2 h3=>?_
    by_cases J:j<n
    .exact h j h1 J h3
    .exact absurd ⟨by lia,by lia⟩ z
  .exact .inr h
def nR {row:List Int} {i:Nat} (b:kX row i) (g:aBA row):False:=by
 have:=g i b.1 b.2.1;have:=b.2.2.1
 lia
def tE {row:List Int} {i j:Nat} (a:kX row i) (b:kX row j):i=j:=by
 rcases Nat.lt_trichotomy i j with h | h | h
 .have:=b.2.2.2 i a.1 h;have:=a.2.2.1;lia
 .exact h
 .have:=a.2.2.2 j b.1 h;have:=b.2.2.1;lia
def WhyRow.row_of {row:List Int} {nm:Str} {i:Int} (W:WhyRow row nm i) (h:nm=""):row.length<=60/\aBA row:=by
 cases W with
 | many _=>exact absurd h (by decide)
 | good a b=>exact⟨a,b⟩
 | bad _ _=>exact absurd h (by decide)
structure FunC (K:PySem.W.Frag) (x qual:Str) (st:Stmt) (f:Addr) (fd:FuncData) (c:Addr):Prop where
 ex:∃ (oc:Value) (od:Option Addr) (kV doc pm:Value) (an:Option Addr) (ct:Value) (osl:Array (Option Value)),
  fd=PySem.W.fnOf x qual (bQ st) (bC st) (aG st) .none kV doc pm an (.ref c) ct/\K.lookup f=some ⟨oc,od,.func fd,osl⟩/\PySem.W.codeIn K (.ref c) qual=true
end
end CW
namespace L2
open PySem PySem.Spec PyProof.Rows
section
variable {X:Cx}
def XW (X:Cx) (pins:List (Addr×Obj)) (σ:St) (E:XK) (L:Value) (M:Shared):Prop:=∃ z J,Inv X pins σ z J/\CXR X.prog X.w X.stack z J E L M
abbrev TEX:=St->Hp->VK->XK->Prop
def PEX (X:Cx) (e:Expr) (t:TEX):Prop:=∀ (pins:List (Addr×Obj)) (s:Shared) (σ:St) (H:Hp) (Q:VK) (E:XK),Inv X pins σ H s->t σ H Q E ->
 wpAny (model X.prog X.w) X.A (eval e X.env) (EP X pins σ Q) (XW X pins σ E) s
def tFX (sp:Sp) (t:TA):TEX:=fun σ H Q E=>t σ H λvs H1=>sp vs H1 Q E
def aAE {k j:Nat} {f:Str} {ps:List Str} {sp:Sp} {e:Expr} {es:List Expr} {t:TA} {np aa:Pos} (F:cQ X.prog X.w X.K X.mg X.base f j ps sp) (U:Room k X.A) (Y:Gl X f)
 (ha:∀ E',PA (X.withE E') (e :: es) t) (hj:j<=k:=by decide) (hdb:(f == ("__debug__":Str))=false:=by decide)
 (he:starEach (e :: es) X.env=(false,eval e X.env) :: starEach es X.env:=by rfl) (hpl:(backTo aa (starEach es X.env)).any (·.1)=false:=by rfl) :
 PEX X (.Call (.Name f np) (e :: es) [] aa) (tFX sp t):=by
 obtain⟨fa,fd,G,hm,hk,hb⟩:=F;intro pins s σ H Q E I h;refine kh (eG I Y hm ?_ hdb);refine ki (h₀:=X.base) I.ok.mod.kin hk (thn (ha (XW X pins σ E) aa pins s σ H _ I.withE h) λus M ⟨vs,H1,O,r,q⟩=>⟨O.kIn,?_⟩) he hpl;have J:=O.noE I.ok;have hl:(us++[]).length=ps.length:=by rw[jv,<- r.length];exact G.len _ _ _ _ q
 have z:=hb M us J.kIn hl;rw[jv]at z;refine ny (mw (G.run X.A X.stack M H1 ⟨us,[]⟩ us vs _ E (U.mono hj) J.env0 z r q) λr s' L=>?_);cases r with
 | error ev=>exact⟨H1,M,J,L⟩
 | ok fl =>
  cases fl with
  | ret u=>exact J.after L
  | next=>exact False.elim L
  | brk=>exact False.elim L
  | cont=>exact False.elim L
def aAF {e:Expr} {t:TEX} {pos:Pos} (he:PEX X e t) (hs:swapsWith e none pos.line X.env=pure false:=by rfl) :
 z9 X (.Expr e pos) (fun σ H Q E=>t σ H (λ_ H'=>Q σ H') E):=by
 intro pins s σ H Q E I h;refine wpAny_Expr_any ?_ I.quiet hs;exact thn (he pins s σ H _ E I h) λu L ⟨v,H',z,M,J⟩=>⟨rfl,σ,H',z,J⟩
end
end L2
namespace CW
open PySem L2
structure Bt6 (mg:Str->Option Value):Prop where
 dict:mg "dict"=none
def iQ (ps:List Str) (a b:Nat):Prop:=ps.length=a+b/\(ps.take a).all (λn=>bI n cF 8)=true/\(ps.drop a).all gW=true
inductive xR (vs:List V) (H:Hp) (Q:VK) (E_:XK):Prop
 | mk (t:Str) (h0_:vs=[.str t]) (h1_:Txs t) (h2_:∀ d,eY t=some d->∀ v H',Same H H'->DeedAt H' v d->Q v H') (h3_:eY t=none->∀ H',Same H H'->Q .non H'):xR vs H Q E_
def B2 {ps:List Str} (h:iQ ps 1 (ps.length - 1)):∃ n xs,ps=n :: xs/\iP "build" ps=some ⟨"build",[n],xs.map dE,true⟩:=by
 obtain⟨h1,h2,h3⟩:=h;cases ps with
 | nil=>simp at h1
 | cons n xs =>
  refine⟨n,xs,rfl,?_⟩;unfold iP;rw[b4 rfl];have z:bI n cF 8=true:=by simpa using h2
  have J:xs.all gW=true:=h3;show (if bI n cF 8=true/\xs.all gW=true then _ else _)=_;rw[b4 ⟨z,J⟩]
def uQ {ps:List Str} (h:¬ iQ ps 1 (ps.length - 1)):iP "build" ps=none:=by
 unfold iP;rw[b4 rfl];cases ps with
 | nil=>rfl
 | cons n xs =>
  show (if bI n cF 8=true/\xs.all gW=true then _ else _)=_;rw[b3];rintro ⟨z,J⟩;exact h ⟨by simp;lia,by simpa using z,J⟩
def tF {w:Str} {ps:List Str} {a b:Nat} (hw:w≠"build") (z:fR w=some ((a:Int),(b:Int))):iP w ps=if ps.length=a+b/\(ps.take a).all (λn=>bI n cF 8)=true/\(ps.drop a).all gW=true then some ⟨w,ps.take a,(ps.drop a).map dE,false⟩else none:=by
 unfold iP;rw[b3 hw,z];show (if ((ps.length:Int)=(a:Int)+(b:Int)/\(ps.take (a:Int).toNat).all (λn=>bI n cF 8)=true/\(ps.drop (a:Int).toNat).all gW=true)then some (⟨w,ps.take (a:Int).toNat,(ps.drop (a:Int).toNat).map dE,false⟩:Dd)else none)=_;rw[Int.toNat_natCast]
 by_cases c:ps.length=a+b
 .have c':(ps.length:Int)=(a:Int)+(b:Int):=by lia
  simp[c,c']
 .have c':¬ (ps.length:Int)=(a:Int)+(b:Int):=by lia
  simp[c,c']
def B3 {w:Str} {ps:List Str} {a b:Nat} (hw:w≠"build") (z:fR w=some ((a:Int),(b:Int))) (h:iQ ps a b):iP w ps=some ⟨w,ps.take a,(ps.drop a).map dE,false⟩:=by
 rw[tF hw z];exact b4 h
def aAG {w:Str} {ps:List Str} {a b:Nat} (hw:w≠"build") (z:fR w=some ((a:Int),(b:Int))) (h:¬ iQ ps a b):iP w ps=none:=by
 rw[tF hw z];exact b3 h
def tG {w:Str} {ps:List Str} (hw:w≠"build") (z:fR w=none):iP w ps=none:=by
 unfold iP;rw[b3 hw,z]
def aAH {t:Str} (h:Txs t):∃ w ps,Txt.split t " "=w :: ps/\eY t=iP w ps/\(∀ z∈w :: ps,Txs z)/\ps.length<=5000:=by
 obtain⟨J,L,O⟩:=(TxB.of h h.len).split;cases hs:Txt.split t " " with
 | nil=>exact absurd hs (sV t " ")
 | cons w ps =>
  rw[hs]at J L;refine⟨w,ps,rfl,?_,λz M=>(J z M).txs (ah _),by simpa using L⟩;unfold eY;rw[hs]
def J5 (ws:List Str) (i:Nat) (hi:i<=ws.length):fP (ws.map V.str) none (some (i:Int))=(ws.take i).map V.str:=by rw[rC,px]
def xS (ws:List Str) (i:Nat):fP (ws.map V.str) (some (i:Int)) none=(ws.drop i).map V.str:=by rw[jB,rg]
end CW
namespace L2
open PySem PySem.Spec PyProof.Rows
def aAI {K:PySem.W.Frag} {a:Addr} {xs:List V} {z:St} {g:TG} {tt:TT} {te:TE} {H:Hp} {Q:VK} (Pv:Nat->List V->Hp->Prop) (h0:Pv 0 [] H) (O:∀ i ys H,i<=xs.length->Pv i ys H->SqT K H a xs/\ys.length<sizeLine)
 (hs:∀ i x ys H,xs[i]?=some x->Pv i ys H->g x z H λJ H2=>tt J H2 λb M=>if b=true then te J M λy U=>Pv (i+1) (ys++[y]) U else Pv (i+1) ys M) (hd:∀ ys H,Pv xs.length ys H->∀ D,H D=none->Q (.ref D) (upd H D (.lst ys))) :
 qI (Itt K a) z g tt te Q H:=by
 refine⟨λi m ys H=>m=xs.length - i/\i<=xs.length/\Pv i ys H,⟨xs.length,by simp,ka _,h0⟩,?_⟩;rintro i m ys H ⟨rfl,hi,p⟩;obtain⟨q,Y⟩:=O i ys H hi p;refine⟨Y,?_⟩
 by_cases L:i<xs.length
 .refine .inr ⟨⟨xs,xs[i],q,by simp[L]⟩,Pv (i+1),λau H' p'=>⟨xs.length - (i+1),by lia,rfl,L,p'⟩,λx H' y=>?_⟩;obtain⟨e,y⟩:=y;subst e;exact hs i x ys _ (y xs q) p
 .have e:i=xs.length:=by lia
  subst e;exact .inl ⟨⟨xs,q,ah _⟩,hd ys H p⟩
end L2
namespace CW
open PySem L2
def SameD.thaw {d:Addr} {H H':Hp} {kvs:List (Key×V)} (hd:H d=some (.dK kvs)) (g:SameD d H H'):Same H (upd H' d (.dK kvs)):=λb o e=>by
 by_cases z:b=d
 .subst z;rw[hd]at e;cases e;exact aJ
 .rw[aL z];exact g b o z e
def SameD.frz {d:Addr} {H:Hp} {o:HO}:SameD d H (upd H d o):=λb u n e=>by rw[aL n];exact e
def SameD.then {d:Addr} {H H1 H2:Hp} (a:SameD d H H1) (b:Same H1 H2):SameD d H H2:=λc o n h=>b c o (a c o n h)
def SameD.free {d:Addr} {H H':Hp} {o:HO} (g:SameD d H H') (hd:H' d=some o) {l:Addr} (h:H' l=none):H l=none:=by
 cases q:H l with
 | none=>rfl
 | some u =>
  have n:l≠d:=λe=>by rw[e,hd]at h;cases h
  rw[g l u n q]at h;cases h
def at0 {v:V} {xs:List V}:atI (v :: xs) 0=some v:=jO (xs:=v :: xs) (j:=0) rfl
abbrev NT:Addr->Prop:=λ_=>True
def RowA.nt {N:Addr->Prop} {H:Hp} {t:Addr} {r:List Int} (h:RowA N H t r):RowA NT H t r:=h.imp λ_ _ _ _=>trivial
def RowA.sq {K:PySem.W.Frag} {N:Addr->Prop} {H:Hp} {t:Addr} {r:List Int} (h:RowA N H t r):SqL K H t (r.map V.int)\/SqT K H t (r.map V.int):=by
 rcases h with ⟨_,h⟩ | h
 .exact .inl (SqL.of h)
 .exact .inr (SqT.of h)
def RowA.ix {K:PySem.W.Frag} {N:Addr->Prop} {H:Hp} {t:Addr} {r:List Int} {i:Int} {v:V} {Q:VK} (h:RowA N H t r) (e:atI (r.map V.int) i=some v) (q:Q v H):rIx K (.ref t) (.int i) H Q:=by
 rcases h with ⟨_,h⟩ | h
 .exact .inl ⟨t,_,i,v,rfl,rfl,SqL.of h,e,q⟩
 .exact .inr (.inl ⟨t,_,i,v,rfl,rfl,SqT.of h,e,q⟩)
structure Cn3 (mg:Str->Option Value) (t1 t2 t3:Tok):Prop where
 FEW_WALKS:mg "FEW_WALKS"=some (.int 10 t1)
 REST_APART:mg "REST_APART"=some (.int 16 t2)
 MOST_ROADS:mg "MOST_ROADS"=some (.int 8 t3)
inductive nS (vs:List V) (H:Hp) (Q:VK) (E_:XK):Prop
 | mk (a:Addr) (row:List Int) (h0_:vs=[.ref a]) (h1_:RowA NT H a row) (h2_:Rw row) (h3_:Q .non H):nS vs H Q E_
def aCV {vs:List V} {H:Hp} {Q:VK} {E:XK} (h:xD vs H Q E):nS vs H Q E:=by
 obtain⟨a,row,e,h1,h2,h3,k⟩:=h;exact⟨a,row,e,.inl ⟨trivial,h1⟩,⟨h2,h3⟩,k⟩
section
variable {K:PySem.W.Frag} (G:Hc K)
inductive lW (vs:List V) (H:Hp) (Q:VK) (E_:XK):Prop
 | mk (x dx:Addr) (u1 u2 u3:V) (h0_:vs=[.ref x,u1,u2,u3]) (h1_:H x=some (.ins G.Rd dx [])) (h2_:Q .non (upd H x (.ins G.Rd dx [("entries",u1),("rests",u2),("course",u3)]))):lW vs H Q E_
inductive mY (vs:List V) (H:Hp) (Q:VK) (E_:XK):Prop
 | mk (x dx:Addr) (u1 u2 u3:V) (h0_:vs=[.ref x,u1,u2,u3]) (h1_:H x=some (.ins G.Cs dx [])) (h2_:Q .non (upd H x (.ins G.Cs dx [("rested",u1),("walks",u2),("turned",u3)]))):mY vs H Q E_
def aB5 {H:Hp} {x dx:Addr} {z J L:V} {R:Hp->Prop} {E:XK} (M:H x=none) (hd:H dx=none) (O:dx≠x) (k:∀ H',Same H H'->H' x=some (.ins G.Rd dx [("entries",z),("rests",J),("course",L)])->R H') :
 lW G [.ref x,z,J,L] (upd (upd H dx (.own x)) x (.ins G.Rd dx [])) (λv H2=>v=.non/\R H2) E:=by
 refine⟨x,dx,z,J,L,rfl,aJ,rfl,k _ (λb o e=>?_) aJ⟩;rw[aL (aU e M),aL (aU e M),aL (aU e hd)];exact e
def aAJ {H:Hp} {x dx:Addr} {z J L:V} {R:Hp->Prop} {E:XK} (M:H x=none) (hd:H dx=none) (O:dx≠x) (k:∀ H',Same H H'->H' x=some (.ins G.Cs dx [("rested",z),("walks",J),("turned",L)])->R H') :
 mY G [.ref x,z,J,L] (upd (upd H dx (.own x)) x (.ins G.Cs dx [])) (λv H2=>v=.non/\R H2) E:=by
 refine⟨x,dx,z,J,L,rfl,aJ,rfl,k _ (λb o e=>?_) aJ⟩;rw[aL (aU e M),aL (aU e M),aL (aU e hd)];exact e
end
def kY {J z:Type} {R:J->z->Prop}:∀ {xs:List J} {ys:List z} {j:Nat} {y:z},Paired R xs ys->ys[j]?=some y->∃ x,xs[j]?=some x/\R x y
 | _,_,_,_,.nil,e=>by simp at e
 | _,_,0,_,.cons r _,e=>by simp at e;subst e;exact⟨_,rfl,r⟩
 | _,_,j+1,y,.cons _ t,e=>by
  obtain⟨x,h1,h2⟩:=kY (j:=j) (y:=y) t (by simpa using e);exact⟨x,by simpa using h1,h2⟩
def wo (S:List Addr) (H:Hp):Hp:=λb=>if b∈S then none else H b
def B4 {S:List Addr} {H:Hp} {x:Addr} (h:x∈S):wo S H x=none:=by unfold wo;rw[b4 h]
def J6 {S:List Addr} {H:Hp} {x:Addr} (h:x∉S):wo S H x=H x:=by unfold wo;rw[b3 h]
def T6 {S:List Addr} {H:Hp}:Same (wo S H) H:=λb o e=>by
 by_cases h:b∈S
 .rw[B4 h]at e;cases e
 .rw[J6 h]at e;exact e
def aD4 {S:List Addr} {J H:Hp} (g:Same J H) (h:∀ x∈S,J x=none):Same J (wo S H):=λb o e=>by
 rw[J6 (λz=>by rw[h b z]at e;cases e)];exact g b o e
section
variable {K:PySem.W.Frag} {G:Hc K}
variable (G)
inductive jI (vs:List V) (H:Hp) (Q:VK) (E_:XK):Prop
 | mk (x dx:Addr) (h0_:vs=[.ref x]) (h1_:H x=some (.ins G.Hs dx [])) (h2_:∀ d p q,H d=none->H p=none->H q=none->d≠p->d≠q->p≠q->Q .non (upd (upd (upd (upd H d (.dK [])) p (.lst [])) q (.lst [])) x (.ins G.Hs dx (kU d p q)))):jI vs H Q E_
variable {G}
def cV {H:Hp} {a t:Addr} {o:HO} (h:upd H a o t=none):H t=none:=by
 by_cases z:t=a
 .rw[z,aJ]at h;cases h
 .rw[aL z]at h;exact h
def nU {H:Hp} {x y:Addr} {o u:HO} (h:x≠y):upd (upd H x o) y u=upd (upd H y u) x o:=by
 funext b
 unfold upd
 by_cases J:b=y
 .rw[b4 J]
  by_cases z:b=x
  .exact absurd (z.symm.trans J) h
  .rw[b3 z,b4 J]
 .rw[b3 J]
  by_cases z:b=x
  .rw[b4 z,b4 z]
  .rw[b3 z,b3 z,b3 J]
def X7 {H:Hp} {x d p q:Addr} {z J L O U M:HO} (h1:x≠d) (h2:x≠p) (h3:x≠q):upd (upd (upd (upd (upd (upd H d z) x O) p J) x U) q L) x M=upd (upd (upd (upd H d z) p J) q L) x M:=by
 rw[nU h3,iH,<- nU h3,nU h2,iH,nU h3]
end
end CW
namespace L2
open PySem PySem.W PySem.Spec PyProof.Rows
section
variable {P:Program} {w:World} {K:PySem.W.Frag} {mg:Str->Option Value} {base h:Heap} {x:Str} {st:Stmt} {f c:Addr} {fd:FuncData}
structure DefIn (K:PySem.W.Frag) (x:Str) (st:Stmt) (f:Addr) (fd:FuncData):Prop where
 a:PySem.W.nsIn K mainGlobals x=some (some (.ref f))
 F:Fun K x x st f fd
def defIn {U:Value} {od M:Option Addr} {L:Array (Option Value)} {kV J O z ct:Value} (a:PySem.W.nsIn K mainGlobals x=some (some (.ref f))) (l:K.lookup f=some ⟨U,od,.func (PySem.W.fnOf x x (bQ st) (bC st) (aG st) .none kV J O M z ct),L⟩)
 (c:PySem.W.codeIn K z x=true) (k:PySem.W.keepIn K (.ref f)=true):DefIn K x st f (PySem.W.fnOf x x (bQ st) (bC st) (aG st) .none kV J O M z ct):=⟨a,rZ l c k⟩
structure DefC (K:PySem.W.Frag) (x:Str) (st:Stmt) (f:Addr) (fd:FuncData) (c:Addr):Prop where
 a:PySem.W.nsIn K mainGlobals x=some (some (.ref f))
 G:CW.FunC K x x st f fd c
 k:PySem.W.keepIn K (.ref f)=true
def DefC.F (D:DefC K x st f fd c):Fun K x x st f fd:=by
 obtain⟨M,od,kV,z,O,U,ct,J,e,lk,L⟩:=D.G.ex;exact⟨⟨M,od,kV,z,O,U,.ref c,ct,J,e,lk,L⟩,D.k⟩
structure DAt (P:Program) (w:World) (base:Heap) (K:PySem.W.Frag) (mg:Str->Option Value) (x:Str) (ps:List Str) (f:Addr) (fd:FuncData):Prop where
 m:mg x=some (.ref f)
 k:PySem.W.keepIn K (.ref f)=true
 b:Binds K fd ps []
def DAt.fn {ps:List Str} {k:Nat} {sp:Sp} (D:DAt P w base K mg x ps f fd) (o:FnOk P w K mg base CX0 k f fd ps sp):dU P w K mg base x k ps sp:=⟨f,fd,o,D.m,D.k,D.b⟩
def DAt.fx {ps:List Str} {k:Nat} {sp:Sp} (D:DAt P w base K mg x ps f fd) (o:FnOk P w K mg base (CXR P w) k f fd ps sp):cQ P w K mg base x k ps sp:=⟨f,fd,o,D.m,D.k,D.b⟩
def DefC.D (D:DefC K x st f fd c):DefIn K x st f fd:=⟨D.a,D.F⟩
end
end L2
namespace CW
open PySem L2
@[elab_as_elim] def bJ {P:Hp->Prop} {H:Hp} {a:Addr} {o:HO} (z:H a=none) (h:∀ G,Same H G->G a=some o->P G):P (upd H a o):=h _ (Same.upd z) aJ
end CW
namespace L2
open PySem PySem.W PySem.Spec PyProof.Rows
section
variable {P:Program} {w:World} {K:PySem.W.Frag} {mg:Str->Option Value} {base h:Heap} {x q m:Str} {st:Stmt} {f c C:Addr} {fd:FuncData}
structure MethIn (K:PySem.W.Frag) (C:Addr) (m q:Str) (st:Stmt) (f:Addr) (fd:FuncData):Prop where
 me:V2 K C m f
 F:Fun K m q st f fd
def methIn {U:Value} {od M:Option Addr} {L:Array (Option Value)} {kV J O z ct:Value} (a:PySem.W.findIn K (.ref C) m=some (some (.ref f))) (l:K.lookup f=some ⟨U,od,.func (PySem.W.fnOf m q (bQ st) (bC st) (aG st) .none kV J O M z ct),L⟩)
 (c:PySem.W.codeIn K z q=true) (k:PySem.W.keepIn K (.ref f)=true) (i:PySem.W.isFn K (.ref f)=true):MethIn K C m q st f (PySem.W.fnOf m q (bQ st) (bC st) (aG st) .none kV J O M z ct):=⟨⟨a,i,k⟩,rZ l c k⟩
def MethIn.at {ps:List Str} {k:Nat} {sp:Sp} (D:MethIn K C m q st f fd) (b:Binds K fd ps []) (o:FnOk P w K mg base CX0 k f fd ps sp):mX P w K mg base C m k ps sp:=⟨f,fd,o,D.me,b⟩
structure InitIn (K:PySem.W.Frag) (C:Addr) (q:Str) (st:Stmt) (f:Addr) (fd:FuncData):Prop where
 mk_:Mk K C f
 F:Fun K "__init__" q st f fd
def initIn {U:Value} {od M:Option Addr} {L:Array (Option Value)} {kV J O z ct:Value} (a:PySem.W.findIn K (.ref C) "__init__"=some (some (.ref f))) (l:K.lookup f=some ⟨U,od,.func (PySem.W.fnOf "__init__" q (bQ st) (bC st) (aG st) .none kV J O M z ct),L⟩)
 (c:PySem.W.codeIn K z q=true) (k:PySem.W.keepIn K (.ref f)=true) (i:PySem.W.isFn K (.ref f)=true) (mk:PySem.W.makesIn K C=true) (Y:PySem.W.keepIn K (.ref C)=true):InitIn K C q st f (PySem.W.fnOf "__init__" q (bQ st) (bC st) (aG st) .none kV J O M z ct):=⟨⟨mk,a,i,Y⟩,rZ l c k⟩
def InitIn.at {ps:List Str} {k:Nat} {sp:Sp} (D:InitIn K C q st f fd) (hm:mg x=some (.ref C)) (b:Binds K fd ps []) (o:FnOk P w K mg base CX0 k f fd ps sp):iM P w K mg base x C k ps sp:=⟨f,fd,o,D.mk_,hm,b⟩
def DefIn.d5 (D:DefIn K x st f fd) (P:Program) (w:World) (base:Heap) (X:K.In h) (G:h.Ns mainGlobals mg) {ps:List Str} (b:Binds K fd ps []):DAt P w base K mg x ps f fd:=⟨jg X G D.a,D.F.kp,b⟩
end
end L2
namespace CW
open PySem L2
structure HcIn (K:PySem.W.Frag) (Rd Cs Hs:Addr):Prop where
 aR:PySem.W.nsIn K mainGlobals "Road"=some (some (.ref Rd))
 aC:PySem.W.nsIn K mainGlobals "Course"=some (some (.ref Cs))
 aH:PySem.W.nsIn K mainGlobals "House"=some (some (.ref Hs))
 r1:PySem.W.plainGet K Rd Str.empty=true
 r2:PySem.W.hasDictIn K Rd=true
 r3:PySem.W.plainOver K Rd=true
 r4:PySem.W.findIn K (.ref Rd) "__setattr__"=some (some (.builtin "object.__setattr__"))
 c1:PySem.W.plainGet K Cs Str.empty=true
 c2:PySem.W.hasDictIn K Cs=true
 c3:PySem.W.plainOver K Cs=true
 c4:PySem.W.findIn K (.ref Cs) "__setattr__"=some (some (.builtin "object.__setattr__"))
 h1:PySem.W.plainGet K Hs Str.empty=true
 h2:PySem.W.hasDictIn K Hs=true
 h3:PySem.W.plainOver K Hs=true
 h4:PySem.W.findIn K (.ref Hs) "__setattr__"=some (some (.builtin "object.__setattr__"))
 rEn:PySem.W.findIn K (.ref Rd) "entries"=some none
 rRe:PySem.W.findIn K (.ref Rd) "rests"=some none
 rCo:PySem.W.findIn K (.ref Rd) "course"=some none
 cRe:PySem.W.findIn K (.ref Cs) "rested"=some none
 cWa:PySem.W.findIn K (.ref Cs) "walks"=some none
 cTu:PySem.W.findIn K (.ref Cs) "turned"=some none
 hSt:PySem.W.findIn K (.ref Hs) "standing"=some none
 hPa:PySem.W.findIn K (.ref Hs) "past"=some none
 hAh:PySem.W.findIn K (.ref Hs) "ahead"=some none
 ne1:Nat.beq Rd Hs=false
 ne2:Nat.beq Cs Hs=false
def aAK {a b:Nat} (h:Nat.beq a b=false):a≠b:=λe=>by
 rw[e,Nat.beq_refl]at h;cases h
def HcIn.g {K:PySem.W.Frag} {Rd Cs Hs:Addr} (h:HcIn K Rd Cs Hs):Hc K:=⟨Rd,Cs,Hs,⟨h.r1,h.r2,h.r3,h.r4⟩,⟨h.c1,h.c2,h.c3,h.c4⟩,⟨h.h1,h.h2,h.h3,h.h4⟩,aAK h.ne1,aAK h.ne2,h.rEn,h.rRe,h.rCo,h.cRe,h.cWa,h.cTu,h.hSt,h.hPa,h.hAh⟩
def B5 {x y:Str} {v:Value} {l:List (Key×Value)}:valueAt (((Sum.inr y:Key),v) :: l) (Sum.inr x)=if x=y then some v else valueAt l (Sum.inr x):=by
 unfold valueAt;rw[jx]
 by_cases c:x=y
 .rw[b4 c,c];simp
 .rw[b3 c];have:decide ((Sum.inr y:Key)=Sum.inr x)=false:=aE7 λz=>c (jz z).symm;simp only[this]
def aAL {P:Program} {w:World} {K:PySem.W.Frag} {d:Addr} {ep:Nat} {U t1 t2 t3 Y t5 t6 t7 t8:Tok} {z r1 r2 r3 r4 J L M O:Addr}
 (h:K.lookup d=some ⟨.type "dict",none,.dict #[eW w ("build",U,z),eW w ("shut",t1,r1),eW w ("walk",t2,r2),eW w ("put",t3,r3),eW w ("take",Y,r4),eW w ("mirror",t5,J),eW w ("lay",t6,L),eW w ("late",t7,M),eW w ("strike",t8,O)] ep,#[]⟩) (hs:(d == sysModules)=false) :
 ∃ kvs,GDict P w K d kvs/\valueAt kvs (Sum.inr "build")=some (.ref z)/\valueAt kvs (Sum.inr "shut")=some (.ref r1)/\valueAt kvs (Sum.inr "walk")=some (.ref r2)/\valueAt kvs (Sum.inr "put")=some (.ref r3)/\valueAt kvs (Sum.inr "take")=some (.ref r4)/\valueAt kvs (Sum.inr "mirror")=some (.ref J)/\valueAt kvs (Sum.inr "lay")=some (.ref L)/\valueAt kvs (Sum.inr "late")=some (.ref M)/\valueAt kvs (Sum.inr "strike")=some (.ref O):=by
 have g:=sQ (P:=P) (w:=w) [("build",U,z),("shut",t1,r1),("walk",t2,r2),("put",t3,r3),("take",Y,r4),("mirror",t5,J),("lay",t6,L),("late",t7,M),("strike",t8,O)] h hs (show (["build","shut","walk","put","take","mirror","lay","late","strike"]:List Str).Nodup by decide +kernel);refine⟨_,g,?_,?_,?_,?_,?_,?_,?_,?_,?_⟩ <;> simp only[aEb,oy] <;> repeat (first | (rw[B5,b4 rfl];done) | rw[B5,b3 (by decide +kernel)])
inductive Ref where
 | ok | many | row (i:Int) | trains (i:Int) | sizes (i:Int) | creel | number | near | bare
def Ref.nm:Ref->Str
 | .ok=>"" | .many=>"TooMany" | .row _=>"BadRow" | .trains _=>"BadTrains" | .sizes _=>"BadSizes" | .creel=>"BadCreel" | .number=>"BadNumber" | .near=>"TooNear" | .bare=>"Bare"
def Ref.at:Ref->Int
 | .row i=>i | .trains i=>i | .sizes i=>i | _=>0
def Ref.nm_ok {r:Ref}:r.nm=""↔r=.ok:=by cases r <;> simp[Ref.nm] <;> decide
section
variable {P:Program} {w:World} {K:PySem.W.Frag} {mg:Str->Option Value} {base:Heap}
open Classical in
noncomputable def cS (row:List Int):Ref:=if 60<row.length then .many else if h:∃ i,kX row i then .row ((Classical.choose h:Nat):Int)else .ok
def tI (row:List Int):WhyRow row (cS row).nm (cS row).at:=by
 unfold cS
 by_cases h:60<row.length
 .rw[b4 h];exact .many h
 .rw[b3 h]
  by_cases z:∃ i,kX row i
  .rw[dif_pos z];exact .bad (by omega) (pi z)
  .rw[dif_neg z];rcases T5 row row.length with g | g
   .exact .good (by omega) λj h1 h2=>g j h1 h2 h2
   .exact absurd g z
def B7 {row:List Int} {nm z:Str} {i J:Int} (a:WhyRow row nm i) (b:WhyRow row z J):nm=z/\i=J:=by
 cases a with
 | many h=>cases b with
  | many _=>exact⟨rfl,rfl⟩
  | good h' _=>omega
  | bad h' _=>omega
 | good h g=>cases b with
  | many h'=>omega
  | good _ _=>exact⟨rfl,rfl⟩
  | bad _ b=>exact(nR b g).elim
 | bad h g=>cases b with
  | many h'=>omega
  | good _ g'=>exact(nR g g').elim
  | bad _ b=>rw[tE g b];exact⟨rfl,rfl⟩
def wF {row:List Int}:cS row=.ok↔row.length<=60/\aBA row:=by
 constructor
 .intro h;have:=tI row;rw[h]at this;exact this.row_of rfl
 .intro ⟨h1,h2⟩;exact Ref.nm_ok.mp (B7 (tI row) (.good h1 h2)).1
end
inductive RefH where
 | ok | many | row (i:Int) | creel | near | bare | name | taken | full | road | laid | stone | entry | walk | clash (i:Int) | left
def RefH.nm:RefH->Str
 | .ok=>"" | .many=>"TooMany" | .row _=>"BadRow" | .creel=>"BadCreel" | .near=>"TooNear" | .bare=>"Bare" | .name=>"BadName" | .taken=>"Taken" | .full=>"Full" | .road=>"NoRoad" | .laid=>"Laid" | .stone=>"NoStone"
 | .entry=>"NoEntry" | .walk=>"NotWalk" | .clash _=>"Clash" | .left=>"NothingLeft"
def pH:Ref->RefH
 | .many=>.many | .row i=>.row i | _=>.ok
section
variable {P:Program} {w:World} {K:PySem.W.Frag} {mg:Str->Option Value} {base:Heap}
structure cG (K:PySem.W.Frag) (mg:Str->Option Value) where
 many:Addr
 row:Addr
 creel:Addr
 near:Addr
 bare:Addr
 name:Addr
 taken:Addr
 full:Addr
 road:Addr
 laid:Addr
 stone:Addr
 entry:Addr
 walk:Addr
 clash:Addr
 left:Addr
 err:Addr
 m_row:mg "BadRow"=some (.ref row)
 m_clash:mg "Clash"=some (.ref clash)
 m_laid:mg "Laid"=some (.ref laid)
 m_stone:mg "NoStone"=some (.ref stone)
 m_err:mg "CreelError"=some (.ref err)
def RefH.go (X:cG K mg) (E:XK) (H:Hp):RefH->Prop
 | .ok=>False
 | .many=>Rf0 E X.many "TooMany" H
 | .row i=>RfI E X.row "BadRow" i H
 | .creel=>Rf0 E X.creel "BadCreel" H
 | .near=>Rf0 E X.near "TooNear" H
 | .bare=>Rf0 E X.bare "Bare" H
 | .name=>Rf0 E X.name "BadName" H
 | .taken=>Rf0 E X.taken "Taken" H
 | .full=>Rf0 E X.full "Full" H
 | .road=>Rf0 E X.road "NoRoad" H
 | .laid=>Rf0 E X.laid "Laid" H
 | .stone=>Rf0 E X.stone "NoStone" H
 | .entry=>Rf0 E X.entry "NoEntry" H
 | .walk=>Rf0 E X.walk "NotWalk" H
 | .clash i=>RfI E X.clash "Clash" i H
 | .left=>Rf0 E X.left "NothingLeft" H
def Refs (X:cG K mg) (E:XK) (H:Hp) (r:RefH):Prop:=∀ H',Same H H'->r.go X E H'
def Refs.mono {X:cG K mg} {E:XK} {H H1:Hp} {r:RefH} (h:Refs X E H r) (g:Same H H1):Refs X E H1 r:=λH' s=>h H' (g.trans s)
def Refs.now {X:cG K mg} {E:XK} {H:Hp} {r:RefH} (h:Refs X E H r):r.go X E H:=h H (Same.refl _)
variable (X:cG K mg)
inductive xT (vs:List V) (H:Hp) (Q:VK) (E:XK):Prop
 | mk (a:Addr) (row:List Int) (h0_:vs=[.ref a]) (h1_:RowA NT H a row) (h2_:row.length<=200) (h3_:cS row=.ok->Q .non H) (h4_:cS row≠.ok->(pH (cS row)).go X E H):xT vs H Q E
def X8 {X:cG K mg} {row:List Int} {H:Hp} {E:XK} (k:cS row≠.ok->(pH (cS row)).go X E H):(60<row.length->Rf0 E X.many "TooMany" H)/\(row.length<=60->∀ i:Nat,kX row i->RfI E X.row "BadRow" i H):=by
 refine⟨λz=>?_,λz i b=>?_⟩
 .have e:cS row=.many:=by unfold cS;rw[b4 z]
  have:=k (by rw[e];exact λh=>(nomatch h))
  rwa [e]at this
 .have e:cS row=.row i:=by
   unfold cS;have J:∃ i,kX row i:=⟨i,b⟩;rw[b3 (by lia),dif_pos J,tE (pi J) b]
  have:=k (by rw[e];exact λh=>(nomatch h))
  rwa [e]at this
inductive kZ (vs:List V) (H:Hp) (Q:VK) (E:XK):Prop
 | mk (c:Int) (h0_:vs=[.int c]) (h1_:1<=c->Q .non H) (h2_:c<1->RefH.creel.go X E H):kZ vs H Q E
variable (G:Hc K)
end
end CW
namespace L2
open PySem PySem.Spec PyProof.Rows
open PySem.W
end L2
namespace CW
open PySem L2
end CW
namespace L2
open PySem PySem.Spec PyProof.Rows
open PySem.W PySem.Calls
def gL (P:Program) (w:World) (K:PySem.W.Frag) (mg:Str->Option Value) (base:Heap) (C:Addr) (m:Str) (k:Nat) (ps:List Str) (sp:Sp):Prop :=
 ∃ f fd,FnOk P w K mg base (CXR P w) k f fd ps sp/\V2 K C m f/\Binds K fd ps []
def jR (P:Program) (w:World) (K:PySem.W.Frag) (mg:Str->Option Value) (base:Heap) (f:Addr) (k:Nat) (ps:List Str) (sp:Sp):Prop :=
 ∃ fd,FnOk P w K mg base (CXR P w) k f fd ps sp/\PySem.W.keepIn K (.ref f)=true/\Binds K fd ps []
section
variable {X:Cx} {C:Addr} {x m:Str} {j k:Nat} {ps:List Str} {sp:Sp} {ta:TE} {t:TA} {o e:Expr} {es:List Expr} {p pos apos:Pos} {E:XK}
def xU {pl:Sem Bool} (M:gL X.prog X.w X.K X.mg X.base C m j ps sp) (c:Cls X.K C) (J:Room k X.A) (L:dS (CXR X.prog X.w) X E) (he:PE X o ta) (O:PA X (e :: es) t) (U:j<=k:=by decide)
 (hst:starEach (e :: es) X.env=(false,eval e X.env) :: starEach es X.env:=by rfl) (hpl:(backTo pos (starEach es X.env)).any (·.1)=false:=by rfl)
 (ht:eval (.Call (.Attribute o m apos) (e :: es) [] pos) X.env=(do
  let z <- eval o X.env
  standAt apos.atName
  let (f,first) <- holding [z] (getMethod z m pl)
  callWith pos f first (backTo pos (starEach (e :: es) X.env)) (backToKw pos (keywordEach [] X.env))):=by rfl) :
 PE X (.Call (.Attribute o m apos) (e :: es) [] pos) (vK C m sp [] E ta t):=by
 obtain⟨f,fd,G,Y,hb⟩:=M;exact O3 (pl:=pl) (hst:=hst) (hpl:=hpl) (ht:=ht) he c Y G (J.mono U) hb .nil L O
def aAM {pl:Sem Bool} (M:gL X.prog X.w X.K X.mg X.base C m j ps sp) (c:Cls X.K C) (J:Room k X.A) (L:dS (CXR X.prog X.w) X E) (he:PE X o ta) (O:j<=k:=by decide)
 (ht:eval (.Call (.Attribute o m apos) [] [] pos) X.env=(do
  let z <- eval o X.env
  standAt apos.atName
  let (f,first) <- holding [z] (getMethod z m pl)
  callWith pos f first (backTo pos (starEach [] X.env)) (backToKw pos (keywordEach [] X.env))):=by rfl) :
 PE X (.Call (.Attribute o m apos) [] [] pos) (vK C m sp [] E ta wU):=by
 obtain⟨f,fd,G,U,Y⟩:=M;exact zC (pl:=pl) (ht:=ht) he c U G (J.mono O) Y .nil L
def aBB (X:Cx) (E:XK) (j i:Nat) (t:TA):TE:=fun σ H Q=>∃ f ps sp,σ[i]?=some (some (.ref f))/\jR X.prog X.w X.K X.mg X.base f j ps sp/\t σ H λvs H1=>sp vs H1 Q E
def X9 (i:Nat) (L:Room k X.A) (M:dS (CXR X.prog X.w) X E) (O:PA X (e :: es) t) (U:X.N[i]?=some x:=by rfl) (Y:Vis X.env.scope x:=by first | exact Or.inl rfl | exact Or.inr (Or.inl rfl) | exact Or.inr (Or.inr rfl)) (hd:(x == ("__debug__":Str))=false:=by decide)
 (z:(x == ("__classdict__":Str))=false:=by decide) (he:starEach (e :: es) X.env=(false,eval e X.env) :: starEach es X.env:=by rfl) (hpl:(backTo pos (starEach es X.env)).any (·.1)=false:=by rfl) :
 PE X (.Call (.Name x p) (e :: es) [] pos) (aBB X E k i t):=by
 intro pins s σ H Q I h;obtain⟨f,ps,sp,e1,⟨fd,G,hk,hb⟩,h⟩:=h;refine kh (x3 I U Y e1 (λu ru=>?_) hd z);obtain rfl:u=Value.ref f:=ru;refine ki (h₀:=X.base) I.ok.mod.kin hk (thn (O pos pins s σ H _ I h) λus s1 ⟨vs,H1,J,r,q⟩=>⟨J.kIn,?_⟩) he hpl;exact rR G L hb .nil M J r (by rw[jv];exact q)
end
end L2
namespace CW
open PySem L2
end CW
namespace L2
open PySem PySem.Spec PyProof.Rows
open Sem (wp)
inductive Chn (h:Heap) (e:Addr):Addr->Prop
 | one {d:Addr} {o:Obj} (hd:h.get? d=some o) (hc:cx2 o=some .none) (ne:d≠e):Chn h e d
 | more {d d':Addr} {o:Obj} (hd:h.get? d=some o) (hc:cx2 o=some (.ref d')) (ne:d≠e) (r:Chn h e d'):Chn h e d
def Ended.chn {H:Hp} {h:Heap} {e d:Addr} {u:HO} (x:Ended H h d) (ne:H e=some u):Chn h e d:=by
 have M:∀ {b},H b=none->b≠e:=λq z=>by rw[z,ne]at q;cases q
 induction x with
 | one J he L=>exact .one he L (M J)
 | more J he L _ O=>exact .more he L (M J) O
def Chn.ne {h:Heap} {e d:Addr} (x:Chn h e d):d≠e:=by cases x <;> assumption
inductive Ahd (h:Heap):Addr->Addr->Prop
 | refl (a:Addr):Ahd h a a
 | step {a m b:Addr} {o:Obj} (ha:h.get? a=some o) (hc:cx2 o=some (.ref m)) (r:Ahd h m b):Ahd h a b
def Ahd.on {h:Heap} {a b d:Addr} {o:Obj} (x:Ahd h a b) (z:h.get? b=some o) (J:cx2 o=some (.ref d)):∃ m o',h.get? a=some o'/\cx2 o'=some (.ref m)/\Ahd h m d:=by
 induction x with
 | refl a=>exact⟨d,o,z,J,.refl d⟩
 | step L M _ O =>
  obtain⟨m2,o2,U,Y,r2⟩:=O z;exact⟨_,_,L,M,.step U Y r2⟩
def Ahd.snoc {h:Heap} {a b d:Addr} {o:Obj} (x:Ahd h a b) (z:h.get? b=some o) (J:cx2 o=some (.ref d)):Ahd h a d:=by
 obtain⟨m,o',L,M,r⟩:=x.on z J;exact .step L M r
def jS {o:Obj} {v:Value} (h:cx2 o=some v):∃ vs,o.data=.fields vs/\vs[2]?=some v:=by
 unfold cx2 at h;split at h
 .rename_i vs e
  exact⟨vs,e,h⟩
 .cases h
def mQ:plainId "proto.unchain"=true:=by decide +kernel
def mR:entryFor table "proto.unchain"=some Builtin.«proto.unchain»:=entryFor_of_fast (by kernel_rfl)
def uR {h:Heap} {e d:Addr} (x:Chn h e d):∀ (a:Addr) (b:Bool),Ahd h a d->Meets (Builtin.«proto.unchain» ⟨[.ref e,.ref d,.ref a,.bool b],[]⟩) (λ_ R s=>s.heap=h/\R (.ok (.ret .none)) s):=by
 induction x with
 | one hd J ne =>
  intro a b O prog w A R s ⟨hs,L⟩;subst hs;obtain⟨vs,U,h2⟩:=jS J;unfold Builtin.«proto.unchain»;refine aEL (mh hd U h2 ?_);rw[b4 (by decide)]
  wp_walk
  exact L
 | @more d d' o hd J ne r ih =>
  intro a b O prog w A R s ⟨hs,L⟩;subst hs;obtain⟨vs,U,h2⟩:=jS J;unfold Builtin.«proto.unchain»;refine aEL (mh hd U h2 ?_);rw[b3 (by simp),b3 (by have:=r.ne;simpa using this)]
  by_cases q:(Value.ref d' == Value.ref a)=true
  .rw[b4 q]
   wp_walk
   exact L
  .rw[b3 q];obtain⟨m,o',e1,e2,r2⟩:=O.on hd J;have z:∀ M,Ahd s.heap M d'->wpAny (model prog w) A.in1 (again (.builtin "proto.unchain" ⟨[.ref e,.ref d',.ref M,.bool !b],[]⟩)) (λz s'=>match z with | .done f=>R (.ok f) s' | .again c'=>c'.quiet=true/\codeAny (model prog w) A c' R s') (λe s'=>R (.error e) s') s:=λM Y =>
    MeetsSeq.meets_again rfl mQ mR (ih M (!b) Y) prog w A R s ⟨rfl,L⟩
   cases b with
   | false =>
    rw[b3 (by decide)];exact aEL (aEM (z a (O.snoc hd J)))
   | true =>
    rw[b4 rfl];obtain⟨aw,au,av⟩:=jS e2;exact aEL (mh e1 au av (z m r2))
section
variable {prog:Program} {w:World} {A:Around} {E:Value->Shared->Prop} {h:Heap} {g:Array GenState} {d:Drawn} {t:Nat} {os:OsState}
variable {nm q:Str} {C N:Addr} {bs bm ag:List Value} {hdct:Bool} {sn:List Str} {sub:List Value} {ab:Bool} {col:Option Bool} {dd:Option Addr} {k0 k1 k2 k3 k5:Option Value} {B newId aj:String}
def B8 {s:Shared} {e h0:Addr} {Q:Value->Shared->Prop} (x:Chn s.heap e h0) (z:Q .none s):wpAny (model prog w) A (runValue (.builtin "proto.unchain" ⟨[.ref e,.ref h0,.ref h0,.bool false],[]⟩)) Q E s:=by
 refine wpAny_runValue (codeAny_builtin mR ?_);rw[Around.under_plainId mQ];exact uR x h0 false (.refl h0) prog w A (wants Q E) s ⟨rfl,z⟩
def Chn.keep {h h':Heap} {e d:Addr} (x:Chn h e d) (k:∀ b o,b≠e->h.get? b=some o->h'.get? b=some o):Chn h' e d:=by
 induction x with
 | one hd z ne=>exact .one (k _ _ ne hd) z ne
 | more hd z ne _ J=>exact .more (k _ _ ne hd) z ne J
def J7 {h:Heap} {g:Array GenState} {d:Drawn} {t:Nat} {os:OsState} {e:Addr} {od:Option Addr} {z:Array Value} {Q:Bool->Shared->Prop} (J:h.get? C=some (excClassObj nm q C N bs bm hdct sn sub ab col dd k0 k1 k2 k3 k5 newId)) (he:h.get? e=some { cls:=.ref C,dict:=od,data:=.fields z })
 (L:Q false ⟨h,g,d,t,os⟩):wpAny (model prog w) A (isType (.ref e)) Q E ⟨h,g,d,t,os⟩:=by
 unfold isType
 repeat (first | with_reducible refine jf he ?_ | with_reducible refine jf J ?_ | wp_step)
 exact L
def B9 {h:Heap} {g:Array GenState} {d:Drawn} {t:Nat} {os:OsState} {e:Addr} {od:Option Addr} {z:Array Value} {Q:Value->Shared->Prop} (J:h.get? C=some (excClassObj nm q C N bs bm hdct sn sub ab col dd k0 k1 k2 k3 k5 newId)) (he:h.get? e=some { cls:=.ref C,dict:=od,data:=.fields z })
 (L:Q (.ref e) ⟨h,g,d,t,os⟩):wpAny (model prog w) A (raisedInstance (.ref e)) Q E ⟨h,g,d,t,os⟩:=by
 unfold raisedInstance
 repeat (first | with_reducible refine jf he ?_ | with_reducible refine jf J ?_ | wp_step)
 exact L
def aAN {h:Heap} {g:Array GenState} {d:Drawn} {t:Nat} {os:OsState} {e:Addr} {od:Option Addr} {L:Array Value} {m:String} {Q:Value->Shared->Prop} (hbase:bm.contains (.type "BaseException")=true) (J:h.get? C=some (excClassObj nm q C N bs bm hdct sn sub ab col dd k0 k1 k2 k3 k5 newId)) (he:h.get? e=some { cls:=.ref C,dict:=od,data:=.fields L })
 (M:Q (.ref e) ⟨h,g,d,t,os⟩):wpAny (model prog w) A (excFromValue (.ref e) m) Q E ⟨h,g,d,t,os⟩:=by
 have z:(Value.ref C :: bm).contains (.type "BaseException")=true:=by rw[ji,hbase,my]
 unfold excFromValue
 repeat (first | with_reducible refine jf he ?_ | with_reducible refine jf J ?_ | (with_reducible refine ks J ?_;rw[z]) | wp_step)
 exact M
def qT {s:Shared} {env:Env} {x c:Sem Value} {Q:Flow->Shared->Prop} {h0:Addr} (hbase:bm.contains (.type "BaseException")=true) (hh:A.handled=some (.ref h0)) (hc:∀ {Q:Value->Shared->Prop} {s:Shared},Q .none s->wpAny (model prog w) A c Q E s)
 (h:wpAny (model prog w) A x (λv J=>∃ e od t,v=.ref e/\J.heap.get? C=some (excClassObj nm q C N bs bm hdct sn sub ab col dd k0 k1 k2 k3 k5 newId) /\
  J.heap.get? e=some { cls:=.ref C,dict:=od,data:=.fields #[.ref t,.none,.none,.none,.bool false,.none] }/\Chn J.heap e h0 /\
  ∀ h',(∀ b o,b≠e->J.heap.get? b=some o->h'.get? b=some o)->h'.get? e=some { cls:=.ref C,dict:=od,data:=.fields #[.ref t,.none,.ref h0,.none,.bool true,.none] }->E (.ref e) { J with heap:=h' }) E s) :
 wpAny (model prog w) A (raiseStmt env (some x) (some c)) Q E s:=by
 have av:(Value.ref C :: bm).contains (.type "BaseException")=true:=by rw[ji,hbase,my]
 unfold raiseStmt;refine aEL (eu h (λv J U=>?_) λ_ _ x=>x);obtain⟨e,od,t,rfl,hC,he,hx,hE⟩:=U;obtain⟨hp,g,d,tk,os⟩:=J;refine aEL (je (hc (aEL (aEM ?_))));have ne:C≠e:=λz=>by subst z;rw[he]at hC;cases hC
 dsimp only;refine aEL (je (aAN hbase hC he ?_));rw[b4 (by decide)];refine aEL (aEM ?_);refine aEL (ua he rfl (show 3<6 by decide) ?_);have Y:=aE4 (h:=hp) (Obj.mapFields (·.setIfInBounds 3 Value.none)) he rfl;refine aEL (ua Y rfl (show 4<6 by decide) ?_);have L:=aE4 (Obj.mapFields (·.setIfInBounds 4 (Value.bool true))) Y rfl;have kp:∀ b o,b≠e->hp.get? b=some o->((hp.update e (Obj.mapFields (·.setIfInBounds 3 Value.none))).update e (Obj.mapFields (·.setIfInBounds 4 (Value.bool true)))).get? b=some o:=λb o n q=>by
  rw[aES _ _ n.symm,aES _ _ n.symm];exact q
 have M:=kp _ _ ne hC;have O:=hx.keep kp;generalize ((hp.update e (Obj.mapFields (·.setIfInBounds 3 Value.none))).update e (Obj.mapFields (·.setIfInBounds 4 (Value.bool true))))=au at L kp M O ⊢
 replace L:au.get? e=some { cls:=.ref C,dict:=od,data:=.fields #[.ref t,.none,.none,.none,.bool true,.none] }:=L
 refine aEL (J7 M L ?_);rw[b3 (by decide)];refine aEL (B9 M L ?_);refine aEL ?_;unfold setFlight;refine aEL (mh L rfl (show _=some Value.none from rfl) ?_);rw[b3 (by decide)];refine aEM ?_;unfold raiseNew;refine aEL (wpAny_handled ?_);rw[hh];dsimp only;rw[b4 (by have:=O.ne;simpa using this)];refine aEL (je (B8 O ?_));unfold updateField;refine aEL (aEL (wpAny_load L ?_));show wpAny _ _ (if 2<6 then _ else _) _ _ _;rw[b4 (by decide)];refine wpAny_update L ?_;refine wpAny_throw (hE _ (λb o n q=>?_) ?_)
 .rw[aES _ _ n.symm];exact kp b o n q
 .exact aE4 _ L rfl
def C0 {s:Shared} {env:Env} (F:ExcBaseFacts B newId aj ag) {mN:Str->Option Value} {x:Str} {np aa pos pn:Pos} {jn} {args:List Expr} {fI h0:Addr} {oI:Obj} {Q:Flow->Shared->Prop}
 (hbase:bm.contains (.type "BaseException")=true) (hh:A.handled=some (.ref h0)) (hplain:(backTo aa (starEach args env)).any (·.1)=false) (hi:mN "__init__"=some (.ref fI)) (au:oI.cls=.type "function")
 (h:wpAny (model prog w) A (eval (.Name x np) env) (λf O=>f=.ref C/\wpAny (model prog w) A (evalArgs (.ref C) true (backTo aa (starEach args env)) [])
  (λa J=>a.kw=[]/\a.pos.length<=sizeLine/\J.heap.get? C=some (excClassObj nm q C N bs bm hdct sn sub ab col dd k0 k1 k2 k3 k5 newId)/\J.heap.Ns N mN/\mP ag bm/\J.heap.get? fI=some oI /\
   ∀ h' e,Heap.MadeExcOf J.heap h' e (.ref C) a.pos->wpAny (model prog w) (A.under (.builtin "type.__call__" ⟨.ref C :: a.pos,[]⟩)) (call (.ref fI) (.ref e :: a.pos)) (λr s'=>r=.none /\
    (s'.heap.get? C=some (excClassObj nm q C N bs bm hdct sn sub ab col dd k0 k1 k2 k3 k5 newId))/\(∃ od t,s'.heap.get? e=some { cls:=.ref C,dict:=od,data:=.fields #[.ref t,.none,.none,.none,.bool false,.none] }/\Chn s'.heap e h0 /\
     ∀ U,(∀ b o,b≠e->s'.heap.get? b=some o->U.get? b=some o)->U.get? e=some { cls:=.ref C,dict:=od,data:=.fields #[.ref t,.none,.ref h0,.none,.bool true,.none] }->E (.ref e) { s' with heap:=U })) E { J with heap:=h' }) E O) E s) :
 wpAny (model prog w) A (exec (.Raise (some (.Call (.Name x np) args [] aa)) (some (.Constant .none jn pn)) pos) env) Q E s:=by
 rw[arm_exec_Raise];simp only[evalOpt,Option.map];refine aEL (jw (qT (C:=C) (nm:=nm) (q:=q) (N:=N) (bs:=bs) (bm:=bm) (hdct:=hdct) (sn:=sn) (sub:=sub) (ab:=ab) (col:=col) (dd:=dd) (k0:=k0) (k1:=k1) (k2:=k2) (k3:=k3) (k5:=k5) (newId:=newId) hbase hh ?_ (aEL (eu (wpAny_Call_ofName (eu h (λf O L=>?_) λ_ _ x=>x)) (λv ay Y=>aEL (jw (aEM Y))) λ_ _ x=>x))))
 .intro Q s hq;exact aEL (wpAny_Constant_none (aEL (jw (aEM hq))))
 obtain⟨rfl,L⟩:=L;unfold callWith;refine aEL (je (eu L (λa J M=>aEL (jw ?_)) λ_ _ x=>x));obtain⟨apos,av⟩:=a;obtain⟨aw,hlen,hC,hn,T,ax,M⟩:=M;obtain rfl:av=[]:=aw;obtain⟨hp,g,d,tk,os⟩:=J;simp only[hplain];refine aEL (wpAny_keeperOf_exc hC ?_);refine aEL (sZ (hrest:=hlen) F T hC hn hi ax au λh' e hm=>eu (M h' e hm) (λr s' ⟨hr,z1,⟨od,vs,z2,z3,z4⟩⟩=>⟨hr,?_⟩) λ_ _ z=>z);refine aEL (je (wpAny_point (aEM ?_)));exact⟨e,od,vs,rfl,z1,z2,z3,z4⟩
end
open Sem (wp)
def aAO (A:Around):Around:={ A with handled:=none }
abbrev lA (k:Nat) (A:Around):Prop:=Room k (aAO A)
def Room.h {k:Nat} {A:Around} (r:Room k A):lA k A:=⟨rfl,r.dp,r.un⟩
def Room.mk' {k:Nat} {A:Around} {v:Option Value} (r:lA k A):lA k (A.mark v):=⟨rfl,r.dp,r.un⟩
structure FnOkH (P:Program) (w:World) (K:PySem.W.Frag) (mg:Str->Option Value) (base:Heap) (CX:CXT) (k:Nat) (f:Addr) (fd:FuncData) (ps:List Str) (sp:Sp):Prop where
 len:∀ vs H Q E,sp vs H Q E->vs.length=ps.length
 run:∀ (A:Around) (outer:List Env) (s:Shared) (H:Hp) (args:Args) (us:List Value) (vs:List V) (Q:VK) (E:XK),lA k A->Env0 P w K mg base A outer s H->BindsTo s fd args (ps.zip us)->Vals vs us->sp vs H Q E ->
  codeAny (model P w) A (.call (.ref f) args) (CR CX outer P w H s Q E) s
def FnOkH.fn {P:Program} {w:World} {K:PySem.W.Frag} {mg:Str->Option Value} {base:Heap} {CX:CXT} {k:Nat} {f:Addr} {fd:FuncData} {ps:List Str} {sp:Sp} (F:FnOkH P w K mg base CX k f fd ps sp):FnOk P w K mg base CX k f fd ps sp :=
 ⟨F.len,λA outer s H args us vs Q E z=>F.run A outer s H args us vs Q E z.h⟩
def cxH (CX:CXT) (P:Program) (w:World) (K:PySem.W.Frag) (mg:Str->Option Value) (base:Heap) (N:List Str) (qual:Str) (scope:Scope) (f:Addr) (cd:Value) (A:Around) (outer:List Env) (s:Shared) (H:Hp) (E:XK):Cx:={ fX CX P w K mg base N qual scope f cd A outer s H E with calm:=false }
def J8 {CX:CXT} {P:Program} {w:World} {K:PySem.W.Frag} {mg:Str->Option Value} {base:Heap} {N ps:List Str} {qual:Str} {scope:Scope} {f:Addr} {cd:Value} {A:Around} {outer:List Env} {s L:Shared} {H:Hp} {E:XK} {us:List Value} {vs:List V}
 (S:FnScope N ps scope) (J:Env0 P w K mg base A outer s H) (M:vs.length=ps.length) (r:Vals vs us)
 (x:InCallC s s.heap.objs.size (bindL (envOfC qual scope s.heap.objs.size f cd).kindOf (ps.zip us) λ_=>none) (cellsFrom (s.heap.objs.size+1) scope.names []) (bindC (envOfC qual scope s.heap.objs.size f cd).kindOf (ps.zip us) λ_=>none) L) :
 Inv (cxH CX P w K mg base N qual scope f cd A outer s H E) [] (dQ N vs) H L:=by
 have I:=oU (CX:=CX) (A:=aAO A) (E:=E) S rfl ⟨J.frames,J.mod,J.bs,J.bsz,J.funs,J.frf,J.hok,J.bare⟩ M r x;have o:=I.ok;exact⟨⟨o.mod,o.kind,o.glob,o.blt,o.above,o.inj,o.has,o.cab,(λz=>by cases z),o.frames,o.stk,o.exf,o.bs,o.bsz,o.noex,o.exfs,o.funs,o.frf⟩,I.os,I.bare,I.base,I.loc,I.cell,I.free,I.freeC,I.pin,I.hok,I.len⟩
def aAP {CX:CXT} {P:Program} {w:World} {K:PySem.W.Frag} {mg:Str->Option Value} {base:Heap} {k:Nat} {f:Addr} {name qual:Str} {params:Arguments} {body:List Stmt} {scope:Scope} {dV kV U pm z ct oc:Value} {an od:Option Addr}
 {aw:Array (Option Value)} {N ps:List Str} {sp:Sp} (lk:K.lookup f=some ⟨oc,od,.func (PySem.W.fnOf name qual params body scope dV kV U pm an z ct),aw⟩) (ax:PySem.W.codeIn K z qual=true) (S:FnScope N ps scope)
 (len:∀ vs H Q E,sp vs H Q E->vs.length=ps.length)
 (M:∀ (A:Around) (outer:List Env) (s:Shared) (H:Hp) (vs:List V) (Q:VK) (E:XK),lA k (A.deeper (envOfC qual scope s.heap.objs.size f z))->sp vs H Q E ->
  ∃ t,PSs (cxH CX P w K mg base N qual scope f z A outer s H E) body t/\t { nx:=λ_ H'=>Q .non H',rt:=Q } (dQ N vs) H) :
 FnOkH P w K mg base CX (k+1) f (PySem.W.fnOf name qual params body scope dV kV U pm an z ct) ps sp:=by
 refine⟨len,λA outer s H args us vs Q E hr Y hb r au=>?_⟩;have hl:=len _ _ _ _ au;have KX:K.In s.heap:=Y.mod.kin.keeps λb o e=>(Y.bs b o e).1;have ay:s.heap.NoLimit:=Y.mod.nolimit.keeps λb o e=>(Y.bs b o e).1;have O:∀ y∈ps.zip us,scope.names.lookup y.1=some .local\/(scope.names.lookup y.1=some .cell/\((cellsFrom (s.heap.objs.size+1) scope.names []).lookup y.1).isSome=true):=λ⟨n,v⟩ hy=>by
  rcases S.par n (lv hy).1 with q | q
  .exact .inl q
  .exact .inr ⟨q,mr _ _ _ (.inl q)⟩
 refine ow (show A.depth<_ from hr.depth) (KX _ _ lk) rfl S.co S.gen rfl (qk KX ax) (hb _ _ _ _ ?_);refine nc S.kind O λenv he s1 x=>?_;subst he;refine⟨ay.keeps x.toInCall.keep,uo ?_⟩;obtain⟨t,ht,hq⟩:=M A outer s H vs Q E (hr.deeper _) au;have I:Inv (cxH CX P w K mg base N qual scope f z A outer s H E) [] (dQ N vs) H s1:=J8 S Y hl r x;refine eu (ht [] s1 (dQ N vs) H _ I hq) (λfl s' hs=>?_) λe s' hs=>hs;have av:∀ {L:St} {H':Hp} {v:V} {u:Value},Inv (cxH CX P w K mg base N qual scope f z A outer s H E) [] L H' s'->RelV v u->Q v H'->CE outer P w H s Q u s' :=
  λ{L H' v u} J rv q=>⟨v,H',J.os,J.bare,J.base,J.hok,rv,q⟩
 cases fl with
 | ret u =>
  obtain⟨v,L,H',J,rv,q⟩:=hs;exact av J rv q
 | next =>
  obtain⟨L,H',J,q⟩:=hs;exact av (v:=V.non) (u:=Value.none) J rfl q
 | brk =>
  obtain⟨_,_,_,q⟩:=hs;exact False.elim q
 | cont =>
  obtain⟨_,_,_,q⟩:=hs;exact False.elim q
section
variable {P:Program} {w:World} {K:PySem.W.Frag} {mg:Str->Option Value} {base:Heap}
def FunD.okH {x qual:Str} {st:Stmt} {f:Addr} {fd:FuncData} {N ps:List Str} {k:Nat} {sp:Sp} (F:FunD K x qual st f fd) (S:FnScope N ps (aG st)) (len:∀ vs H Q E,sp vs H Q E->vs.length=ps.length)
 (J:∀ (z:Value) (A:Around) (outer:List Env) (s:Shared) (H:Hp) (vs:List V) (Q:VK) (E:XK),lA k (A.deeper (envOfC qual (aG st) s.heap.objs.size f z))->sp vs H Q E ->
  ∃ t,PSs (cxH CX0 P w K mg base N qual (aG st) f z A outer s H E).nox (bC st) t/\t { nx:=λ_ H'=>Q .non H',rt:=Q } (dQ N vs) H):FnOkH P w K mg base CX0 (k+1) f fd ps sp:=by
 obtain⟨oc,od,dV,kV,O,pm,an,z,ct,U,rfl,lk,L⟩:=F.ex;refine aAP lk L S len λA outer s H vs Q E Y M=>?_;obtain⟨t,h,q⟩:=J z A outer s H vs Q E Y M;exact⟨t,h.nox,q⟩
def Fun.okH {x qual:Str} {st:Stmt} {f:Addr} {fd:FuncData} {N ps:List Str} {k:Nat} {sp:Sp} (F:Fun K x qual st f fd) (S:FnScope N ps (aG st)) (len:∀ vs H Q E,sp vs H Q E->vs.length=ps.length)
 (J:∀ (z:Value) (A:Around) (outer:List Env) (s:Shared) (H:Hp) (vs:List V) (Q:VK) (E:XK),lA k (A.deeper (envOfC qual (aG st) s.heap.objs.size f z))->sp vs H Q E ->
  ∃ t,PSs (cxH CX0 P w K mg base N qual (aG st) f z A outer s H E).nox (bC st) t/\t { nx:=λ_ H'=>Q .non H',rt:=Q } (dQ N vs) H):FnOkH P w K mg base CX0 (k+1) f fd ps sp:=by
 obtain⟨oc,od,kV,O,pm,an,z,ct,U,rfl,lk,L⟩:=F.ex;refine aAP lk L S len λA outer s H vs Q E Y M=>?_;obtain⟨t,h,q⟩:=J z A outer s H vs Q E Y M;exact⟨t,h.nox,q⟩
end
section
variable {X:Cx} {CX:CXT} {k:Nat} {f:Addr} {fd:FuncData} {ps:List Str} {sp:Sp} {E:XK}
def aBC {pins:List (Addr×Obj)} {σ:St} {H:Hp} {s:Shared} {Q:VK} {us:List Value} {vs:List V} (F:FnOkH X.prog X.w X.K X.mg X.base CX k f fd ps sp) (J:lA k X.A) (L:Binds X.K fd ps []) (M:dS CX X E)
 (I:Inv X pins σ H s) (r:Vals vs us) (h:sp (vs++[]) H Q E):wpAny (model X.prog X.w) X.A (call (.ref f) us) (EP X pins σ Q) X.xe s:=by
 have r2:Vals (vs++[]) (us++[]):=r.append .nil;have O:(us++[]).length=ps.length:=by rw[<- r2.length];exact F.len _ _ _ _ h
 refine ny (mw (F.run X.A X.stack s H ⟨us,[]⟩ (us++[]) (vs++[]) Q E J I.env0 (L s us I.kIn O) r2 h) λr s' z=>?_);cases r with
 | error e=>exact M pins σ H s e s' I z
 | ok fl =>
  cases fl with
  | ret u=>exact I.after z
  | next=>exact False.elim z
  | brk=>exact False.elim z
  | cont=>exact False.elim z
def Y0 {D fB:Addr} {x:Str} {e:Expr} {es:List Expr} {t:TA} {np apos pos:Pos} {pl:Sem Bool} (B:B0 X.K D fB) (F:FnOkH X.prog X.w X.K X.mg X.base CX k fB fd ps sp) (L:lA k X.A) (M:Binds X.K fd ps []) (O:dS CX X E)
 (U:Gl X x) (Y:X.mg x=some (.ref D)) (ha:PA X (e :: es) t) (hdb:(x == ("__debug__":Str))=false:=by decide)
 (hst:starEach (e :: es) X.env=(false,eval e X.env) :: starEach es X.env:=by rfl) (hpl:(backTo pos (starEach es X.env)).any (·.1)=false:=by rfl)
 (ht:eval (.Call (.Attribute (.Name x np) "__init__" apos) (e :: es) [] pos) X.env=(do
  let z <- eval (.Name x np) X.env
  standAt apos.atName
  let (f,first) <- holding [z] (getMethod z "__init__" pl)
  callWith pos f first (backTo pos (starEach (e :: es) X.env)) (backToKw pos (keywordEach [] X.env))):=by rfl) :
 PE X (.Call (.Attribute (.Name x np) "__init__" apos) (e :: es) [] pos) (zB sp [] E t):=by
 intro pins s σ H Q I h;refine lh (pl:=pl) (eG I U Y ?_ hdb) ht;refine PySem.W.method_cls I.kIn B.ga (PySem.W.cls_value I.kIn B.reads B.find rfl ?_);refine ki (h₀:=X.base) I.ok.mod.kin B.keep (thn (ha pos pins { s with toks:=s.toks+1 } σ H _ (I.tok _) h) λus s1 ⟨vs,H1,J,r,q⟩=>⟨J.kIn,?_⟩) hst hpl;exact aBC F L M O J r q
end
def Y1 {M:Model} {A:Around} {E:Value->Shared->Prop} {s:Shared} {base:Heap} {l:List Env} {e:Addr} {cls a0 fl:Value} {fr:Option Addr} {Q:Unit->Shared->Prop}
 (ax:base.StaysIn s.heap) (hl:s.heap.FunFrames base l) (ht:s.heap.TracedAtW base e cls a0 fl)
 (h:∀ h',base.StaysIn h'->h'.FunFrames base l->h'.TracedAtW base e cls a0 (fr.elim .none λf=>rawInt f)->s.heap.UpToSlots h'->Q () { s with heap:=h' }) :
 wpAny M A (setFlight (.ref e) fr) Q E s:=by
 obtain⟨oe,vs,T,oT,ts,he,au,hd,h1,av,aw,hT,O,h3⟩:=ht;have U:3<ts.size:=(Array.getElem?_eq_some_iff.mp h3).1;have other:∀ b,b≠T->(s.heap.update T (Obj.mapFields (·.setIfInBounds 3 (fr.elim Value.none λf=>rawInt f)))).get? b=s.heap.get? b :=
  λb J=>aES _ _ (lq J)
 have z:∀ b o,s.heap.get? b=some o->(∀ vs,o.data≠.fields vs)->b≠T:=λb o J L q=>by
  rw[q,hT]at J;injection J with J;subst J;exact L ts O
 unfold setFlight;refine aEL (mh he hd h1 ?_);rw[b4 (show (Value.ref T != Value.none)=true from by simp)];refine ua hT O U (h _ (λb o Y=>(other b λq=>by rw[q,av]at Y;cases Y).trans (ax b o Y))
  (hl.of_keeps λb o J L=>⟨o,(other b (z b o J L)).trans J,rfl⟩) ?_ λb o J L=>⟨o.slots,(other b (z b o J L)).trans J⟩)
 exact⟨oe,vs,T,_,_,(other e (lq aw)).trans he,au,hd,h1,av,aw,aE4 _ hT (Obj.isFreed_of_fields (Obj.data_mapFields O _)),Obj.data_mapFields O _,by simp[U]⟩
section
variable {X:Cx} {pins:List (Addr×Obj)} {σ:St} {H:Hp} {s:Shared} {E:XK}
def Y2 (O:Body X) (bo:X.A.frames=some (X.env :: X.outer)) (I:Inv X pins σ H s) {A':Around} {e:Addr} {U:Obj} {vs:Array Value} {a0:Value} {E2:Value->Value->Shared->Prop} (au:A'.frames=some (X.env :: X.outer)) (he:s.heap.get? e=some U) (av:H e=none) (hold:∀ b o,X.s₀.heap.get? b=some o->b≠e) (hd:U.data=.fields vs) (h1:vs[1]?=some .none) (h0:vs[0]?=some a0) (a_:Ended H s.heap e) (q:E U.cls U.dict H) :
 notedBy (model X.prog X.w) A' X.env (λx s2=>cameBackBy (model X.prog X.w) X.A X.env (λY s3=>wpAny (model X.prog X.w) X.A (leaving X.env Y) (λ_ J=>CXR X.prog X.w X.outer X.H₀ X.s₀ E Y J) (E2 Y) s3) x s2) (.ref e) s:=by
 have ba:s.heap.FunFrames X.base (X.env :: X.outer):=by have:=I.stack;rw[O.stk]at this;exact this
 have aw:∀ b o,s.heap.get? b=some o->b≠e->b∉frs X.stack->(PySem.W.hideAll s.heap (e :: frs X.stack)).get? b=some o:=λb o L n1 n2=>pz _ L (by simp[n1,n2]);have bb:s.heap.FunFrames (PySem.W.hideAll s.heap (e :: frs X.stack)) (X.env :: X.outer):=by
  refine se ba λenv hm a ha=>aEQ _ ?_;rw[O.stk];exact List.mem_filterMap.mpr ⟨env,hm,ha⟩
 have ax:(PySem.W.hideAll s.heap (e :: frs X.stack)).StaysIn s.heap:=λb o L=>qh _ L;have ay:(PySem.W.hideAll s.heap (e :: frs X.stack)).get? e=none:=ni _ (by simp);have w1:wpAny (model X.prog X.w) A' (noteFrame (.ref e) X.env) (λ_ J=>∃ h',J={ s with heap:=h' }/\Heap.NotedW (PySem.W.hideAll s.heap (e :: frs X.stack)) (X.env :: X.outer) e U.cls a0 (rawInt X.env.locals) s.heap h') (λ_ _=>False) s:=by
  unfold noteFrame;simp only[O.fr];refine aEL (mh he hd h1 ?_);rw[b3 (by decide)];exact wpAny_entryW au bb O.fr he ax ay hd (Array.getElem?_eq_some_iff.mp h1).1 h0 λh' z=>⟨h',rfl,z⟩
 refine eu (fQ (jQ (.ref e) X.env) w1) (λ_ s2 ⟨⟨h',L,k1,k2,k3,k4⟩,bc⟩=>?_) λ_ _ z=>z.1.elim;subst L;have bd:=k3;obtain⟨bp,bq,T,oT,ts,bf,bg,az,bh,_⟩:=bd;unfold cameBackBy;refine aEL (mh bf az bh ?_);rw[b3 (show ¬ (Value.ref T == Value.none)=true from by simp)];have w2:=Y1 (M:=model X.prog X.w) (A:=X.A) (E:=λ_ _=>False) (s:={ s with heap:=h' }) (fr:=X.env.frame) (Q:=λ_ J=>∃ h2,J={ s with heap:=h2 }/\(PySem.W.hideAll s.heap (e :: frs X.stack)).StaysIn h2/\h2.FunFrames (PySem.W.hideAll s.heap (e :: frs X.stack)) (X.env :: X.outer)/\h2.TracedAtW (PySem.W.hideAll s.heap (e :: frs X.stack)) e U.cls a0 (X.env.frame.elim .none λf=>rawInt f)/\h'.UpToSlots h2) k1 k2 k3 λh2 a b c d=>⟨h2,rfl,a,b,c,d⟩;have bi:wpAny (model X.prog X.w) X.A (setFlight (.ref e) X.env.frame) (λ_ J=>wpAny (model X.prog X.w) X.A (leaving X.env (.ref e)) (λ_ J=>CXR X.prog X.w X.outer X.H₀ X.s₀ E (.ref e) J) (E2 (.ref e)) J) (λY s3=>wpAny (model X.prog X.w) X.A (leaving X.env Y) (λ_ J=>CXR X.prog X.w X.outer X.H₀ X.s₀ E Y J) (E2 Y) s3) { s with heap:=h' }:=by
  refine eu (fQ (eQ (.ref e) X.env.frame) w2) (λ_ s3 ⟨⟨h2,e2,a1,a2,a3,a4⟩,bj⟩=>?_) λ_ _ z=>z.1.elim;subst e2;rw[O.fr]at a3;unfold leaving;refine aEL (wpAny_noteFrame_againW O.fr a3 ?_);have w3:=wpAny_landsW (M:=model X.prog X.w) (A:=X.A) (E:=λ_ _=>False) (s:={ s with heap:=h2 }) (Q:=λ_ J=>∃ h3,J={ s with heap:=h3 }/\Heap.FlyingW (PySem.W.hideAll s.heap (e :: frs X.stack)) (X.env :: X.outer) e U.cls a0 h3/\h2.UpToSlots h3) ⟨a1,ay,a2,a3⟩ λh3 a b=>⟨h3,rfl,a,b⟩;refine eu (fQ (eQ (.ref e) none) w3) (λ_ s4 ⟨⟨h3,e3,fl,u3⟩,bn⟩=>?_) λ_ _ z=>z.1.elim;subst e3;obtain⟨f1,f2,⟨_,_,f3⟩,f4⟩:=fl;refine xG O I he av ax (λb u L=>?_) (λb o L hb=>?_) ⟨f1,f2,f3,f4⟩ (Heap.UpToSlots.trans k4 (a4.trans u3)) ((bc.trans bj).trans bn) a_ q
  .obtain⟨o,e2⟩:=(I.hok b u L).there;refine⟨o,aw b o e2 (λz=>by rw[z,av]at L;cases L) λz=>?_⟩;rw[I.stkFree b z]at L;cases L
  .obtain⟨o',e2⟩:=I.base.there b o L (by rw[O.ex];simp);have lt:=aET L;refine⟨o',aw b o' e2 (hold b o L) λz=>?_⟩
   .rcases O.mem.mp z with z | z
    .rw[z]at lt;exact absurd (aE3 lt I.ok.above) (le _)
    .exact hb z
 exact bi
end
def rE (X:Cx) (E:XK):Prop:=∀ (pins:List (Addr×Obj)) (σ:St) (H:Hp) (s:Shared) (v:Option Value) (e:Addr) (z:Obj) (vs:Array Value) (a0:Value),Inv X pins σ H s->s.heap.get? e=some z->H e=none->(∀ b o,X.s₀.heap.get? b=some o->b≠e)->z.data=.fields vs->vs[1]?=some .none->vs[0]?=some a0->Ended H s.heap e->E z.cls z.dict H ->
 notedBy (model X.prog X.w) (X.A.mark v) X.env (λx J=>cameBackBy (model X.prog X.w) X.A X.env X.xe x J) (.ref e) s
def aBD {P:Program} {w:World} {K:PySem.W.Frag} {mg:Str->Option Value} {base:Heap} {N:List Str} {qual:Str} {scope:Scope} {f:Addr} {cd:Value} {A:Around} {outer:List Env} {s:Shared} {H:Hp} {E:XK} (z:A.frames=some outer) :
 rE (fX (CXR P w) P w K mg base N qual scope f cd A outer s H E) E:=λpins σ H1 M v e O vs a0 I he J hold hd h1 h0 L q =>
 Y2 (X:=fX (CXR P w) P w K mg base N qual scope f cd A outer s H E) ⟨rfl,rfl,rfl⟩ (lm z) I (lm z) he J hold hd h1 h0 L q
section
variable {X:Cx} {pins:List (Addr×Obj)} {σ:St} {H:Hp} {s s':Shared} {e:Addr} {cls a0:Value} {od:Option Addr} {H':Hp} {B:Heap}
def Fly.kept (f:Fly X.prog X.w X.stack H s e cls a0 od H' B s') {h':Heap} (k:∀ b o,s'.heap.get? b=some o->h'.get? b=some o):Fly X.prog X.w X.stack H s e cls a0 od H' B { s' with heap:=h' }:=by
 obtain⟨M,O,U,Y,vs,T,oT,ts,he,z,hd,h1,J,L,hT,hr⟩:=f.fl;exact f.turn (t':=s'.toks) ⟨λb o q=>k _ _ (M b o q),O,U.of_keeps λb o q _=>⟨o,k _ _ q,rfl⟩,Y,vs,T,oT,ts,k _ _ he,z,hd,h1,J,L,k _ _ hT,hr⟩ (Heap.UpToSlots.of_keeps k) (HD.kept k)
def Y3 (I:Inv X pins σ H s) (f:Fly X.prog X.w X.stack H s e cls a0 od H' B s') {A:Around} {x y:Str} {c1 c2:Value} {b:Bool} {np M tp:Pos} {tc} {Q:Bool->Shared->Prop} {E E':Value->Shared->Prop} (U:Gl X x) (Y:X.mg x=some c1) (au:Gl X y) (av:X.mg y=some c2) (hx:PySem.W.exmAny X.K cls [c1,c2]=some b) (q:∀ J,Fly X.prog X.w X.stack H s e cls a0 od H' B J->Q b J) (aw:(x == ("__debug__":Str))=false:=by decide) (ax:(y == ("__debug__":Str))=false:=by decide)
 (hs:starEach [.Name x np,.Name y M] X.env=[(false,eval (.Name x np) X.env),(false,eval (.Name y M) X.env)]:=by rfl) :
 wpAny (model X.prog X.w) A (eval (.Tuple [.Name x np,.Name y M] tc tp) X.env) (λc L=>wpAny (model X.prog X.w) A (excMatches (.ref e) c) Q E L) E' s':=by
 have O:=f.inv I;have gl:∀ {z:Str} {p:Pos} {c:Value} {R:Value->Shared->Prop},Gl X z->X.mg z=some c->(z == ("__debug__":Str))=false->R c s'->wpAny (model X.prog X.w) A (eval (.Name z p) X.env) R E' s':=λhg hm hd hR =>
  kx O.ok.kind hg (oa (by rw[O.ok.glob];exact O.mod.glob.keeps O.bk) hm hR) hd
 refine wpAny_Tuple_spliced ?_;rw[hs];show wpAny _ _ (spliced ((false,eval (.Name x np) X.env) :: (false,eval (.Name y M) X.env) :: backTo tp [])) _ _ s';refine lf (gl U Y aw (lf (gl au av ax ?_)));refine ot ⟨(show 2<=sizeLine by decide),?_⟩;have k:∀ b o,s'.heap.get? b=some o->(s'.heap.push { cls:=.type "tuple",data:=.seq [c1,c2].toArray }).get? b=some o:=λb o z=>aEO _ z;have f':=f.kept k;obtain⟨oe,vs,he,ay,_,_⟩:=f'.fl.first
 have LT:PySem.W.Looks (model X.prog X.w) (s'.heap.push { cls:=.type "tuple",data:=.seq [c1,c2].toArray }) (typeOf (.ref e)) cls:=by
  rw[<- ay];exact(PySem.W.Looks.ld he).andThen .now
 exact(PySem.W.exm_tup2 (f'.inv I).kIn LT (aEU _ rfl) hx).here (q _ f')
def Cx.inY (X:Cx) (e:Addr) (z:Value->Shared->Prop):Cx:={ X with A:=X.A.mark (some (.ref e)),calm:=false,xe:=z }
def Inv.inY {J:Value->Shared->Prop} (I:Inv X pins σ H s):Inv (X.inY e J) pins σ H s:=by
 have o:=I.ok;exact⟨⟨o.mod,o.kind,o.glob,o.blt,o.above,o.inj,o.has,o.cab,(λz=>by cases z),o.frames,o.stk,o.exf,o.bs,o.bsz,o.noex,o.exfs,o.funs,o.frf⟩,I.os,I.bare,I.base,I.loc,I.cell,I.free,I.freeC,I.pin,I.hok,I.len⟩
def Inv.outY {z:Value->Shared->Prop} (o:X.Ok) (I:Inv (X.inY e z) pins σ H s):Inv X pins σ H s:=⟨o,I.os,I.bare,I.base,I.loc,I.cell,I.free,I.freeC,I.pin,I.hok,I.len⟩
end
section
variable {X:Cx} {pins:List (Addr×Obj)} {σ:St} {H:Hp} {s:Shared} {h':Heap} {e:Addr} {φ:Heap->Prop}
def Inv.gone (I:Inv X pins σ H s) (he:H e=some (.ext φ)) {Y:Obj} (k:∀ b o,b≠e->s.heap.get? b=some o->h'.get? b=some o) (hx:h'.get? e=some Y):Inv X pins σ (del H e) { s with heap:=h' }:=by
 have ne:∀ b u,H b=some u->(∀ L,u≠.ext L)->b≠e:=λb u q n z=>by rw[z,he]at q;cases q;exact n _ rfl
 have O:∀ b,H b=none->b≠e:=λb q z=>by rw[z,he]at q;cases q
 have un:Un X.fs [] H (del H e) s.heap h':=⟨λb o q n _ _=>k b o (O b n) q,λb o q n _ _=>⟨o.slots,k b o (O b n) q⟩,λb _ _ n _=>by unfold del;split <;> first | rfl | exact n,
  λb o q _=>by
   by_cases J:b=e
   .rw[J];exact⟨_,hx⟩
   .exact⟨o,k b o J q⟩,
  λb xs q=>by rw[gC (ne b _ q λ_ z=>by cases z)];exact q,λb o u q=>by rw[gC (ne b _ q λ_ z=>by cases z)];exact q,λb ps q=>⟨#[],by rw[gC (ne b _ q λ_ z=>by cases z),q];simp⟩⟩
 exact I.un (t':=s.toks) un λb u q=>by
  by_cases J:b=e
  .rw[J,jH]at q;cases q
  .rw[gC J]at q;have U:∀ c v,H c=some v->(∀ L,v≠.ext L)->del H e c=some v:=λc v q n=>by rw[gC (ne c v q n)];exact q
   refine(I.hok b u q).stay (λc v M z=>k c v (λz'=>?_) z) (λc z=>U c _ z λ_ z=>by cases z) λc xs z=>U c _ z λ_ z=>by cases z
   subst z';rcases M with z1 | z1
   .exact J z1.symm
   .rw[he]at z1;cases z1
end
def aAQ (C:Addr) (sp:Sp) (E:XK) (i:Nat) (σ:St) (H:Hp):Prop:=∃ v,σ[i]?=some (some v)/\∀ e,H e=none ->
 sp [.ref e,v] (upd H e (XO C e none)) (λu H2=>u=.non/\∃ od,H2 e=some (XO C e od)/\E (.ref C) od (del H2 e)) E0
section
variable {X:Cx} {C fI:Addr} {fd:FuncData} {ps:List Str} {sp:Sp} {k i:Nat} {E:XK} {n y:Str}
def J9 {pins:List (Addr×Obj)} {σ:St} {H H':Hp} {s s':Shared} {e:Addr} {cls a0:Value} {od:Option Addr} {B:Heap} {np vp aa pn pos:Pos} {jn} {Q:Flow->Shared->Prop} (RX:rE X E) (hx:X.ex=[]) (hc:tD X.K C (some (.ref fI))) (hf:PySem.W.isFn X.K (.ref fI)=true)
 (F:FnOkH X.prog X.w X.K X.mg X.base CX0 k fI fd ps sp) (hr:lA (k+1) X.A) (hb:Binds X.K fd ps []) (hg:Gl X y) (hm:X.mg y=some (.ref C)) (hN:X.N[i]?=some n) (hv:Vis X.env.scope n)
 (I:Inv X pins σ H s) (f:Fly X.prog X.w X.stack H s e cls a0 od H' B s') (q:aAQ C sp E i σ H')
 (hdb:(y == ("__debug__":Str))=false:=by decide) (hd:(n == ("__debug__":Str))=false:=by decide) (ba:(n == ("__classdict__":Str))=false:=by decide)
 (hst:starEach [.Name n vp] X.env=[(false,eval (.Name n vp) X.env)]:=by rfl) :
 wpAny (model X.prog X.w) (X.A.mark (some (.ref e))) (exec (.Raise (some (.Call (.Name y np) [.Name n vp] [] aa)) (some (.Constant .none jn pn)) pos) X.env) Q (notedBy (model X.prog X.w) (X.A.mark (some (.ref e))) X.env λx s2=>cameBackBy (model X.prog X.w) X.A X.env X.xe x s2) s':=by
 obtain⟨v,bb,q⟩:=q;have I':=f.inv I;have J:Inv (X.inY e (notedBy (model X.prog X.w) (X.A.mark (some (.ref e))) X.env λx s2=>cameBackBy (model X.prog X.w) X.A X.env X.xe x s2)) pins σ H' s':=I'.inY;obtain⟨bm,N,nm,qn,bs,hdct,sn,sub,ab,col,dd,k0,k1,k2,k3,k5,mN,hC,bc,hi,T⟩:=hc X.base I.mod.kin;obtain⟨oI,bd,bf⟩:=S7 I.mod.kin hf;have hplain:(backTo aa (starEach [Expr.Name n vp] X.env)).any (·.1)=false:=by
  rw[hst];rfl
 refine C0 (C:=C) (nm:=nm) (q:=qn) (N:=N) (bs:=bs) (bm:=bm) (hdct:=hdct) (sn:=sn) (sub:=sub) (ab:=ab) (col:=col) (dd:=dd) (k0:=k0) (k1:=k1) (k2:=k2) (k3:=k3) (k5:=k5) (mN:=mN) (fI:=fI) (oI:=oI) (h0:=e) ng (T PySem.F.excBase_ValueError.hasBase) rfl hplain hi bf (eG J hg hm ⟨rfl,?_⟩ hdb);refine lp ?_;show wpAny _ _ (spliced ((false,eval (.Name n vp) X.env) :: backTo aa [])) _ _ s';refine lf (x3 J hN hv bb (λu ru=>ot ?_) hd ba);refine⟨rfl,(show 1<=sizeLine by decide),I'.bk _ _ hC,bc.keeps I'.bk,T,I'.bk _ _ bd,λh' L U=>?_⟩;have I3:=Inv.newX (C:=C) J U;have bg:=I'.unthere U.new;have hq:=q L bg;have r2:Vals [V.ref L,v] ([Value.ref L,u]++[]):=.cons rfl (.cons ru .nil);have hl:([Value.ref L,u]++[]).length=ps.length:=by
  rw[<- r2.length];exact F.len _ _ _ _ hq
 have bh:=hb { s' with heap:=h' } [Value.ref L,u] I3.kIn hl;refine ny (mw (F.run _ X.stack _ _ ⟨[Value.ref L,u],[]⟩ [Value.ref L,u] _ _ E0 (hr.mk'.make C [u] []) (I3.env0.make C [u] []) bh r2 hq) λrr s3 M=>?_);cases rr with
 | error ev=>exact M.elim
 | ok fl =>
  cases fl with
  | ret u3 =>
   obtain⟨w3,H3,bi,au,un,av,rv,ev,bj,Y,q3⟩:=M;subst ev;have I4:=I3.call' bi un av au λb z=>absurd z (by simp);obtain⟨⟨t0,bn⟩,_⟩:=I4.hok L _ Y;have aw:∀ b o,s'.heap.get? b=some o->b≠L:=λb o z1 z2=>by rw[z2,U.new]at z1;cases z1
   have ax:Ended H3 s3.heap e:=f.ended.to λb o v hn hb ay=>by
    have hH:upd H' L (XO C L none) b=none:=by rw[aL (aw b o hb)];exact hn
    have hh:=U.keeps b o hb;have nf:b∉frs X.stack:=λz=>by
     obtain⟨_,o2,az,bo⟩:=I'.stack.mem z;rw[hb]at az;cases az;obtain⟨vs,bp,_⟩:=jS ay;exact bo vs bp
    exact⟨un.free b o hh hH (by simp),un.keep b o hh hH nf (by simp)⟩
   refine⟨rv,I4.bk _ _ hC,bj,t0,bn,ax.chn Y,λbq a_ O=>?_⟩;refine RX pins σ (del H3 L) _ (some (.ref e)) L _ _ (.ref t0) ((I4.outY I.ok).gone Y a_ O) O jH (λb o z1 z2=>?_) rfl rfl rfl (.more jH O rfl (ax.to λb o v hn hb ay=>?_)) q3
   .obtain⟨o',e2⟩:=I'.base.there b o z1 (by rw[hx];simp);exact aw b o' e2 z2
   .have nb:b≠L:=λz=>by rw[z,Y]at hn;cases hn
    exact⟨by rw[gC nb];exact hn,a_ b o nb hb⟩
  | next=>exact False.elim M
  | brk=>exact False.elim M
  | cont=>exact False.elim M
def aBE {z J:Str} {c1 c2:Value} {p1 p2 tp np M aa pn L pos:Pos} {tc jn} {rest:List ExceptHandler} (RX:rE X E) (hx:X.ex=[]) (hc:tD X.K C (some (.ref fI))) (hf:PySem.W.isFn X.K (.ref fI)=true)
 (F:FnOkH X.prog X.w X.K X.mg X.base CX0 k fI fd ps sp) (hr:lA (k+1) X.A) (hb:Binds X.K fd ps []) (hg:Gl X y) (hm:X.mg y=some (.ref C)) (hN:X.N[i]?=some n) (hv:Vis X.env.scope n)
 (O:Gl X z) (U:X.mg z=some c1) (Y:Gl X J) (au:X.mg J=some c2)
 (hdb:(y == ("__debug__":Str))=false:=by decide) (hd:(n == ("__debug__":Str))=false:=by decide) (av:(n == ("__classdict__":Str))=false:=by decide)
 (aw:(z == ("__debug__":Str))=false:=by decide) (ax:(J == ("__debug__":Str))=false:=by decide)
 (hst:starEach [.Name n M] X.env=[(false,eval (.Name n M) X.env)]:=by rfl) (hs:starEach [.Name z p1,.Name J p2] X.env=[(false,eval (.Name z p1) X.env),(false,eval (.Name J p2) X.env)]:=by rfl) :
 PH X (.ExceptHandler (some (.Tuple [.Name z p1,.Name J p2] tc tp)) none [.Raise (some (.Call (.Name y np) [.Name n M] [] aa)) (some (.Constant .none jn pn)) L] pos :: rest) (λcls _ _ _ σ H=>PySem.W.exmAny X.K cls [c1,c2]=some true/\aAQ C sp E i σ H):=λpins H0 s0 σ e cls a0 od H' B s' D I f q=>by
 obtain⟨ay,q⟩:=q;refine wpAny_handleBy_cons (sw (Y3 I f O U Y au ay (λs1 f1=>?_) aw ax hs)) (by intro q;cases q);refine codeAny_handlers_suite (wD f1 λs2 f2=>?_);exact ml (J9 RX hx hc hf F hr hb hg hm hN hv I f2 q hdb hd av hst)
end
end L2
namespace CW
open PySem L2
section
variable {P:Program} {w:World} {K:PySem.W.Frag} {mg:Str->Option Value} {base:Heap}
structure lX (P:Program) (w:World) (K:PySem.W.Frag) (mg:Str->Option Value) (base:Heap) (x:Str) (C:Addr) (ps:List Str) (sp:Sp):Prop where
 m:mg x=some (.ref C)
 i:∃ fI fd,tD K C (some (.ref fI))/\PySem.W.isFn K (.ref fI)=true/\FnOkH P w K mg base CX0 2 fI fd ps sp/\Binds K fd ps []
def aAR {X:Cx} {C:Addr} {ps:List Str} {sp:Sp} {k i:Nat} {E:XK} {n y z J:Str} {c1 c2:Value} {p1 p2 tp np M aa pn L pos:Pos} {tc jn} {rest:List ExceptHandler} (RX:rE X E) (R:lX X.prog X.w X.K X.mg X.base y C ps sp) (hx:X.ex=[])
 (hr:Room k X.A) (hg:Gl X y) (hN:X.N[i]?=some n) (hv:Vis X.env.scope n)
 (O:Gl X z) (U:X.mg z=some c1) (Y:Gl X J) (au:X.mg J=some c2) (hk:3<=k:=by decide)
 (hdb:(y == ("__debug__":Str))=false:=by decide) (hd:(n == ("__debug__":Str))=false:=by decide) (av:(n == ("__classdict__":Str))=false:=by decide)
 (aw:(z == ("__debug__":Str))=false:=by decide) (ax:(J == ("__debug__":Str))=false:=by decide)
 (hst:starEach [.Name n M] X.env=[(false,eval (.Name n M) X.env)]:=by rfl) (hs:starEach [.Name z p1,.Name J p2] X.env=[(false,eval (.Name z p1) X.env),(false,eval (.Name J p2) X.env)]:=by rfl) :
 PH X (.ExceptHandler (some (.Tuple [.Name z p1,.Name J p2] tc tp)) none [.Raise (some (.Call (.Name y np) [.Name n M] [] aa)) (some (.Constant .none jn pn)) L] pos :: rest) (λcls _ _ _ σ H=>PySem.W.exmAny X.K cls [c1,c2]=some true/\aAQ C sp E i σ H):=by
 obtain⟨m,fI,fd,h1,h2,h3,h4⟩:=R;exact aBE RX hx h1 h2 h3 (hr.mono hk).h h4 hg m hN hv O U Y au hdb hd av aw ax hst hs
structure aCW (X:cG K mg):Prop where
 laid:PySem.W.exmAny K (.ref X.laid) [.ref X.laid,.ref X.stone]=some true
 stone:PySem.W.exmAny K (.ref X.stone) [.ref X.laid,.ref X.stone]=some true
variable (X:cG K mg) (G:Hc K)
end
end CW
namespace L2
open PySem PySem.Spec PyProof.Rows
section
variable {CX:CXT} {P:Program} {w:World} {K:PySem.W.Frag} {mg:Str->Option Value} {base:Heap} {N:List Str} {qual:Str} {scope:Scope} {f:Addr} {cd:Value} {A:Around} {outer:List Env} {s:Shared} {H:Hp} {E:XK}
def cN:(fX CX P w K mg base N qual scope f cd A outer s H E).nox.K=K:=rfl
def cO:(fX CX P w K mg base N qual scope f cd A outer s H E).K=K:=rfl
end
open PySem.W
end L2
namespace L2
open PySem PySem.Spec PyProof.Rows
open PySem.Calls PySem.W
end L2
namespace L2
open PySem PySem.Spec PyProof.Rows
end L2
namespace CW
open PySem L2
def mS:∀ {a b:List Int},a.Perm b->a.Pairwise (·<=·)->b.Pairwise (·<=·)->a=b
 | [],b,h,_,_=>by rw[h.symm.eq_nil]
 | x :: a,[],h,_,_=>by have:=h.eq_nil;cases this
 | x :: a,y :: b,h,L,M=>by
  have z:=List.pairwise_cons.mp L;have J:=List.pairwise_cons.mp M;have O:x∈y :: b:=h.mem_iff.mp aEP;have U:y∈x :: a:=h.mem_iff.mpr aEP;have e:x=y:=by
   rcases aEm.mp O with q | q
   .exact q
   .rcases aEm.mp U with r | r
    .exact r.symm
    .have h1:=z.1 y r;have h2:=J.1 x q
     lia
  subst e;rw[mS (List.perm_cons x |>.mp h) z.2 J.2]
end CW
namespace L2
open PySem PySem.Spec PyProof.Rows
end L2
namespace CW
open PySem L2
section
variable {K:PySem.W.Frag} {mg:Str->Option Value} (X:cG K mg)
def K0:List Addr:=[X.many,X.row,X.creel,X.near,X.bare,X.name,X.taken,X.full,X.road,X.laid,X.stone,X.entry,X.walk,X.clash,X.left]
variable {X}
variable (X)
end
end CW
namespace L2
open PySem PySem.Spec PyProof.Rows
section
variable {P:Program} {w:World} {K:PySem.W.Frag} {mg:Str->Option Value} {base:Heap}
def _root_.CW.FunC.okX {x qual:Str} {st:Stmt} {f c:Addr} {fd:FuncData} {N ps:List Str} {k:Nat} {sp:Sp} (F:CW.FunC K x qual st f fd c) (S:FnScope N ps (aG st)) (len:∀ vs H Q E,sp vs H Q E->vs.length=ps.length)
 (z:∀ (A:Around) (outer:List Env) (s:Shared) (H:Hp) (vs:List V) (Q:VK) (E:XK),A.frames=some outer->Room k (A.deeper (envOfC qual (aG st) s.heap.objs.size f (.ref c)))->sp vs H Q E ->
  ∃ t,PSs (fX (CXR P w) P w K mg base N qual (aG st) f (.ref c) A outer s H E) (bC st) t/\t { nx:=λ_ H'=>Q .non H',rt:=Q } (dQ N vs) H):FnOk P w K mg base (CXR P w) (k+1) f fd ps sp:=by
 obtain⟨oc,od,kV,O,pm,an,ct,U,rfl,lk,J⟩:=F.ex;have G:=z6 (CX:=CXR P w) (P:=P) (w:=w) (mg:=mg) (base:=base) (k:=k) (sp:=λ_ _ vs H Q E=>sp vs H Q E) lk J S (λ_ _ vs H Q E h=>len vs H Q E h) λA outer s H vs Q E L Y M=>z A outer s H vs Q E L Y M;exact⟨λvs H Q E h=>len vs H Q E h,λA outer s H args us vs Q E a b c d e=>G.run A outer s H args us vs Q E a b c d e⟩
end
end L2
namespace CW
open PySem L2
open PyProof.Rows
section
variable {P:Program} {w:World} {K:PySem.W.Frag} {mg:Str->Option Value} {base h:Heap} {x c q m:Str} {st:Stmt} {f C I D fB T c':Addr} {fd am:FuncData} {ps:List Str} {sp:Sp}
structure ErrD (K:PySem.W.Frag) (c q:Str) (st:Stmt) (D C I:Addr) (fd:FuncData):Prop where
 a:PySem.W.nsIn K mainGlobals c=some (some (.ref C))
 x:tD K C (some (.ref I))
 s:gY K C "word"
 f:PySem.W.isFn K (.ref I)=true
 F:FunD K "__init__" q st I fd
 b:Binds K fd ["self","why"] []
def errD {U kV J L z ct Y:Value} {od M ud:Option Addr} {O us:Array (Option Value)} {ta:Tok} {un:Nat}
 (hb:∀ (u v:Value),∃ k,bindArgs (PySem.W.fnOf "__init__" q (bQ st) (bC st) (aG st) (.ref T) kV J L M z ct) ⟨[u,v],[]⟩=seqItems? (.ref T) >>= k/\k (some #[.str "" ta])=pure [(("self":Str),u),("why",v)])
 (a:PySem.W.nsIn K mainGlobals c=some (some (.ref C))) (ai:PySem.W.findIn K (.ref C) "__init__"=some (some (.ref I)))
 (l:K.lookup I=some ⟨U,od,.func (PySem.W.fnOf "__init__" q (bQ st) (bC st) (aG st) (.ref T) kV J L M z ct),O⟩)
 (cd:PySem.W.codeIn K z q=true) (k:PySem.W.keepIn K (.ref I)=true) (lt:K.lookup T=some ⟨Y,ud,.seq #[.str "" ta] un,us⟩)
 (i:PySem.W.isFn K (.ref I)=true) (xi:xP K C (some (.ref I))=true) (xw:aAC K C D "word"=true) :
 ErrD K c q st D C I (PySem.W.fnOf "__init__" q (bQ st) (bC st) (aG st) (.ref T) kV J L M z ct) :=
 ⟨a,S6 xi,aAD xw,i,T3 l cd k,λs us kin hl=>match us,hl with
  | [u,v],_=>by
   obtain⟨k,h1,h2⟩:=hb u v;exact PySem.W.binds_K (T:=T) kin rfl lt rfl h1 h2⟩
def ErrD.mm (E:ErrD K c q st D C I fd) (X:K.In h) (G:h.Ns mainGlobals mg):mg c=some (.ref C):=jg X G E.a
def ErrD.r (E:ErrD K c q st D C I fd) (X:K.In h) (G:h.Ns mainGlobals mg) (o:FnOk P w K mg base CX0 2 I fd ["self","why"] sp):kW P w K mg base c C ["self","why"] sp:=⟨E.mm X G,I,fd,E.x,E.f,o,E.b⟩
structure ErrA (K:PySem.W.Frag) (c q:Str) (st:Stmt) (D C I:Addr) (fd:FuncData):Prop where
 a:PySem.W.nsIn K mainGlobals c=some (some (.ref C))
 x:tD K C (some (.ref I))
 s:gY K C "word"
 t:gY K C "at"
 f:PySem.W.isFn K (.ref I)=true
 F:Fun K "__init__" q st I fd
 b:Binds K fd ["self","at"] []
def errA {U kV J L z ct:Value} {od M:Option Addr} {O:Array (Option Value)}
 (Y:∀ (kV J L:Value) (M:Option Addr) (z ct u v:Value),bindArgs (PySem.W.fnOf "__init__" q (bQ st) (bC st) (aG st) .none kV J L M z ct) ⟨[u,v],[]⟩=pure [(("self":Str),u),("at",v)])
 (a:PySem.W.nsIn K mainGlobals c=some (some (.ref C))) (ai:PySem.W.findIn K (.ref C) "__init__"=some (some (.ref I)))
 (l:K.lookup I=some ⟨U,od,.func (PySem.W.fnOf "__init__" q (bQ st) (bC st) (aG st) .none kV J L M z ct),O⟩)
 (cd:PySem.W.codeIn K z q=true) (k:PySem.W.keepIn K (.ref I)=true)
 (i:PySem.W.isFn K (.ref I)=true) (xi:xP K C (some (.ref I))=true) (xw:aAC K C D "word"=true) (xa:aAC K C D "at"=true) :
 ErrA K c q st D C I (PySem.W.fnOf "__init__" q (bQ st) (bC st) (aG st) .none kV J L M z ct) :=
 ⟨a,S6 xi,aAD xw,aAD xa,i,rZ l cd k,(rZ l cd k).binds2 Y⟩
def ErrA.mm (E:ErrA K c q st D C I fd) (X:K.In h) (G:h.Ns mainGlobals mg):mg c=some (.ref C):=jg X G E.a
def ErrA.r (E:ErrA K c q st D C I fd) (X:K.In h) (G:h.Ns mainGlobals mg) (o:FnOk P w K mg base CX0 2 I fd ["self","at"] sp):kW P w K mg base c C ["self","at"] sp:=⟨E.mm X G,I,fd,E.x,E.f,o,E.b⟩
def ErrA.rH (E:ErrA K c q st D C I fd) (X:K.In h) (G:h.Ns mainGlobals mg) (o:FnOkH P w K mg base CX0 2 I fd ["self","at"] sp):lX P w K mg base c C ["self","at"] sp:=⟨E.mm X G,I,fd,E.x,E.f,o,E.b⟩
structure aD5 (K:PySem.W.Frag) (q:Str) (st:Stmt) (C I:Addr) (fd:FuncData):Prop where
 a:PySem.W.nsIn K mainGlobals "CreelError"=some (some (.ref C))
 o:B0 K C I
 F:FunD K "__init__" q st I fd
 b:Binds K fd ["self","why","word"] []
def errT {U kV J L z ct Y:Value} {od M ud:Option Addr} {O us:Array (Option Value)} {ta tb:Tok} {un:Nat}
 (hb:∀ (u v w:Value),∃ k,bindArgs (PySem.W.fnOf "__init__" q (bQ st) (bC st) (aG st) (.ref T) kV J L M z ct) ⟨[u,v,w],[]⟩=seqItems? (.ref T) >>= k/\k (some #[.str "" ta,.str "CreelError" tb])=pure [(("self":Str),u),("why",v),("word",w)])
 (a:PySem.W.nsIn K mainGlobals "CreelError"=some (some (.ref C))) (ai:PySem.W.findIn K (.ref C) "__init__"=some (some (.ref I)))
 (l:K.lookup I=some ⟨U,od,.func (PySem.W.fnOf "__init__" q (bQ st) (bC st) (aG st) (.ref T) kV J L M z ct),O⟩)
 (cd:PySem.W.codeIn K z q=true) (k:PySem.W.keepIn K (.ref I)=true) (lt:K.lookup T=some ⟨Y,ud,.seq #[.str "" ta,.str "CreelError" tb] un,us⟩)
 (g1:PySem.W.specialIn K (.ref C) "__getattribute__"=some (some (.builtin "type.__getattribute__"))) (g2:PySem.W.readsIn K C (.type "type")=true) (g3:PySem.W.findCls K (.ref C) (.type "type") "__init__"=some (.val (.ref I))) :
 aD5 K q st C I (PySem.W.fnOf "__init__" q (bQ st) (bC st) (aG st) (.ref T) kV J L M z ct) :=
 ⟨a,⟨g1,g2,g3,k⟩,T3 l cd k,λs us kin hl=>match us,hl with
  | [u,v,w],_=>by
   obtain⟨k,h1,h2⟩:=hb u v w;exact PySem.W.binds_K (T:=T) kin rfl lt rfl h1 h2⟩
def _root_.L2.MethIn.atX {ps:List Str} {k:Nat} {sp:Sp} (D:MethIn K C m q st f fd) (b:Binds K fd ps []) (o:FnOk P w K mg base (CXR P w) k f fd ps sp):gL P w K mg base C m k ps sp:=⟨f,fd,o,D.me,b⟩
def _root_.L2.DAt.refX {ps:List Str} {k:Nat} {sp:Sp} (D:DAt P w base K mg x ps f fd) (o:FnOk P w K mg base (CXR P w) k f fd ps sp):jR P w K mg base f k ps sp:=⟨fd,o,D.k,D.b⟩
def _root_.L2.DefC.d5 (D:DefC K x st f fd c') (P:Program) (w:World) (base:Heap) (X:K.In h) (G:h.Ns mainGlobals mg) {ps:List Str} (b:Binds K fd ps []):DAt P w base K mg x ps f fd:=D.D.d5 P w base X G b
end
section
variable {K:PySem.W.Frag} {mg:Str->Option Value}
def C1 (o:Option Bool) (b:Bool):Bool:=match o with | some c=>c == b | none=>false
def tJ {o:Option Bool} {b:Bool} (h:C1 o b=true):o=some b:=by
 unfold C1 at h;split at h
 .rw[beq_iff_eq.mp h]
 .cases h
end
end CW
namespace L2
open PySem PySem.Spec PyProof.Rows
open Sem (wp)
end L2
namespace CW
open PySem L2 PyProof.Rows
end CW
namespace L2
open PySem PySem.Spec PyProof.Rows
end L2
namespace CW
open PySem L2
end CW
namespace L2
open PySem PySem.Spec PyProof.Rows
end L2
namespace CW
open PySem L2
end CW
namespace CW
end CW
namespace CW
open PySem L2
end CW
namespace L2
open PySem PySem.Spec PyProof.Rows
end L2
namespace CW
open PySem L2
end CW
namespace L2
open PySem PySem.Spec PyProof.Rows
def aEJ:TE:=λ_ _ _=>False
def T7 {X:Cx} {es:List Expr} {pos:Pos} {t:TA} (h:PA X es t):PEi X (.List es pos) (aBn t):=PEi.of (kJ h)
def K1 {X:Cx} {e:Expr}:PE X e aEJ:=λ_ _ _ _ _ _ h=>h.elim
end L2
namespace CW
open PySem L2
section
variable {K:PySem.W.Frag} {mg:Str->Option Value} (X:cG K mg) (T:Err5) (G:Hc K)
abbrev En:=Str×List Int
inductive EnAt (H:Hp) (v:V) (e:En):Prop
 | mk (t:Addr) (h0_:v=.ref t) (h1_:H t=some (.tup (.str e.1 :: e.2.map V.int))):EnAt H v e
structure RD where
 first:List Int
 ents:List En
 row:List Int
 ws:Trs
abbrev aAS (H:Hp) (t:Addr) (r:List Int):Prop:=RowA (λ_=>r≠[]) H t r
inductive CrsC (H:Hp) (c:Addr) (row:List Int) (ws:Trs):Prop
 | mk (dx t d:Addr) (h0_:H c=some (.ins G.Cs dx (aDX t d false))) (h1_:aAS H t row) (h2_:H d=some (.dK (kvW ws))):CrsC H c row ws
inductive RoadC (H:Hp) (v:V) (D:RD):Prop
 | mk (a dx e r c r0 t0:Addr) (us:List V) (h0_:v=.ref a) (h1_:H a=some (.ins G.Rd dx (aDY e r c))) (h2_:H e=some (.tup us)) (h3_:Paired (EnAt H) us D.ents) (h4_:H r=some (.tup [.ref r0])) (h5_:H r0=some (.tup [.int 0,.ref t0])) (h6_:aAS H t0 D.first) (h7_:CrsC G H c D.row D.ws):RoadC H v D
abbrev Sd5:=List (Str×RD)
abbrev SA5 (H:Hp):Key×V->Str×RD->Prop:=λz s=>z.1=.inr s.1/\RoadC G H z.2 s.2
structure Kq (H H':Hp):Prop where
 tup:aCA H H'
 dk:∀ d kvs,H d=some (.dK kvs)->H' d=some (.dK kvs)
 ins:∀ a C dx fs,C≠G.Hs->H a=some (.ins C dx fs)->H' a=some (.ins C dx fs)
 lst:∀ t x r,H t=some (.lst (.int x :: r))->H' t=some (.lst (.int x :: r))
def CO5 (z H:Hp) (c:Addr) (row:List Int) (ws:Trs):Prop:=Same z H/\z c=none/\∃ dx t d,z d=none/\H c=some (.ins G.Cs dx (aDX t d false))/\aAS H t row/\H d=some (.dK (kvW ws))
def HO5 (z H:Hp) (a:Addr) (S:Sd5) (n:Nat):Prop:=Same z H/\z a=none/\∃ (dx d p q:Addr) (kvs:List (Key×V)) (us:List V),z p=none/\H a=some (.ins G.Hs dx (kU d p q))/\H d=some (.dK kvs)/\Paired (SA5 G H) kvs S/\H p=some (.lst us)/\(∀ v∈us,∃ b,v=.ref b)/\us.length=n/\H q=some (.lst [])
variable {G}
def Kq.same {H H':Hp} (g:Same H H'):Kq G H H':=⟨λ_ _ e=>g _ _ e,λ_ _ e=>g _ _ e,λ_ _ _ _ _ e=>g _ _ e,λ_ _ _ e=>g _ _ e⟩
def Kq.updI {H H':Hp} {a dx:Addr} {fs:List (Str×V)} {o:HO} (k:Kq G H H') (J:H a=some (.ins G.Hs dx fs)):Kq G H (upd H' a o) :=
 ⟨λ_ _ e=>by rw[aL (gQ e J (by intro z;cases z))];exact k.tup _ _ e,λ_ _ e=>by rw[aL (gQ e J (by intro z;cases z))];exact k.dk _ _ e,
  λ_ _ _ _ L e=>by rw[aL (gQ e J (by intro z;injection z with z;exact L z))];exact k.ins _ _ _ _ L e,λ_ _ _ e=>by rw[aL (gQ e J (by intro z;cases z))];exact k.lst _ _ _ e⟩
def Kq.updP {H H':Hp} {p:Addr} {us:List V} {o:HO} (k:Kq G H H') (J:H p=some (.lst us)) (L:∀ v∈us,∃ b,v=.ref b):Kq G H (upd H' p o) :=
 ⟨λ_ _ e=>by rw[aL (gQ e J (by intro z;cases z))];exact k.tup _ _ e,λ_ _ e=>by rw[aL (gQ e J (by intro z;cases z))];exact k.dk _ _ e,
  λ_ _ _ _ M e=>by rw[aL (gQ e J (by intro z;cases z))];exact k.ins _ _ _ _ M e,λ_ _ _ e=>by
   rw[aL (gQ e J (by intro z;cases z;obtain⟨_,w⟩:=L _ aEP;cases w))];exact k.lst _ _ _ e⟩
def Kq.updN {H H':Hp} {a:Addr} {o:HO} (k:Kq G H H') (z:H a=none):Kq G H (upd H' a o) :=
 ⟨λ_ _ e=>by rw[aL (aU e z)];exact k.tup _ _ e,λ_ _ e=>by rw[aL (aU e z)];exact k.dk _ _ e,
  λ_ _ _ _ J e=>by rw[aL (aU e z)];exact k.ins _ _ _ _ J e,λ_ _ _ e=>by rw[aL (aU e z)];exact k.lst _ _ _ e⟩
def EnAt.kq {H H':Hp} (k:Kq G H H') {v:V} {e:En} (h:EnAt H v e):EnAt H' v e:=by
 obtain⟨t,h0,h1⟩:=h;exact⟨t,h0,k.tup _ _ h1⟩
def xV {H H':Hp} (k:Kq G H H') {t:Addr} {r:List Int} (h:aAS H t r):aAS H' t r:=by
 rcases h with ⟨h1,h2⟩ | h
 .cases r with
  | nil=>exact absurd rfl h1
  | cons x r=>exact .inl ⟨h1,k.lst _ _ _ h2⟩
 .exact .inr (k.tup _ _ h)
def CrsC.kq {H H':Hp} (k:Kq G H H') {c:Addr} {row:List Int} {ws:Trs} (h:CrsC G H c row ws):CrsC G H' c row ws:=by
 obtain⟨dx,t,d,h0,h1,h2⟩:=h;exact⟨dx,t,d,k.ins _ _ _ _ G.ne2 h0,xV k h1,k.dk _ _ h2⟩
def RoadC.kq {H H':Hp} (k:Kq G H H') {v:V} {D:RD} (h:RoadC G H v D):RoadC G H' v D:=by
 obtain⟨a,dx,e,r,c,J,L,us,h0,h1,h2,h3,h4,h5,M,O⟩:=h;exact⟨a,dx,e,r,c,J,L,us,h0,k.ins _ _ _ _ G.ne1 h1,k.tup _ _ h2,Paired.mapP h3 λ_ _ z=>z.kq k,k.tup _ _ h4,k.tup _ _ h5,xV k M,O.kq k⟩
def pI {H H':Hp} (k:Kq G H H') {kvs:List (Key×V)} {S:Sd5} (h:Paired (SA5 G H) kvs S):Paired (SA5 G H') kvs S:=Paired.mapP h λ_ _ z=>⟨z.1,z.2.kq k⟩
def CO5.at {z H:Hp} {c:Addr} {row:List Int} {ws:Trs} (h:CO5 G z H c row ws):CrsC G H c row ws:=by
 obtain⟨_,_,dx,t,d,_,h1,h2,h3⟩:=h;exact⟨dx,t,d,h1,h2,h3⟩
def CO5.same {z H H':Hp} {c:Addr} {row:List Int} {ws:Trs} (g:Same H H') (h:CO5 G z H c row ws):CO5 G z H' c row ws:=by
 obtain⟨h1,h2,dx,t,d,h3,h4,h5,J⟩:=h;exact⟨h1.trans g,h2,dx,t,d,h3,g _ _ h4,h5.same g,g _ _ J⟩
variable (G)
inductive DK where
 | build | ent | late | strike
abbrev RD.plus (D:RD) (e:En) (q:List Int×Trs):RD:=⟨D.first,D.ents++[e],q.1,q.2⟩
variable {G}
variable (G)
inductive lY (vs:List V) (H:Hp) (Q:VK) (E_:XK):Prop
 | mk (r t:Addr) (n:Int) (v u:V) (h0_:vs=[.ref r,.int n,v]) (h1_:SqL K H r [.ref t]\/SqT K H r [.ref t]) (h2_:H t=some (.tup [.int 0,u])) (h3_:n<16) (h4_:∀ H',Same H H'->Q (.bl false) H'):lY vs H Q E_
inductive xW (vs:List V) (H:Hp) (Q:VK) (E_:XK):Prop
 | mk (t:Addr) (row:List Int) (h0_:vs=[.ref t]) (h1_:H t=some (.tup (row.map V.int))) (h2_:∀ v H',Same H H'->RoadC G H' v ⟨row,[],row,[]⟩->Q v H'):xW vs H Q E_
inductive fS (vs:List V) (H:Hp) (Q:VK) (E:XK):Prop
 | mk (d:Addr) (n:Str) (kvs:List (Key×V)) (h0_:vs=[.ref d,.str n]) (h1_:H d=some (.dK kvs)) (h2_:∀ v,kH kvs (Sum.inr n)=some v->Q v H) (h3_:kH kvs (Sum.inr n)=none->RefH.road.go X E H):fS vs H Q E
inductive jJ (vs:List V) (H:Hp) (Q:VK) (E_:XK):Prop
 | mk (d:Addr) (n:Str) (v:V) (kvs:List (Key×V)) (h0_:vs=[.ref d,.str n,v]) (h1_:H d=some (.dK kvs)) (h2_:kvs.length<=8) (h3_:∀ d' H',Same H H'->H' d'=some (.dK (jC kvs (Sum.inr n) v))->Q (.ref d') H'):jJ vs H Q E_
end
section
variable {K:PySem.W.Frag} {G:Hc K} {H:Hp}
def jK {n:Str}:∀ {kvs:List (Key×V)} {S:Sd5},Paired (SA5 G H) kvs S->n∉S.map (·.1)->kH kvs (Sum.inr n)=none
 | _,_,.nil,_=>rfl
 | _,s :: _,.cons r t,h=>by
  rw[aEb,aEm,not_or]at h;rw[jD (λz=>h.1 (jz (z.symm.trans r.1)))];exact jK t h.2
def C2 {n:Str}:∀ {kvs:List (Key×V)} {S:Sd5},Paired (SA5 G H) kvs S->n∈S.map (·.1)->∃ v,kH kvs (Sum.inr n)=some v
 | _,_,.nil,h=>(nomatch h)
 | kv :: _,s :: _,.cons r t,h=>by
  by_cases c:kv.1=Sum.inr n
  .exact⟨_,kP c⟩
  .rw[jD c];exact C2 t ((aEm.mp h).resolve_left λz=>c (by rw[r.1,z]))
def aCX {x dx:Addr} {R:Hp->Prop} {E:XK} (z:H x=none) (hd:H dx=none) (M:dx≠x) (k:∀ H',HO5 G H H' x [] 0->R H') :
 jI G [.ref x] (upd (upd H dx (.own x)) x (.ins G.Hs dx [])) (λv H2=>v=.non/\R H2) E:=by
 refine⟨x,dx,rfl,aJ,λd p q h1 h2 h3 n1 n2 n3=>⟨rfl,k _ ?_⟩⟩;have nx:∀ {y:Addr},(upd (upd H dx (.own x)) x (.ins G.Hs dx [])) y=none->y≠x:=λ{y} h e=>by rw[e,aJ]at h;cases h
 have O:=nx h1;have U:=nx h2;have Y:=nx h3;have J:=cV (cV h2);have f3:=cV (cV h3);have f1:=cV (cV h1);refine⟨?_,z,dx,d,p,q,[],[],J,aJ,?_,.nil,?_,(λ_ h=>(nomatch h)),rfl,?_⟩
 .intro b o e;have L:b≠x:=aU e z;rw[aL L,aL (aU e f3),aL (aU e J),aL (aU e f1),aL L,aL (aU e hd)];exact e
 .rw[aL O,aL n2,aL n1,aJ]
 .rw[aL U,aL n3,aJ]
 .rw[aL Y,aJ]
def aCY (n:Int):cS [n,n]=.row 1:=by
 have b:kX [n,n] 1:=⟨by decide,show 1<2 by decide,Int.le_refl n,λj h1 h2=>by lia⟩;unfold cS;have z:∃ i,kX [n,n] i:=⟨1,b⟩;rw[b3 (show ¬ 60<[n,n].length from (show ¬ 60<2 by decide)),dif_pos z,tE (pi z) b];rfl
end
end CW
namespace L2
open PySem PySem.Spec PyProof.Rows
def FnScope.of {N ps:List Str} {z:Scope} (a:z.kind=.function:=by rfl) (b:z.isCoroutine=false:=by rfl) (c:z.isGenerator=false:=by rfl) (d:N.Nodup:=by decide +kernel) (e:N.take ps.length=ps:=by rfl)
 (f:∀ x∈ps,z.names.lookup x=some .local\/z.names.lookup x=some .cell:=by decide +kernel) (g:∀ y∈z.names,y.2≠.free:=by decide +kernel):FnScope N ps z:=⟨a,b,c,d,e,f,g⟩
section
variable {P:Program} {w:World} {K:PySem.W.Frag} {mg:Str->Option Value} {base:Heap} {x qual:Str} {st:Stmt} {f:Addr} {fd:FuncData} {N ps:List Str} {k:Nat} {sp:Sp}
def Fun.g (F:Fun K x qual st f fd) (S:FnScope N ps (aG st)) (run:∀ z A outer s H vs Q E,Room k (A.deeper (PyProof.Rows.envOfC qual (aG st) s.heap.objs.size f z))->sp vs H Q E->∃ t,PSs (fX CX0 P w K mg base N qual (aG st) f z A outer s H E).nox (bC st) t/\t { nx:=λ_ H'=>Q .non H',rt:=Q } (dQ N vs) H)
 (len:∀ vs H Q E,sp vs H Q E->vs.length=ps.length:=by intro vs H Q E h;cases h <;> subst_vars <;> rfl):FnOk P w K mg base CX0 (k+1) f fd ps sp:=F.ok S len run
def Fun.gX (F:Fun K x qual st f fd) (S:FnScope N ps (aG st)) (run:∀ z A outer s H vs Q E,A.frames=some outer->Room k (A.deeper (PyProof.Rows.envOfC qual (aG st) s.heap.objs.size f z))->sp vs H Q E->∃ t,PSs (fX (CXR P w) P w K mg base N qual (aG st) f z A outer s H E) (bC st) t/\t { nx:=λ_ H'=>Q .non H',rt:=Q } (dQ N vs) H)
 (len:∀ vs H Q E,sp vs H Q E->vs.length=ps.length:=by intro vs H Q E h;cases h <;> subst_vars <;> rfl):FnOk P w K mg base (CXR P w) (k+1) f fd ps sp:=F.okX S len run
end
end L2
namespace CW
open PySem L2
section
variable {K:PySem.W.Frag} {mg:Str->Option Value}
section
variable {P:Program} {w:World} {base h:Heap} {nm q:Str} {st:Stmt} {C I D fB:Addr} {fd am:FuncData} {p1 p2 p3 p4 p5 p6 p7 p8 p9 pa pb pc pd pe pf:Pos}
abbrev RA0 (P:Program) (w:World) (K:PySem.W.Frag) (mg:Str->Option Value) (base:Heap) (nm:Str) (C:Addr):Prop:=kW P w K mg base nm C ["self","why"] (aD2 nm C)
abbrev RAI (P:Program) (w:World) (K:PySem.W.Frag) (mg:Str->Option Value) (base:Heap) (nm:Str) (C:Addr):Prop:=kW P w K mg base nm C ["self","at"] (aAB nm C)
end
end
end CW
namespace L2
open PySem PySem.Spec PyProof.Rows
abbrev TF1:=St->Hp->(Str->Hp->Prop)->Prop
abbrev TF:=St->Hp->(List Str->Hp->Prop)->Prop
section
variable {X:Cx} {pos:Pos}
def FX (X:Cx) (v:Expr) (t:TF1):Prop:=∀ (pins:List (Addr×Obj)) (s:Shared) (σ:St) (H:Hp) (R:Str->Hp->Prop),Inv X pins σ H s->t σ H R ->
 wpAny (model X.prog X.w) X.A (eval v X.env) (λu s'=>∃ z J H',u=.str z J/\z.length<=1000/\Inv X pins σ H' s'/\R z H') X.xe s
def FXs (X:Cx) (vs:List Expr) (n:Nat) (t:TF):Prop:=∀ (pins:List (Addr×Obj)) (s:Shared) (σ:St) (H:Hp) (R:List Str->Hp->Prop) (out:Str),out.length+n<=sizeLine->Inv X pins σ H s->t σ H R ->
 wpAny (model X.prog X.w) X.A (joinParts out (evalEach vs X.env)) (λu s'=>∃ zs z H',u=.str (zs.foldl (·++·) out) z/\Inv X pins σ H' s'/\R zs H') X.xe s
def tF0 (z:Str):TF1:=λ_ H R=>R z H
def bD {z:Str} {j} (h:z.length<=1000:=by decide):FX X (.Constant (.str z) j pos) (tF0 z):=λpins s σ H R I q=>by
 refine thn (aP pins s σ H (λy H'=>y=.str z/\R z H') I ⟨rfl,q⟩) λu s' ⟨v,H',J,r,e,L⟩=>?_;subst e;obtain⟨t,rfl⟩:=r;exact⟨z,t,H',rfl,h,J,L⟩
inductive aB6 (R:Str->Hp->Prop) (x:V) (H:Hp):Prop
 | mk (i:Int) (h0_:x=.int i) (h1_:sN i) (h2_:R (toString i:Str) H):aB6 R x H
def tFi (te:TE):TF1:=fun σ H R=>te σ H λx H1=>aB6 R x H1
def gD {v:Expr} {te:TE} (h:PE X v te):FX X (.FormattedValue v (-1) none pos) (tFi te):=λpins s σ H R I q=>by
 refine pq (thn (h pins s σ H _ I q) λu s' ⟨x,H',J,r,z⟩=>?_);obtain⟨i,rfl,hd,z⟩:=z;obtain⟨t,rfl⟩:=r;exact formatField_int_small hd.1 ⟨_,_,H',rfl,hd.2,J.tok _,z⟩
inductive aB7 (R:Str->Hp->Prop) (x:V) (H:Hp):Prop
 | mk (z:Str) (h0_:x=.str z) (h1_:z.length<=1000) (h2_:R z H):aB7 R x H
def tFt (te:TE):TF1:=fun σ H R=>te σ H λx H1=>aB7 R x H1
def cR {v:Expr} {te:TE} (h:PE X v te):FX X (.FormattedValue v (-1) none pos) (tFt te):=λpins s σ H R I q=>by
 refine pq (thn (h pins s σ H _ I q) λu s' ⟨x,H',M,r,J⟩=>?_);obtain⟨z,rfl,L,J⟩:=J;obtain⟨t,rfl⟩:=r;exact formatField_str (λt' O=>⟨z,t',H',rfl,L,M.tok _,J⟩) (fy L (by decide))
def tFn:TF:=λ_ H R=>R [] H
def tFc (t:TF1) (u:TF):TF:=fun σ H R=>t σ H λz H1=>u σ H1 λzs H2=>R (z :: zs) H2
def bS:FXs X [] 0 tFn:=λpins s σ H R out z I q=>joinParts_nil ⟨[],_,H,rfl,I.tok _,q⟩ (by lia)
def aM {v:Expr} {vs:List Expr} {n:Nat} {t:TF1} {u:TF} (h1:FX X v t) (h2:FXs X vs n u) (he:evalEach (v :: vs) X.env=eval v X.env :: evalEach vs X.env:=by rfl):FXs X (v :: vs) (1000+n) (tFc t u):=λpins s σ H R out hz I q=>by
 rw[he];refine joinParts_cons (thn (h1 pins s σ H _ I q) λw s' ⟨z,J,H',e,hl,M,O⟩=>?_);subst e;have L:(out++z).length=out.length+z.length:=strLen_append _ _;exact⟨by rw[L];lia,thn (h2 pins s' σ H' _ (out++z) (by rw[L];lia) M O) λu s2 ⟨zs,J,H2,e,U,Y⟩=>⟨z :: zs,J,H2,e,U,Y⟩⟩
def cP (zs:List Str):Str:=zs.foldl (·++·) Str.empty
def tFx (t:TF):TE:=fun σ H Q=>t σ H λzs H'=>Q (.str (cP zs)) H'
def dA {v w:Expr} {vs:List Expr} {n:Nat} {t:TF} (h:FXs X (v :: w :: vs) n t) (L:n<=100000:=by decide) (he:evalEach (v :: w :: vs) X.env=eval v X.env :: eval w X.env :: evalEach vs X.env:=by rfl):PE X (.JoinedStr (v :: w :: vs) pos) (tFx t):=λpins s σ H Q I q=>by
 refine JoinedStr_many ?_;rw[<- he];refine thn (h pins s σ H _ Str.empty (by
  have:Str.empty.length=0:=rfl;rw[this];exact fy (by lia) (show 100000<=sizeLine by decide)) I q) λu s' ⟨zs,M,H',e,z,J⟩=>?_
 subst e;exact⟨.str (cP zs),H',z,⟨_,rfl⟩,J⟩
end
open PySem.W
section
variable {X:Cx} {pos:Pos}
inductive T8 (K:PySem.W.Frag) (n:Nat) (t:TGs) (v:V) (σ:St) (H:Hp) (Q:St->Hp->Prop):Prop
 | mk (a:Addr) (xs:List V) (h0_:v=.ref a) (h1_:SqL K H a xs) (h2_:xs.length=n) (h3_:t xs σ H Q):T8 K n t v σ H Q
def aD6 (K:PySem.W.Frag) (n:Nat) (t:TGs):TG:=λv σ H Q=>T8 K n t v σ H Q
def aBF {es:List Expr} {k:Nat} {t:TGs} {n:Nat} (L:X.calm=true) (h:PGs X es t)
 (M:(assignEach es X.env).length=n:=by rfl) (hst:(assignEach es X.env).findIdx? (·.1)=none:=by rfl):PG X (.Tuple es k pos) (aD6 X.K n t):=by
 intro pins s σ H v u Q I r hw;obtain⟨a,xs,O,U,Y,hw⟩:=hw;subst O;cases r;obtain⟨z,J,ht,hz⟩:=I.list U;have el:=J.length;rw[assign_Tuple];refine aEL (jw ?_);unfold unpack;rw[M,hst];have e:n=z.toArray.size:=by rw[aEV,<- el,Y]
 rw[e];refine aEL (je (kun_itemsOf (I.ok.hd L) ht.isList λh' hx=>?_));have I1:Inv X pins σ H { s with heap:=h' }:=I.kept (t':=s.toks) λb o e=>hx b o (aE9 (aET e)) e;exact h pins _ σ H xs _ Q I1 (by simpa using J) hw
end
end L2
namespace L2
open PySem PySem.Spec PyProof.Rows
inductive LnAt (H:Hp) (v:V) (x:Str×Str):Prop
 | mk (t:Addr) (h0_:v=.ref t) (h1_:H t=some (.tup [.str x.1,.str x.2])):LnAt H v x
def LnAt.same {H H':Hp} (g:Same H H') {v:V} {x:Str×Str} (h:LnAt H v x):LnAt H' v x:=by
 obtain⟨t,h0,h1⟩:=h;exact⟨t,h0,g _ _ h1⟩
inductive aAT (σ:St):TA->List (Str×Str)->Prop
 | nil:aAT σ wU []
 | cons {te:TE} {t:TA} {z w:Str} {r:List (Str×Str)} (h:∀ H (Q:VK),Q (.str z) H->te σ H Q) (ht:aAT σ t r):aAT σ (zA (aDD (zA te (zA (tC (.str w)) wU))) t) ((z,w) :: r)
def aBG {σ:St} {t:TA} {zs:List (Str×Str)} (h:aAT σ t zs):∀ {H:Hp} {Q:List V->Hp->Prop},(∀ us H',Same H H'->Paired (LnAt H') us zs->Q us H')->t σ H Q:=by
 induction h with
 | nil=>exact λk=>k [] _ (.refl _) .nil
 | cons h _ z =>
  intro H Q k;refine h _ _ ⟨(show 2<=sizeLine by decide),λp J=>?_⟩;refine z λus H' g L=>k _ _ ((Same.upd J).trans g) (.cons ⟨p,rfl,g _ _ aJ⟩ L)
def aCZ {σ:St} {t:TA} {zs:List (Str×Str)} (h:aAT σ t zs) {H:Hp} {Q:VK} (M:zs.length<=sizeLine)
 (k:∀ us q H',H q=none->Same H H'->H' q=some (.lst us)->Paired (LnAt H') us zs->Q (.ref q) H'):aBn t σ H Q :=
 aBG h λus H' g L=>⟨by rw[L.length];exact M,λq J=>k us q _ (g.free J) (g.trans (Same.upd J)) aJ (Paired.mapP L λ_ _ z=>z.same (Same.upd J))⟩
def aC0 {te:TE} {σ:St} {H:Hp} {D z:kI} (h:te σ H D.rt):({ z with nx:=aCr te D }:kI).nx σ H:=h
end L2
namespace CW
open PySem L2
def rF (a b c d:Str) (p:Int) (g:Str):List (Str×Str) :=
 [(cP ["build ",a," 1"],"Taken"),(cP ["build x ",toString p," ",toString p],"BadRow"),(cP ["build x ",g," 999"],"TooMany"),(cP ["build x ",toString p],"Full"),(cP ["build ",a," 3 2"],"Taken"),
  ("walk x 1 1","NoRoad"),("shut x","NoRoad"),(cP ["walk ",a," 0 1"],"BadCreel"),(cP ["put ",a," ",toString p],"Laid"),(cP ["put ",c," 900"],"TooMany"),(cP ["put ",c," 3"],"Laid"),
  (cP ["take ",a," ",toString (p+5)],"NoStone"),(cP ["lay ",a," ",b," 9"],"Bare"),(cP ["lay ",a," ",c," 99"],"TooMany"),(cP ["lay ",a," ",a," 1"],"TooNear"),(cP ["late ",a," 1 1 1"],"NoEntry"),
  (cP ["late ",a," 0 0 1"],"BadCreel"),(cP ["strike ",a," 0"],"NoEntry"),(cP ["strike ",d," 0"],"NotWalk"),(cP ["late ",d," 0 1 7"],"Clash"),("again","NothingLeft"),(cP ["load ",a," -1"],"BadCreel"),(cP ["kin ",a," x"],"NoRoad")]
inductive pJ (vs:List V) (H:Hp) (Q:VK) (E_:XK):Prop
 | mk (l:Addr) (a b c d r1 r2 r3 r4:Str) (p:Int) (g:Str) (h0_:vs=[.ref l,.int p,.str g]) (h1_:H l=some (.lst ([a,b,c,d,r1,r2,r3,r4].map V.str))) (ha_:a.length<=10) (hb_:b.length<=10) (hc_:c.length<=10) (hd_:d.length<=10)
  (hg_:g.length<=1000) (hp0_:0<=p) (hp1_:p<400) (k_:∀ us q H',H q=none->Same H H'->H' q=some (.lst us)->Paired (LnAt H') us (rF a b c d p g)->Q (.ref q) H'):pJ vs H Q E_
def aC1 (r:List Int):Str:=Builtin.Str.glued " " (r.map nT)
inductive tK (vs:List V) (H:Hp) (Q:VK) (E_:XK):Prop
 | mk (a:Addr) (r:List Int) (h0_:vs=[.ref a]) (h1_:H a=some (.lst (r.map V.int))) (h2_:r≠[]) (h3_:r.length<=60) (h4_:∀ x∈r,sN x/\(nT x).length<=61) (h5_:∀ H',Same H H'->Q (.str (aC1 r)) H'):tK vs H Q E_
def wG:∀ (zs:List Str) (o:Str),aO (zs.foldl (·++·) o)=aO o++(zs.map aO).flatten
 | [],o=>by simp
 | z :: zs,o=>by rw[aEd,wG zs,cH,aEb,List.flatten_cons,lw]
def gZ (zs:List Str):aO (cP zs)=(zs.map aO).flatten:=wG zs Str.empty
def glS:List Str->List Nat
 | []=>[]
 | [z]=>aO z
 | z :: r=>aO z++32 :: glS r
def hJ:∀ zs:List Str,aO (Str.join " " zs)=glS zs
 | []=>rfl
 | [_]=>rfl
 | z :: y :: r=>by
  rw[dC z (y :: r) (λh=>nomatch h),hJ (y :: r)];rfl
def lZ {zs:List Str} {z:Str} {ws:List Str} (h:(zs.map aO).flatten=glS (z :: ws)):cP zs=Builtin.Str.glued " " (z :: ws) :=
 iK (by rw[gZ,jl,hJ];exact h)
structure OkL (d:Dd):Prop where
 bld:d.b=true->d.word="build"/\d.names.length=1
 frm:d.b=false->fR d.word=some ((d.names.length:Int),(d.nums.length:Int))
 nms:∀ n∈d.names,bI n cF 8=true
 nmb:∀ x∈d.nums,x.natAbs<10 ^ 60
def OkL.word {d:Dd} (h:OkL d):d.word∈sY:=by
 cases z:d.b with
 | true=>rw[(h.bld z).1];simp[sY]
 | false=>exact(wC (h.frm z)).1
def OkL.parts {d:Dd} (h:OkL d):∀ z∈txs d,(∀ c∈aO z,c≠32/\c<128)/\z.length<=61:=by
 intro z hz;rcases aEm.mp hz with e | hz
 .rw[e];obtain⟨h1,h2⟩:=zZ _ h.word;exact⟨λc J=>by have:=h1 c J;lia,by lia⟩
 .rcases aEn.mp hz with hz | hz
  .obtain⟨h1,h2⟩:=jG (h.nms z hz);exact⟨λc J=>by have:=h1 c J;lia,by lia⟩
  .obtain⟨x,L,rfl⟩:=aEo.mp hz;have:=kT (h.nmb x L);rw[bF]at this;exact⟨λc J=>by rcases sU J with z | z <;> lia,by lia⟩
def OkL.split {d:Dd} (h:OkL d):Txt.split (txt d) " "=txs d:=iL (by unfold txs;simp) λz J L=>((h.parts z J).1 32 L).1 rfl
def OkL.txs {d:Dd} (h:OkL d) (M:d.names.length+d.nums.length<=70):Txs (txt d):=by
 refine⟨fZ (pF λz J c L=>((h.parts z J).1 c L).2),?_⟩;have h1:=lU (CW.txs d) 61 λz J=>(h.parts z J).2;have h2:(CW.txs d).length<=71:=by
  unfold CW.txs;rw[aEe,aEW,aEN]
  lia
 have h3:(CW.txs d).length * (61+1)<=71 * 62:=pw _ h2;unfold txt
 lia
def aBH {n:Int} (h:n.natAbs<10 ^ 60):dE (nT n)=n:=by
 unfold dE;rw[v9 h];rfl
def nV:∀ {xs:List Int},(∀ x∈xs,x.natAbs<10 ^ 60)->(xs.map nT).map dE=xs
 | [],_=>rfl
 | x :: xs,h=>by rw[aEb,aEb,aBH (h x aEP),nV λy z=>h y (aEQ _ z)]
def tL {xs:List Int} (h:∀ x∈xs,x.natAbs<10 ^ 60):(xs.map nT).all gW=true:=by
 rw[jj];intro z J;obtain⟨x,L,rfl⟩:=aEo.mp J;exact aAs (h x L)
def OkL.read {d:Dd} (h:OkL d):eY (txt d)=some d:=by
 unfold eY;rw[h.split];obtain⟨w,ns,xs,b⟩:=d;show iP w (ns++xs.map nT)=_;cases b with
 | true =>
  obtain⟨e,L⟩:=h.bld rfl;obtain rfl:w="build":=e
  match ns,L with
  | [n],_ =>
   unfold iP;rw[b4 rfl];show (if bI n cF 8=true/\(xs.map nT).all gW=true then _ else _)=_;rw[b4 ⟨h.nms n aEP,tL h.nmb⟩];exact congrArg (λz=>some (Dd.mk "build" [n] z true)) (nV h.nmb)
 | false =>
  have J:=h.frm rfl;have hw:w≠"build":=(wC J).2.1;have ht:(ns++xs.map nT).take ns.length=ns:=ub;have hd:(ns++xs.map nT).drop ns.length=xs.map nT:=List.drop_left;rw[B3 (a:=ns.length) (b:=xs.length) hw J ⟨by rw[aEW,aEN],by rw[ht,jj];exact h.nms,by rw[hd];exact tL h.nmb⟩,ht,hd,nV h.nmb]
inductive Ln where
 | deed (d:Dd)
 | again
 | load (n:Str)
 | kin (n:Str)
def Ln.text:Ln->Str
 | .deed d=>txt d
 | .again=>"again"
 | .load n=>Builtin.Str.glued " " ["load",n,"-1"]
 | .kin n=>Builtin.Str.glued " " ["kin",n,"x"]
def lns (a b c d:Str) (p:Int) (g:List Int):List (Ln×Str) :=
 [(.deed ⟨"build",[a],[1],true⟩,"Taken"),(.deed ⟨"build",["x"],[p,p],true⟩,"BadRow"),(.deed ⟨"build",["x"],g++[999],true⟩,"TooMany"),(.deed ⟨"build",["x"],[p],true⟩,"Full"),(.deed ⟨"build",[a],[3,2],true⟩,"Taken"),
  (.deed ⟨"walk",["x"],[1,1],false⟩,"NoRoad"),(.deed ⟨"shut",["x"],[],false⟩,"NoRoad"),(.deed ⟨"walk",[a],[0,1],false⟩,"BadCreel"),(.deed ⟨"put",[a],[p],false⟩,"Laid"),(.deed ⟨"put",[c],[900],false⟩,"TooMany"),(.deed ⟨"put",[c],[3],false⟩,"Laid"),
  (.deed ⟨"take",[a],[p+5],false⟩,"NoStone"),(.deed ⟨"lay",[a,b],[9],false⟩,"Bare"),(.deed ⟨"lay",[a,c],[99],false⟩,"TooMany"),(.deed ⟨"lay",[a,a],[1],false⟩,"TooNear"),(.deed ⟨"late",[a],[1,1,1],false⟩,"NoEntry"),
  (.deed ⟨"late",[a],[0,0,1],false⟩,"BadCreel"),(.deed ⟨"strike",[a],[0],false⟩,"NoEntry"),(.deed ⟨"strike",[d],[0],false⟩,"NotWalk"),(.deed ⟨"late",[d],[0,1,7],false⟩,"Clash"),(.again,"NothingLeft"),(.load a,"BadCreel"),(.kin a,"NoRoad")]
def C4 (z:Str):∀ {ws:List Str},ws≠[]->glS (ws++[z])=glS ws++32 :: aO z
 | [],h=>absurd rfl h
 | [_],_=>rfl
 | x :: y :: r,_=>by
  show aO x++32 :: glS (y :: r++[z])=(aO x++32 :: glS (y :: r))++32 :: aO z;rw[C4 z (ws:=y :: r) (λh=>nomatch h),lw];rfl
def dN {z:Type} {x y:z} {xs ys:List z} (h:x=y) (t:xs=ys):x :: xs=y :: ys:=by rw[h,t]
def cA {x y w:Str} (h:x=y):(x,w)=(y,w):=by rw[h]
def aD7 {x:Str} {z:Str} {ws:List Str} (h:aO x=glS (z :: ws)):x=Builtin.Str.glued " " (z :: ws):=iK (by rw[jl,hJ];exact h)
def aEK {x y:Str} {z:Str} {ws:List Str} (h:aO x++aO y=glS (z :: ws)):cP [x,y]=Builtin.Str.glued " " (z :: ws):=lZ (by simpa using h)
def nW {x y u:Str} {z:Str} {ws:List Str} (h:aO x++(aO y++aO u)=glS (z :: ws)):cP [x,y,u]=Builtin.Str.glued " " (z :: ws):=lZ (by simpa using h)
def aBI {x y u v:Str} {z:Str} {ws:List Str} (h:aO x++(aO y++(aO u++aO v))=glS (z :: ws)):cP [x,y,u,v]=Builtin.Str.glued " " (z :: ws):=lZ (by simpa using h)
def aC2 {x y u v r:Str} {z:Str} {ws:List Str} (h:aO x++(aO y++(aO u++(aO v++aO r)))=glS (z :: ws)):cP [x,y,u,v,r]=Builtin.Str.glued " " (z :: ws):=lZ (by simpa using h)
def aAU (a b c d:Str) (p:Int) {g:List Int} (J:g≠[]):rF a b c d p (Builtin.Str.glued " " (g.map nT))=(lns a b c d p g).map λx=>(x.1.text,x.2):=by
 have L:cP ["build x ",Builtin.Str.glued " " (g.map nT)," 999"]=txt ⟨"build",["x"],g++[999],true⟩:=by
  refine nW (z:="build") (ws:="x" :: (g++[999]).map nT) ?_;rw[jl,hJ,aE1];show [98,117,105,108,100,32,120,32]++(glS (g.map nT)++[32,57,57,57])=glS ("build" :: "x" :: (g.map nT++[nT 999]));cases hw:g.map nT with
  | nil=>exact absurd (List.map_eq_nil_iff.mp hw) J
  | cons y r =>
   show _=[98,117,105,108,100]++32 :: ([120]++32 :: glS ((y :: r)++[nT 999]));rw[C4 (nT 999) (ws:=y :: r) (mq _ _)];rfl
 exact dN (cA (nW rfl)) (dN (cA (aBI rfl)) (dN (cA L) (dN (cA (aEK rfl)) (dN (cA (nW rfl)) (dN (cA (aD7 rfl)) (dN (cA (aD7 rfl)) (dN (cA (nW rfl)) (dN (cA (aBI rfl)) (dN (cA (nW rfl)) (dN (cA (nW rfl)) (dN (cA (aBI rfl)) (dN (cA (aC2 rfl)) (dN (cA (aC2 rfl)) (dN (cA (aC2 rfl)) (dN (cA (nW rfl)) (dN (cA (nW rfl)) (dN (cA (nW rfl)) (dN (cA (nW rfl)) (dN (cA (nW rfl)) (dN rfl (dN (cA (nW rfl)) (dN (cA (nW rfl)) rfl))))))))))))))))))))))
inductive tM:Ln->Prop
 | deed {d:Dd} (h:OkL d) (hl:d.names.length+d.nums.length<=70):tM (.deed d)
 | again:tM .again
 | load {n:Str} (h:bI n cF 8=true):tM (.load n)
 | kin {n:Str} (h:bI n cF 8=true):tM (.kin n)
def aAV {w n v:Str} (L:bI n cF 8=true) (hw:∀ c∈aO w,c≠32/\c<128) (M:∀ c∈aO v,c≠32/\c<128) (O:w.length<=61) (U:v.length<=61) :
 Txt.split (Builtin.Str.glued " " [w,n,v]) " "=[w,n,v]/\Txs (Builtin.Str.glued " " [w,n,v]):=by
 obtain⟨h1,h2⟩:=jG L;have P:∀ z∈[w,n,v],(∀ c∈aO z,c≠32/\c<128)/\z.length<=61:=by
  intro z hz;rcases aEm.mp hz with e | hz
  .rw[e];exact⟨hw,O⟩
  rcases aEm.mp hz with e | hz
  .rw[e];exact⟨λc J=>by have:=h1 c J;lia,by lia⟩
  .rw[aEg.mp hz];exact⟨M,U⟩
 refine⟨iL (λh=>nomatch h) λz hz J=>((P z hz).1 32 J).1 rfl,fZ (pF λz hz c J=>((P z hz).1 c J).2),?_⟩;have h3:=lU [w,n,v] 61 λz hz=>(P z hz).2;have h4:[w,n,v].length * (61+1)<=5000:=show 3 * 62<=5000 by decide
 lia
def Ln.split {l:Ln} (h:tM l):∃ ws,Txt.split l.text " "=ws/\Txs l.text/\(match l with
 | .deed d=>eY l.text=some d
 | .again=>eY l.text=none/\ws=[("again":Str)]
 | .load n=>eY l.text=none/\ws=[("load":Str),n,"-1"]
 | .kin n=>eY l.text=none/\ws=[("kin":Str),n,"x"]):=by
 cases h with
 | deed h z=>exact⟨_,rfl,h.txs z,h.read⟩
 | again =>
  have e:Txt.split "again" " "=[("again":Str)]:=by
   have:=iL (zs:=[("again":Str)]) (λh=>nomatch h) (by decide +kernel);exact this
  exact⟨_,rfl,⟨fZ (by decide +kernel),by decide +kernel⟩,by
   show eY "again"=none;unfold eY;rw[e];rfl,e⟩
 | load h =>
  obtain⟨e,ht⟩:=aAV (w:="load") (v:="-1") h (by decide +kernel) (by decide +kernel) (by decide +kernel) (by decide +kernel);exact⟨_,rfl,ht,by
   show eY (Builtin.Str.glued " " _)=none;unfold eY;rw[e];rfl,e⟩
 | kin h =>
  obtain⟨e,ht⟩:=aAV (w:="kin") (v:="x") h (by decide +kernel) (by decide +kernel) (by decide +kernel) (by decide +kernel);exact⟨_,rfl,ht,by
   show eY (Builtin.Str.glued " " _)=none;unfold eY;rw[e];rfl,e⟩
def aC3 {a b c d:Str} {p:Int} {g:List Int} (J:bI a cF 8=true) (hb:bI b cF 8=true) (U:bI c cF 8=true) (hd:bI d cF 8=true) (av:0<=p) (aw:p<400) (hg:∀ x∈g,x.natAbs<10 ^ 60) (O:g.length<=60):∀ x∈lns a b c d p g,tM x.1:=by
 have M:bI "x" cF 8=true:=by decide +kernel
 have L:∀ {n:Str},bI n cF 8=true->∀ m∈[n],bI m cF 8=true:=λh m Y=>by rw[aEg.mp Y];exact h
 have N2:∀ {n n':Str},bI n cF 8=true->bI n' cF 8=true->∀ m∈[n,n'],bI m cF 8=true:=λh h' m Y=>by
  rcases aEm.mp Y with e | e
  .rw[e];exact h
  .rw[aEg.mp e];exact h'
 have hp:p.natAbs<10 ^ 60:=by lia
 have au:(p+5).natAbs<10 ^ 60:=by lia
 have B:∀ {n:Str} {xs:List Int},bI n cF 8=true->(∀ x∈xs,x.natAbs<10 ^ 60)->xs.length<=61->tM (.deed ⟨"build",[n],xs,true⟩):=λh M O=>.deed ⟨λ_=>⟨rfl,rfl⟩,(λz=>nomatch z),L h,M⟩ (by show 1+_<=70;lia);have W:∀ {w:Str} {ns:List Str} {xs:List Int},fR w=some ((ns.length:Int),(xs.length:Int))->(∀ n∈ns,bI n cF 8=true)->(∀ x∈xs,x.natAbs<10 ^ 60)->ns.length+xs.length<=70->tM (.deed ⟨w,ns,xs,false⟩):=λhf hn M O=>.deed ⟨(λz=>nomatch z),λ_=>hf,hn,M⟩ O;have I1:∀ {x:Int},x.natAbs<10 ^ 60->∀ y∈[x],y.natAbs<10 ^ 60:=λh y hy=>by rw[aEg.mp hy];exact h
 unfold lns;simp only[nr];refine⟨B J (by decide) (by simp),B M (by simpa using hp) (by simp),B M (λx h=>?_) (by rw[aEW];exact Nat.add_le_add O (ah 1)),B M (I1 hp) (by simp),B J (by decide) (by simp),W rfl (L M) (by decide) (by simp),W rfl (L M) (by decide) (by simp),
  W rfl (L J) (by decide) (by simp),W rfl (L J) (I1 hp) (by simp),W rfl (L U) (by decide) (by simp),W rfl (L U) (by decide) (by simp),W rfl (L J) (I1 au) (by simp),W rfl (N2 J hb) (by decide) (by simp),W rfl (N2 J U) (by decide) (by simp),W rfl (N2 J J) (by decide) (by simp),
  W rfl (L J) (by decide) (by simp),W rfl (L J) (by decide) (by simp),W rfl (L J) (by decide) (by simp),W rfl (L hd) (by decide) (by simp),W rfl (L hd) (by decide) (by simp),.again,.load J,.kin J,λ_ h=>nomatch h⟩
 rcases aEn.mp h with h | h
 .exact hg x h
 .rw[aEg.mp h];decide
inductive nX (vs:List V) (H:Hp) (Q:VK) (E_:XK):Prop
 | mk (l:Addr) (ps:List Str) (a b:Nat) (h0_:vs=[.ref l,.int a,.int b]) (h1_:H l=some (.lst (ps.map V.str))) (h2_:∀ n∈ps,Txs n) (h4_:ps.length<=5001)
  (h5_:iQ ps a b->∀ (t:Addr) (H':Hp),Same H H'->H' t=some (.tup ((ps.take a).map V.str++((ps.drop a).map dE).map V.int))->Q (.ref t) H')
  (h6_:¬ iQ ps a b->∀ H',Same H H'->Q .non H'):nX vs H Q E_
def T9 (x:Str):Option (Int×Int):=if x="again" then some (0,0)else if x="row" then some (1,0)else if x="load" then some (1,1)else if x="kin" then some (2,0)else none
structure aAW (P:Program) (w:World) (K:PySem.W.Frag) (d:Addr) (kvs:List (Key×Value)):Prop where
 dict:GDict P w K d kvs
 tup:∀ x n m,T9 x=Option.some (n,m)->∃ t,PySem.valueAt kvs (Sum.inr x)=some (.ref t)/\∀ H,SqT K H t [.int n,.int m]
def Y4 {P:Program} {w:World} {K:PySem.W.Frag} {d:Addr} {ep:Nat} {U t1 t2 t3 Y t5 t6 t7 t8:Tok} {r0 r1 r2 r3 r4 r5 L r7 M:Addr}
 (h:K.lookup d=some ⟨.type "dict",none,.dict #[eW w ("back",U,r0),eW w ("again",t1,r1),eW w ("roads",t2,r2),eW w ("row",t3,r3),eW w ("trains",Y,r4),eW w ("log",t5,r5),eW w ("load",t6,L),eW w ("ranked",t7,r7),eW w ("kin",t8,M)] ep,#[]⟩) (hs:(d == sysModules)=false)
 (e1:∀ H,SqT K H r1 [.int 0,.int 0]) (e3:∀ H,SqT K H r3 [.int 1,.int 0]) (e6:∀ H,SqT K H L [.int 1,.int 1]) (e8:∀ H,SqT K H M [.int 2,.int 0]) :
 ∃ kvs,aAW P w K d kvs:=by
 have g:=sQ (P:=P) (w:=w) [("back",U,r0),("again",t1,r1),("roads",t2,r2),("row",t3,r3),("trains",Y,r4),("log",t5,r5),("load",t6,L),("ranked",t7,r7),("kin",t8,M)] h hs (show (["back","again","roads","row","trains","log","load","ranked","kin"]:List Str).Nodup by decide +kernel);have st:∀ {x y:Str} {v:Value} {l:List (Key×Value)},x≠y->PySem.valueAt (((Sum.inr y:Key),v) :: l) (Sum.inr x)=PySem.valueAt l (Sum.inr x):=λ{x y v l} c=>by
  unfold PySem.valueAt;rw[jx];have:decide ((Sum.inr y:Key)=Sum.inr x)=false:=aE7 λz=>c (jz z).symm;simp only[this]
 have O:∀ {x:Str} {v:Value} {l:List (Key×Value)},PySem.valueAt (((Sum.inr x:Key),v) :: l) (Sum.inr x)=some v:=λ{x v l}=>by
  unfold PySem.valueAt;rw[jx];simp
 refine⟨_,g,λx n m J=>?_⟩;simp only[aEb,oy];unfold T9 at J;split at J
 .rename_i c;subst c;cases J
  exact⟨r1,by rw[st (by decide +kernel),O],e1⟩
 split at J
 .rename_i c;subst c;cases J
  exact⟨r3,by rw[st (by decide +kernel),st (by decide +kernel),st (by decide +kernel),O],e3⟩
 split at J
 .rename_i c;subst c;cases J
  exact⟨L,by rw[st (by decide +kernel),st (by decide +kernel),st (by decide +kernel),st (by decide +kernel),st (by decide +kernel),st (by decide +kernel),O],e6⟩
 split at J
 .rename_i c;subst c;cases J
  exact⟨M,by rw[st (by decide +kernel),st (by decide +kernel),st (by decide +kernel),st (by decide +kernel),st (by decide +kernel),st (by decide +kernel),st (by decide +kernel),st (by decide +kernel),O],e8⟩
 cases J
end CW
namespace L2
open PySem PySem.Spec PyProof.Rows
section
variable {X:Cx}
def aD8 (t:TEX) (r:HR):TS:=λD σ H=>t σ H D.rt λcls od H'=>∀ e,H' e=none->r cls od e D σ H'
def aBJ {v:Expr} {U:Pos} {h:ExceptHandler} {hs:List ExceptHandler} {t:TEX} {r:HR} {pos:Pos} (Y:Body X) (hv:PEX X v t) (hh:PH X (h :: hs) r):PS X (.Try [.Return (some v) U] (h :: hs) [] [] pos) (aD8 t r):=by
 intro pins s σ H D I q;refine wpAny_Try_except (ml (wpAny_Return_some (eu (hv pins s σ H _ _ I q) (λu s1 z=>?_) λev s1 z=>?_)))
 .obtain⟨v,H',I',rv,J⟩:=z;exact⟨v,σ,H',I',rv,J⟩
 .obtain⟨H0,s0,O,z⟩:=z;obtain⟨e,cls,a0,od,H',B,rfl,f,J⟩:=z.fly;exact A9 Y O f λL M=>hh pins H0 s0 σ e cls a0 od H' B L D O M (J e f.no)
end
end L2
namespace CW
open PySem L2
section
variable {K:PySem.W.Frag} {mg:Str->Option Value} (X:cG K mg) (G:Hc K)
inductive PastD (H:Hp) (u:V) (d:Dd):Prop
 | mk (b:Addr) (v e:V) (h0_:u=.ref b) (h1_:H b=some (.tup [v,e])) (h2_:DeedAt H v d):PastD H u d
def HO9 (z H:Hp) (a:Addr) (S:Sd5) (ds:List Dd):Prop:=Same z H/\z a=none/\∃ (dx d p q:Addr) (kvs:List (Key×V)) (us:List V),z p=none/\H a=some (.ins G.Hs dx (kU d p q))/\H d=some (.dK kvs)/\Paired (SA5 G H) kvs S/\H p=some (.lst us)/\Paired (PastD H) us ds/\H q=some (.lst [])
variable {G}
def PastD.same {H H':Hp} (g:Same H H') {u:V} {d:Dd} (h:PastD H u d):PastD H' u d:=by
 obtain⟨b,v,e,h0,h1,h2⟩:=h;exact⟨b,v,e,h0,g _ _ h1,h2.same g⟩
def DeedAt.kq {H H':Hp} (k:Kq G H H') {v:V} {d:Dd} (h:DeedAt H v d):DeedAt H' v d:=by
 cases h with
 | plain e=>exact .plain (k.tup _ _ e)
 | build z J=>exact .build (k.tup _ _ z) (k.tup _ _ J)
def PastD.kq {H H':Hp} (k:Kq G H H') {u:V} {d:Dd} (h:PastD H u d):PastD H' u d:=by
 obtain⟨b,v,e,h0,h1,h2⟩:=h;exact⟨b,v,e,h0,k.tup _ _ h1,h2.kq k⟩
def HO9.same {J H H':Hp} {a:Addr} {S:Sd5} {ds:List Dd} (g:Same H H') (h:HO9 G J H a S ds):HO9 G J H' a S ds:=by
 obtain⟨h1,h2,dx,d,p,q,kvs,us,h3,h4,h5,L,M,O,U⟩:=h;exact⟨h1.trans g,h2,dx,d,p,q,kvs,us,h3,g _ _ h4,g _ _ h5,pI (.same g) L,g _ _ M,Paired.mapP O λ_ _ z=>z.same g,g _ _ U⟩
def HO9.ins {z H:Hp} {a:Addr} {S:Sd5} {ds:List Dd} (h:HO9 G z H a S ds):∃ dx d p q,H a=some (.ins G.Hs dx (kU d p q)):=by
 obtain⟨_,_,dx,d,p,q,kvs,us,_,h4,_⟩:=h;exact⟨dx,d,p,q,h4⟩
variable (G)
def Y5:Sp:=λ_ _ _ _=>False
inductive Go9:List Int->Str->List Int->(List Int×Trs) ⊕ RefH->Prop
 | put {p:Int}:Go9 [p] "put" [p+7] (.inl ([p,p+7],[]))
 | creel {row:List Int} {c n:Int} (h:c<1):Go9 row "walk" [c,n] (.inr .creel)
 | laid {row:List Int} {p:Int} (h:p∈row):Go9 row "put" [p] (.inr .laid)
 | many {row:List Int} {p:Int} (h:p∉row) (hl:row.length=60):Go9 row "put" [p] (.inr .many)
 | stone {row:List Int} {p:Int} (h:p∉row):Go9 row "take" [p] (.inr .stone)
inductive Lay9:List Int->List Int->Int->RefH->Prop
 | bare {row:List Int} {g:Int}:Lay9 row [] g .bare
 | many {row o:List Int} {g:Int} (h1:row≠[]) (h2:o≠[]) (hl:60<row.length+o.length):Lay9 row o g .many
 | near {row o:List Int} {g:Int} (h1:row≠[]) (h2:o≠[]) (hl:row.length+o.length<=60) (h:g<o.length):Lay9 row o g .near
inductive Bl9 (S:Sd5) (n:Str) (row:List Int):Sd5 ⊕ RefH->Prop
 | good (h0:n∉S.map (·.1)) (hr:Rw row) (h8:S.length<8):Bl9 S n row (.inl (S++[(n,⟨row,[],row,[]⟩)]))
 | taken (h0:n∈S.map (·.1)):Bl9 S n row (.inr .taken)
 | row (h0:n∉S.map (·.1)) (hl:row.length<=61) (hd:pH (cS row)≠.ok):Bl9 S n row (.inr (pH (cS row)))
 | full (h0:n∉S.map (·.1)) (hr:Rw row) (h8:S.length=8):Bl9 S n row (.inr .full)
inductive En9 (S:Sd5) (n w:Str) (xs:List Int):Sd5 ⊕ RefH->Prop
 | road (h0:n∉S.map (·.1)):En9 S n w xs (.inr .road)
 | good {A B:Sd5} {D:RD} {q:List Int×Trs} (hS:S=A++(n,D) :: B) (h8:S.length<=8) (hD:D.ents=[]/\D.ws=[]) (h:Go9 D.row w xs (.inl q)):En9 S n w xs (.inl (A++(n,D.plus (w,xs) q) :: B))
 | bad {D:RD} {r:RefH} (hm:(n,D)∈S) (hD:D.ents=[]/\D.ws=[]) (h:Go9 D.row w xs (.inr r)):En9 S n w xs (.inr r)
inductive Lt9 (S:Sd5) (n:Str) (k c m:Int):RefH->Prop
 | entry {D:RD} (hm:(n,D)∈S) (h:(D.ents.length:Int)<k):Lt9 S n k c m .entry
 | creel {D:RD} (hm:(n,D)∈S) (hk:k=0) (h:c<1):Lt9 S n k c m .creel
 | clash {D:RD} {p:Int} (hm:(n,D)∈S) (hk:k=0/\c=1/\m=7) (hf:D.first=[p]) (he:D.ents=[(("put":Str),[p+7])]):Lt9 S n k c m (.clash 1)
inductive Sk9 (S:Sd5) (n:Str):RefH->Prop
 | entry {D:RD} (hm:(n,D)∈S) (h:D.ents=[]):Sk9 S n .entry
 | walk {D:RD} {p:Int} (hm:(n,D)∈S) (h:D.ents=[(("put":Str),[p])]):Sk9 S n .walk
def ws9:List Str:=["walk","put","take"]
inductive Do9 (S:Sd5):Dd->Sd5 ⊕ RefH->Prop
 | build {n:Str} {row:List Int} {O:Sd5 ⊕ RefH} (hn:bI n cF 8=true) (h:Bl9 S n row O):Do9 S ⟨"build",[n],row,true⟩ O
 | shut {n:Str} (h0:n∉S.map (·.1)):Do9 S ⟨"shut",[n],[],false⟩ (.inr .road)
 | ent {n w:Str} {xs:List Int} {O:Sd5 ⊕ RefH} (hw:w∈ws9) (hl:xs.length<=3) (h:En9 S n w xs O):Do9 S ⟨w,[n],xs,false⟩ O
 | lay {n m:Str} {g:Int} {D D':RD} {r:RefH} (hm:(n,D)∈S) (hm':(m,D')∈S) (hD:D.ents=[]/\D.ws=[]) (hD':D'.ws=[]) (hr:Rw D.row/\Rw D'.row) (h:Lay9 D.row D'.row g r):Do9 S ⟨"lay",[n,m],[g],false⟩ (.inr r)
 | late {n:Str} {k c m:Int} {r:RefH} (h:Lt9 S n k c m r):Do9 S ⟨"late",[n],[k,c,m],false⟩ (.inr r)
 | strike {n:Str} {r:RefH} (h:Sk9 S n r):Do9 S ⟨"strike",[n],[0],false⟩ (.inr r)
inductive DK9 where
 | build | shut | ent | lay | late | strike
inductive At9 (H:Hp) (S:Sd5):DK9->Str->V->Sd5 ⊕ RefH->Prop
 | build {a t:Addr} {n:Str} {row:List Int} {O:Sd5 ⊕ RefH} (hn:bI n cF 8=true) (h1:H a=some (.tup [.str "build",.str n,.ref t])) (h2:H t=some (.tup (row.map V.int))) (h:Bl9 S n row O):At9 H S .build "build" (.ref a) O
 | shut {a:Addr} {n:Str} (h1:H a=some (.tup [.str "shut",.str n])) (h0:n∉S.map (·.1)):At9 H S .shut "shut" (.ref a) (.inr .road)
 | ent {a:Addr} {n w:Str} {xs:List Int} {O:Sd5 ⊕ RefH} (hw:w∈ws9) (hl:xs.length<=3) (h1:H a=some (.tup (.str w :: .str n :: xs.map V.int))) (h:En9 S n w xs O):At9 H S .ent w (.ref a) O
 | lay {a:Addr} {n m:Str} {g:Int} {D D':RD} {r:RefH} (h1:H a=some (.tup [.str "lay",.str n,.str m,.int g])) (hm:(n,D)∈S) (hm':(m,D')∈S) (hD:D.ents=[]/\D.ws=[]) (hD':D'.ws=[]) (hr:Rw D.row/\Rw D'.row) (h:Lay9 D.row D'.row g r):At9 H S .lay "lay" (.ref a) (.inr r)
 | late {a:Addr} {n:Str} {k c m:Int} {r:RefH} (h1:H a=some (.tup [.str "late",.str n,.int k,.int c,.int m])) (h:Lt9 S n k c m r):At9 H S .late "late" (.ref a) (.inr r)
 | strike {a:Addr} {n:Str} {r:RefH} (h1:H a=some (.tup [.str "strike",.str n,.int 0])) (h:Sk9 S n r):At9 H S .strike "strike" (.ref a) (.inr r)
def ks9:List (Str×DK9):=[("build",.build),("shut",.shut),("walk",.ent),("put",.ent),("take",.ent),("lay",.lay),("late",.late),("strike",.strike)]
def Do9.at {H:Hp} {S:Sd5} {v:V} {d:Dd} {O:Sd5 ⊕ RefH} (h:Do9 S d O) (z:DeedAt H v d):∃ k a xs,v=.ref a/\H a=some (.tup (.str d.word :: xs))/\(d.word,k)∈ks9/\At9 H S k d.word v O:=by
 cases h with
 | build U h=>cases z with | build M Y=>exact⟨_,_,_,rfl,M,by simp[ks9],.build U M Y h⟩
 | shut h0=>cases z with | plain e=>exact⟨_,_,_,rfl,e,by simp[ks9],.shut e h0⟩
 | @ent n w xs O hw hl h=>cases z with | plain e=>exact⟨_,_,_,rfl,e,(by
  rcases aEm.mp hw with e | hw
  .rw[show w=_ from e];simp[ks9]
  rcases aEm.mp hw with e | hw
  .rw[show w=_ from e];simp[ks9]
  .rw[show w=_ from aEg.mp hw];simp[ks9]),.ent hw hl e h⟩
 | lay hm J hD L hr h=>cases z with | plain e=>exact⟨_,_,_,rfl,e,by simp[ks9],.lay e hm J hD L hr h⟩
 | late h=>cases z with | plain e=>exact⟨_,_,_,rfl,e,by simp[ks9],.late e h⟩
 | strike h=>cases z with | plain e=>exact⟨_,_,_,rfl,e,by simp[ks9],.strike e h⟩
inductive dM (k:DK9) (vs:List V) (H:Hp) (Q:VK) (E:XK):Prop
 | mk (d:Addr) (v:V) (wd:Str) (S:Sd5) (kvs:List (Key×V)) (O:Sd5 ⊕ RefH) (h0_:vs=[.ref d,v]) (h1_:H d=some (.dK kvs)) (h2_:Paired (SA5 G H) kvs S) (hu_:(S.map (·.1)).Nodup) (h4_:At9 H S k wd v O)
  (h5_:∀ S',O=.inl S'->∀ d' kvs' H',Same H H'->H' d'=some (.dK kvs')->Paired (SA5 G H') kvs' S'->Q (.ref d') H') (h6_:∀ r,O=.inr r->Refs X E H r):dM k vs H Q E
inductive tN (vs:List V) (H:Hp) (Q:VK) (E:XK):Prop
 | mk (d:Addr) (v:V) (dd:Dd) (S:Sd5) (kvs:List (Key×V)) (O:Sd5 ⊕ RefH) (h0_:vs=[.ref d,v]) (h1_:H d=some (.dK kvs)) (h2_:Paired (SA5 G H) kvs S) (hu_:(S.map (·.1)).Nodup) (h3_:DeedAt H v dd) (h4_:Do9 S dd O)
  (h5_:∀ S',O=.inl S'->∀ d' kvs' H',Same H H'->H' d'=some (.dK kvs')->Paired (SA5 G H') kvs' S'->Q (.ref d') H') (h6_:∀ r,O=.inr r->Refs X E H r):tN vs H Q E
inductive U0 (vs:List V) (H:Hp) (Q:VK) (E:XK):Prop
 | mk (Hb:Hp) (a:Addr) (v:V) (d:Dd) (S:Sd5) (ds:List Dd) (O:Sd5 ⊕ RefH) (h0_:vs=[.ref a,v]) (h1_:HO9 G Hb H a S ds) (hn_:ds.length<100) (hu_:(S.map (·.1)).Nodup) (h2_:DeedAt H v d) (h3_:Do9 S d O) (h4_:∀ S',O=.inl S'->∀ H',HO9 G Hb H' a S' (ds++[d])->Q .non H') (h5_:∀ r,O=.inr r->Refs X E H r):U0 vs H Q E
inductive tP (vs:List V) (H:Hp) (Q:VK) (E:XK):Prop
 | good (Hb:Hp) (a:Addr) (nm:Str) (S:Sd5) (ds:List Dd) (D:RD) (h0_:vs=[.ref a,.str nm]) (h1_:HO9 G Hb H a S ds) (hu_:(S.map (·.1)).Nodup) (hm_:(nm,D)∈S) (hw_:D.ws=[]) (h2_:V9 H Q D.row):tP vs H Q E
 | bad (Hb:Hp) (a:Addr) (nm:Str) (S:Sd5) (ds:List Dd) (h0_:vs=[.ref a,.str nm]) (h1_:HO9 G Hb H a S ds) (h2_:nm∉S.map (·.1)) (h3_:Refs X E H .road):tP vs H Q E
inductive nY (vs:List V) (H:Hp) (Q:VK) (E:XK):Prop
 | mk (Hb:Hp) (a:Addr) (S:Sd5) (ds:List Dd) (h0_:vs=[.ref a]) (h1_:HO9 G Hb H a S ds) (h2_:Refs X E H .left):nY vs H Q E
inductive wH:List Int->Trs->List Int->Prop
 | zero {r:List Int}:wH r [] r
 | seven {p:Int}:wH [p] [(1,7)] [p+7]
inductive tQ (vs:List V) (H:Hp) (Q:VK) (E_:XK):Prop
 | mk (c:Addr) (r:List Int) (ws:Trs) (r':List Int) (h0_:vs=[.ref c]) (h1_:CrsC G H c r ws) (h2_:wH r ws r') (h3_:V9 H Q r'):tQ vs H Q E_
inductive mB (vs:List V) (H:Hp) (Q:VK) (E_:XK):Prop
 | mk (Hb:Hp) (a:Addr) (S:Sd5) (ds:List Dd) (h0_:vs=[.ref a]) (h1_:HO9 G Hb H a S ds) (hn_:ds.length<100) (h2_:∀ l xs H',H l=none->Same H H'->H' l=some (.lst xs)->Paired (DeedAt H') xs ds->Q (.ref l) H'):mB vs H Q E_
inductive mZ (vs:List V) (H:Hp) (Q:VK) (E:XK):Prop
 | mk (Hb:Hp) (a:Addr) (S:Sd5) (ds:List Dd) (h0_:vs=[.ref a,.str "again"]) (h1_:HO9 G Hb H a S ds) (h2_:Refs X E H .left):mZ vs H Q E
inductive nZ (vs:List V) (H:Hp) (Q:VK) (E:XK):Prop
 | mk (l:Addr) (row:List Int) (c:Int) (h0_:vs=[.ref l,.int c]) (h1_:H l=some (.lst (row.map V.int))) (hr_:Rw row) (h2_:c<1) (h3_:Refs X E H .creel):nZ vs H Q E
inductive Ask9 (S:Sd5):Str->List Str->List Int->Str ⊕ RefH->Prop
 | row {n:Str} {D:RD} (hm:(n,D)∈S) (hw:D.ws=[]) (hne:D.row≠[]) (hl:D.row.length<=60) (hx:∀ x∈D.row,sN x/\(nT x).length<=61):Ask9 S "row" [n] [] (.inl (aC1 D.row))
 | load {n:Str} {D:RD} (hm:(n,D)∈S) (hw:D.ws=[]) (hr:Rw D.row):Ask9 S "load" [n] [-1] (.inr .creel)
 | kin {n m:Str} {D:RD} (hm:(n,D)∈S) (hw:D.ws=[]) (h0:m∉S.map (·.1)):Ask9 S "kin" [n,m] [] (.inr .road)
inductive pK (vs:List V) (H:Hp) (Q:VK) (E:XK):Prop
 | mk (Hb:Hp) (a t:Addr) (w:Str) (ns:List Str) (xs:List Int) (S:Sd5) (ds:List Dd) (O:Str ⊕ RefH) (h0_:vs=[.ref a,.str w,.ref t]) (h1_:HO9 G Hb H a S ds) (hu_:(S.map (·.1)).Nodup) (ht_:H t=some (.tup (ns.map V.str++xs.map V.int))) (h2_:Ask9 S w ns xs O) (h3_:∀ z,O=.inl z->∀ H',Same H H'->Q (.str z) H') (h4_:∀ r,O=.inr r->Refs X E H r):pK vs H Q E
inductive uS (S:Sd5) (ds:List Dd):Str->(Sd5×List Dd×Str) ⊕ RefH->Prop
 | deed {d:Dd} {S':Sd5} (h:tM (.deed d)) (hd:Do9 S d (.inl S')):uS S ds (txt d) (.inl (S',ds++[d],"done"))
 | deedx {d:Dd} {r:RefH} (h:tM (.deed d)) (hd:Do9 S d (.inr r)):uS S ds (txt d) (.inr r)
 | again:uS S ds "again" (.inr .left)
 | ask {w:Str} {ns:List Str} {xs:List Int} {O:Str ⊕ RefH} (hn:∀ n∈ns,bI n cF 8=true) (h:Ask9 S w ns xs O):uS S ds (Builtin.Str.glued " " (w :: (ns++xs.map nT))) (match O with | .inl z=>.inl (S,ds,z) | .inr r=>.inr r)
inductive pL (vs:List V) (H:Hp) (Q:VK) (E:XK):Prop
 | mk (Hb:Hp) (a:Addr) (z:Str) (S:Sd5) (ds:List Dd) (O:(Sd5×List Dd×Str) ⊕ RefH) (h0_:vs=[.ref a,.str z]) (h1_:HO9 G Hb H a S ds) (hn_:ds.length<100) (hu_:(S.map (·.1)).Nodup) (h2_:uS S ds z O) (h3_:∀ S' ds' t,O=.inl (S',ds',t)->∀ H',HO9 G Hb H' a S' ds'->Q (.str t) H') (h4_:∀ r,O=.inr r->Refs X E H r):pL vs H Q E
end
def Ask9.say {S:Sd5} {wd:Str} {ns:List Str} {xs:List Int} {O:Str ⊕ RefH} (h:Ask9 S wd ns xs O) (M:∀ n∈ns,bI n cF 8=true) :
 Txt.split (Builtin.Str.glued " " (wd :: (ns++xs.map nT))) " "=wd :: (ns++xs.map nT)/\Txs (Builtin.Str.glued " " (wd :: (ns++xs.map nT)))/\eY (Builtin.Str.glued " " (wd :: (ns++xs.map nT)))=none /\
  T9 wd=some ((ns.length:Int),(xs.length:Int))/\1<=ns.length/\(ns++xs.map nT).length<=2/\(∀ z∈ns++xs.map nT,Txs z)/\iQ (ns++xs.map nT) ns.length xs.length/\((ns++xs.map nT).drop ns.length).map dE=xs:=by
 have hw:(∀ c∈aO wd,c≠32/\c<128)/\wd.length<=61/\wd≠"build"/\fR wd=none/\T9 wd=some ((ns.length:Int),(xs.length:Int))/\1<=ns.length/\(ns++xs.map nT).length<=2/\∀ x∈xs,x.natAbs<10 ^ 60:=by
  cases h
  .exact⟨by decide +kernel,by decide +kernel,by decide +kernel,rfl,rfl,by simp,by simp,(λ_ h=>nomatch h)⟩
  .exact⟨by decide +kernel,by decide +kernel,by decide +kernel,rfl,rfl,by simp,by simp,by decide⟩
  .exact⟨by decide +kernel,by decide +kernel,by decide +kernel,rfl,rfl,by simp,by simp,(λ_ h=>nomatch h)⟩
 obtain⟨U,Y,w3,w4,w5,w6,w7,L⟩:=hw;have P:∀ z∈wd :: (ns++xs.map nT),(∀ c∈aO z,c≠32/\c<128)/\z.length<=61:=by
  intro z hz;rcases aEm.mp hz with e | hz
  .rw[e];exact⟨U,Y⟩
  rcases aEn.mp hz with hz | hz
  .obtain⟨h1,h2⟩:=jG (M z hz);exact⟨λc J=>by have:=h1 c J;lia,by lia⟩
  .obtain⟨x,hx,rfl⟩:=aEo.mp hz;have:=kT (L x hx);rw[bF]at this;exact⟨λc J=>by rcases sU J with z | z <;> lia,by lia⟩
 have hs:=iL (zs:=wd :: (ns++xs.map nT)) (λh=>nomatch h) λz hz J=>((P z hz).1 32 J).1 rfl;have ht:(ns++xs.map nT).take ns.length=ns:=ub;have hd:(ns++xs.map nT).drop ns.length=xs.map nT:=List.drop_left;refine⟨hs,⟨fZ (pF λz hz c J=>((P z hz).1 c J).2),?_⟩,?_,w5,w6,w7,λz hz=>⟨fZ λc J=>((P z (aEQ _ hz)).1 c J).2,by have:=(P z (aEQ _ hz)).2;lia⟩,⟨by rw[aEW,aEN],by rw[ht,jj];exact M,by rw[hd];exact tL L⟩,by rw[hd];exact nV L⟩
 .have h3:=lU (wd :: (ns++xs.map nT)) 61 λz hz=>(P z hz).2;have h4:(wd :: (ns++xs.map nT)).length * (61+1)<=3 * 62:=pw _ (by rw[aEe];lia)
  lia
 .unfold eY;rw[hs];exact tG w3 w4
def aBK (K:PySem.W.Frag) {X:Cx} {e:Expr} {ta:TE} {f:Str} {pos:Pos} (z:X.K=K) (he:PE X e ta) (J:attributeBase e f X.env (eval e X.env)=eval e X.env):PE X (.Attribute e f pos) (aDC K ta f):=by
 subst z;exact bP he J
def gE {K:PySem.W.Frag} {G:Hc K} {H:Hp} {nm:Str} {D:RD}:∀ {kvs:List (Key×V)} {S:Sd5},Paired (SA5 G H) kvs S->(S.map (·.1)).Nodup->(nm,D)∈S->∃ v,kH kvs (Sum.inr nm)=some v/\RoadC G H v D
 | _,_,.nil,_,h=>(nomatch h)
 | kv :: _,s :: _,.cons r t,J,h=>by
  rw[aEb,sy]at J;rcases aEm.mp h with e | h
  .subst e;exact⟨_,kP r.1,r.2⟩
  .have L:kv.1≠Sum.inr nm:=λz=>J.1 (by
    rw[show s.1=nm from jz (r.1.symm.trans z)];exact aEo.mpr ⟨_,h,rfl⟩)
   rw[jD L];exact gE t J.2 h
structure Dc (K:PySem.W.Frag) where
 Dk:Addr
 dk:Cls K Dk
 ho:NoAttr K Dk "house"
section
variable {K:PySem.W.Frag} {mg:Str->Option Value}
def go9 {X:cG K mg} {E:XK} {H:Hp} {r:RefH} (ne:r≠.ok) (h:∀ c fs,c∈K0 X->fs.lookup ("word":Str)=some (V.str r.nm)->Rf E c fs H):r.go X E H:=by
 cases r with
 | ok=>exact(ne rfl).elim
 | row i=>exact h _ _ (by simp[K0]) rfl
 | clash i=>exact h _ _ (by simp[K0]) rfl
 | _=>exact h _ _ (by simp[K0]) rfl
def aB8 (r:RefH):r.nm.length<=1000:=by
 cases r <;> first | decide | exact(show ("BadRow":Str).length<=1000 by decide) | exact(show ("Clash":Str).length<=1000 by decide)
def Go9.ne {row:List Int} {w:Str} {xs:List Int} {O:(List Int×Trs) ⊕ RefH} (h:Go9 row w xs O):O≠.inr .ok:=by
 cases h <;> exact λe=>nomatch e
def Lay9.ne {row o:List Int} {g:Int} {r:RefH} (h:Lay9 row o g r):r≠.ok:=by
 cases h <;> exact λe=>nomatch e
def aC4 {S:Sd5} {ds:List Dd} {z:Str} {O:(Sd5×List Dd×Str) ⊕ RefH} (h:uS S ds z O):O≠.inr .ok:=by
 intro e;cases h with
 | deed=>cases e
 | deedx h hd =>
  cases e;generalize J:(Sum.inr RefH.ok:Sd5 ⊕ RefH)=O at hd;cases hd with
  | build _ h=>cases h with
   | row _ _ hd=>exact hd (jz J).symm
   | _=>cases J
  | ent _ _ h=>cases h with
   | bad _ _ L=>exact L.ne (congrArg Sum.inr (jz J).symm)
   | _=>cases J
  | lay _ _ _ _ _ L=>exact L.ne (jz J).symm
  | late h=>cases jz J;cases h
  | strike h=>cases jz J;cases h
  | shut=>cases J
 | again=>cases e
 | ask M h=>cases h <;> cases e
variable (X:cG K mg) (G:Hc K) (D:Dc K)
structure aC5:Prop where
 exe:∀ c∈K0 X,PySem.W.exmOne K (.ref c) (.ref X.err)=some true
 wd:∀ c∈K0 X,z7 K c "word"
inductive xX (vs:List V) (H:Hp) (Q:VK) (E_:XK):Prop
 | mk (Hb:Hp) (k dx a:Addr) (z:Str) (S:Sd5) (ds:List Dd) (O:(Sd5×List Dd×Str) ⊕ RefH) (h0_:vs=[.ref k,.str z]) (hk_:Hb k=some (.ins D.Dk dx [("house",.ref a)])) (h1_:HO9 G Hb H a S ds) (hn_:ds.length<100) (hu_:(S.map (·.1)).Nodup) (h2_:uS S ds z O)
  (h3_:∀ S' ds' t,O=.inl (S',ds',t)->∀ H',HO9 G Hb H' a S' ds'->Q (.str t) H') (h4_:∀ r,O=.inr r->∀ H',HO9 G Hb H' a S ds->Q (.str (cP ["no ",r.nm])) H'):xX vs H Q E_
end
section
variable {K:PySem.W.Frag} {mg:Str->Option Value} (X:cG K mg) (G:Hc K)
inductive K2 (vs:List V) (H:Hp) (Q:VK) (E_:XK):Prop
 | mk (t d:Addr) (r:List Int) (ws:Trs) (r':List Int) (h0_:vs=[.ref t,.ref d]) (h1_:RowA NT H t r) (h2_:H d=some (.dK (kvW ws))) (h3_:wH r ws r') (h4_:V9 H Q r'):K2 vs H Q E_
inductive Rb9 (H:Hp):List Int->Str->List V->List Int ⊕ RefH->Prop
 | put {p:Int}:Rb9 H [p] "put" [.int (p+7)] (.inl [p,p+7])
 | laid {row:List Int} {p:Int} (h:p∈row):Rb9 H row "put" [.int p] (.inr .laid)
 | many {row:List Int} {p:Int} (h:p∉row) (hl:row.length=60):Rb9 H row "put" [.int p] (.inr .many)
 | stone {row:List Int} {p:Int} (h:p∉row):Rb9 H row "take" [.int p] (.inr .stone)
 | lay {row o:List Int} {t:Addr} {g:Int} {r:RefH} (ht:H t=some (.tup (o.map V.int))) (hr:Rw row/\Rw o) (h:Lay9 row o g r):Rb9 H row "lay" [.ref t,.int g] (.inr r)
inductive Ge9 (H:Hp):List Int->Trs->Str->List V->(List Int×Trs) ⊕ RefH->Prop
 | w0 {r:List Int} {m:Int}:Ge9 H r [] "walk" [.int 1,.int m] (.inl (r,[(1,m)]))
 | creel {r:List Int} {ws:Trs} {c n:Int} (h:c<1):Ge9 H r ws "walk" [.int c,.int n] (.inr .creel)
 | good {r r' q:List Int} {ws:Trs} {w:Str} {us:List V} (hn:wH r ws r') (h:Rb9 H r' w us (.inl q)):Ge9 H r ws w us (.inl (q,[]))
 | bad {r r':List Int} {ws:Trs} {w:Str} {us:List V} {x:RefH} (hn:wH r ws r') (h:Rb9 H r' w us (.inr x)):Ge9 H r ws w us (.inr x)
variable {H H':Hp}
def Rb9.same (g:Same H H') {row:List Int} {w:Str} {us:List V} {O:List Int ⊕ RefH} (h:Rb9 H row w us O):Rb9 H' row w us O:=by
 cases h with
 | put=>exact .put
 | laid h=>exact .laid h
 | many h z=>exact .many h z
 | stone h=>exact .stone h
 | lay ht J h=>exact .lay (g _ _ ht) J h
def Rb9.word {row:List Int} {w:Str} {us:List V} {O:List Int ⊕ RefH} (h:Rb9 H row w us O):¬ V.str w=V.str "walk"/\¬ V.str w=V.str "mirror":=by
 cases h <;> exact⟨by decide +kernel,by decide +kernel⟩
inductive tR (vs:List V) (H:Hp) (Q:VK) (E:XK):Prop
 | mk (a:Addr) (row:List Int) (p:Int) (O:List Int ⊕ RefH) (h0_:vs=[.ref a,.int p]) (h1_:H a=some (.lst (row.map V.int))) (h2_:Rb9 H row "put" [.int p] O) (h3_:∀ q,O=.inl q->V9 H Q q) (h4_:∀ r,O=.inr r->Refs X E H r):tR vs H Q E
inductive K3 (vs:List V) (H:Hp) (Q:VK) (E:XK):Prop
 | mk (a b:Addr) (row o:List Int) (g:Int) (r:RefH) (h0_:vs=[.ref a,.ref b,.int g]) (h1_:H a=some (.lst (row.map V.int))) (h2_:H b=some (.tup (o.map V.int))) (hr_:Rw row/\Rw o) (h3_:Lay9 row o g r) (h4_:Refs X E H r):K3 vs H Q E
inductive xY (vs:List V) (H:Hp) (Q:VK) (E:XK):Prop
 | mk (a t:Addr) (row:List Int) (w:Str) (us:List V) (O:List Int ⊕ RefH) (h0_:vs=[.ref a,.ref t]) (h1_:H a=some (.lst (row.map V.int))) (h2_:H t=some (.tup (.str w :: us))) (h3_:Rb9 H row w us O) (h4_:∀ q,O=.inl q->V9 H Q q) (h5_:∀ r,O=.inr r->Refs X E H r):xY vs H Q E
inductive rG (vs:List V) (H:Hp) (Q:VK) (E:XK):Prop
 | good (Hb:Hp) (c:Addr) (m:Int) (r:List Int) (h0_:vs=[.ref c,.int 1,.int m]) (h1_:CO5 G Hb H c r []) (h3_:∀ H',CO5 G Hb H' c r [(1,m)]->Q .non H'):rG vs H Q E
 | bad (c:Addr) (n m:Int) (h0_:vs=[.ref c,.int n,.int m]) (h1_:n<1) (h2_:Refs X E H .creel):rG vs H Q E
inductive rJ (vs:List V) (H:Hp) (Q:VK) (E:XK):Prop
 | mk (Hb:Hp) (c t:Addr) (r:List Int) (ws:Trs) (w:Str) (us:List V) (O:(List Int×Trs) ⊕ RefH) (h0_:vs=[.ref c,.ref t]) (h1_:CO5 G Hb H c r ws) (h2_:Hb t=some (.tup (.str w :: us))) (h3_:Ge9 Hb r ws w us O) (h4_:∀ q,O=.inl q->∀ H',CO5 G Hb H' c q.1 q.2->Q .non H') (h5_:∀ ref,O=.inr ref->Refs X E H ref):rJ vs H Q E
inductive oA (vs:List V) (H:Hp) (Q:VK) (E:XK):Prop
 | mk (v:V) (t:Addr) (D:RD) (w:Str) (us:List V) (O:(List Int×Trs) ⊕ RefH) (h0_:vs=[v,.ref t]) (h1_:RoadC G H v D) (h2_:H t=some (.tup (.str w :: us))) (h3_:Ge9 H D.row D.ws w us O) (hl_:D.ents=[]) (h4_:∀ q,O=.inl q->∀ is:List Int,us=is.map V.int->∀ v' H',Same H H'->RoadC G H' v' (D.plus (w,is) q)->Q v' H') (h5_:∀ ref,O=.inr ref->Refs X E H ref):oA vs H Q E
def Ge9.ints {r:List Int} {ws:Trs} {w:Str} {us:List V} {q:List Int×Trs} (h:Ge9 H r ws w us (.inl q)):∃ is:List Int,us=is.map V.int:=by
 cases h with
 | w0=>exact⟨[_,_],rfl⟩
 | good z h=>cases h;exact⟨[_],rfl⟩
def e9 (p:Int):List En:=[("walk",[1,7]),("put",[p+7])]
inductive tS (vs:List V) (H:Hp) (Q:VK) (E:XK):Prop
 | mk (v:V) (w:Addr) (us:List V) (D:RD) (p:Int) (h0_:vs=[v,.int 0,.ref w]) (h1_:RoadC G H v D) (h2_:D.first=[p]) (h3_:H w=some (.tup us)) (h4_:Paired (EnAt H) us (e9 p)) (h5_:Refs X E H (.clash 1)):tS vs H Q E
def wsN:Nat->Trs
 | 0=>[]
 | _=>[(1,7)]
def aD9 {p:Int} {i:Nat} (h:i<=1):∃ w is O,(e9 p)[i]?=some (w,is)/\Ge9 H [p] (wsN i) w (is.map V.int) O/\(i=0/\O=.inl ([p],wsN 1)\/i=1/\O=.inr .laid):=by
 obtain rfl | rfl:i=0\/i=1:=by lia
 .exact⟨_,_,_,rfl,.w0,.inl ⟨rfl,rfl⟩⟩
 .exact⟨_,_,_,rfl,.bad .seven (.laid (aEg.mpr rfl)),.inr ⟨rfl,rfl⟩⟩
def wI:∀ {a b:List Int},a.map V.int=b.map V.int->a=b
 | [],[],_=>rfl
 | [],_ :: _,h=>nomatch h
 | _ :: _,[],h=>nomatch h
 | x :: a,y :: b,h=>by
  rw[aEb,aEb]at h
  injection h with h1 h2
  injection h1 with h1
  rw[h1,wI h2]
def Y6 (p:Int):sF [p] 1=[p+1]:=by
 unfold sF;rw[xC (.inl rfl),b4 (by decide)];simp[goM]
inductive nB (vs:List V) (H:Hp) (Q:VK) (E:XK):Prop
 | mk (a:Addr) (row:List Int) (p:Int) (h0_:vs=[.ref a,.int p]) (h1_:H a=some (.lst (row.map V.int))) (h2_:p∉row) (h3_:Refs X E H .stone):nB vs H Q E
end
def C5 {K:PySem.W.Frag} {G:Hc K} {H:Hp} {n:Str}:∀ {kvs:List (Key×V)} {S:Sd5},Paired (SA5 G H) kvs S->n∉S.map (·.1)->(Sum.inr n:Key)∉kvs.map (·.1)
 | _,_,.nil,_,h=>(nomatch h)
 | kv :: _,s :: _,.cons r t,z,h=>by
  rw[aEb,aEm,not_or]at z;rcases aEm.mp h with e | h
  .exact z.1 (jz (e.trans r.1))
  .exact C5 t z.2 h
def U1 {K:PySem.W.Frag} {G:Hc K} {H:Hp} {n:Str} {D J:RD} {v:V} {B:Sd5} (L:RoadC G H v J):∀ {A:Sd5} {kvs:List (Key×V)},Paired (SA5 G H) kvs (A++(n,D) :: B)->((A++(n,D) :: B).map (·.1)).Nodup->Paired (SA5 G H) (jC kvs (Sum.inr n) v) (A++(n,J) :: B)
 | [],_,.cons r t,h=>by
  rw[oj,aEb,sy]at h;rw[W9 r.1 (C5 t h.1)];exact .cons ⟨r.1,L⟩ t
 | a :: A,_,.cons r t,h=>by
  rw[rs,aEb,sy]at h;rw[X0 (λz=>h.1 (by rw[show a.1=n from jz (r.1.symm.trans z),aE1];simp))];exact .cons r (U1 L t h.2)
end CW
namespace L2
open PySem PySem.Spec PyProof.Rows
def K4 {c:Const} {j:Nat} {p:Pos} {n:Str} {env:Env} {t:Sem Value}:attributeBase (.Constant c j p) n env t=t:=rfl
def aBL {X:Cx} {i:Nat} {y x:Str} {j:Nat} {e:Expr} {t:TA} {J p apos aa pos:Pos} (L:PA X [e] t) (hs:starEach [e] X.env=[(false,eval e X.env)]) (hline:(apos.endLine == aa.line)=true) (M:X.N.Nodup) (hi:X.N[i]?=some y) (O:Loc X.env.scope y)
 (z:swapsWith (.Call (.Attribute (.Constant (.str x) j p) "join" apos) [e] [] aa) (some (.Name y J)) pos.line X.env=pure false) (U:X.fn y=true\/X.env.scope.names.lookup y=some .local) :
 PS X (.Assign [.Name y J] (.Call (.Attribute (.Constant (.str x) j p) "join" apos) [e] [] aa) pos) (aAa (tBM X.K "str" aB0 (tC (.str x)) t) (vG i)) :=
 bL M hi O (kF ku ph tf Q9 aP L (hbase:=K4) (hfew:=by rw[hs];rfl) (hline:=hline) (hs:=hs) (hplain:=rfl)) z U
end L2
namespace CW
open PySem L2
def nmA:List Str:=["aq","bq","cq","dq","eq","fq","gq","hq"]
def nm0:List Str:=["a","b","c","d","e","f","g","h"]
def aDa {i:Nat} (h:i<8):∃ z,nm0[i]?=some z/\nmA[i]?=some (z++"q")/\z.length<=10:=by
 have H:∀ i:Nat,i<8->nmA[i]?=(nm0[i]?).map (λz:Str=>z++"q")/\(nm0[i]?).isSome=true/\∀ z∈nm0,z.length<=10:=by decide +kernel
 obtain⟨h1,h2,h3⟩:=H i h;cases e:nm0[i]? with
 | none=>rw[e]at h2;cases h2
 | some z=>exact⟨z,rfl,by rw[h1,e];rfl,h3 z (aEY e)⟩
structure Nms (L:List Str):Prop where
 made:∀ n∈L,bI n cF 8=true/\n.length<=10
 nodup:L.Nodup
 nx:("x":Str)∉L
def aC6 {k:Nat} (h:k<8):∃ a b c d r1 r2 r3 r4,nmA.drop k++nmA.take k=[a,b,c,d,r1,r2,r3,r4]/\Nms [a,b,c,d,r1,r2,r3,r4]:=by
 have H:∀ k<8,(∀ n∈nmA.drop k++nmA.take k,bI n cF 8=true/\n.length<=10)/\(nmA.drop k++nmA.take k).Nodup/\("x":Str)∉nmA.drop k++nmA.take k/\(nmA.drop k++nmA.take k).length=8:=by decide +kernel
 obtain⟨h1,h2,h3,h4⟩:=H k h;generalize nmA.drop k++nmA.take k=L at *
 match L,h4 with
 | [a,b,c,d,r1,r2,r3,r4],_=>exact⟨a,b,c,d,r1,r2,r3,r4,rfl,h1,h2,h3⟩
def C6:∀ (ws:List Str) (z:Str),glS (z :: ws)=aO z++(ws.map λw=>32 :: aO w).flatten
 | [],z=>by simp[glS]
 | w :: ws,z=>by
  show aO z++32 :: glS (w :: ws)=_;rw[C6 ws w];rfl
def spT (r:List Int):List Nat:=(r.map λx=>32 :: aO (nT x)).flatten
def K5 {n t:Str} {r:List Int} (h:aO t=spT r):"build "++n++t=txt ⟨"build",[n],r,true⟩:=iK (by
 unfold txt txs;rw[jl,hJ,cH,cH,h];show _=glS ("build" :: n :: r.map nT);rw[C6,aEb,aEf];show ([98,117,105,108,100,32]++aO n)++spT r=[98,117,105,108,100]++((32 :: aO n)++spT r);simp)
def gI:List Int:=(List.range 60).map λ(i:Nat)=>1+(i:Int)
def rws (p n1 n2 n3 n4:Int):List (List Int):=[[p,p+1],[],gI,[p],[n1],[n2],[n3],[n4]]
def K6:(gI.map nT).foldl (λn z=>n+z.length+(" ":Str).length) 0<=1000/\(Builtin.Str.glued " " (gI.map nT)).length<=1000:=by decide +kernel
def aB9:Rw gI:=⟨by unfold Row gI;decide +kernel,by decide +kernel⟩
def pM (p:Int):Rw [p]:=⟨mj _ _,show 1<=60 by decide⟩
def pN (p:Int):Rw [p,p+1]:=⟨.cons (λx z=>by rw[aEg.mp z];lia) (mj _ _),show 2<=60 by decide⟩
def rtx (p:Int) (z:Str) (n1 n2 n3 n4:Int):List Str:=[cP [" ",toString p," ",toString (p+1)],""," "++z,cP [" ",toString p]]++[n1,n2,n3,n4].map λn=>cP [" ",toString n]
def U2 {n:Int} (h0:0<=n) (h1:n<9967):aO (cP [" ",toString n])=spT [n]/\(cP [" ",toString n]).length<=1000:=by
 have e:aO (cP [" ",toString n])=spT [n]:=by rw[gZ];rfl
 refine⟨e,?_⟩;have:=(kT (n:=n) (by lia)).2;rw[<- bF,e];show (([32]++aO (nT n))++[]).length<=1000;rw[aEW,aEW,ju,qd]
 lia
def aC7 {p n1 n2 n3 n4:Int} (z:0<=p) (M:p<400) (J:∀ n∈[n1,n2,n3,n4],0<=n/\n<9967):Paired (λt r=>aO t=spT r/\t.length<=1000) (rtx p (Builtin.Str.glued " " (gI.map nT)) n1 n2 n3 n4) (rws p n1 n2 n3 n4):=by
 have B:∀ n∈[n1,n2,n3,n4],aO (cP [" ",toString n])=spT [n]/\(cP [" ",toString n]).length<=1000:=λn h=>U2 (J n h).1 (J n h).2;have L:aO (" "++Builtin.Str.glued " " (gI.map nT))=spT gI:=by
  rw[cH,jl,hJ]
  decide +kernel
 refine .cons ?_ (.cons ⟨rfl,show 0<=1000 by decide⟩ (.cons ⟨L,?_⟩ (.cons (U2 z (by lia)) (.cons (B _ (by simp)) (.cons (B _ (by simp)) (.cons (B _ (by simp)) (.cons (B _ (by simp)) .nil)))))))
 .have e:aO (cP [" ",toString p," ",toString (p+1)])=spT [p,p+1]:=by rw[gZ];rfl
  refine⟨e,?_⟩;have h1:=(kT (n:=p) (by lia)).2;have h2:=(kT (n:=p+1) (by lia)).2;rw[<- bF,e];show (([32]++aO (nT p))++(([32]++aO (nT (p+1)))++[])).length<=1000;rw[aEW,aEW,aEW,aEW,ju,qd]
  lia
 .rw[<- bF,L]
  decide +kernel
def aC8 {p n1 n2 n3 n4:Int}:∀ r∈rws p n1 n2 n3 n4,Rw r:=by
 unfold rws;simp only[nr];exact⟨pN p,⟨.nil,show 0<=60 by decide⟩,aB9,pM _,pM _,pM _,pM _,pM _,λ_ h=>nomatch h⟩
def U3 {p n1 n2 n3 n4:Int} (J:0<=p) (L:p<400) (z:∀ n∈[n1,n2,n3,n4],0<=n/\n<9967):∀ r∈rws p n1 n2 n3 n4,∀ x∈r,x.natAbs<10 ^ 60:=by
 have one:∀ n:Int,0<=n->n<9967->∀ x∈[n],x.natAbs<10 ^ 60:=λn h0 h1 x M=>by rw[aEg.mp M];lia
 have B:∀ n∈[n1,n2,n3,n4],∀ x∈[n],x.natAbs<10 ^ 60:=λn h=>one n (z n h).1 (z n h).2;have g:∀ x∈gI,x.natAbs<10 ^ 60:=by decide +kernel
 unfold rws;simp only[nr]at B ⊢;exact⟨⟨by lia,by lia,λ_ h=>nomatch h⟩,(λ_ h=>nomatch h),g,⟨by lia,λ_ h=>nomatch h⟩,B.1,B.2.1,B.2.2.1,B.2.2.2.1,λ_ h=>nomatch h⟩
def mkR (x:Str×List Int):Str×RD:=(x.1,⟨x.2,[],x.2,[]⟩)
def mkB (x:Str×List Int):Dd:=⟨"build",[x.1],x.2,true⟩
def okB {n:Str} {r:List Int} (J:bI n cF 8=true) (L:∀ x∈r,x.natAbs<10 ^ 60):OkL ⟨"build",[n],r,true⟩:=⟨λ_=>⟨rfl,rfl⟩,(λz=>nomatch z),(λm M=>by rw[aEg.mp M];exact J),L⟩
def K7 {Z:List (Str×List Int)} {i:Nat} {x:Str×List Int} (hi:Z[i]?=some x) (h8:i<8) (L:(Z.map (·.1)).Nodup) (M:bI x.1 cF 8=true) (O:Rw x.2):Do9 ((Z.take i).map mkR) (mkB x) (.inl ((Z.take (i+1)).map mkR)):=by
 rw[jm,hi,aE1];have U:=(aEl.mp hi).1;refine .build M (.good (λz=>?_) O (by rw[aEN,aE2];lia));rw[aEf]at z;obtain⟨y,Y,e⟩:=aEo.mp z;obtain⟨j,hj,J⟩:=List.mem_iff_getElem.mp Y;rw[aE2]at hj;rw[List.getElem_take]at J;have hx:Z[i]=x:=(aEl.mp hi).2;have:=List.pairwise_iff_getElem.mp L j i (by rw[aEN];lia) (by rw[aEN];exact U) (by lia);rw[List.getElem_map,List.getElem_map,J,hx]at this;exact this e
section
variable {a b c d r1 r2 r3 r4:Str} {p n1 n2 n3 n4:Int}
def Zs (L:List Str) (p n1 n2 n3 n4:Int):List (Str×List Int):=L.zip (rws p n1 n2 n3 n4)
def S8 (a b c d r1 r2 r3 r4:Str) (p n1 n2 n3 n4:Int):Sd5:=[(a,⟨[p,p+1],[],[p,p+1],[]⟩),(b,⟨[],[],[],[]⟩),(c,⟨gI,[],gI,[]⟩)]++(d,⟨[p],[],[p],[]⟩) :: [(r1,⟨[n1],[],[n1],[]⟩),(r2,⟨[n2],[],[n2],[]⟩),(r3,⟨[n3],[],[n3],[]⟩),(r4,⟨[n4],[],[n4],[]⟩)]
def S9 (a b c d r1 r2 r3 r4:Str) (p n1 n2 n3 n4:Int):Sd5:=[(a,⟨[p,p+1],[],[p,p+1],[]⟩),(b,⟨[],[],[],[]⟩),(c,⟨gI,[],gI,[]⟩)]++(d,⟨[p],[("put",[p+7])],[p,p+7],[]⟩) :: [(r1,⟨[n1],[],[n1],[]⟩),(r2,⟨[n2],[],[n2],[]⟩),(r3,⟨[n3],[],[n3],[]⟩),(r4,⟨[n4],[],[n4],[]⟩)]
def aC9:Do9 (S8 a b c d r1 r2 r3 r4 p n1 n2 n3 n4) ⟨"put",[d],[p+7],false⟩ (.inl (S9 a b c d r1 r2 r3 r4 p n1 n2 n3 n4)) :=
 .ent (by simp[ws9]) (show 1<=3 by decide) (@En9.good _ _ _ _ _ _ _ _ rfl (show (S8 a b c d r1 r2 r3 r4 p n1 n2 n3 n4).length<=8 from ah 8) ⟨rfl,rfl⟩ .put)
def aAX:(3:Int)∈gI/\(900:Int)∉gI/\gI.length=60/\gI≠[]/\(∀ x∈gI,x.natAbs<10 ^ 60):=by decide +kernel
structure LS (S:Sd5) (a b c d:Str) (p:Int):Prop where
 iA:(a,(⟨[p,p+1],[],[p,p+1],[]⟩:RD))∈S
 iB:(b,(⟨[],[],[],[]⟩:RD))∈S
 iC:(c,(⟨gI,[],gI,[]⟩:RD))∈S
 iD:(d,(⟨[p],[("put",[p+7])],[p,p+7],[]⟩:RD))∈S
 nx:("x":Str)∉S.map (·.1)
 len:S.length=8
def aDb (h:("x":Str)∉[a,b,c,d,r1,r2,r3,r4]):LS (S9 a b c d r1 r2 r3 r4 p n1 n2 n3 n4) a b c d p:=⟨by simp[S9],by simp[S9],by simp[S9],by simp[S9],h,rfl⟩
def aCa:Rw []:=⟨.nil,show 0<=60 by decide⟩
def aAY {r:List Int} (h:60<r.length):cS r=.many:=by
 unfold cS;rw[b4 h]
def Y7 {S:Sd5} {ds:List Dd} (M:LS S a b c d p) (L:bI a cF 8=true) (mb:bI b cF 8=true) (mc:bI c cF 8=true) (md:bI d cF 8=true) (au:0<=p) (av:p<400):∀ x∈lns a b c d p gI,∃ r,uS S ds x.1.text (.inr r)/\x.2=r.nm:=by
 have Y:bI "x" cF 8=true:=by decide +kernel
 obtain⟨g3,O,U,gn,gb⟩:=aAX;obtain⟨iA,iB,iC,iD,J,hl⟩:=M;have nA:a∈S.map (·.1):=aEo.mpr ⟨_,iA,rfl⟩;have ok:=aC3 L mb mc md au av (g:=gI) gb (qj U);have z:∀ {e:Dd} {r:RefH} {w:Str},tM (.deed e)->Do9 S e (.inr r)->w=r.nm->∃ r,uS S ds (txt e) (.inr r)/\w=r.nm:=λh1 h2 h3=>⟨_,.deedx h1 h2,h3⟩;unfold lns at ok ⊢;simp only[nr]at ok ⊢;obtain⟨o1,o2,o3,o4,o5,o6,o7,o8,o9,aw,ax,ay,az,a_,ba,bb,bc,bd,bf,bg,bh,bi,bj,_⟩:=ok;have d2:pH (cS [p,p])=.row 1:=by rw[aCY];rfl
 have d3:pH (cS (gI++[999]))=.many:=by rw[aAY (by rw[aEW,U];decide)];rfl
 have w1:("walk":Str)∈ws9:=by simp[ws9]
 have w2:("put":Str)∈ws9:=by simp[ws9]
 have w3:("take":Str)∈ws9:=by simp[ws9]
 have l1:∀ {x:Int},[x].length<=3:=(show 1<=3 by decide);have l2:∀ {x y:Int},[x,y].length<=3:=(show 2<=3 by decide);refine⟨z o1 (.build L (.taken nA)) rfl,z o2 (.build Y (.row J (show 2<=61 by decide) (by rw[d2];exact λh=>nomatch h))) (by rw[d2];rfl),z o3 (.build Y (.row J (by rw[aEW,U];decide) (by rw[d3];exact λh=>nomatch h))) (by rw[d3];rfl),z o4 (.build Y (.full J (pM p) hl)) rfl,z o5 (.build L (.taken nA)) rfl,
  z o6 (.ent w1 l2 (.road J)) rfl,z o7 (.shut J) rfl,z o8 (.ent w1 l2 (.bad iA ⟨rfl,rfl⟩ (.creel (by decide)))) rfl,z o9 (.ent w2 l1 (.bad iA ⟨rfl,rfl⟩ (.laid aEP))) rfl,z aw (.ent w2 l1 (.bad iC ⟨rfl,rfl⟩ (.many O U))) rfl,z ax (.ent w2 l1 (.bad iC ⟨rfl,rfl⟩ (.laid g3))) rfl,
  z ay (.ent w3 l1 (.bad iA ⟨rfl,rfl⟩ (.stone (by simp;lia)))) rfl,z az (.lay iA iB ⟨rfl,rfl⟩ rfl ⟨pN p,aCa⟩ .bare) rfl,z a_ (.lay iA iC ⟨rfl,rfl⟩ rfl ⟨pN p,aB9⟩ (.many (mq _ _) gn (by rw[U];exact(show 60<2+60 by decide)))) rfl,z ba (.lay iA iA ⟨rfl,rfl⟩ rfl ⟨pN p,pN p⟩ (.near (mq _ _) (mq _ _) (show 2+2<=60 by decide) (show (1:Int)<((2:Nat):Int)by decide))) rfl,
  z bb (.late (.entry iA (show ((0:Nat):Int)<1 by decide))) rfl,z bc (.late (.creel iA rfl (by decide))) rfl,z bd (.strike (.entry iA rfl)) rfl,z bf (.strike (.walk iD rfl)) rfl,z bg (.late (.clash iD ⟨rfl,rfl,rfl⟩ rfl rfl)) rfl,⟨_,.again,rfl⟩,
  ⟨_,.ask (λn h=>by rw[aEg.mp h];exact L) (.load iA rfl (pN p)),rfl⟩,⟨_,.ask (λn h=>by rcases aEm.mp h with h | h;rw[h];exact L;rw[aEg.mp h];exact Y) (.kin iA rfl J),rfl⟩,λ_ h=>nomatch h⟩
def aBM {S:Sd5} {ds:List Dd} (M:LS S a b c d p) (J:bI a cF 8=true) (z:0<=p) (L:p<400):uS S ds ("row "++a) (.inl (S,ds,cP [toString p," ",toString (p+1)])):=by
 have O:("row ":Str)++a=Builtin.Str.glued " " ("row" :: ([a]++([]:List Int).map nT)):=iK (by
  rw[jl,hJ,cH];rfl)
 have U:cP [toString p," ",toString (p+1)]=aC1 [p,p+1]:=nW rfl;rw[O,U];have small:∀ x:Int,0<=x->x<1000->sN x/\(nT x).length<=61:=λx h1 h2=>⟨iO (by lia),by rw[<- bF];exact(kT (n:=x) (by lia)).2⟩;exact .ask (λn h=>by rw[aEg.mp h];exact J) (.row M.iA rfl (mq _ _) (show 2<=60 by decide) (λx Y=>by
  rcases aEm.mp Y with h | h
  .rw[h];exact small _ z (by lia)
  .rw[aEg.mp h];exact small _ (by lia) (by lia)))
end
section
variable {K:PySem.W.Frag} {G:Hc K}
def aCb {x dx:Addr} {H:Hp} {R:Hp->Prop} {E:XK} (L:H x=none) (hd:H dx=none) (z:dx≠x) (k:∀ H',HO9 G H H' x [] []->R H') :
 jI G [.ref x] (upd (upd H dx (.own x)) x (.ins G.Hs dx [])) (λv H2=>v=.non/\R H2) E :=
 aCX L hd z λH' ⟨h1,h2,dx,d,p,q,kvs,us,h3,h4,h5,M,O,Y,U,J⟩=>by
  cases us with
  | cons=>cases U
  | nil=>exact k H' ⟨h1,h2,dx,d,p,q,kvs,[],h3,h4,h5,M,O,.nil,J⟩
def HO9.set {L H:Hp} {a x C dx:Addr} {fs fs':List (Str×V)} (h:HO9 G L H a [] []) (M:L x=some (.ins C dx fs)):HO9 G (upd L x (.ins C dx fs')) (upd H x (.ins C dx fs')) a [] []:=by
 obtain⟨h1,h2,dx,d,p,q,kvs,us,h3,h4,h5,Y,h7,h8,O⟩:=h;cases Y;cases h8;have J:=h1 _ _ M;have U:a≠x:=λz=>by rw[z,M]at h2;cases h2
 have np:p≠x:=λz=>by rw[z,M]at h3;cases h3
 have nd:d≠x:=λz=>by rw[z,J]at h5;cases h5
 have nq:q≠x:=λz=>by rw[z,J]at O;cases O
 refine⟨λb o e=>?_,by rw[aL U];exact h2,dx,d,p,q,[],[],by rw[aL np];exact h3,by rw[aL U];exact h4,by rw[aL nd];exact h5,.nil,by rw[aL np];exact h7,.nil,by rw[aL nq];exact O⟩
 by_cases c:b=x
 .subst c;rw[aJ]at e ⊢;exact e
 .rw[aL c]at e ⊢;exact h1 _ _ e
def HO9.grow {O M H:Hp} {a:Addr} {S:Sd5} {ds:List Dd} (h:HO9 G O M a S ds) (g:Same M H):∃ J,HO9 G J H a S ds/\Same O J/\(∀ b us,H b=some (.tup us)->J b=some (.tup us))/\∀ l o,M l=none->H l=some o->J l=some o:=by
 obtain⟨h1,h2,dx,d,p,q,kvs,us,h3,h4,h5,h6,U,h8,h9⟩:=h;have Y:=g _ _ h4;have hp:=g _ _ U;have out:∀ {b o},H b=some o->b≠a->b≠p->wo [a,p] H b=some o:=λ{b o} e n1 n2=>by
  rw[J6]
  .exact e
  .intro z;rcases aEm.mp z with z | z
   .exact n1 z
   .exact n2 (aEg.mp z)
 refine⟨wo [a,p] H,⟨T6,B4 (by simp),dx,d,p,q,kvs,us,B4 (by simp),Y,g _ _ h5,pI (.same g) h6,hp,Paired.mapP h8 λ_ _ z=>z.same g,g _ _ h9⟩,λb o e=>out (g _ _ (h1 _ _ e)) (λz=>?_) (λz=>?_),λb us e=>out e (λz=>?_) (λz=>?_),λl o L e2=>out e2 (λz=>?_) (λz=>?_)⟩
 .rw[z,h2]at e;cases e
 .rw[z,h3]at e;cases e
 .rw[z,Y]at e;cases e
 .rw[z,hp]at e;cases e
 .rw[z,h4]at L;cases L
 .rw[z,U]at L;cases L
variable (G) (D:Dc K)
inductive rK (vs:List V) (H:Hp) (Q:VK) (E_:XK):Prop
 | mk (x dx:Addr) (h0_:vs=[.ref x]) (h1_:H x=some (.ins D.Dk dx [])) (h2_:∀ a H',HO9 G (upd H x (.ins D.Dk dx [("house",.ref a)])) H' a [] []->Q .non H'):rK vs H Q E_
inductive xZ (vs:List V) (H:Hp) (Q:VK) (E_:XK):Prop
 | mk (x:Str) (h0_:vs=[.str x,.str x]) (h1_:SeqAt.shaped (.str x)=true) (h2_:∀ H',Same H H'->Q (.bl true) H'):xZ vs H Q E_
end
def pO {H:Hp}:∀ {xs:List V} {ds:List Dd},Paired (DeedAt H) xs ds->Dens H xs (ds.map nQ)
 | _,_,.nil=>.nil
 | _,_,.cons h t=>.cons h.den (pO t)
def wJ:∀ {ds:List Dd},(∀ d∈ds,OkL d)->PyData.canLayAll0 (ds.map nQ)=true/\PyData.depthAll (ds.map nQ)<=2
 | [],_=>⟨rfl,by simp[PyData.depthAll]⟩
 | d :: ds,h=>by
  obtain⟨h1,h2⟩:=wJ λe he=>h e (aEQ _ he);have ok:=h d aEP;have hd:=G8 d;have hw:PyData.strOk d.word=true:=pG (fZ λc z=>by have:=(zZ _ ok.word).1 c z;lia);have J:∀ n∈d.names,PyData.strOk n=true:=λn J=>pG (fZ λc z=>by have:=(jG (ok.nms n J)).1 c z;lia);have z:PyData.canLay0 (nQ d)=true:=by
   unfold nQ;split
   .have L:PyData.strOk (d.names.headD "")=true:=by
     cases e:d.names with
     | nil=>decide +kernel
     | cons n r=>exact J n (by rw[e];exact aEP)
    simp only[PyData.canLay0,PyData.canLayAll0,hw,L,qJ,kj,Bool.and_true]
   .simp only[PyData.canLay0,PyData.canLayAll0,hw,kj];exact G6 (A0 J) (qJ _)
  refine⟨by rw[aEb];simp only[PyData.canLayAll0,z,h1,kj],?_⟩;rw[aEb];simp only[PyData.depthAll]
  lia
def yA {ds:List Dd} (h:∀ d∈ds,OkL d):SeqAt.shaped (.list (ds.map nQ))=true:=by
 obtain⟨h1,h2⟩:=wJ h;simp only[SeqAt.shaped,PyData.canLay0,PyData.depth,h1,kj];exact aE8 (by lia)
def aDc (r:RefH):SeqAt.shaped (.str (cP ["no ",r.nm]))=true:=by
 have h:∀ z∈(["",("TooMany":Str),"BadRow","BadCreel","TooNear","Bare","BadName","Taken","Full","NoRoad","Laid","NoStone","NoEntry","NotWalk","Clash","NothingLeft"]:List Str),SeqAt.shaped (.str (cP ["no ",z]))=true:=by decide +kernel
 cases r <;> exact h _ (by simp[RefH.nm])
def aCc (p:Int):SeqAt.shaped (.str (cP [toString p," ",toString (p+1)]))=true:=jF (fZ λc hc=>by
 have h:∀ {z:Int},c∈aO (nT z)->c<128:=λh=>by rcases sU h with e | e <;> lia
 rw[gZ]at hc;have hc:c∈aO (nT p)++([32]++(aO (nT (p+1))++[])):=hc;rw[aEn,aEn,jv]at hc;rcases hc with hc | hc | hc
 .exact h hc
 .rw[aEg.mp hc];decide
 .exact h hc)
def aBN (x y:Str):cP [x,y]=x++y:=iK (by rw[gZ,cH];simp)
section
variable {K:PySem.W.Frag} {mg:Str->Option Value}
def tT (K:PySem.W.Frag) (L:List Addr) (err laid stone:Addr):Bool :=
 L.all (λa=>C1 (PySem.W.exmOne K (.ref a) (.ref err)) true && aCU K a "word") && C1 (PySem.W.exmAny K (.ref laid) [.ref laid,.ref stone]) true && C1 (PySem.W.exmAny K (.ref stone) [.ref laid,.ref stone]) true
def aCd {X:cG K mg} {L:List Addr} {a:Addr} (h:tT K L a X.laid X.stone=true):aCW X:=by
 simp only[tT,eH]at h;exact⟨tJ h.1.2,tJ h.2⟩
def aCe {X:cG K mg} {b c:Addr} (h:tT K (K0 X) X.err b c=true):aC5 X:=by
 simp only[tT,eH,jj]at h;exact⟨λc z=>tJ (h.1.1 c z).1,λc z=>aD3 (h.1.1 c z).2⟩
def fT {R:Str×DK9->Prop} {y:Str×DK9} {z:List (Str×DK9)} (h:R y) (t:∀ x∈z,R x):∀ x∈y :: z,R x:=λx hx=>by
 rcases aEm.mp hx with e | hx
 .rw[e];exact h
 .exact t x hx
structure DcIn (K:PySem.W.Frag) (Dk:Addr):Prop where
 a:PySem.W.nsIn K mainGlobals "Desk"=some (some (.ref Dk))
 h1:PySem.W.plainGet K Dk Str.empty=true
 h2:PySem.W.hasDictIn K Dk=true
 h3:PySem.W.plainOver K Dk=true
 h4:PySem.W.findIn K (.ref Dk) "__setattr__"=some (some (.builtin "object.__setattr__"))
 ho:PySem.W.findIn K (.ref Dk) "house"=some none
def DcIn.d {Dk:Addr} (h:DcIn K Dk):Dc K:=⟨Dk,⟨h.h1,h.h2,h.h3,h.h4⟩,h.ho⟩
end
def top (i:Nat):Stmt:=PySem.Challenge.pw_creelway_k59_each_refusal_at_the_desk.main.body.getD i (.Pass ⟨0,0,0,0⟩)
section
variable {P:Program} {w:World} {K:PySem.W.Frag} {mg:Str->Option Value} {base:Heap} {f:Addr} {fd:FuncData} {tC t1 t2 t3:Tok}
abbrev jT:Stmt:=top 21
def iR:FnScope ["row","at"] ["row"] (aG jT):=.of
def C7 (F:Fun K "look_row" "look_row" jT f fd) (B:Bt mg) (C:Cn mg tC):FnOk P w K mg base CX0 1 f fd ["row"] nS:=by
 refine F.g iR λcdv A outer s H vs Q E hr h=>?_;obtain⟨a,row,rfl,ha,⟨hrow,hlen⟩,k⟩:=h;refine⟨_,(aE (bM (aV qB (aZ bE (by rfl) B.len gV (aA (pv 0) aB)) (dJ (v:=.int 60) rfl C.MOST_STONES ⟨_,rfl⟩) (aY _)) (aI bK) aW) (aI (iT jy rfl (lR rfl B.range (aA aQ (aA (aZ bE (by rfl) B.len gV (aA (pv 0) aB)) aB))) (aS (i:=1) iR.nd rfl (Or.inl rfl)) (aI (bM (aV N4 (cD rT (pv 0) (pv 1) (λ_ _=>rfl)) (cD rT (pv 0) (bH wT (pv 1) aQ) (λ_ _=>rfl)) (aY _)) (aI bK) aW))))),?_⟩
 try dsimp only[cN,cO]
 refine⟨_,rfl,a,_,rfl,ha.sq,_,_,rfl,rfl,_,rfl,cW (by rw[aEN];lia) ?_⟩;refine⟨_,rfl,a,_,rfl,ha.sq,_,_,rfl,⟨by decide,by decide,by lia,by rw[aEN];lia⟩,gO (lo:=1) (λi σ H2=>∃ v,σ=[some (.ref a),v]/\H2=H) ⟨none,rfl,rfl⟩ ?_ ?_⟩
 .rintro i σ H2 hi ⟨v,rfl,rfl⟩;rw[aEN]at hi;obtain⟨x,_,hx,ex⟩:=kN (ns:=row) (i:=1+(i:Int)) (by lia) (by lia);obtain⟨y,_,hy,ey⟩:=kN (ns:=row) (i:=1+(i:Int) - 1) (by lia) (by lia);refine⟨_,rfl,_,rfl,ha.ix ex ⟨_,rfl,_,rfl,_,_,rfl,rfl,ha.ix ey ⟨_,_,rfl,rfl,_,rfl,cW ?_ ⟨_,rfl,rfl⟩⟩⟩⟩;have:=hrow.lt (show (1+(i:Int) - 1).toNat<(1+(i:Int)).toNat by lia) hy hx
  lia
 .rintro σ H2 ⟨v,rfl,rfl⟩;exact k
def aAZ (F:Fun K "look_row" "look_row" jT f fd) (B:Bt mg) (C:Cn mg tC) (X:cG K mg) (R_TooMany:RA0 P w K mg base "TooMany" X.many) (R_BadRow:RAI P w K mg base "BadRow" X.row):FnOk P w K mg base (CXR P w) 4 f fd ["row"] (xT X):=by
 refine F.gX iR λcdv A outer s H vs Q E hfr hr h=>?_;obtain⟨a,row,rfl,ha,hlen,k2,k⟩:=h;obtain⟨k1,k3⟩:=X8 k;refine⟨_,(aE (bM (aV qB (aZ bE (by rfl) B.len gV (aA (pv 0) aB)) (dJ (v:=.int 60) rfl C.MOST_STONES ⟨_,rfl⟩) (aY _)) (aI (bX (dW hfr) R_TooMany rfl rfl hr rfl (aA (lT (cB (fY (by decide)) (cB (pC (dJ (v:=.int 60) rfl C.MOST_STONES ⟨_,rfl⟩)) (cB (fY (by decide)) lS)))) aB))) aW) (aI (iT aB4 rfl (lR rfl B.range (aA aQ (aA (aZ bE (by rfl) B.len gV (aA (pv 0) aB)) aB))) (aS (i:=1) iR.nd rfl (Or.inl rfl)) (aI (bM (aV N4 (cD rT (pv 0) (pv 1) (λ_ _=>rfl)) (cD rT (pv 0) (bH wT (pv 1) aQ) (λ_ _=>rfl)) (aY _)) (aI (bX (dW hfr) R_BadRow rfl rfl hr rfl (aA (pv 1) aB))) aW))))),?_⟩
 try dsimp only[cN,cO]
 by_cases h60:60<row.length
 .refine⟨_,rfl,a,_,rfl,ha.sq,_,_,rfl,rfl,_,rfl,?_⟩;exact iJ (by rw[aEN];lia) ⟨60,rfl,by decide,by decide,λz=>rd0 (k1 h60)⟩
 .have k3:=k3 (by lia);refine⟨_,rfl,a,_,rfl,ha.sq,_,_,rfl,rfl,_,rfl,cW (by rw[aEN];lia) ?_⟩;refine⟨_,rfl,a,_,rfl,ha.sq,_,_,rfl,⟨by decide,by decide,by lia,by rw[aEN];lia⟩,gO (lo:=1) (λi σ H2=>(∃ v,σ=[some (.ref a),v]/\H2=H)/\∀ j,1<=j->j<1+i->row.getD (j - 1) 0<row.getD j 0) ⟨⟨none,rfl,rfl⟩,λj h1 h2=>by lia⟩ ?_ ?_⟩
  .rintro i σ H2 hi ⟨⟨v,rfl,rfl⟩,hg⟩;rw[aEN]at hi;obtain⟨x,_,hx,ex⟩:=kN (ns:=row) (i:=1+(i:Int)) (by lia) (by lia);obtain⟨y,_,hy,ey⟩:=kN (ns:=row) (i:=1+(i:Int) - 1) (by lia) (by lia);refine⟨_,rfl,_,rfl,ha.ix ex ⟨_,rfl,_,rfl,_,_,rfl,rfl,ha.ix ey ⟨_,_,rfl,rfl,_,rfl,?_⟩⟩⟩;have gx:row.getD (1+i) 0=x:=by rw[kz,show 1+i=(1+(i:Int)).toNat from by lia,hx];rfl
   have gy:row.getD (1+i - 1) 0=y:=by rw[kz,show 1+i - 1=(1+(i:Int) - 1).toNat from by lia,hy];rfl
   by_cases hb:x<=y
   .have:=k3 (1+i) ⟨by lia,by lia,by rw[gx,gy];exact hb,λj h1 h2=>hg j h1 h2⟩;rw[show ((1+i:Nat):Int)=1+(i:Int) from by lia]at this;exact iJ hb ⟨_,rfl,rdI (aAA (by lia) (by lia)) this⟩
   .refine cW hb ⟨⟨_,rfl,rfl⟩,λj h1 h2=>?_⟩
    by_cases hj:j<1+i
    .exact hg j h1 hj
    .obtain rfl:j=1+i:=by lia
     rw[gx,gy]
     lia
  .rintro σ H2 ⟨⟨v,rfl,rfl⟩,hg⟩;rw[aEN]at hg;exact k2 (wF.mpr ⟨by lia,λj h1 h2=>hg j h1 (by lia)⟩)
abbrev gM:Stmt:=top 25
def mT:FnScope ["creel"] ["creel"] (aG gM):=.of
def uT (F:Fun K "look_creel" "look_creel" gM f fd) (B:Bt mg):FnOk P w K mg base CX0 1 f fd ["creel"] kO:=by
 refine F.g mT λcdv A outer s H vs Q E hr h=>?_;obtain⟨c,rfl,hc,k⟩:=h;refine⟨_,(aI (bM (aV nK (pv 0) aQ (aY _)) (aI bK) aW)),?_⟩
 try dsimp only[cN,cO]
 exact⟨_,rfl,_,_,rfl,rfl,_,rfl,cW (by lia) k⟩
def tU (F:Fun K "look_creel" "look_creel" gM f fd) (B:Bt mg) (X:cG K mg) (R_BadCreel:RA0 P w K mg base "BadCreel" X.creel):FnOk P w K mg base (CXR P w) 4 f fd ["creel"] (kZ X):=by
 refine F.gX mT λcdv A outer s H vs Q E hfr hr h=>?_;obtain⟨c,rfl,k1,k2⟩:=h;refine⟨_,(aI (bM (aV nK (pv 0) aQ (aY _)) (aI (bX (dW hfr) R_BadCreel rfl rfl hr rfl (aA aP aB))) aW)),?_⟩
 try dsimp only[cN,cO]
 exact⟨_,rfl,_,_,rfl,rfl,_,rfl,xB (λz=>rd0 (k2 z)) λz=>k1 (by lia)⟩
abbrev lB:Stmt:=top 27
def dI:FnScope ["row","creel","behind","held","niche","place"] ["row","creel"] (aG lB):=.of
inductive wK (H:Hp) (a:Addr) (l:Addr) (c:Int) (row:List Int) (i:Nat) (σ:St) (H2:Hp):Prop
 | mk (bs:List Int) (h:Nat) (n:Int) (v:Option V) (k0_:σ=[some (.ref a),some (.int c),some (.ref l),some (.int h),some (.int n),v]) (k1_:Same H H2) (k2_:H2 l=some (.lst (bs.map V.int))) (k3_:bs++goM c (row.drop i) h n=sF row c) (k4_:bs.length+h=i):wK H a l c row i σ H2
inductive wL (H:Hp) (a:Addr) (l:Addr) (c:Int) (row:List Int) (i:Nat) (p:Int) (σ:St) (H3:Hp):Prop
 | mk (bs:List Int) (h:Nat) (n:Int) (k0_:σ=[some (.ref a),some (.int c),some (.ref l),some (.int h),some (.int n),some (.int p)]) (k1_:Same H H3) (k2_:H3 l=some (.lst (bs.map V.int))) (k3_:bs++goM c (p :: row.drop (i+1)) h n=sF row c) (k4_:bs.length+h=i):wL H a l c row i p σ H3
inductive wM (H:Hp) (a:Addr) (l:Addr) (c:Int) (row:List Int) (i:Nat) (p:Int) (n:Int) (σ:St) (H4:Hp):Prop
 | mk (bs:List Int) (h:Nat) (k0_:σ=[some (.ref a),some (.int c),some (.ref l),some (.int h),some (.int n),some (.int p)]) (k1_:Same H H4) (k2_:H4 l=some (.lst (bs.map V.int))) (k3_:bs++goM c (row.drop (i+1)) h (p+1)=sF row c) (k4_:bs.length+h=i+1):wM H a l c row i p n σ H4
inductive wN (H:Hp) (a:Addr) (l:Addr) (c:Int) (row:List Int) (i:Nat) (p:Int) (n:Int) (σ:St) (H4:Hp):Prop
 | mk (bs:List Int) (h:Nat) (k0_:σ=[some (.ref a),some (.int c),some (.ref l),some (.int h),some (.int n),some (.int p)]) (k1_:Same H H4) (k2_:H4 l=some (.lst (bs.map V.int))) (k3_:bs++goM c (row.drop (i+1)) h (p+1)=sF row c) (k4_:bs.length+h=i+1):wN H a l c row i p n σ H4
def Y8 (F:Fun K "walked" "walked" lB f fd) (B:Bt mg) (F_look_row:dU P w K mg base "look_row" 1 ["row"] xD) (F_look_creel:dU P w K mg base "look_creel" 1 ["creel"] kO):FnOk P w K mg base CX0 2 f fd ["row","creel"] sI:=by
 refine F.g dI λcdv A outer s H vs Q E hr h=>?_;obtain⟨a,row,c,rfl,ha,hrow,hlen,hc,k⟩:=h;refine⟨_,(aE (bG (cJ F_look_row hr rfl (aA (pv 0) aB))) (aE (bG (cJ F_look_creel hr rfl (aA (pv 1) aB))) (aE (bL (i:=2) dI.nd rfl (Or.inl rfl) (kJ aB)) (aE (bL (i:=3) dI.nd rfl (Or.inl rfl) aQ) (aE (bL (i:=4) dI.nd rfl (Or.inr rfl) aQ) (aE (iT jy rfl (fL (pv 0)) (aS (i:=5) dI.nd rfl (Or.inl rfl)) (aE (yU jy (PW.pt (aBf (aV qB (pv 3) aQ (aY _)) (aA8 (aV nK (pv 4) (pv 5) (aY _))))) (aE (bG (kF aEh aEi aEj fE (pv 2) (aA (pv 4) aB))) (aE (E5 (i:=3) dI.nd rfl (Or.inl rfl) aQ aBi) (aI (E5 (i:=4) dI.nd rfl (Or.inr rfl) aQ b5))))) (P6 (bM (aV nK (pv 3) (pv 1) (aY _)) (aI (E5 (i:=3) dI.nd rfl (Or.inl rfl) aQ b5)) (aI (bG (kF aEh aEi aEj fE (pv 2) (aA (pv 5) aB))))) (aI (bL (i:=4) dI.nd rfl (Or.inr rfl) (bH dB (pv 5) aQ)))))) (aI (bA (bH wZ (pv 2) (eO ["more"] ["niche"] [4] rfl (.of (show dZ (aG lB) _ ["row","creel","behind","held","niche","place"] [4] ["niche"]=true by decide +kernel)) (lQ rfl B.range (aA (pv 3) aB)) (λ_ _ _=>(aS (i:=0) (show (["more","niche"]:List Str).Nodup by decide +kernel) rfl (Or.inl rfl))) (eM (by decide)) (λ_ _ _=>eK) (λ_ _ _=>(bH dB (pv 1) (pv 0))))))))))))),?_⟩
 try dsimp only[cN,cO]
 refine⟨_,rfl,a,row,rfl,ha,hrow,hlen,_,rfl,c,rfl,hc,by decide,λl hl=>?_⟩;refine⟨_,rfl,a,rfl,⟨_,SqL.of (Same.upd hl _ _ ha)⟩,yX (K:=K) (a:=a) (xs:=row.map V.int) (wK H a l c row)
  ⟨[],0,0,none,rfl,Same.upd hl,aJ,rfl,rfl⟩ (λi σ H2 _ z_=>by obtain⟨bs,h,n,v,_,sm,_⟩:=z_;exact SqL.of (sm _ _ ha)) ?_ ?_⟩
 .rintro i x σ H2 hi ⟨bs,h,n,v,rfl,sm,el,eq,hb⟩;have hil:i<row.length:=by
   have:=(aEl.mp hi).1;simpa using this
  obtain⟨p,rfl,hz⟩:=aBz hi;have hd:row.drop i=p :: row.drop (i+1):=by
   obtain⟨h1,rfl⟩:=aEl.mp hz;exact List.drop_eq_getElem_cons h1
  rw[hd]at eq;refine yY (wL H a l c row i p)
   (fun σ _=>match σ with | [_,_,_,some (.int h),_,_]=>h.toNat | _=>0) ⟨bs,h,n,rfl,sm,el,eq,hb⟩ ?_ ?_
  .rintro σ H3 ⟨bs,h,n,rfl,sm3,el3,eq3,hb3⟩;refine⟨_,rfl,_,_,rfl,rfl,_,rfl,xB (λh0=>?_) (λh0=>?_)⟩
   .refine⟨_,rfl,_,rfl,_,_,rfl,rfl,_,rfl,xB (λh1=>?_) (λh1=>?_)⟩
    .obtain⟨h',rfl⟩:∃ h',h=h'+1:=⟨h - 1,by lia⟩;refine⟨_,rfl,.inl ⟨rfl,_,SqL.of el3⟩,_,rfl,l,_,_,rfl,rfl,el3,(by rw[aEN];exact bV (by lia)),?_⟩;refine⟨_,rfl,_,_,rfl,rfl,_,rfl,_,_,rfl,rfl,?_⟩;rw[aAl h1]at eq3;refine⟨⟨bs++[n],h',n+1,?_,Same.upd' hl sm3,by rw[aJ,aE1];rfl,by rw[lw];exact eq3,by simp;lia⟩,?_⟩
     .have e1:((h'+1:Nat):Int) - 1=(h':Int):=by lia
      show [some (V.ref a),some (V.int c),some (V.ref l),some (V.int (((h'+1:Nat):Int) - 1)),some (V.int (n+1)),some (V.int p)]=_;rw[e1]
     .show (((h'+1:Nat):Int) - 1).toNat<((h'+1:Nat):Int).toNat
      lia
    .rw[xC (.inr (by lia))]at eq3;refine⟨wM H a l c row i p n,?_,?_⟩
     .refine⟨_,rfl,_,rfl,_,_,rfl,rfl,_,rfl,xB (λh2=>?_) (λh2=>?_)⟩
      .rw[b4 h2]at eq3;exact⟨_,rfl,_,_,rfl,rfl,bs,h+1,rfl,sm3,el3,eq3,by lia⟩
      .rw[b3 h2]at eq3;refine⟨_,rfl,.inl ⟨rfl,_,SqL.of el3⟩,_,rfl,l,_,_,rfl,rfl,el3,(by rw[aEN];exact bV (by lia)),?_⟩;exact⟨bs++[p],h,rfl,Same.upd' hl sm3,by rw[aJ,aE1];rfl,by rw[lw];exact eq3,by simp;lia⟩
     .rintro σ H4 ⟨bs,h,rfl,sm4,el4,eq4,hb4⟩;exact⟨_,rfl,_,_,rfl,rfl,bs,h,p+1,_,rfl,sm4,el4,eq4,hb4⟩
   .have h00:h=0:=by lia
    rw[xC (.inl h00)]at eq3;refine⟨wN H a l c row i p n,?_,?_⟩
    .refine⟨_,rfl,_,rfl,_,_,rfl,rfl,_,rfl,xB (λh2=>?_) (λh2=>?_)⟩
     .rw[b4 h2]at eq3;exact⟨_,rfl,_,_,rfl,rfl,bs,h+1,rfl,sm3,el3,eq3,by lia⟩
     .rw[b3 h2]at eq3;refine⟨_,rfl,.inl ⟨rfl,_,SqL.of el3⟩,_,rfl,l,_,_,rfl,rfl,el3,(by rw[aEN];exact bV (by lia)),?_⟩;exact⟨bs++[p],h,rfl,Same.upd' hl sm3,by rw[aJ,aE1];rfl,by rw[lw];exact eq3,by simp;lia⟩
    .rintro σ H4 ⟨bs,h,rfl,sm4,el4,eq4,hb4⟩;exact⟨_,rfl,_,_,rfl,rfl,bs,h,p+1,_,rfl,sm4,el4,eq4,hb4⟩
  .intro σ H3 Q1 Q2 hq h;obtain⟨x,e,i1,j1,e1,e2,b1,e3,h⟩:=h;refine⟨x,e,i1,j1,e1,e2,b1,e3,?_⟩;cases b1 with
   | false=>exact hq _ _ h
   | true =>
    obtain⟨x,e,y,e',i2,j2,e4,e5,b2,e6,h⟩:=h;exact⟨x,e,y,e',i2,j2,e4,e5,b2,e6,hq _ _ h⟩
 .rintro σ H2 ⟨bs,h,n,v,rfl,sm,el,eq,hb⟩;rw[aEN]at eq hb;rw[List.drop_length]at eq;refine⟨_,rfl,_,rfl,_,rfl,by lia,by lia,sA (lo:=0) (n:=h) (λi ys H3=>H3=H2/\ys=((List.range i).map (λ(k:Nat)=>n+(k:Int))).map V.int) ⟨rfl,rfl⟩ ?_ ?_ ?_⟩
  .rintro i ys H3 hi ⟨rfl,rfl⟩;simp only[aEN,List.length_range];exact bV (by lia)
  .rintro i ys H3 hi ⟨rfl,rfl⟩;refine⟨_,rfl,_,rfl,_,_,rfl,rfl,rfl,?_⟩;rw[List.range_succ,aE1,aE1];simp
  .rintro ys H3 ⟨rfl,rfl⟩ D hD;have smD:=Same.upd (o:=.lst (((List.range h).map (λ(k:Nat)=>n+(k:Int))).map V.int)) hD;refine⟨l,D,_,_,rfl,rfl,smD _ _ el,aJ,?_,λq hq=>?_⟩
   .simp only[aEN,List.length_range];exact bT (by lia)
   .rw[<- aE1];have smH:=sm.trans smD;refine k q _ (smH.free hq) (Same.upd' (smH.free hq) smH) ?_;rw[aJ,<- eq];rfl
def K8 (F:Fun K "walked" "walked" lB f fd) (B:Bt mg) (X:cG K mg) (F_look_row:dU P w K mg base "look_row" 1 ["row"] nS) (F_look_creel:cQ P w K mg base "look_creel" 4 ["creel"] (kZ X)):FnOk P w K mg base (CXR P w) 5 f fd ["row","creel"] (nZ X):=by
 refine F.gX dI λcdv A outer s H vs Q E hfr hr h=>?_;obtain⟨l,row,c,rfl,hl,hrw,hc,k⟩:=h;refine⟨_,(aE (bG (cJ F_look_row hr rfl (aA (pv 0) aB))) (aE (bG (cC F_look_creel hr rfl (cK hfr) (aA (pv 1) aB))) (aE bK (aE bK (aE bK (aE bK (aI bK))))))),?_⟩
 try dsimp only[cN,cO]
 exact⟨_,rfl,l,row,rfl,.inl ⟨trivial,hl⟩,⟨hrw.1,hrw.2⟩,_,rfl,c,rfl,(λz=>by lia),λ_=>k.now⟩
abbrev mC:Stmt:=top 29
def K9:FnScope ["row","creel"] ["row","creel"] (aG mC):=.of
def C8 (F:Fun K "carried" "carried" mC f fd) (B:Bt mg) (X:cG K mg) (z:cQ P w K mg base "walked" 5 ["row","creel"] (nZ X)):FnOk P w K mg base (CXR P w) 6 f fd ["row","creel"] (nZ X):=by
 refine F.gX K9 λM A outer s H vs Q E J O h=>?_;obtain⟨l,row,c,rfl,U,L,Y,k⟩:=h;refine⟨_,(aI (bA (aZ bE (by rfl) B.len gV (aA (eO ["place"] ["row"] [0] rfl (.of (show dZ (aG mC) _ ["row","creel"] [0] ["row"]=true by decide +kernel)) (fL (cC z O rfl (cK J) (aA (pv 0) (aA (pv 1) aB)))) (λ_ _ _=>(aS (i:=0) (show (["place","row"]:List Str).Nodup by decide +kernel) rfl (Or.inl rfl))) (eM (by decide)) (λ_ _ _=>P0 (aV (uN K rfl) (pv 0) (pv 1) (by with_unfolding_all rfl))) (λ_ _ _=>(pv 0))) aB)))),?_⟩
 try dsimp only[cN,cO]
 exact⟨_,rfl,_,rfl,l,row,c,rfl,U,L,Y,k⟩
abbrev aA0:Stmt:=top 88
def aCf:FnScope ["one","other","starts","ends","size","gains","offsets"] ["one","other"] (aG aA0):=.of
def aBO (F:Fun K "kin" "kin" aA0 f fd):FnOk P w K mg base (CXR P w) 6 f fd ["one","other"] Y5 :=
 F.okX aCf (λ_ _ _ _ h=>h.elim) λ_ _ _ _ _ _ _ _ _ _ h=>h.elim
abbrev tV:Stmt:=top 47
def Y9:FnScope ["one","other","gap"] ["one","other","gap"] (aG tV):=.of
def L3 (F:Fun K "behind" "behind" tV f fd) (B:Bt mg) (C:Cn mg tC) (X:cG K mg) (F_look_row:dU P w K mg base "look_row" 1 ["row"] nS)
 (R_Bare:RA0 P w K mg base "Bare" X.bare) (R_TooMany:RA0 P w K mg base "TooMany" X.many) (R_TooNear:RA0 P w K mg base "TooNear" X.near):FnOk P w K mg base (CXR P w) 5 f fd ["one","other","gap"] (K3 X):=by
 refine F.gX Y9 λcdv A outer s H vs Q E hfr hr h=>?_;refine⟨_,(aE (bG (cJ F_look_row hr rfl (aA (pv 0) aB))) (aE (bG (cJ F_look_row hr rfl (aA (pv 1) aB))) (aE (bM (PW.pt (yT (jM (cU (pv 0) (λ_=>rfl))) (rN (jM (cU (pv 1) (λ_=>rfl)))))) (aI (bX (dW hfr) R_Bare rfl rfl hr rfl (aA aP aB))) aW) (aE (bM (aV qB (bH dB (aZ bE (by rfl) B.len gV (aA (pv 0) aB)) (aZ bE (by rfl) B.len gV (aA (pv 1) aB))) (dJ (v:=.int 60) rfl C.MOST_STONES ⟨_,rfl⟩) (aY _)) (aI (bX (dW hfr) R_TooMany rfl rfl hr rfl (aA (lT (cB (fY (by decide)) (cB (pC (dJ (v:=.int 60) rfl C.MOST_STONES ⟨_,rfl⟩)) (cB (fY (by decide)) lS)))) aB))) aW) (aE (bM (aV nK (pv 2) (aZ bE (by rfl) B.len gV (aA (pv 1) aB)) (aY _)) (aI (bX (dW hfr) R_TooNear rfl rfl hr rfl (aA aP aB))) aW) (aI bK)))))),?_⟩;obtain⟨a,b,row,o,g,r,rfl,ha,hb,hr',hL,k⟩:=h;refine⟨_,rfl,a,row,rfl,.inl ⟨trivial,ha⟩,hr'.1,_,rfl,b,o,rfl,.inr hb,hr'.2,?_⟩;have ne:∀ {r:List Int},r≠[]->(!(r.map V.int).isEmpty)=true:=λ{r} h=>by cases r;exact absurd rfl h;rfl
 cases hL with
 | bare =>
  refine⟨_,rfl,_,.inl ⟨_,SqL.of ha,rfl⟩,?_⟩;cases row with
  | nil=>exact rd0 k.now
  | cons x row=>exact⟨_,rfl,false,.inr (.inl ⟨_,SqT.of hb,rfl⟩),rd0 k.now⟩
 | many h1 h2 hl =>
  refine⟨_,rfl,true,.inl ⟨_,SqL.of ha,(ne h1).symm⟩,_,rfl,true,.inr (.inl ⟨_,SqT.of hb,(ne h2).symm⟩),?_⟩;refine⟨_,rfl,a,_,rfl,.inl (SqL.of ha),_,rfl,b,_,rfl,.inr (SqT.of hb),_,_,rfl,rfl,_,_,rfl,rfl,_,rfl,iJ (by rw[aEN,aEN];lia) ⟨60,rfl,by decide,by decide,λ_=>rd0 k.now⟩⟩
 | near h1 h2 hl hg =>
  refine⟨_,rfl,true,.inl ⟨_,SqL.of ha,(ne h1).symm⟩,_,rfl,true,.inr (.inl ⟨_,SqT.of hb,(ne h2).symm⟩),?_⟩;exact⟨_,rfl,a,_,rfl,.inl (SqL.of ha),_,rfl,b,_,rfl,.inr (SqT.of hb),_,_,rfl,rfl,_,_,rfl,rfl,_,rfl,cW (by rw[aEN,aEN];lia) ⟨_,rfl,_,rfl,b,_,rfl,.inr (SqT.of hb),_,_,rfl,rfl,_,rfl,iJ (by rw[aEN];exact hg) (rd0 k.now)⟩⟩
abbrev dG:Stmt:=top 60
def bZ:FnScope ["rested","walks","row","creel","count","walk"] ["rested","walks"] (aG dG):=.of
def aBP (F:Fun K "row_behind_walks" "row_behind_walks" dG f fd) (B:Bt mg) (C3:Cn3 mg t1 t2 t3) (L:dU P w K mg base "walked" 2 ["row","creel"] sI):FnOk P w K mg base CX0 6 f fd ["rested","walks"] K2:=by
 refine F.g bZ λbp A outer s H vs Q E hr h=>?_;obtain⟨t,d,r,ws,r',rfl,ht,hd,hw,k⟩:=h;have ay:ws=[]\/ws=[(1,7)]:=by
  cases hw with
  | zero=>exact .inl rfl
  | seven=>exact .inr rfl
 have az:∀ q∈ws,q.1=1/\0<=q.2:=λq hq=>by
  rcases ay with rfl | rfl
  .cases hq
  .rw[aEg.mp hq];exact⟨rfl,by decide⟩
 have bq:ws.length<=1:=by
  rcases ay with rfl | rfl
  .exact ka _
  .exact ah _
 have bd:∀ {i:Nat} {ky:Key} {x:V},(kvW ws)[i]?=some (ky,x)->∃ q,ws[i]?=some q/\ky=.inl q.1/\x=.int q.2:=λ{i ky x} e=>by
  rw[aEa]at e;obtain⟨q,h1,h2⟩:=aEk.mp e;cases h2;exact⟨q,h1,rfl,rfl⟩
 refine⟨_,(aE (bM (aV qB (aZ (l7 rfl) (by rfl) B.sum k9 (aA (aAp (eO ["count"] [] [] rfl (.of (show dZ (aG dG) _ ["rested","walks","row","creel","count","walk"] [] []=true by decide +kernel)) (W3 (pv 1)) (λ_ _ _=>(aS (i:=0) (show (["count"]:List Str).Nodup by decide +kernel) rfl (Or.inl rfl))) (eM (by decide)) (λ_ _ _=>eK) (λ_ _ _=>(aZ vY (by rfl) B.abs vX (aA (pv 0) aB))))) aB)) (dJ (v:=.int 10) rfl C3.FEW_WALKS ⟨_,rfl⟩) (aY _)) (aI bK) aW) (aE (bL (i:=2) bZ.nd rfl (Or.inl rfl) (cM wY (by rfl) B.list vT (aA (pv 0) aB))) (aE (aAt (iT jy rfl (n8 (pv 1)) (fW (n:=2) rfl (aX (aS (i:=3) bZ.nd rfl (Or.inl rfl)) (aX (aS (i:=4) bZ.nd rfl (Or.inl rfl)) cT))) (aI (iT jy rfl (lQ rfl B.range (aA (aZ vY (by rfl) B.abs vX (aA (pv 4) aB)) aB)) (aS (i:=5) bZ.nd rfl (Or.inl rfl)) (aI (bL (i:=2) bZ.nd rfl (Or.inl rfl) (oZ (iZ (aV qB (pv 4) aQ (aY _)) (cJ L hr rfl (aA (pv 2) (aA (pv 3) aB))) K1)))))))) (aI (bA (pv 2)))))),?_⟩
 try dsimp only[cN,cO]
 refine⟨d,kvW ws,hd,_,rfl,d,kvW ws,rfl,hd,λod=>?_⟩;have gd:SameD d H (upd H d (.frz od (.dK (kvW ws)))):=SameD.frz;have Y:(upd H d (.frz od (.dK (kvW ws)))) d=some (.frz od (.dK (kvW ws))):=aJ;generalize upd H d (.frz od (.dK (kvW ws)))=H1 at gd Y ⊢;refine zN (d:=d) (od:=od) (kvs:=kvW ws) (λi ys J=>J=H1/\ys=((ws.take i).map (·.2)).map V.int) ⟨rfl,rfl⟩ ?_ ?_ ?_
 .rintro i ys J hi ⟨rfl,rfl⟩;exact⟨Y,by simp only[aEN,aE2];exact bV (by lia)⟩
 .rintro i ky x ys J hx ⟨rfl,rfl⟩;obtain⟨q,hq,rfl,rfl⟩:=bd hx;have br:=(az q (aEY hq)).2;refine⟨_,rfl,q.2,rfl,rfl,?_⟩;rw[List.take_succ,hq,b3 (by lia)];simp
 .rintro ys J ⟨rfl,rfl⟩ D hD;have av:D≠d:=λz=>by rw[z,Y]at hD;cases hD
  refine⟨od,by rw[aL (lq av)];exact Y,D,ws.map (·.2),rfl,by rw[aL av,aJ,aEN,aE0],?_⟩;have g4:Same H (upd (upd J D (.lst (((ws.take (kvW ws).length).map (·.2)).map V.int))) d (.dK (kvW ws))):=SameD.thaw hd (gd.then (Same.upd hD));generalize upd (upd J D (.lst (((ws.take (kvW ws).length).map (·.2)).map V.int))) d (.dK (kvW ws))=H4 at g4 ⊢;clear gd Y av hD;refine⟨_,_,rfl,rfl,_,rfl,cW (λa_=>?_) ?_⟩
  .cases hw with
   | zero=>exact absurd a_ (show ¬ (10:Int)<0 by decide)
   | seven=>exact absurd a_ (show ¬ (10:Int)<7 by decide)
  .refine⟨_,rfl,t,_,rfl,(ht.same g4).sq,λl0 aw=>?_⟩;have g5:=Same.upd (o:=.lst (r.map V.int)) aw;have ba:(upd H4 l0 (.lst (r.map V.int))) l0=some (.lst (r.map V.int)):=aJ;generalize upd H4 l0 (.lst (r.map V.int))=H5 at g5 ba ⊢;have t5:=g4.trans g5;have M:H l0=none:=g4.free aw;clear g4 g5 aw;refine⟨d,kvW ws,t5 _ _ hd,_,rfl,d,kvW ws,rfl,t5 _ _ hd,λod=>?_⟩;have gd:SameD d H (upd H5 d (.frz od (.dK (kvW ws)))):=λb o n e=>by rw[aL n];exact t5 _ _ e
   have Y:(upd H5 d (.frz od (.dK (kvW ws)))) d=some (.frz od (.dK (kvW ws))):=aJ;have bf:l0≠d:=λe=>by rw[e,hd]at M;cases M
   have bb:(upd H5 d (.frz od (.dK (kvW ws)))) l0=some (.lst (r.map V.int)):=by rw[aL bf];exact ba
   generalize upd H5 d (.frz od (.dK (kvW ws)))=H6 at gd Y bb ⊢;refine W6 (d:=d) (od:=od) (kvs:=kvW ws) (λi σ J=>∃ (l:Addr) (v3 v4 v5:Option V),σ=[some (.ref t),some (.ref d),some (.ref l),v3,v4,v5]/\SameD d H J/\J d=some (.frz od (.dK (kvW ws)))/\H l=none/\J l=some (.lst ((if i=0 then r else r').map V.int)))
    ⟨l0,none,none,none,rfl,gd,Y,M,bb⟩ (λi σ J _ ⟨_,_,_,_,_,_,e,_⟩=>e) ?_ ?_
   .rintro i ky x σ J t' hx ⟨l,v3,v4,v5,rfl,sm,e3,O,el⟩ bg;cases hw with
    | zero=>simp at hx
    | @seven p =>
     obtain rfl:i=0:=by
      have:=(aEl.mp hx).1;have:i<1:=this
      lia
     cases hx;have g7:=Same.upd (o:=.tup [V.int 1,V.int 7]) bg;have et:(upd J t' (.tup [V.int 1,V.int 7])) t'=some (.tup [V.int 1,V.int 7]):=aJ;show aA9 _ _ _ _ _ (upd J t' (.tup [V.int 1,V.int 7])) _;generalize upd J t' (.tup [V.int 1,V.int 7])=H7 at g7 et ⊢;have bh:=sm.then g7;have e7:=g7 _ _ e3;have bi:=g7 _ _ el;refine⟨t',_,rfl,SqT.of et,rfl,_,_,rfl,_,_,rfl,rfl,?_⟩;refine⟨_,rfl,7,rfl,_,rfl,by decide,by decide,gO (lo:=0) (n:=7) (λj σ H4=>∃ (l:Addr) (v5:Option V),σ=[some (.ref t),some (.ref d),some (.ref l),some (.int 1),some (.int 7),v5]/\SameD d H H4/\H4 d=some (.frz od (.dK (kvW [(1,7)])))/\H l=none/\H4 l=some (.lst [.int (p+j)])) ⟨l,v5,rfl,bh,e7,O,by rw[bi];show some (HO.lst [V.int p])=some (.lst [V.int (p+((0:Nat):Int))]);rw[show p+((0:Nat):Int)=p by lia]⟩ ?_ ?_⟩
     .rintro j σ H4 hj ⟨l4,w5,rfl,U,e4,au,ax⟩;refine⟨λv H'=>∃ l5,v=V.ref l5/\SameD d H H'/\H' d=some (.frz od (.dK (kvW [(1,7)])))/\H l5=none/\H' l5=some (.lst [.int (p+(j+1:Nat))]),⟨_,rfl,_,_,rfl,rfl,_,rfl,iJ (by decide) ?_⟩,?_⟩
      .refine⟨_,rfl,_,rfl,l4,[p+j],1,rfl,ax,mj _ _,(show 1<=60 by decide),by decide,λl5 H5 bj g5 e5=>⟨l5,rfl,U.then g5,g5 _ _ e4,U.free e4 bj,?_⟩⟩;rw[Y6]at e5;rw[e5,show p+(j:Int)+1=p+((j+1:Nat):Int)by lia];rfl
      .rintro v H5 ⟨l5,rfl,bn,e5,bc,bo⟩;exact⟨l5,_,rfl,bn,e5,bc,bo⟩
     .rintro σ H4 ⟨l4,w5,rfl,U,e4,au,ax⟩;exact⟨l4,_,_,_,rfl,U,e4,au,ax⟩
   .rintro σ J ⟨l,v3,v4,v5,rfl,sm,e3,O,el⟩;have nl:l≠d:=λe=>by rw[e,hd]at O;cases O
    refine⟨od,e3,_,rfl,k l _ O (SameD.thaw hd sm) (by rw[aL nl,el];congr 3;cases hw <;> rfl)⟩
abbrev gF:Stmt:=bU (top 51) 0
def pP:FnScope ["self","entries","rests","course"] ["self","entries","rests","course"] (aG gF):=.of
def yB (G:Hc K) (F:Fun K "__init__" "Road.__init__" gF f fd):FnOk P w K mg base CX0 1 f fd ["self","entries","rests","course"] (lW G):=by
 refine F.g pP λz A outer s H vs Q E L h=>?_;obtain⟨x,dx,M,O,U,rfl,J,k⟩:=h;refine⟨_,(aE (dR (pv 0) (pv 1) rfl) (aE (dR (pv 0) (pv 2) rfl) (aI (dR (pv 0) (pv 3) rfl)))),?_⟩
 try dsimp only[cN,cO]
 refine⟨_,rfl,_,rfl,x,_,dx,_,rfl,J,G.rd,G.rEn,(show 0<1000 by decide),?_⟩;refine⟨_,rfl,_,rfl,x,_,dx,_,rfl,aJ,G.rd,G.rRe,(show 1<1000 by decide),?_⟩;refine⟨_,rfl,_,rfl,x,_,dx,_,rfl,aJ,G.rd,G.rCo,(show 2<1000 by decide),?_⟩;rw[iH,iH];exact k
abbrev eR:Stmt:=bU (top 52) 0
def nC:FnScope ["self","rested","walks","turned"] ["self","rested","walks","turned"] (aG eR):=.of
def tW (G:Hc K) (F:Fun K "__init__" "Course.__init__" eR f fd):FnOk P w K mg base CX0 1 f fd ["self","rested","walks","turned"] (mY G):=by
 refine F.g nC λz A outer s H vs Q E L h=>?_;obtain⟨x,dx,M,O,U,rfl,J,k⟩:=h;refine⟨_,(aE (dR (pv 0) (pv 1) rfl) (aE (dR (pv 0) (pv 2) rfl) (aI (dR (pv 0) (pv 3) rfl)))),?_⟩
 try dsimp only[cN,cO]
 refine⟨_,rfl,_,rfl,x,_,dx,_,rfl,J,G.cs,G.cRe,(show 0<1000 by decide),?_⟩;refine⟨_,rfl,_,rfl,x,_,dx,_,rfl,aJ,G.cs,G.cWa,(show 1<1000 by decide),?_⟩;refine⟨_,rfl,_,rfl,x,_,dx,_,rfl,aJ,G.cs,G.cTu,(show 2<1000 by decide),?_⟩;rw[iH,iH];exact k
abbrev fJ:Stmt:=bU (top 86) 0
def oB:FnScope ["self"] ["self"] (aG fJ):=.of
def uU (G:Hc K) (F:Fun K "__init__" "House.__init__" fJ f fd):FnOk P w K mg base CX0 1 f fd ["self"] (jI G):=by
 refine F.g oB λau A outer s H vs Q E hr h=>?_;obtain⟨x,dx,rfl,Y,k⟩:=h;refine⟨_,(aE (dR (pv 0) nN rfl) (aE (dR (pv 0) (kJ aB) rfl) (aI (dR (pv 0) (kJ aB) rfl)))),?_⟩
 try dsimp only[cN,cO]
 refine λd hd=>?_;have nd:x≠d:=aU Y hd;have e1:(upd H d (.dK [])) x=some (.ins G.Hs dx []):=by rw[aL nd];exact Y
 refine⟨_,rfl,x,_,dx,_,rfl,e1,G.hs,G.hSt,(show 0<1000 by decide),?_⟩;refine⟨(show 0<=sizeLine by decide),λp hp=>?_⟩;have np:x≠p:=aU aJ hp;have z:=cV hp;have M:d≠p:=aU aJ z;refine⟨_,rfl,x,_,dx,_,rfl,(aL np).trans aJ,G.hs,G.hPa,(show 1<1000 by decide),?_⟩;refine⟨(show 0<=sizeLine by decide),λq hq=>?_⟩;have nq:x≠q:=aU aJ hq;have J:=cV hq;have O:p≠q:=aU aJ J;have L:=cV (cV J);have U:d≠q:=aU aJ L;refine⟨_,rfl,x,_,dx,_,rfl,(aL nq).trans aJ,G.hs,G.hAh,(show 2<1000 by decide),?_⟩;have:=k d p q hd (cV z) (cV L) M U O;rw[X7 nd np nq];exact this
abbrev pQ:Stmt:=top 59
def tX:FnScope ["course","row"] ["course"] (aG pQ):=.of
def C9 (G:Hc K) (F:Fun K "row_now" "row_now" pQ f fd) (B:Bt mg) (z:dU P w K mg base "row_behind_walks" 6 ["rested","walks"] K2):FnOk P w K mg base CX0 7 f fd ["course"] (tQ G):=by
 refine F.g tX λL A outer s H vs Q E M h=>?_;obtain⟨a,r,ws,O,rfl,⟨dx,t,d,h1,h2,h3⟩,hw,k⟩:=h;refine⟨_,(aE (bL (i:=1) tX.nd rfl (Or.inl rfl) (cJ z M rfl (aA (bP (pv 0) rfl) (aA (bP (pv 0) rfl) aB)))) (aI (bA (oZ (iZ (cU (bP (pv 0) rfl) (λ_=>rfl)) K1 (pv 1)))))),?_⟩
 try dsimp only[cN,cO]
 refine⟨_,rfl,a,_,dx,_,_,rfl,h1,G.cs,G.cRe,rfl,_,rfl,a,_,dx,_,_,rfl,h1,G.cs,G.cWa,rfl,t,d,r,ws,O,rfl,h2.nt,h3,hw,λl H1 U J Y=>?_⟩;refine⟨λv H'=>v=.ref l/\H'=H1,⟨_,rfl,a,_,dx,_,_,rfl,J _ _ h1,G.cs,G.cTu,rfl,false,by first | rfl | exact .inl rfl | exact .inr rfl,oW ⟨_,rfl,rfl,rfl⟩⟩,?_⟩;rintro v H2 ⟨rfl,rfl⟩;exact k l H2 U J Y
abbrev jU:Stmt:=top 62
def uV:FnScope ["row","place"] ["row","place"] (aG jU):=.of
def tY (F:Fun K "with_stone" "with_stone" jU f fd) (B:Bt mg) (C:Cn mg tC) (X:cG K mg) (J:RA0 P w K mg base "Laid" X.laid) (z:RA0 P w K mg base "TooMany" X.many):FnOk P w K mg base (CXR P w) 4 f fd ["row","place"] (tR X):=by
 refine F.gX uV λaw A outer s H vs Q E M hr h=>?_;refine⟨_,(aE (bM (aV V4 (pv 1) (pv 0) (by with_unfolding_all rfl)) (aI (bX (dW M) J rfl rfl hr rfl (aA aP aB))) aW) (aE (bM (aV N5 (aZ bE (by rfl) B.len gV (aA (pv 0) aB)) (dJ (v:=.int 60) rfl C.MOST_STONES ⟨_,rfl⟩) (aY _)) (aI (bX (dW M) z rfl rfl hr rfl (aA (lT (cB (fY (by decide)) (cB (pC (dJ (v:=.int 60) rfl C.MOST_STONES ⟨_,rfl⟩)) (cB (fY (by decide)) lS)))) aB))) aW) (aI (bA (aZ xE (by rfl) B.sorted zF (aA (bH wZ (pv 0) (kJ (aA (pv 1) aB))) aB)))))),?_⟩;obtain⟨a,row,p,O,rfl,Y,hR,kg,kb⟩:=h;refine⟨_,rfl,_,rfl,a,_,rfl,.inl (SqL.of Y),rfl,by simp[mM],_,rfl,?_⟩;rw[show (if false=true then !inV (V.int p) (row.map V.int)else inV (V.int p) (row.map V.int))=decide (p∈row) from zH _ _];generalize L:[V.int p]=us at hR;cases hR with
 | laid hp=>cases L;exact iJ hp (rd0 (kb _ rfl).now)
 | many hp hl =>
  cases L;refine cW hp ⟨_,rfl,a,_,rfl,.inl (SqL.of Y),_,_,rfl,rfl,_,rfl,iJ (by rw[aEN,hl];decide) ⟨60,rfl,by decide,by decide,λ_=>rd0 (kb _ rfl).now⟩⟩
 | @put p0 =>
  cases L;refine cW (by rw[aEg];lia) ?_;refine⟨_,rfl,a,_,rfl,.inl (SqL.of Y),_,_,rfl,rfl,_,rfl,cW (show ¬ ((1:Nat):Int)≥60 by decide) ?_⟩;refine⟨_,rfl,_,rfl,(show 1<=sizeLine by decide),λx hx=>bJ hx λH1 g1 ex=>?_⟩;refine⟨a,x,_,_,rfl,rfl,g1 _ _ Y,ex,bT (show 2<=10000 by decide),λy hy=>bJ hy λH2 g2 ey=>?_⟩;refine⟨y,[p0,p0+7],rfl,ey,(show 2<64 by decide),λl ms U au av=>?_⟩;obtain rfl:ms=[p0,p0+7]:=mS au av (.cons (λx hx=>by rw[aEg.mp hx];lia) (mj _ _));exact kg _ rfl l _ ((g1.trans g2).free U) ((g1.trans g2).trans (Same.upd U)) aJ
abbrev gG:Stmt:=top 63
def pR:FnScope ["row","place"] ["row","place"] (aG gG):=.of
def oF (F:Fun K "without_stone" "without_stone" gG f fd) (B:Bt mg) (X:cG K mg) (z:RA0 P w K mg base "NoStone" X.stone):FnOk P w K mg base (CXR P w) 4 f fd ["row","place"] (nB X):=by
 refine F.gX pR λL A outer s H vs Q E J M h=>?_;obtain⟨a,row,p,rfl,O,U,k⟩:=h;refine⟨_,(aE (bM (aV jP (pv 1) (pv 0) (by with_unfolding_all rfl)) (aI (bX (dW J) z rfl rfl M rfl (aA aP aB))) aW) (aI bK)),?_⟩
 try dsimp only[cN,cO]
 refine⟨_,rfl,_,rfl,a,_,rfl,.inl (SqL.of O),rfl,by simp[mM],_,rfl,?_⟩;rw[show (if true=true then !inV (V.int p) (row.map V.int)else inV (V.int p) (row.map V.int))=!decide (p∈row)by rw[b4 rfl,zH]];rw[aE7 U];exact F5 (rd0 k.now)
abbrev jV:Stmt:=top 61
def mU:FnScope ["row","entry","word"] ["row","entry"] (aG jV):=.of
def tZ (F:Fun K "row_behind" "row_behind" jV f fd) (B:Bt mg) (X:cG K mg) (J:cQ P w K mg base "with_stone" 4 ["row","place"] (tR X)) (z:cQ P w K mg base "without_stone" 4 ["row","place"] (nB X)) (L:cQ P w K mg base "behind" 5 ["one","other","gap"] (K3 X)):FnOk P w K mg base (CXR P w) 6 f fd ["row","entry"] (xY X):=by
 refine F.gX mU λaw A outer s H vs Q E M U h=>?_;refine⟨_,(aE (bL (i:=2) mU.nd rfl (Or.inl rfl) (cD cY (pv 1) aQ (λ_ _=>rfl))) (aE (bM (aV yZ (pv 2) aP (aY _)) (aI (bA (cC J U rfl (cK M) (aA (pv 0) (aA (cD cY (pv 1) aQ (λ_ _=>rfl)) aB))))) aW) (aE (bM (aV yZ (pv 2) aP (aY _)) (aI (bA (cC z U rfl (cK M) (aA (pv 0) (aA (cD cY (pv 1) aQ (λ_ _=>rfl)) aB))))) aW) (aI (bA (cC L U rfl (cK M) (aA (pv 0) (aA (cD cY (pv 1) aQ (λ_ _=>rfl)) (aA (cD cY (pv 1) aQ (λ_ _=>rfl)) aB))))))))),?_⟩;obtain⟨a,t,row,wd,us,O,rfl,Y,ht,hR,kg,kb⟩:=h;cases id hR with
 | put | laid | many=>exact⟨_,rfl,t,_,_,_,rfl,rfl,SqT.of ht,rfl,_,rfl,rfl,_,rfl,iJ rfl ⟨_,rfl,_,rfl,t,_,_,_,rfl,rfl,SqT.of ht,rfl,a,_,_,_,rfl,Y,hR,kg,kb⟩⟩
 | stone hp=>exact⟨_,rfl,t,_,_,_,rfl,rfl,SqT.of ht,rfl,_,rfl,rfl,_,rfl,cW (by decide +kernel) ⟨_,rfl,rfl,_,rfl,iJ rfl ⟨_,rfl,_,rfl,t,_,_,_,rfl,rfl,SqT.of ht,rfl,a,row,_,rfl,Y,hp,kb _ rfl⟩⟩⟩
 | @lay row o t2 g r au av hL=>exact⟨_,rfl,t,_,_,_,rfl,rfl,SqT.of ht,rfl,_,rfl,rfl,_,rfl,cW (by decide +kernel) ⟨_,rfl,rfl,_,rfl,cW (by decide +kernel) ⟨_,rfl,_,rfl,t,_,_,_,rfl,rfl,SqT.of ht,rfl,_,rfl,t,_,_,_,rfl,rfl,SqT.of ht,rfl,a,t2,row,o,g,r,rfl,Y,au,av,hL,kb _ rfl⟩⟩⟩
abbrev nD:Stmt:=top 58
def qN:FnScope ["course","creel","count","useful"] ["course","creel","count"] (aG nD):=.of
def yC (G:Hc K) (F:Fun K "add_walk" "add_walk" nD f fd) (B:Bt mg) (C:Cn mg tC) (X:cG K mg) (F_look_creel:cQ P w K mg base "look_creel" 4 ["creel"] (kZ X)):FnOk P w K mg base (CXR P w) 5 f fd ["course","creel","count"] (rG X G):=by
 refine F.okX qN (λvs H Q E h=>?_) (λcdv A outer s H vs Q E hfr hr h=>?_)
 .cases h <;> (subst_vars;rfl)
 .have hu1:=O8 hr;refine⟨_,(aE (bG (cC F_look_creel hr rfl (cK hfr) (aA (pv 1) aB))) (aE (bL (i:=3) qN.nd rfl (Or.inl rfl) (aZ (V1 rfl) (by rfl) B.min k6 (aA (pv 1) (aA (dJ (v:=.int 60) rfl C.MOST_STONES ⟨_,rfl⟩) aB)))) (aI (Q3 hu1 (bP (pv 0) rfl) (pv 3) (bH dB (n5 hu1 (bP (pv 0) rfl) (pv 3) aQ ⟨rfl,rfl,rfl,rfl⟩) (oZ (iZ (cU (bP (pv 0) rfl) (λ_=>rfl)) K1 (pv 2)))) rfl)))),?_⟩
  try dsimp only[cN,cO]
  rcases h with ⟨Hb,a,m,r,rfl,⟨sm,hba,dx,t,d,hbd,h1,h2,h3⟩,k⟩ | ⟨a,n,m,rfl,hn,k⟩
  rotate_left
  .exact⟨_,rfl,n,rfl,(λz=>by lia),λ_=>k.now⟩
  refine⟨_,rfl,1,rfl,λ_=>?_,λz=>absurd z (by decide)⟩;refine⟨_,rfl,_,_,rfl,?_⟩;rw[b3 (show ¬ (60:Int)<1 by decide)];refine⟨_,rfl,a,_,dx,_,_,rfl,h1,G.cs,G.cWa,rfl,d,rfl,.inl ⟨_,.inl h3⟩,_,rfl,_,DGet.k (k:=Sum.inl 1) h3,?_⟩;refine⟨λv H'=>v=.int m/\H'=H,⟨_,rfl,a,_,dx,_,_,rfl,h1,G.cs,G.cTu,rfl,false,by first | rfl | exact .inl rfl | exact .inr rfl,oW ⟨_,rfl,rfl,rfl⟩⟩,?_⟩;rintro v H' ⟨rfl,rfl⟩;refine⟨0,_,rfl,rfl,_,rfl,a,_,dx,_,_,rfl,h1,G.cs,G.cWa,rfl,_,rfl,d,_,rfl,DPut.k (k:=Sum.inl 1) h3 (bV (show 0<=10000 by decide)),?_⟩;rw[Int.zero_add];have nad:a≠d:=gQ h1 h3 (by intro z;cases z);refine k _ ⟨sm.upd' hbd,hba,dx,t,d,hbd,by rw[aL nad];exact h1,?_,aJ⟩;rcases h2 with ⟨n1,h2⟩ | h2
  .exact .inl ⟨n1,by rw[aL (gQ h2 h3 (by intro z;cases z))];exact h2⟩
  .exact .inr (by rw[aL (gQ h2 h3 (by intro z;cases z))];exact h2)
abbrev yD:Stmt:=top 57
def D0:FnScope ["course","entry","word"] ["course","entry"] (aG yD):=.of
def Z0 (X:cG K mg) (G:Hc K) (F:Fun K "go_on" "go_on" yD f fd) (B:Bt mg) (L:cQ P w K mg base "add_walk" 5 ["course","creel","count"] (rG X G)) (J:cQ P w K mg base "row_behind" 6 ["row","entry"] (xY X)) (M:dU P w K mg base "row_now" 7 ["course"] (tQ G)):FnOk P w K mg base (CXR P w) 8 f fd ["course","entry"] (rJ X G):=by
 refine F.gX D0 λbb A outer s H vs Q E ax hr h=>?_;obtain⟨Hb,a,t,r,ws,wd,us,O,rfl,hO,hv,hg,kg,kb⟩:=h;have sm:Same Hb H:=hO.1;have ht:=sm _ _ hv;refine⟨_,(aE (bL (i:=2) D0.nd rfl (Or.inl rfl) (cD cY (pv 1) aQ (λ_ _=>rfl))) (aI (bM (aV yZ (pv 2) aP (aY _)) (aI (bG (cC L hr rfl (cK ax) (aA (pv 0) (aA (cD cY (pv 1) aQ (λ_ _=>rfl)) (aA (cD cY (pv 1) aQ (λ_ _=>rfl)) aB)))))) (aI (bM (aV yZ (pv 2) aP (aY _)) (aI (dR (pv 0) (aBg (bP (pv 0) rfl)) rfl)) (aE (dR (pv 0) (cC J hr rfl (cK ax) (aA (cJ M hr rfl (aA (pv 0) aB)) (aA (pv 1) aB))) rfl) (aE (dR (pv 0) nN rfl) (aI (dR (pv 0) mL rfl))))))))),?_⟩
 try dsimp only[cN,cO]
 cases hg with
 | w0=>exact⟨_,rfl,t,_,_,_,rfl,rfl,SqT.of ht,rfl,_,rfl,rfl,_,rfl,iJ rfl ⟨_,rfl,_,rfl,t,_,_,_,rfl,rfl,SqT.of ht,rfl,_,rfl,t,_,_,_,rfl,rfl,SqT.of ht,rfl,.good Hb a _ _ rfl hO (kg _ rfl)⟩⟩
 | creel hc=>exact⟨_,rfl,t,_,_,_,rfl,rfl,SqT.of ht,rfl,_,rfl,rfl,_,rfl,iJ rfl ⟨_,rfl,_,rfl,t,_,_,_,rfl,rfl,SqT.of ht,rfl,_,rfl,t,_,_,_,rfl,rfl,SqT.of ht,rfl,.bad a _ _ rfl hc (kb _ rfl)⟩⟩
 | good hn hR =>
  obtain⟨_,au,dx,tr,d,bc,h1,h2,h3⟩:=id hO;refine⟨_,rfl,t,_,_,_,rfl,rfl,SqT.of ht,at0,_,rfl,rfl,_,rfl,cW hR.word.1 ⟨_,rfl,rfl,_,rfl,cW hR.word.2 ?_⟩⟩;refine⟨_,rfl,a,_,_,_,rfl,hO.at,hn,λl H1 hl g1 el=>?_⟩;refine⟨_,rfl,l,t,_,wd,us,_,rfl,el,g1 _ _ ht,hR.same (sm.trans g1),λq' eq l2 H2 ay g2 av=>?_,λref er=>nomatch er⟩;cases eq;have az:=g1.trans g2;have a_:l2≠a:=λz=>by rw[z,g1 _ _ h1]at ay;cases ay
  refine⟨_,rfl,a,_,dx,_,rfl,az _ _ h1,G.cs,G.cRe,(show 3<1000 by decide),?_⟩;refine λd2 Y=>?_;have aw:d2≠a:=λz=>by rw[z,aJ]at Y;cases Y
  have U:H2 d2=none:=by rw[aL aw]at Y;exact Y
  refine⟨_,rfl,a,_,dx,_,rfl,(aL (lq aw)).trans aJ,G.cs,G.cWa,(show 3<1000 by decide),?_⟩;refine⟨_,rfl,a,_,dx,_,rfl,aJ,G.cs,G.cTu,(show 3<1000 by decide),?_⟩;have ba:l2≠d2:=λz=>by rw[z,U]at av;cases av
  have s2:=sm.trans az;rw[iH];cases hR with
  | put=>exact kg _ rfl _ ⟨((s2.upd' au).upd' (s2.free U)).upd' au,au,dx,l2,d2,s2.free U,aJ,.inl ⟨mq _ _,by rw[aL a_,aL ba,aL a_];exact av⟩,by rw[aL aw,aJ];rfl⟩
 | bad hn hR =>
  refine⟨_,rfl,t,_,_,_,rfl,rfl,SqT.of ht,at0,_,rfl,rfl,_,rfl,cW hR.word.1 ⟨_,rfl,rfl,_,rfl,cW hR.word.2 ?_⟩⟩;exact⟨_,rfl,a,_,_,_,rfl,hO.at,hn,λl H1 hl g1 el=>⟨_,rfl,l,t,_,wd,us,_,rfl,el,g1 _ _ ht,hR.same (sm.trans g1),(λq' eq=>nomatch eq),λref er=>by cases er;exact(kb _ rfl).mono g1⟩⟩
abbrev pS:Stmt:=top 56
def L4:FnScope ["rests","number","entry"] ["rests","number","entry"] (aG pS):=.of
def D3 (F:Fun K "is_rest" "is_rest" pS f fd) (B:Bt mg) (L:Cn3 mg t1 t2 t3):FnOk P w K mg base CX0 1 f fd ["rests","number","entry"] (lY (K:=K)):=by
 refine F.g L4 λM A outer s H vs Q E O h=>?_;obtain⟨r,t,n,v,u,rfl,hq,ht,U,k⟩:=h;refine⟨_,(aI (bA (wR (fM N5 (pv 1) (bH dB (cD cY (cD rT (pv 0) (aBT b7 aQ) (λ_ _=>rfl)) aQ (λ_ _=>rfl)) (dJ (v:=.int 16) rfl L.REST_APART ⟨_,rfl⟩)) (aY _)) (wQ (fM jP (cD cY (pv 2) aQ (λ_ _=>rfl)) (bN (aA aP (aA aP aB))) (by with_unfolding_all rfl)))))),?_⟩
 try dsimp only[cN,cO]
 have z:∀ J,J (V.ref t) H->rIx K (.ref r) (.int (-1)) H J:=λJ q=>by
  rcases hq with hq | hq
  .exact .inl ⟨r,_,-1,_,rfl,rfl,hq,rfl,q⟩
  .exact .inr (.inl ⟨r,_,-1,_,rfl,rfl,hq,rfl,q⟩)
 exact⟨_,rfl,_,rfl,_,rfl,z _ ⟨t,_,_,_,rfl,rfl,SqT.of ht,rfl,_,_,rfl,rfl,_,_,rfl,rfl,_,rfl,cW (by lia) (k H (Same.refl _))⟩⟩
abbrev nE:Stmt:=top 53
def D5:FnScope ["row"] ["row"] (aG nE):=.of
def yE (G:Hc K) (F:Fun K "new_road" "new_road" nE f fd) (B:Bt mg) (J:iM P w K mg base "Road" G.Rd 1 ["self","entries","rests","course"] (lW G)) (z:iM P w K mg base "Course" G.Cs 1 ["self","rested","walks","turned"] (mY G)):FnOk P w K mg base CX0 3 f fd ["row"] (xW G):=by
 refine F.g D5 λax A outer s H vs Q E hr h=>?_;obtain⟨t,row,rfl,ht,k⟩:=h;refine⟨_,(aI (bA (sW J hr rfl (aA (bN aB) (aA (bN (aA (bN (aA aQ (aA (cM dH (by rfl) B.tuple eA (aA (pv 0) aB)) aB))) aB)) (aA (sW z hr rfl (aA (cM dH (by rfl) B.tuple eA (aA (pv 0) aB)) (aA nN (aA mL aB)))) aB)))))),?_⟩
 try dsimp only[cN,cO]
 refine⟨(show 0<=sizeLine by decide),λe he=>bJ he λH1 g1 ee=>?_⟩;refine⟨_,rfl,t,_,rfl,.inr ⟨SqT.of (g1 _ _ ht),(show 2<=sizeLine by decide),λx hx=>bJ hx λH2 g2 ex=>?_⟩⟩;refine⟨(show 1<=sizeLine by decide),λr U=>bJ U λH3 g3 er=>?_⟩;have t3:=(g1.trans g2).trans g3;refine⟨_,rfl,t,_,rfl,.inr ⟨SqT.of (t3 _ _ ht),λd hd=>bJ hd λH4 Y ed=>?_⟩⟩;refine λc dc hc au av=>aAJ G hc au av λH5 O ec=>?_;refine λa dx ha aw L=>aB5 G ha aw L λH6 M ea=>?_;have t6:=((t3.trans Y).trans O).trans M;have s2:=((g3.trans Y).trans O).trans M;exact k _ H6 t6 ⟨a,dx,e,r,c,x,t,[],rfl,ea,(g2.trans s2) _ _ ee,.nil,((Y.trans O).trans M) _ _ er,s2 _ _ ex,.inr (t6 _ _ ht),⟨dc,t,d,M _ _ ec,.inr (t6 _ _ ht),(O.trans M) _ _ ed⟩⟩
abbrev jW:Stmt:=top 54
def iU:FnScope ["road","entry","course","entries"] ["road","entry"] (aG jW):=.of
def uA (X:cG K mg) (G:Hc K) (F:Fun K "with_entry" "with_entry" jW f fd) (B:Bt mg) (B6:Bt6 mg) (U:iM P w K mg base "Road" G.Rd 1 ["self","entries","rests","course"] (lW G)) (L:iM P w K mg base "Course" G.Cs 1 ["self","rested","walks","turned"] (mY G))
 (M:cQ P w K mg base "go_on" 8 ["course","entry"] (rJ X G)) (J:dU P w K mg base "is_rest" 1 ["rests","number","entry"] (lY (K:=K))):FnOk P w K mg base (CXR P w) 9 f fd ["road","entry"] (oA X G):=by
 refine F.gX iU λbq A outer s H vs Q E bd hr h=>?_;obtain⟨v,x,D,wd,vs,O,rfl,⟨a,dx,en,re,c,r0,t0,us,rfl,ha,bf,au,av,aw,hf,⟨dc,tr,d,h1,h2,h3⟩⟩,hx,hg,hl,kg,kb⟩:=h;have br:us.length=0:=by rw[au.length,hl];rfl
 refine⟨_,(aE (bL (i:=2) iU.nd rfl (Or.inl rfl) (sW L hr rfl (aA (bP (bP (pv 0) rfl) rfl) (aA (cM sX (by rfl) B6.dict sf (aA (bP (bP (pv 0) rfl) rfl) aB)) (aA (bP (bP (pv 0) rfl) rfl) aB))))) (aE (bG (cC M hr rfl (cK bd) (aA (pv 2) (aA (pv 1) aB)))) (aE (bL (i:=3) iU.nd rfl (Or.inl rfl) (bH nP (bP (pv 0) rfl) (bN (aA (pv 1) aB)))) (aE (bM (cU (cJ J hr rfl (aA (bP (pv 0) rfl) (aA (aZ bE (by rfl) B.len gV (aA (pv 3) aB)) (aA (pv 1) aB)))) (λ_=>rfl)) (aI bK) aW) (aI (bA (sW U hr rfl (aA (pv 3) (aA (bP (pv 0) rfl) (aA (pv 2) aB)))))))))),?_⟩
 try dsimp only[cN,cO]
 refine⟨_,rfl,a,_,dx,_,_,rfl,ha,G.rd,G.rCo,rfl,c,_,dc,_,_,rfl,h1,G.cs,G.cRe,rfl,_,rfl,a,_,dx,_,_,rfl,ha,G.rd,G.rCo,rfl,c,_,dc,_,_,rfl,h1,G.cs,G.cWa,rfl,d,_,rfl,h3,λd2 ax=>bJ ax λH1 g1 bg=>?_⟩;refine⟨_,rfl,a,_,dx,_,_,rfl,g1 _ _ ha,G.rd,G.rCo,rfl,c,_,dc,_,_,rfl,g1 _ _ h1,G.cs,G.cTu,rfl,λc2 bh ay az a_=>aAJ G ay az a_ λH2 g2 bi=>?_⟩;have Y:=g1.trans g2;refine⟨_,rfl,_,rfl,H,c2,x,D.row,D.ws,wd,vs,O,rfl,⟨Y,g1.free ay,bh,tr,d2,ax,bi,h2.same Y,g2 _ _ bg⟩,hx,hg,λq hq H3 hO=>?_,λref hr=>(kb ref hr).mono Y⟩;have g3:Same H H3:=hO.1;subst hq;obtain⟨is,rfl⟩:=hg.ints;refine⟨_,rfl,a,_,dx,_,_,rfl,g3 _ _ ha,G.rd,G.rEn,rfl,_,rfl,(show 1<=sizeLine by decide),λp hp=>bJ hp λH4 g4 ep=>?_⟩;have t4:=g3.trans g4;refine⟨en,p,us,[.ref x],rfl,rfl,t4 _ _ bf,ep,bT (by rw[ju];lia),λba H5 g5 bb=>?_⟩;have t5:=t4.trans g5;refine⟨_,rfl,a,_,dx,_,_,rfl,t5 _ _ ha,G.rd,G.rRe,rfl,_,rfl,ba,_,rfl,.inr (SqT.of bb),_,rfl,re,r0,_,.ref x,_,rfl,.inr (SqT.of (t5 _ _ av)),t5 _ _ aw,by rw[aEW,ju];lia,λH6 g6=>?_⟩;have t6:=t5.trans g6;have q6:=(g4.trans g5).trans g6;refine⟨false,by first | rfl | exact .inl rfl | exact .inr rfl,oW ?_⟩;refine⟨_,rfl,_,rfl,a,_,dx,_,_,rfl,t6 _ _ ha,G.rd,G.rRe,rfl,_,rfl,λx2 bj bn bc bo=>aB5 G bn bc bo λH7 g7 bp=>?_⟩;have t7:=t6.trans g7;have k7:Kq G H H7:=.same t7;exact kg q rfl is rfl _ H7 t7 ⟨x2,bj,ba,re,c2,r0,t0,_,rfl,bp,(g6.trans g7) _ _ bb,Paired.append' (Paired.mapP au λ_ _ z=>z.kq k7) (.cons ⟨x,rfl,t7 _ _ hx⟩ .nil),t7 _ _ av,t7 _ _ aw,xV k7 hf,(hO.same (q6.trans g7)).at⟩
abbrev jX:Stmt:=top 55
def eF:FnScope ["road","at","entries","rests","start","rested","course","number"] ["road","at","entries"] (aG jX):=.of
def yF (X:cG K mg) (XC:aCW X) (G:Hc K) (F:Fun K "with_log" "with_log" jX f fd) (B:Bt mg) (L:iM P w K mg base "Course" G.Cs 1 ["self","rested","walks","turned"] (mY G))
 (M:lX P w K mg base "Clash" X.clash ["self","at"] (aAB "Clash" X.clash)) (U:cQ P w K mg base "go_on" 8 ["course","entry"] (rJ X G)) (J:dU P w K mg base "is_rest" 1 ["rests","number","entry"] (lY (K:=K))):FnOk P w K mg base (CXR P w) 9 f fd ["road","at","entries"] (tS X G):=by
 refine F.gX eF λbv A outer s H vs Q E bh hr h=>?_;obtain⟨v,x,us,⟨f0,ents,row,ws⟩,p0,rfl,⟨a,dx,en,re,c,r0,t0,bw,rfl,ha,bx,bu,ay,bi,hf,bz⟩,av,hx,az,kb⟩:=h;have av:f0=[p0]:=av;subst av;have a_:us.length=2:=az.length;refine⟨_,(aE (P3 (i:=3) ["number","row"] ["at"] [1] rfl eF.nd rfl rfl (.of (show dZ (aG jX) _ ["road","at","entries","rests","start","rested","course","number"] [1] ["at"]=true by decide +kernel)) (aBj (bP (pv 0) rfl)) (λ_ _ _=>(P7 (n:=2) K rfl rfl (aX (aS (i:=0) (show (["number","row","at"]:List Str).Nodup by decide +kernel) rfl (Or.inl rfl)) (aX (aS (i:=1) (show (["number","row","at"]:List Str).Nodup by decide +kernel) rfl (Or.inl rfl)) cT)))) (j4 (nM (by decide) (nM (by decide) P2))) (λ_ _ _=>P0 (aV N4 (pv 0) (pv 2) (aY _))) (λ_ _ _=>(bN (aA (pv 0) (aA (pv 1) aB)))) (by first | rfl | decide +kernel)) (aE (eZ (cD eI (pv 3) (aBT b7 aQ) (λ_ _=>rfl)) (fW (n:=2) rfl (aX (aS (i:=4) eF.nd rfl (Or.inl rfl)) (aX (aS (i:=5) eF.nd rfl (Or.inl rfl)) cT)))) (aE (bL (i:=6) eF.nd rfl (Or.inl rfl) (sW L hr rfl (aA (pv 5) (aA nN (aA mL aB))))) (aE (iT aB4 rfl (lR rfl B.range (aA (pv 4) (aA (aZ bE (by rfl) B.len gV (aA (pv 2) aB)) aB))) (aS (i:=7) eF.nd rfl (Or.inl rfl)) (aE (aAy ⟨rfl,rfl,rfl⟩ (aAF (aAE U hr rfl (λ_=>(aA (pv 6) (aA (cD (aAj (K:=K) rfl) (pv 2) (pv 7) (λ_ _=>rfl)) aB))))) (aAR (i:=7) (aBD bh) M rfl hr rfl rfl (Or.inl rfl) rfl X.m_laid rfl X.m_stone)) (aI (bM (cU (cJ J hr rfl (aA (pv 3) (aA (bH dB (pv 7) aQ) (aA (cD cY (pv 2) (pv 7) (λ_ _=>rfl)) aB)))) (λ_=>rfl)) (aI (bG (kF aEh aEi aEj fE (pv 3) (aA (bN (aA (bH dB (pv 7) aQ) (aA (bP (pv 6) rfl) aB))) aB)))) aW)))) (aI bK))))),?_⟩
 try dsimp only[cN,cO]
 refine⟨_,rfl,a,_,dx,_,_,rfl,ha,G.rd,G.rRe,rfl,re,rfl,⟨_,SqT.of ay⟩,aAI (K:=K) (a:=re) (xs:=[.ref r0]) (λi ys H2=>Same H H2/\(i=0/\ys=[]\/i=1/\∃ p,ys=[.ref p]/\H2 p=some (.tup [.int 0,.ref t0]))) ⟨Same.refl _,.inl ⟨rfl,rfl⟩⟩ ?_ ?_ ?_⟩
 .rintro i ys H2 hi ⟨g,h⟩;refine⟨SqT.of (g _ _ ay),?_⟩;rcases h with ⟨_,rfl⟩ | ⟨_,p,rfl,_⟩
  .exact bV (show 0<=10000 by decide)
  .exact bV (show 1<=10000 by decide)
 .rintro i y ys H2 hi ⟨g,h⟩;have bj:i<1:=(aEl.mp hi).1;rcases h with ⟨rfl,rfl⟩ | ⟨rfl,_⟩
  case inr=>exact absurd bj (by decide)
  cases hi;refine⟨r0,_,rfl,SqT.of (g _ _ bi),rfl,_,_,rfl,_,_,rfl,rfl,_,rfl,_,rfl,_,_,rfl,rfl,_,rfl,?_⟩;rw[b4 (by decide)];exact⟨_,rfl,_,rfl,(show 2<=sizeLine by decide),λp hp=>⟨g.trans (Same.upd hp),.inr ⟨rfl,p,rfl,aJ⟩⟩⟩
 .rintro ys H2 ⟨g2,h⟩ D hD;rcases h with ⟨z,_⟩ | ⟨_,lt,rfl,ak⟩
  .cases z
  refine bJ hD λH3 g3 eD=>?_;refine⟨_,rfl,_,rfl,D,_,_,_,rfl,rfl,SqL.of eD,rfl,lt,_,rfl,SqT.of (g3 _ _ ak),rfl,_,_,rfl,_,_,rfl,rfl,?_⟩;refine⟨_,rfl,λd hd=>bJ hd λH4 g4 ed=>?_⟩;refine λc2 bn ba bb bc=>aAJ G ba bb bc λH5 g5 bo=>?_;have bp:=(g3.trans g4).trans g5;have t5:=g2.trans bp;have bd:Same H3 (wo [c2,d] H5):=aD4 (g4.trans g5) λy hy=>by
   rcases aEm.mp hy with e | hy
   .rw[e];exact g4.free ba
   .rw[aEg.mp hy];exact hd
  have aw:=(g2.trans g3).trans bd;refine⟨_,rfl,_,rfl,x,_,rfl,.inr (SqT.of (t5 _ _ hx)),_,_,rfl,⟨by decide,by decide,by lia,by rw[a_];decide⟩,gO (lo:=0) (λi σ H'=>∃ v7,σ=[some (.ref a),some (.int 0),some (.ref x),some (.ref D),some (.int 0),some (.ref t0),some (.ref c2),v7]/\i<=1/\CO5 G (wo [c2,d] H5) H' c2 [p0] (wsN i))
   ⟨none,rfl,ka _,T6,B4 (by simp),bn,t0,d,B4 (by simp),bo,hf.same t5,g5 _ _ ed⟩ ?_ ?_⟩
  .rintro i σ H' hi ⟨v7,rfl,Y,hO⟩;obtain⟨wd,is,O,he,hg,bf⟩:=aD9 (H:=wo [c2,d] H5) (p:=p0) Y;obtain⟨v,hv,tv,rfl,bq⟩:=kY az he;have au:atI us ((0:Int)+(i:Int))=some (.ref tv):=by rw[Int.zero_add];exact jO hv
   have tH:=aw.trans hO.1;refine⟨_,rfl,_,rfl,_,rfl,x,_,_,_,rfl,rfl,SqT.of (tH _ _ hx),au,?_⟩;refine⟨wo [c2,d] H5,c2,tv,[p0],wsN i,wd,_,O,rfl,hO,aw _ _ bq,hg,λq hq H6 ax=>?_,λref bg=>?_⟩
   .rcases bf with ⟨rfl,rfl⟩ | ⟨_,rfl⟩
    case inr=>cases hq
    cases hq;have t6:=bd.trans ax.1;have h6:=aw.trans ax.1;refine⟨_,rfl,_,rfl,_,_,rfl,rfl,_,rfl,_,rfl,x,_,_,_,rfl,rfl,SqT.of (h6 _ _ hx),au,D,lt,_,.ref tv,_,rfl,.inl (SqL.of (t6 _ _ eD)),(g3.trans t6) _ _ ak,by lia,λH7 g7=>?_⟩;exact⟨false,by first | rfl | exact .inl rfl | exact .inr rfl,oW ⟨_,rfl,(by decide),ax.same g7⟩⟩
   .rcases bf with ⟨_,rfl⟩ | ⟨rfl,rfl⟩
    .cases bg
    cases bg;exact λH2 g2 dx br e0 b_=>⟨XC.laid,_,rfl,λe1 bt=>(rdI (i:=1) (aAA (by decide) (by decide)) (kb _ ((tH.trans g2).trans (Same.upd br)))).2 e1 bt⟩
  .rintro σ H' ⟨v7,rfl,Y,hO⟩;rw[a_]at Y;exact absurd Y (show ¬ 2<=1 by decide)
abbrev jY:Stmt:=top 75
def uW:FnScope ["roads","name"] ["roads","name"] (aG jY):=.of
def uB (X:cG K mg) (F:Fun K "road_named" "road_named" jY f fd) (B:Bt mg) (z:RA0 P w K mg base "NoRoad" X.road):FnOk P w K mg base (CXR P w) 4 f fd ["roads","name"] (fS X):=by
 refine F.gX uW λU A outer s H vs Q E L O h=>?_;obtain⟨d,n,kvs,rfl,hd,Y,kb⟩:=h;have J:=O8 O;refine⟨_,(aE (bM (wP (W2 J (pv 1) (pv 0))) (aI (bX (dW L) z rfl rfl O rfl (aA aP aB))) aW) (aI (bA (aAo J (pv 0) (pv 1) (λ_ _=>rfl))))),?_⟩
 try dsimp only[cN,cO]
 refine⟨_,rfl,_,rfl,d,_,rfl,DGet.k (k:=Sum.inr n) hd,_,rfl,?_⟩;cases M:kH kvs (Sum.inr n)with
 | none=>exact F5 (rd0 (kb M))
 | some v =>
  refine oW ⟨_,rfl,_,rfl,d,v,rfl,?_,Y v M⟩;rw[<- M];exact DGet.k (k:=Sum.inr n) hd
abbrev lC:Stmt:=top 76
def oG:FnScope ["roads","name","road","changed"] ["roads","name","road"] (aG lC):=.of
def uX (F:Fun K "with_road" "with_road" lC f fd) (B:Bt mg) (M:Bt6 mg):FnOk P w K mg base CX0 1 f fd ["roads","name","road"] jJ:=by
 refine F.g oG λO A outer s H vs Q E U h=>?_;obtain⟨d,n,v,kvs,rfl,hd,Y,k⟩:=h;have z:=O8 U;refine⟨_,(aE (bL (i:=3) oG.nd rfl (Or.inl rfl) (cM sX (by rfl) M.dict sf (aA (pv 0) aB))) (aE (Q3 z (pv 3) (pv 1) (pv 2) rfl) (aI (bA (pv 3))))),?_⟩
 try dsimp only[cN,cO]
 refine⟨_,rfl,d,kvs,rfl,hd,λL J=>?_⟩;refine⟨_,rfl,_,rfl,_,rfl,L,_,rfl,DPut.k (k:=Sum.inr n) aJ (bV (by lia)),?_⟩;rw[iH];exact⟨_,rfl,k L _ (Same.upd J) aJ⟩
abbrev gN:Stmt:=top 71
def uY:FnScope ["text","signs","most"] ["text","signs","most"] (aG gN):=.of
def aBQ (F:Fun K "is_made_of" "is_made_of" gN f fd) (B:Bt mg):FnOk P w K mg base CX0 1 f fd ["text","signs","most"] xN:=by
 refine F.g uY λau A outer s H vs Q E hr h=>?_;obtain⟨t,J,m,rfl,ht,k⟩:=h;have hu:=hr.units;refine⟨_,(aI (bA (wR (fM (oY hu) (pv 0) aP (aY _)) (wR (fM N4 (aZ wX (by rfl) B.len gV (aA (pv 0) aB)) (pv 2) (aY _)) (wQ (aZ (sB rfl) (by rfl) B.all sD (aA (eO ["sign"] ["signs"] [1] rfl (.of (show dZ (aG gN) _ ["text","signs","most"] [1] ["signs"]=true by decide +kernel)) (aCL (pv 0)) (λ_ _ _=>(aS (i:=0) (show (["sign","signs"]:List Str).Nodup by decide +kernel) rfl (Or.inl rfl))) (eM (by decide)) (λ_ _ _=>eK) (λ_ _ _=>(fM U9 (pv 0) (pv 1) (by with_unfolding_all rfl)))) aB))))))),?_⟩
 try dsimp only[cN,cO]
 have U:=jF ht.asc;refine⟨_,rfl,_,_,Den.str _,Den.str _,U,(by decide +kernel),?_⟩;rw[S3];have L:bI t J m=(decide (t≠"") && (decide ((t.length:Int)<=m) && (aO t).all λc=>decide (c∈aO J))):=rfl;refine⟨_,rfl,?_⟩
 by_cases M:t=""
 .rw[b3 (by simp[M])];have:=k H (Same.refl _);rw[L,aE7 (λz=>z M),qo]at this;exact this
 rw[b4 (by simp[M])];rw[aE8 M,kj]at L;have h5:=ht.len;refine⟨_,rfl,t,rfl,bT (by lia),_,rfl,_,_,rfl,rfl,_,rfl,?_⟩
 by_cases c1:(t.length:Int)<=m
 .rw[b4 (by simpa using c1)];rw[aE8 c1,kj]at L;refine⟨_,rfl,t,rfl,ht.asc,u7 (z:=t) (λi ys O=>O=H/\ys=(((aO t).take i).map λc=>decide (c∈aO J)).map V.bl) ⟨rfl,rfl⟩ ?_ ?_ ?_⟩
  .rintro i ys O hi ⟨rfl,rfl⟩;rw[aEN,aEN,aE2];exact bV (by have:t.cps.size=t.length:=rfl;lia)
  .rintro i c ys O hi ⟨rfl,rfl⟩;refine⟨_,rfl,_,rfl,_,_,rfl,rfl,rfl,?_⟩;have Y:(aO t)[i]?=some c:=by rw[Array.getElem?_toList];exact hi
   rw[StrLaws.found_one,jm,Y];simp
  .rintro ys O ⟨rfl,rfl⟩ D hD;refine⟨D,(aO t).map λc=>decide (c∈aO J),rfl,?_,?_⟩
   .rw[aJ,jo (by rw[bF];exact ah _)]
   .have:=k _ (Same.upd (o:=.lst ((((aO t).take t.cps.size).map λc=>decide (c∈aO J)).map V.bl)) hD);rw[L]at this;rw[uu];exact this
 .rw[b3 (by simpa using c1)];have:=k H (Same.refl _);rw[L,aE7 c1,qo]at this;exact this
abbrev pT:Stmt:=top 69
def L5:FnScope ["text"] ["text"] (aG pT):=.of
def L6 (F:Fun K "is_name" "is_name" pT f fd) (B:Bt mg) (G:Wd mg) (z:dU P w K mg base "is_made_of" 1 ["text","signs","most"] xN):FnOk P w K mg base CX0 2 f fd ["text"] rD:=by
 refine F.g L5 λJ A outer s H vs Q E L h=>?_;obtain⟨t,rfl,ht,k⟩:=h;refine⟨_,(aI (bA (cJ z L rfl (aA (pv 0) (aA (zU rfl G.LETTERS) (aA (zV rfl G.MOST_LETTERS) aB)))))),?_⟩
 try dsimp only[cN,cO]
 exact⟨_,rfl,t,cF,8,rfl,ht,k⟩
abbrev yG:Stmt:=top 77
def oH:FnScope ["roads","deed","word","name","row"] ["roads","deed"] (aG yG):=.of
def Z1 (X:cG K mg) (G:Hc K) (F:Fun K "built" "built" yG f fd) (B:Bt mg) (C3:Cn3 mg t1 t2 t3) (F_is_name:dU P w K mg base "is_name" 2 ["text"] rD) (F_look_row:cQ P w K mg base "look_row" 4 ["row"] (xT X)) (F_new_road:dU P w K mg base "new_road" 3 ["row"] (xW G)) (F_with_road:dU P w K mg base "with_road" 1 ["roads","name","road"] jJ)
 (R_Taken:RA0 P w K mg base "Taken" X.taken) (R_Full:RA0 P w K mg base "Full" X.full):FnOk P w K mg base (CXR P w) 10 f fd ["roads","deed"] (dM X G .build):=by
 refine F.gX oH λcdv A outer s H vs Q E hfr hr h=>?_;obtain⟨d,v,wd,S,kvs,O,rfl,hd,pr,hnd,hA,kg,kb⟩:=h;have hu1:=O8 hr;cases hA with
 | @build a t n row O hn ha hta hB =>
 obtain⟨hc,h8⟩:=jG hn;have ht:Txs n:=⟨fZ λc h=>by have:=hc c h;lia,by lia⟩;refine⟨_,(aE (eZ (pv 1) (fW (n:=3) rfl (aX (aS (i:=2) oH.nd rfl (Or.inl rfl)) (aX (aS (i:=3) oH.nd rfl (Or.inl rfl)) (aX (aS (i:=4) oH.nd rfl (Or.inl rfl)) cT))))) (aE (bM (jM (cU (cJ F_is_name hr rfl (aA (pv 3) aB)) (λ_=>rfl))) (aI bK) aW) (aE (bM (wP (aCC hu1 (pv 3) (pv 0))) (aI (bX (dW hfr) R_Taken rfl rfl hr rfl (aA aP aB))) aW) (aE (bG (cC F_look_row hr rfl (cK hfr) (aA (pv 4) aB))) (aE (bM (aV N5 (aZ W5 (by rfl) B.len gV (aA (pv 0) aB)) (dJ (v:=.int 8) rfl C3.MOST_ROADS ⟨_,rfl⟩) (aY _)) (aI (bX (dW hfr) R_Full rfl rfl hr rfl (aA (lT (cB (fY (by decide)) (cB (pC (dJ (v:=.int 8) rfl C3.MOST_ROADS ⟨_,rfl⟩)) (cB (fY (by decide)) lS)))) aB))) aW) (aI (bA (cJ F_with_road hr rfl (aA (pv 0) (aA (pv 3) (aA (cJ F_new_road hr rfl (aA (pv 4) aB)) aB))))))))))),?_⟩
 try dsimp only[cN,cO]
 refine⟨_,rfl,a,_,rfl,SqT.of ha,rfl,_,_,rfl,_,_,rfl,_,_,rfl,rfl,?_⟩;refine⟨_,rfl,n,rfl,ht,λH1 g1=>?_⟩;refine⟨_,by first | rfl | exact .inl rfl | exact .inr rfl,?_⟩;have kl:=pr.length;rw[hn];refine oW ⟨_,rfl,_,rfl,d,_,rfl,DGet.k (k:=Sum.inr n) (g1 _ _ hd),_,rfl,?_⟩
 by_cases h0:n∈S.map (·.1)
 .obtain⟨v,hv⟩:=C2 pr h0;rw[hv];cases hB with
  | taken=>exact F5 (rd0 (kb _ rfl H1 g1))
  | good h | row h | full h=>exact absurd h0 h
 rw[jK pr h0];refine oW ?_;have dok:Rw row->cS row=.ok:=λh=>wF.mpr ⟨h.len,λi h1 h2=>by
  have:=List.pairwise_iff_getElem.mp h.row (i - 1) i (by lia) h2 (by lia);rw[kz,kz,aEX h2,aEX (show i - 1<row.length by lia)];exact this⟩
 cases hB with
 | taken h=>exact absurd h h0
 | row _ hl hdu=>exact⟨_,rfl,t,row,rfl,.inr (g1 _ _ hta),by lia,(λz=>absurd (by rw[z];rfl) hdu),λ_=>(kb _ rfl H1 g1)⟩
 | full _ hrw h8 =>
  refine⟨_,rfl,t,row,rfl,.inr (g1 _ _ hta),fy hrw.len (by decide),(λ_=>?_),λz=>absurd (dok hrw) z⟩;exact⟨_,rfl,d,_,rfl,g1 _ _ hd,_,_,rfl,rfl,_,rfl,iJ (by lia) ⟨8,rfl,by decide,by decide,λ_=>rd0 (kb _ rfl H1 g1)⟩⟩
 | good _ hrw h8 =>
  refine⟨_,rfl,t,row,rfl,.inr (g1 _ _ hta),fy hrw.len (by decide),(λ_=>?_),λz=>absurd (dok hrw) z⟩;refine⟨_,rfl,d,_,rfl,g1 _ _ hd,_,_,rfl,rfl,_,rfl,cW (by lia) ?_⟩;refine⟨_,rfl,_,rfl,_,rfl,t,row,rfl,g1 _ _ hta,λv2 H2 g2 hR=>?_⟩;have g12:=g1.trans g2;refine⟨d,n,v2,kvs,rfl,g12 _ _ hd,by lia,λd' H3 g3 hd3=>?_⟩;rw[m4 _ (jK pr h0)]at hd3;exact kg _ rfl d' _ H3 (g12.trans g3) hd3 (Paired.append' (pI (.same (g12.trans g3)) pr) (.cons ⟨rfl,hR.kq (.same g3)⟩ .nil))
abbrev L7:Stmt:=top 78
def yH:FnScope ["roads","deed","word","name"] ["roads","deed"] (aG L7):=.of
def aA1 (X:cG K mg) (G:Hc K) (F:Fun K "shut" "shut" L7 f fd) (B:Bt mg) (z:cQ P w K mg base "road_named" 4 ["roads","name"] (fS X)):FnOk P w K mg base (CXR P w) 10 f fd ["roads","deed"] (dM X G .shut):=by
 refine F.gX yH λL A outer s H vs Q E J M h=>?_;obtain⟨d,v,wd,S,kvs,O,rfl,hd,U,Y,hA,kg,kb⟩:=h;cases hA with
 | @shut a n ha h0 =>
 refine⟨_,(aE (eZ (pv 1) (fW (n:=2) rfl (aX (aS (i:=2) yH.nd rfl (Or.inl rfl)) (aX (aS (i:=3) yH.nd rfl (Or.inr rfl)) cT)))) (aE (bG (cC z M rfl (cK J) (aA (pv 0) (aA (pv 3) aB)))) (aI bK))),?_⟩
 try dsimp only[cN,cO]
 refine⟨_,rfl,a,_,rfl,SqT.of ha,rfl,_,_,rfl,_,_,rfl,rfl,?_⟩;exact⟨_,rfl,_,rfl,d,n,kvs,rfl,hd,(λv hv=>nomatch hv.symm.trans (jK U h0)),λ_=>(kb _ rfl).now⟩
abbrev pU:Stmt:=top 79
def jZ:FnScope ["roads","deed","word","name","rest"] ["roads","deed"] (aG pU):=.of
def D6 (X:cG K mg) (G:Hc K) (F:Fun K "entered" "entered" pU f fd) (B:Bt mg) (J:cQ P w K mg base "road_named" 4 ["roads","name"] (fS X)) (M:dU P w K mg base "with_road" 1 ["roads","name","road"] jJ) (L:cQ P w K mg base "with_entry" 9 ["road","entry"] (oA X G)):FnOk P w K mg base (CXR P w) 10 f fd ["roads","deed"] (dM X G .ent):=by
 refine F.gX jZ λbd A outer s H vs Q E av hr h=>?_;obtain⟨d,v,wd,S,kvs,O,rfl,hd,pr,Y,hA,kg,kb⟩:=h;cases hA with
 | @ent a n wd is O hw hl ha hE =>
 refine⟨_,(aE (eZ (pv 1) (x8 (n:=3) (i:=2) rfl (aX (aS (i:=2) jZ.nd rfl (Or.inl rfl)) (aX (aS (i:=3) jZ.nd rfl (Or.inl rfl)) (sO (aS (i:=4) jZ.nd rfl (Or.inl rfl)) cT))))) (aI (bA (cJ M hr rfl (aA (pv 0) (aA (pv 3) (aA (cC L hr rfl (cK av) (aA (cC J hr rfl (cK av) (aA (pv 0) (aA (pv 3) aB))) (aA (bH nP (bN (aA (pv 2) aB)) (cM dH (by rfl) B.tuple eA (aA (pv 4) aB))) aB))) aB))))))),?_⟩
 try dsimp only[cN,cO]
 have bf:(is.map V.int).length=is.length:=aEN _;generalize U:is.map V.int=zs at *;refine⟨_,rfl,a,_,rfl,SqT.of ha,by decide,by show 3<=(zs.length+1+1)+1;lia,by show (zs.length+1+1)<=16384;lia,λy hy=>?_⟩;have ey:((V.str wd :: V.str n :: zs).drop 2).take ((V.str wd :: V.str n :: zs).length+1 - 3)=zs:=by simp
 have aw:(V.str wd :: V.str n :: zs).take 2++[V.ref y]++((V.str wd :: V.str n :: zs).drop 2).drop ((V.str wd :: V.str n :: zs).length+1 - 3)=[V.str wd,V.str n,V.ref y]:=by simp
 rw[ey,aw];refine bJ hy λH1 g1 ax=>?_;refine⟨_,_,rfl,_,_,rfl,_,_,rfl,rfl,?_⟩;refine⟨_,rfl,_,rfl,_,rfl,_,rfl,d,n,_,rfl,g1 _ _ hd,λv2 au=>?_,λz=>?_⟩
 rotate_left
 .cases hE with
  | road h0=>exact(kb _ rfl).mono g1 |>.now
  | good hS h8 hD h =>
   obtain⟨_,e,_⟩:=gE pr Y (by rw[hS];exact aER _ aEP);exact nomatch z.symm.trans e
  | bad hm hD h =>
   obtain⟨_,e,_⟩:=gE pr Y hm;exact nomatch z.symm.trans e
 refine⟨_,rfl,(show 1<=sizeLine by decide),λp ay=>bJ ay λH2 g2 ep=>?_⟩;refine⟨_,rfl,y,_,rfl,.inl ⟨SqL.of (g2 _ _ ax),λz hz=>bJ hz λH3 g3 ez=>?_⟩⟩;refine⟨p,z,_,_,rfl,rfl,g3 _ _ ep,ez,bT (by rw[ju];lia),λq H4 g4 eq=>?_⟩;have t4:=((g1.trans g2).trans g3).trans g4;have t0:=g1.trans (g2.trans (g3.trans g4));cases hE with
 | road h0=>rw[jK pr h0]at au;cases au
 | @bad D r hm hD h =>
  obtain⟨_,e,hR⟩:=gE pr Y hm;cases au.symm.trans e;obtain⟨D1,D2,row,D4⟩:=D;refine⟨_,q,_,wd,zs,.inr r,rfl,hR.kq (.same t4),eq,?_,hD.1,(λq' az=>nomatch az),λref er=>by cases er;exact(kb _ rfl).mono t4⟩;rw[hD.2];generalize hO:(Sum.inr r:(List Int×Trs) ⊕ RefH)=O at h;cases h with
  | put=>cases hO
  | creel hc=>cases hO;subst U;exact .creel hc
  | laid hp=>cases hO;subst U;exact .bad .zero (.laid hp)
  | many hp h60=>cases hO;subst U;exact .bad .zero (.many hp h60)
  | stone hp=>cases hO;subst U;exact .bad .zero (.stone hp)
 | @good SA SB D q' hS h8 hD h =>
  subst hS;obtain⟨_,e,hR⟩:=gE (D:=D) pr Y (aER _ aEP);cases au.symm.trans e;refine⟨_,q,D,wd,zs,.inl q',rfl,hR.kq (.same t4),eq,?_,hD.1,(λq2 a_ ba ei v3 H5 g5 bb=>?_),λref er=>nomatch er⟩
  .rw[hD.2];generalize hr:D.row=row at h;generalize hO:(Sum.inl q':(List Int×Trs) ⊕ RefH)=O at h;cases h with
   | put=>cases hO;subst U;exact .good .zero .put
   | _=>cases hO
  .have t5:=t4.trans g5;cases a_;have ei:ba=is:=by
    rw[<- U]at ei;exact(wI ei).symm
   subst ei;have kl:=pr.length;refine⟨d,n,v3,_,rfl,t5 _ _ hd,by lia,λd' H6 g6 bc=>?_⟩;exact kg _ rfl d' _ H6 (t5.trans g6) bc (U1 (bb.kq (.same g6)) (pI (.same (t5.trans g6)) pr) Y)
abbrev L8:Stmt:=top 80
def kA:FnScope ["roads","deed","word","name","other","gap","road","row"] ["roads","deed"] (aG L8):=.of
def aA2 (X:cG K mg) (G:Hc K) (F:Fun K "laid" "laid" L8 f fd) (B:Bt mg) (J:cQ P w K mg base "road_named" 4 ["roads","name"] (fS X)) (U:dU P w K mg base "row_now" 7 ["course"] (tQ G)) (M:dU P w K mg base "with_road" 1 ["roads","name","road"] jJ) (L:cQ P w K mg base "with_entry" 9 ["road","entry"] (oA X G)):FnOk P w K mg base (CXR P w) 10 f fd ["roads","deed"] (dM X G .lay):=by
 refine F.gX kA λbb A outer s H vs Q E Y hr h=>?_;obtain⟨d,v,wd,S,kvs,O,rfl,hd,pr,au,hA,kg,kb⟩:=h;cases hA with
 | @lay a n m g D D' r ha hm av hD aw ax hL =>
 obtain⟨v1,e1,ay⟩:=gE pr au hm;obtain⟨v2,e2,az⟩:=gE pr au av;refine⟨_,(aE (eZ (pv 1) (fW (n:=4) rfl (aX (aS (i:=2) kA.nd rfl (Or.inl rfl)) (aX (aS (i:=3) kA.nd rfl (Or.inl rfl)) (aX (aS (i:=4) kA.nd rfl (Or.inl rfl)) (aX (aS (i:=5) kA.nd rfl (Or.inl rfl)) cT)))))) (aE (bL (i:=6) kA.nd rfl (Or.inl rfl) (cC J hr rfl (cK Y) (aA (pv 0) (aA (pv 3) aB)))) (aE (bL (i:=7) kA.nd rfl (Or.inl rfl) (cJ U hr rfl (aA (bP (cC J hr rfl (cK Y) (aA (pv 0) (aA (pv 4) aB))) rfl) aB))) (aI (bA (cJ M hr rfl (aA (pv 0) (aA (pv 3) (aA (cC L hr rfl (cK Y) (aA (pv 6) (aA (bN (aA aP (aA (cM dH (by rfl) B.tuple eA (aA (pv 7) aB)) (aA (pv 5) aB)))) aB))) aB))))))))),?_⟩
 try dsimp only[cN,cO]
 refine⟨_,rfl,a,_,rfl,SqT.of ha,rfl,_,_,rfl,_,_,rfl,_,_,rfl,_,_,rfl,rfl,?_⟩;refine⟨_,rfl,_,rfl,d,n,kvs,rfl,hd,λv hv=>?_,λz=>nomatch z.symm.trans e1⟩;cases hv.symm.trans e1;refine⟨_,rfl,_,rfl,d,m,kvs,rfl,hd,λv hv=>?_,λz=>nomatch z.symm.trans e2⟩;cases hv.symm.trans e2;obtain⟨ra,a_,re,rr,rc,r0,t0,bc,rfl,h1,h2,h3,h4,h5,h6,h7⟩:=az;refine⟨ra,_,a_,_,_,rfl,h1,G.rd,G.rCo,rfl,rc,D'.row,D'.ws,D'.row,rfl,h7,by rw[aw];exact .zero,λl H1 bd g1 el=>?_⟩;refine⟨_,rfl,_,rfl,_,rfl,_,rfl,l,_,rfl,.inl ⟨SqL.of el,λt ht=>bJ ht λH2 g2 et=>?_⟩⟩;refine⟨_,rfl,(show 3<=sizeLine by decide),λq hq=>bJ hq λH3 g3 eq=>?_⟩;have t3:=(g1.trans g2).trans g3;refine⟨v1,q,D,"lay",_,.inr r,rfl,ay.kq (.same t3),eq,?_,hD.1,(λq' ba=>nomatch ba),λref er=>by cases er;exact(kb _ rfl).mono t3⟩;rw[hD.2];exact .bad .zero (.lay (g3 _ _ et) ax hL)
abbrev kB:Stmt:=top 81
def cL:FnScope ["roads","deed","word","name","at","creel","count","road","entries"] ["roads","deed"] (aG kB):=.of
def uC (X:cG K mg) (G:Hc K) (F:Fun K "found_late" "found_late" kB f fd) (B:Bt mg) (F_road_named:cQ P w K mg base "road_named" 4 ["roads","name"] (fS X)) (F_look_creel:cQ P w K mg base "look_creel" 4 ["creel"] (kZ X)) (F_with_road:dU P w K mg base "with_road" 1 ["roads","name","road"] jJ) (F_with_log:cQ P w K mg base "with_log" 9 ["road","at","entries"] (tS X G))
 (R_NoEntry:RA0 P w K mg base "NoEntry" X.entry):FnOk P w K mg base (CXR P w) 10 f fd ["roads","deed"] (dM X G .late):=by
 refine F.gX cL λcdv A outer s H vs Q E hfr hr h=>?_;obtain⟨d,v,wd,S,kvs,O,rfl,hd,pr,hnd,hA,kg,kb⟩:=h;cases hA with
 | @late a n k c m r ha hL =>
 obtain⟨D,hm⟩:∃ D,(n,D)∈S:=by cases hL <;> exact⟨_,‹_›⟩
 obtain⟨v1,e1,hR⟩:=gE pr hnd hm;have same:∀ {D2:RD},(n,D2)∈S->RoadC G H v1 D2:=λ{D2} h=>by
  obtain⟨v2,e2,h2⟩:=gE pr hnd h;cases e1.symm.trans e2;exact h2
 clear hR hm;refine⟨_,(aE (eZ (pv 1) (fW (n:=5) rfl (aX (aS (i:=2) cL.nd rfl (Or.inl rfl)) (aX (aS (i:=3) cL.nd rfl (Or.inl rfl)) (aX (aS (i:=4) cL.nd rfl (Or.inl rfl)) (aX (aS (i:=5) cL.nd rfl (Or.inl rfl)) (aX (aS (i:=6) cL.nd rfl (Or.inl rfl)) cT))))))) (aE (bL (i:=7) cL.nd rfl (Or.inl rfl) (cC F_road_named hr rfl (cK hfr) (aA (pv 0) (aA (pv 3) aB)))) (aE (bM (PW.pt (yT (aV nK (pv 4) aQ (aY _)) (rN (aV qB (pv 4) (aZ bE (by rfl) B.len gV (aA (bP (pv 7) rfl) aB)) (aY _))))) (aI (bX (dW hfr) R_NoEntry rfl rfl hr rfl (aA aP aB))) aW) (aE (bG (cC F_look_creel hr rfl (cK hfr) (aA (pv 5) aB))) (aE (bL (i:=8) cL.nd rfl (Or.inl rfl) (bH nP (bH nP (cX R9 (bP (pv 7) rfl) dY (dL (pv 4))) (bN (aA (bN (aA aP (aA (pv 5) (aA (pv 6) aB)))) aB))) (cX R9 (bP (pv 7) rfl) (dL (pv 4)) dY))) (aI (bA (cJ F_with_road hr rfl (aA (pv 0) (aA (pv 3) (aA (cC F_with_log hr rfl (cK hfr) (aA (pv 7) (aA (pv 4) (aA (pv 8) aB)))) aB))))))))))),?_⟩
 try dsimp only[cN,cO]
 refine⟨_,rfl,a,_,rfl,SqT.of ha,rfl,_,_,rfl,_,_,rfl,_,_,rfl,_,_,rfl,_,_,rfl,rfl,?_⟩;refine⟨_,rfl,_,rfl,d,n,kvs,rfl,hd,λv2 hv2=>?_,λz=>nomatch z.symm.trans e1⟩;cases hv2.symm.trans e1;refine⟨_,rfl,_,_,rfl,rfl,_,rfl,?_⟩;cases hL with
 | @entry D hm h =>
  obtain⟨b,dx,en,re,cc,r0,t0,us,rfl,hb,hen,hus,_⟩:=same hm;have hul:=hus.length;exact cW (by lia) ⟨_,rfl,_,rfl,b,_,dx,_,_,rfl,hb,G.rd,G.rEn,rfl,en,_,rfl,.inr (SqT.of hen),_,_,rfl,rfl,_,rfl,iJ (by lia) (rd0 (kb _ rfl).now)⟩
 | @creel D hm hk h =>
  obtain⟨b,dx,en,re,cc,r0,t0,us,rfl,hb,hen,hus,_⟩:=same hm;subst hk;exact cW (by lia) ⟨_,rfl,_,rfl,b,_,dx,_,_,rfl,hb,G.rd,G.rEn,rfl,en,_,rfl,.inr (SqT.of hen),_,_,rfl,rfl,_,rfl,cW (by lia) ⟨_,rfl,c,rfl,(λz=>by lia),λ_=>(kb _ rfl).now⟩⟩
 | @clash D p0 hm hk hf he =>
 obtain⟨rfl,rfl,rfl⟩:=hk;have hR:=same hm;obtain⟨f0,ents,row,ws⟩:=D;have he:ents=[(("put":Str),[p0+7])]:=he;subst he;obtain⟨b,dx,en,re,cc,r0,t0,us,rfl,hb,hen,hus,hR'⟩:=id hR;have hul:us.length=1:=hus.length;refine cW (by decide) ?_;refine⟨_,rfl,_,rfl,b,_,dx,_,_,rfl,hb,G.rd,G.rEn,rfl,en,_,rfl,.inr (SqT.of hen),_,_,rfl,rfl,_,rfl,cW (by lia) ?_⟩;refine⟨_,rfl,1,rfl,λ_=>?_,λz=>absurd z (by decide)⟩;refine⟨_,rfl,b,_,dx,_,_,rfl,hb,G.rd,G.rEn,rfl,_,rfl,_,rfl,en,_,rfl,hen,λp1 H1 g1 e1=>?_⟩;refine⟨_,rfl,_,rfl,(show 3<=sizeLine by decide),λp2 hp2=>bJ hp2 λH2 g2 e2=>?_⟩;refine⟨(show 1<=sizeLine by decide),λp3 hp3=>bJ hp3 λH3 g3 e3'=>?_⟩;have c0:fP us none (some 0)=[]:=rC us 0;have c1:fP us (some 0) none=us:=jB us 0;rw[c0]at e1;refine⟨p1,p3,_,_,rfl,rfl,(g2.trans g3) _ _ e1,e3',bT (show 1<=10000 by decide),λp4 H4 g4 e4'=>?_⟩;have t4:=((g1.trans g2).trans g3).trans g4;refine⟨_,rfl,b,_,dx,_,_,rfl,t4 _ _ hb,G.rd,G.rEn,rfl,_,rfl,_,rfl,en,_,rfl,t4 _ _ hen,λp5 H5 g5 e5=>?_⟩;rw[c1]at e5;refine⟨p4,p5,_,_,rfl,rfl,g5 _ _ e4',e5,bT (by show 1+us.length<=10000;lia),λp6 H6 g6 e6=>?_⟩;have t6:=(t4.trans g5).trans g6;have q2:=((g3.trans g4).trans g5).trans g6;exact⟨_,rfl,_,rfl,_,rfl,_,rfl,_,rfl,.ref b,p6,_,_,p0,rfl,hR.kq (.same t6),hf,e6,.cons ⟨p2,rfl,q2 _ _ e2⟩ (Paired.mapP hus λ_ _ z=>z.kq (.same (G:=G) t6)),(kb _ rfl).mono t6⟩
abbrev uD:Stmt:=top 82
def jL:FnScope ["roads","deed","word","name","at","road","entries"] ["roads","deed"] (aG uD):=.of
def L9 (X:cG K mg) (G:Hc K) (F:Fun K "struck" "struck" uD f fd) (B:Bt mg) (J:cQ P w K mg base "road_named" 4 ["roads","name"] (fS X))
 (L:RA0 P w K mg base "NoEntry" X.entry) (M:RA0 P w K mg base "NotWalk" X.walk):FnOk P w K mg base (CXR P w) 10 f fd ["roads","deed"] (dM X G .strike):=by
 refine F.gX jL λaz A outer s H vs Q E au hr h=>?_;obtain⟨d,v,wd,S,kvs,O,rfl,hd,pr,aw,hA,kg,kb⟩:=h;cases hA with
 | @strike a n r ha hL =>
 refine⟨_,(aE (eZ (pv 1) (fW (n:=3) rfl (aX (aS (i:=2) jL.nd rfl (Or.inl rfl)) (aX (aS (i:=3) jL.nd rfl (Or.inl rfl)) (aX (aS (i:=4) jL.nd rfl (Or.inl rfl)) cT))))) (aE (bL (i:=5) jL.nd rfl (Or.inl rfl) (cC J hr rfl (cK au) (aA (pv 0) (aA (pv 3) aB)))) (aE (bM (PW.pt (yT (aV nK (pv 4) aQ (aY _)) (rN (aV N5 (pv 4) (aZ bE (by rfl) B.len gV (aA (bP (pv 5) rfl) aB)) (aY _))))) (aI (bX (dW au) L rfl rfl hr rfl (aA aP aB))) aW) (aE (bM (aV b9 (cD cY (cD cY (bP (pv 5) rfl) (pv 4) (λ_ _=>rfl)) aQ (λ_ _=>rfl)) aP (aY _)) (aI (bX (dW au) M rfl rfl hr rfl (aA aP aB))) aW) (aE bK (aI bK)))))),?_⟩
 try dsimp only[cN,cO]
 refine⟨_,rfl,a,_,rfl,SqT.of ha,rfl,_,_,rfl,_,_,rfl,_,_,rfl,rfl,?_⟩;cases hL with
 | @entry D hm he =>
  obtain⟨v1,e1,b,dx,en,re,cc,r0,t0,us,rfl,hb,Y,U,ax⟩:=gE pr aw hm;have ay:us.length=0:=by rw[U.length,he];rfl
  refine⟨_,rfl,_,rfl,d,n,kvs,rfl,hd,λv2 av=>?_,λz=>nomatch z.symm.trans e1⟩;cases av.symm.trans e1;exact⟨_,rfl,_,_,rfl,rfl,_,rfl,cW (by decide) ⟨_,rfl,_,rfl,b,_,dx,_,_,rfl,hb,G.rd,G.rEn,rfl,en,_,rfl,.inr (SqT.of Y),_,_,rfl,rfl,_,rfl,iJ (by lia) (rd0 (kb _ rfl).now)⟩⟩
 | @walk D p0 hm he =>
  obtain⟨v1,e1,b,dx,en,re,cc,r0,t0,us,rfl,hb,Y,U,ax⟩:=gE pr aw hm;rw[he]at U;have ay:us.length=1:=U.length;obtain⟨u,hu,t,rfl,ht⟩:=kY (j:=0) U rfl;refine⟨_,rfl,_,rfl,d,n,kvs,rfl,hd,λv2 av=>?_,λz=>nomatch z.symm.trans e1⟩;cases av.symm.trans e1;refine⟨_,rfl,_,_,rfl,rfl,_,rfl,cW (by decide) ?_⟩;refine⟨_,rfl,_,rfl,b,_,dx,_,_,rfl,hb,G.rd,G.rEn,rfl,en,_,rfl,.inr (SqT.of Y),_,_,rfl,rfl,_,rfl,cW (by lia) ?_⟩;refine⟨_,rfl,b,_,dx,_,_,rfl,hb,G.rd,G.rEn,rfl,_,rfl,en,_,_,_,rfl,rfl,SqT.of Y,jO (j:=0) hu,t,_,_,_,rfl,rfl,SqT.of ht,at0,rfl,_,rfl,?_⟩;rw[b4 (show (!decide (V.str ("put":Str)=V.str ("walk":Str)))=true by decide +kernel)];exact rd0 (kb _ rfl).now
abbrev hU:Stmt:=top 84
def kG:FnScope ["roads","deed","act"] ["roads","deed"] (aG hU):=.of
def pV {M:Addr} {z:List (Key×Value)} (X:cG K mg) (G:Hc K) (F:Fun K "roads_behind" "roads_behind" hU f fd) (B:Bt mg) (U:GDict P w K M z) (mD:mg "DEEDS"=some (.ref M))
 (Y:∀ x∈ks9,∃ g,valueAt z (Sum.inr x.1)=some (.ref g)/\jR P w K mg base g 10 ["roads","deed"] (dM X G x.2)):FnOk P w K mg base (CXR P w) 11 f fd ["roads","deed"] (tN X G):=by
 refine F.okX kG (λvs H Q E h=>?_) (λau A outer s H vs Q E J hr h=>?_)
 .obtain⟨d,v,dd,S,kvs,O,rfl,_⟩:=h;rfl
 .obtain⟨d,v,dd,S,kvs,O,rfl,hd,pr,L,hv,hD,kg,kb⟩:=h;obtain⟨k,a,xs,rfl,ha,hk,hA⟩:=hD.at hv;obtain⟨g,hg,hF⟩:=Y _ hk;refine⟨_,(aE (bL (i:=2) kG.nd rfl (Or.inl rfl) (xH U rfl mD (cD cY (pv 1) aQ (λ_ _=>rfl)) (λ_ _=>rfl))) (aI (bA (X9 2 hr (cK J) (aA (pv 0) (aA (pv 1) aB)))))),?_⟩
  try dsimp only[cN,cO]
  refine⟨_,rfl,a,_,_,_,rfl,rfl,SqT.of ha,at0,_,g,rfl,hg,?_⟩;exact⟨g,_,_,rfl,hF,_,rfl,_,rfl,d,_,_,S,kvs,O,rfl,hd,pr,L,hA,kg,kb⟩
abbrev nF:Stmt:=bU (top 86) 10
def qO:FnScope ["self","deed","changed"] ["self","deed"] (aG nF):=.of
def yI (X:cG K mg) (G:Hc K) (F:Fun K "do" "House.do" nF f fd) (B:Bt mg) (J:cQ P w K mg base "roads_behind" 11 ["roads","deed"] (tN X G)):FnOk P w K mg base (CXR P w) 12 f fd ["self","deed"] (U0 X G):=by
 refine F.gX qO λbn A outer s H vs Q E bd hr h=>?_;obtain⟨Hb,a,v,dd,S,ds,O,rfl,⟨sm,au,dx,d,p,q,kvs,us,ay,ha,hd,pr,hp,av,hq⟩,hn,bf,hv,hD,kg,kb⟩:=h;have bo:=av.length;have az:∀ v∈us,∃ b,v=.ref b:=λv hv=>by
  obtain⟨i,hi⟩:=List.mem_iff_getElem?.mp hv;obtain⟨d,_,b,_,_,e,_⟩:=gU av hi;exact⟨b,e⟩
 refine⟨_,(aE (bL (i:=2) qO.nd rfl (Or.inl rfl) (cC J hr rfl (cK bd) (aA (bP (pv 0) rfl) (aA (pv 1) aB)))) (aE (bG (kF aEh aEi aEj fE (bP (pv 0) rfl) (aA (bN (aA (pv 1) (aA (bP (pv 0) rfl) aB))) aB))) (aE (dR (pv 0) (pv 2) rfl) (aI (dR (pv 0) (kJ aB) rfl))))),?_⟩
 try dsimp only[cN,cO]
 refine⟨_,rfl,a,_,dx,_,_,rfl,ha,G.hs,G.hSt,rfl,_,rfl,d,v,dd,S,kvs,O,rfl,hd,pr,bf,hv,hD,λS' hS d' a_ H1 g1 bg bh=>?_,kb⟩;refine⟨_,rfl,a,_,dx,_,_,rfl,g1 _ _ ha,G.hs,G.hPa,rfl,.inl ⟨rfl,_,SqL.of (g1 _ _ hp)⟩,_,rfl,_,rfl,a,_,dx,_,_,rfl,g1 _ _ ha,G.hs,G.hSt,rfl,(show 2<=sizeLine by decide),λt ht=>bJ ht λH2 g2 et=>?_⟩;have L:=g1.trans g2;have M:=L _ _ ha;have U:=L _ _ hp;have Y:=g2 _ _ bg;refine⟨p,_,_,rfl,rfl,U,bV (by lia),?_⟩;have aw:a≠p:=gQ M U (by intro z;cases z);have bp:d'≠p:=gQ Y U (by intro z;cases z);have bq:d'≠a:=gQ Y M (by intro z;cases z);refine⟨_,rfl,_,rfl,a,_,dx,_,rfl,(aL aw).trans M,G.hs,G.hSt,(show 3<1000 by decide),?_⟩;refine⟨(show 0<=sizeLine by decide),λq' ba=>?_⟩;have bb:a≠q':=aU aJ ba;have bc:=cV ba;have bi:p≠q':=aU aJ bc;have ax:=cV bc;have br:d'≠q':=aU Y ax;refine⟨_,rfl,a,_,dx,_,rfl,(aL bb).trans aJ,G.hs,G.hAh,(show 3<1000 by decide),?_⟩;have kq:Kq G H2 (upd (upd (upd (upd H2 p (.lst (us++[V.ref t]))) a (.ins G.Hs dx (kU d' p q))) q' (.lst [])) a (.ins G.Hs dx (kU d' p q'))) :=
  ((((Kq.same (Same.refl _)).updP U az).updI M).updN ax).updI M
 have bj:Same Hb (upd (upd (upd (upd H2 p (.lst (us++[V.ref t]))) a (.ins G.Hs dx (kU d' p q))) q' (.lst [])) a (.ins G.Hs dx (kU d' p q'))) :=
  ((((sm.trans L).upd' ay).upd' au).upd' ((sm.trans L).free ax)).upd' au
 refine kg S' hS _ ⟨bj,au,dx,d',p,q',a_,us++[V.ref t],ay,aJ,kq.dk _ _ Y,pI kq (pI (.same g2) bh),?_,?_,?_⟩
 .rw[aL (lq aw),aL bi,aL (lq aw),aJ]
 .exact Paired.append' (Paired.mapP av λ_ _ z=>(z.same L).kq kq) (.cons ⟨t,v,.ref d,rfl,kq.tup _ _ et,(hv.same L).kq kq⟩ .nil)
 .rw[aL (lq bb),aJ]
abbrev iV:Stmt:=bU (top 86) 12
def uE:FnScope ["self","deed","later"] ["self"] (aG iV):=.of
def qU (X:cG K mg) (G:Hc K) (F:Fun K "again" "House.again" iV f fd) (B:Bt mg) (z:RA0 P w K mg base "NothingLeft" X.left):FnOk P w K mg base (CXR P w) 4 f fd ["self"] (nY X G):=by
 refine F.gX uE λL A outer s H vs Q E J M h=>?_;obtain⟨Hb,a,S,ds,rfl,⟨sm,O,dx,d,p,q,kvs,us,U,Y,hd,pr,hp,au,hq⟩,k⟩:=h;refine⟨_,(aE (bM (jM (cU (bP (pv 0) rfl) (λ_=>rfl))) (aI (bX (dW J) z rfl rfl M rfl (aA aP aB))) aW) (aE bK (aE bK (aE bK (aI bK))))),?_⟩
 try dsimp only[cN,cO]
 exact⟨_,rfl,a,_,dx,_,_,rfl,Y,G.hs,G.hAh,rfl,false,.inl ⟨_,SqL.of hq,rfl⟩,rd0 k.now⟩
abbrev fO:Stmt:=bU (top 86) 17
def uF:FnScope ["self"] ["self"] (aG fO):=.of
def qV (G:Hc K) (F:Fun K "deeds" "House.deeds" fO f fd) (B:Bt mg):FnOk P w K mg base CX0 2 f fd ["self"] (mB G):=by
 refine F.g uF λau A outer s H vs Q E hr h=>?_;obtain⟨Hb,a,S,ds,rfl,⟨sm,av,dx,d,p,q,kvs,us,aw,ha,hd,pr,U,L,hq⟩,hl,k⟩:=h;have M:=L.length;refine⟨_,(aI (bA (eO ["deed","earlier"] [] [] rfl (.of (show dZ (aG fO) _ ["self"] [] []=true by decide +kernel)) (fL (bP (pv 0) rfl)) (λ_ _ _=>(P7 (n:=2) K rfl rfl (aX (aS (i:=0) (show (["deed","earlier"]:List Str).Nodup by decide +kernel) rfl (Or.inl rfl)) (aX (aS (i:=1) (show (["deed","earlier"]:List Str).Nodup by decide +kernel) rfl (Or.inl rfl)) cT)))) (j4 (nM (by decide) (nM (by decide) P2))) (λ_ _ _=>eK) (λ_ _ _=>(pv 0))))),?_⟩
 try dsimp only[cN,cO]
 refine⟨_,rfl,a,_,dx,_,_,rfl,ha,G.hs,G.hPa,rfl,p,rfl,⟨_,SqL.of U⟩,fF (K:=K) (a:=p) (xs:=us) (λi ys H2=>H2=H/\Paired (DeedAt H) ys (ds.take i)) ⟨rfl,.nil⟩ ?_ ?_ ?_⟩
 .rintro i ys H2 hi ⟨rfl,J⟩;have:=J.length;rw[aE2]at this;exact⟨SqL.of U,bV (by lia)⟩
 .rintro i x ys H2 hi ⟨rfl,J⟩;obtain⟨y,O,b,v,e,rfl,hb,hv⟩:=gU L hi;refine⟨b,_,rfl,SqT.of hb,rfl,_,_,rfl,_,_,rfl,rfl,_,rfl,rfl,?_⟩;rw[jm,O];exact Paired.append' J (.cons hv .nil)
 .rintro ys H2 ⟨rfl,J⟩ D Y;rw[M,aE0]at J;have g:=Same.upd (o:=.lst ys) Y;exact k D ys _ Y g aJ (Paired.mapP J λ_ _ z=>z.same g)
abbrev lE:Stmt:=bU (top 86) 15
def yJ:FnScope ["self","name"] ["self","name"] (aG lE):=.of
def uZ (X:cG K mg) (G:Hc K) (F:Fun K "row" "House.row" lE f fd) (B:Bt mg) (J:cQ P w K mg base "road_named" 4 ["roads","name"] (fS X)) (L:dU P w K mg base "row_now" 7 ["course"] (tQ G)):FnOk P w K mg base (CXR P w) 8 f fd ["self","name"] (tP X G):=by
 refine F.okX yJ (λvs H Q E h=>?_) (λay A outer s H vs Q E M O h=>?_)
 .cases h <;> (subst_vars;rfl)
 .rcases h with ⟨Hb,a,nm,S,ds,D,rfl,⟨sm,Y,dx,d,p,q,kvs,us,au,ha,hd,pr,hp,av,hq⟩,aw,hm,hw,k⟩ | ⟨Hb,a,nm,S,ds,rfl,⟨sm,Y,dx,d,p,q,kvs,us,au,ha,hd,pr,hp,av,hq⟩,h0,k⟩
  .refine⟨_,(aI (bA (cJ L O rfl (aA (bP (cC J O rfl (cK M) (aA (bP (pv 0) rfl) (aA (pv 1) aB))) rfl) aB)))),?_⟩;obtain⟨v,ev,ra,ax,re,rr,rc,r0,t0,az,rfl,h1,h2,h3,h4,h5,h6,h7⟩:=gE pr aw hm;refine⟨_,rfl,a,_,dx,_,_,rfl,ha,G.hs,G.hSt,rfl,_,rfl,d,nm,kvs,rfl,hd,(λv U=>?_),λz=>nomatch z.symm.trans ev⟩;cases U.symm.trans ev;exact⟨ra,_,ax,_,_,rfl,h1,G.rd,G.rCo,rfl,rc,D.row,D.ws,D.row,rfl,h7,by rw[hw];exact .zero,k⟩
  .refine⟨_,(aI (bA (cJ L O rfl (aA (bP (cC J O rfl (cK M) (aA (bP (pv 0) rfl) (aA (pv 1) aB))) rfl) aB)))),?_⟩;exact⟨_,rfl,a,_,dx,_,_,rfl,ha,G.hs,G.hSt,rfl,_,rfl,d,nm,kvs,rfl,hd,(λv U=>by rw[jK pr h0]at U;cases U),λ_=>k.now⟩
abbrev lG:Stmt:=top 70
def oJ:FnScope ["text","figures"] ["text"] (aG lG):=.of
def yK (F:Fun K "is_number" "is_number" lG f fd) (B:Bt mg) (G:Wd mg) (J:dU P w K mg base "is_made_of" 1 ["text","signs","most"] xN):FnOk P w K mg base CX0 2 f fd ["text"] G5:=by
 refine F.g oJ λau A outer s H vs Q E hr h=>?_;obtain⟨t,rfl,ht,k⟩:=h;have hu:=hr.units;refine⟨_,(aE (bL (i:=1) oJ.nd rfl (Or.inl rfl) (kF ku PySem.F.slot_str_removeprefix PySem.F.type_str_removeprefix aCK (pv 0) (aA aP aB))) (aE (bM (jM (cU (cJ J hr rfl (aA (pv 1) (aA (zU rfl G.FIGURES) (aA (zV rfl G.MOST_FIGURES) aB)))) (λ_=>rfl))) (aI (bA mL)) aW) (aI (bA (aCo (fM (oY hu) (cD i7 (pv 1) aQ (λ_ _=>rfl)) aP (aY _)) (wQ (fM (gT hu) (pv 0) aP (aY _)))))))),?_⟩
 try dsimp only[cN,cO]
 have h5:=ht.len;have M:=aCO ht;have h6:=M.len;refine⟨_,rfl,rfl,t,"-",rfl,rfl,bT (by lia),?_⟩;refine⟨_,rfl,rpM t,xL,60,rfl,M,λH1 O=>⟨_,rfl,?_⟩⟩;have L:gW t=(bI (rpM t) xL 60 && (decide ((⟨#[(aO (rpM t)).headD 0]⟩:Str)≠"0") || decide (t="0"))):=rfl;cases U:bI (rpM t) xL 60 with
 | false =>
  rw[U,qo]at L;have:=k H1 O;rw[L]at this;exact this
 | true =>
  rw[U,kj]at L;obtain⟨c,r,Y⟩:=S4 U;have hc:c<128:=by
   have ha:=M.asc;unfold uO at ha;rw[<- nv,jj]at ha;exact ke (ha c (by show c∈aO (rpM t);rw[Y];exact aEP))
  refine⟨_,rfl,rpM t,0,c,rfl,rfl,bT (by lia),?_,_,_,Den.str _,Den.str _,jF (fZ λd hd=>by
   have:d∈[c]:=hd;rw[aEg.mp this];exact hc),(by decide +kernel),_,rfl,?_⟩
  .show atI (aO (rpM t)) 0=some c;rw[Y];exact jO (xs:=c :: r) (j:=0) rfl
  rw[S3];rw[Y,List.headD_cons]at L
  by_cases c1:(⟨#[c]⟩:Str)="0"
  .rw[aE7 (λz=>z c1),ul]at L;rw[b3 (by simp[c1])];refine⟨_,rfl,_,_,Den.str _,Den.str _,jF ht.asc,(by decide +kernel),?_⟩;rw[S3];have:=k H1 O;rw[L]at this;exact this
  .rw[aE8 c1,ur]at L;rw[b4 (by simp[c1])];have:=k H1 O;rw[L]at this;exact this
abbrev dP:Stmt:=top 72
def vA:FnScope ["parts","names","numbers"] ["parts","names","numbers"] (aG dP):=.of
def uG (F:Fun K "read_parts" "read_parts" dP f fd) (B:Bt mg) (O:dU P w K mg base "is_name" 2 ["text"] rD) (L:dU P w K mg base "is_number" 2 ["text"] G5):FnOk P w K mg base CX0 3 f fd ["parts","names","numbers"] nX:=by
 refine F.g vA λbq A outer s H vs Q E hr h=>?_;obtain⟨l,ps,a,b,rfl,hl,hp,hlen,kg,kb⟩:=h;refine⟨_,(aE (bM (aV aBw (aZ bE (by rfl) B.len gV (aA (pv 0) aB)) (bH dB (pv 1) (pv 2)) (aY _)) (aI (bA fV)) aW) (aE (bM (jM (cU (aZ (sB rfl) (by rfl) B.all sD (aA (eO ["part"] [] [] rfl (.of (show dZ (aG dP) _ ["parts","names","numbers"] [] []=true by decide +kernel)) (fL (cX fN (pv 0) dY (dL (pv 1)))) (λ_ _ _=>(aS (i:=0) (show (["part"]:List Str).Nodup by decide +kernel) rfl (Or.inl rfl))) (eM (by decide)) (λ_ _ _=>eK) (λ_ _ _=>(cJ O hr rfl (aA (pv 0) aB)))) aB)) (λ_=>rfl))) (aI (bA fV)) aW) (aE (bM (jM (cU (aZ (sB rfl) (by rfl) B.all sD (aA (eO ["part"] [] [] rfl (.of (show dZ (aG dP) _ ["parts","names","numbers"] [] []=true by decide +kernel)) (fL (cX fN (pv 0) (dL (pv 1)) dY)) (λ_ _ _=>(aS (i:=0) (show (["part"]:List Str).Nodup by decide +kernel) rfl (Or.inl rfl))) (eM (by decide)) (λ_ _ _=>eK) (λ_ _ _=>(cJ L hr rfl (aA (pv 0) aB)))) aB)) (λ_=>rfl))) (aI (bA fV)) aW) (aI (bA (bH nP (cM dH (by rfl) B.tuple eA (aA (cX fN (pv 0) dY (dL (pv 1))) aB)) (cM dH (by rfl) B.tuple eA (aA (eO ["part"] [] [] rfl (.of (show dZ (aG dP) _ ["parts","names","numbers"] [] []=true by decide +kernel)) (fL (cX fN (pv 0) (dL (pv 1)) dY)) (λ_ _ _=>(aS (i:=0) (show (["part"]:List Str).Nodup by decide +kernel) rfl (Or.inl rfl))) (eM (by decide)) (λ_ _ _=>eK) (λ_ _ _=>(cM W7 (by rfl) B.int sC (aA (pv 0) aB)))) aB)))))))),?_⟩
 try dsimp only[cN,cO]
 refine⟨_,rfl,l,_,rfl,.inl (SqL.of hl),_,rfl,_,rfl,_,_,rfl,rfl,_,_,rfl,rfl,_,rfl,?_⟩
 by_cases c0:ps.length≠a+b
 .rw[show decide (((ps.map V.str).length:Int)=(a:Int)+(b:Int))=false from aE7 (by rw[aEN];lia)];refine F5 ?_;exact kb (λz=>c0 z.1) _ (Same.refl _)
 have c0:ps.length=a+b:=Decidable.not_not.mp c0;rw[show decide (((ps.map V.str).length:Int)=(a:Int)+(b:Int))=true from aE8 (by rw[aEN];lia)];refine oW ?_;have au:fP (ps.map V.str) none (some (a:Int))=(ps.take a).map V.str:=by rw[rC,px]
 have av:fP (ps.map V.str) (some (a:Int)) none=(ps.drop a).map V.str:=by rw[jB,rg]
 have bc:∀ n∈ps.take a,Txs n:=λn h=>hp n (nk h);have bd:∀ n∈ps.drop a,Txs n:=λn h=>hp n (pp h);have br:(ps.take a).length<=5001:=by rw[aE2];lia
 have bt:(ps.drop a).length<=5001:=by rw[jp];lia
 unfold iQ at kg kb;generalize ps.take a=ns at *;generalize ps.drop a=xs at *;refine⟨_,rfl,_,rfl,_,rfl,l,_,rfl,SqL.of hl,λc1 U=>?_⟩;rw[au];have g1:=Same.upd (o:=.lst (ns.map V.str)) U;have J:(upd H c1 (.lst (ns.map V.str))) c1=some (.lst (ns.map V.str)):=aJ;generalize upd H c1 (.lst (ns.map V.str))=H1 at g1 J ⊢;refine⟨c1,rfl,⟨_,SqL.of J⟩,fF (K:=K) (a:=c1) (xs:=ns.map V.str) (λi ys M=>Same H1 M/\ys=((ns.take i).map λn=>bI n cF 8).map V.bl) ⟨Same.refl _,rfl⟩ ?_ ?_ ?_⟩
 .rintro i ys M hi ⟨Y,rfl⟩;rw[aEN]at hi;exact⟨SqL.of (Y _ _ J),by rw[aEN,aEN,aE2];exact bV (by lia)⟩
 .rintro i x ys M hi ⟨Y,rfl⟩;obtain⟨z,hz,rfl⟩:∃ z,ns[i]?=some z/\V.str z=x:=by rw[aEa]at hi;exact aEk.mp hi
  refine⟨_,rfl,z,rfl,bc z (aEY hz),λHy gy=>?_⟩;exact⟨Y.trans gy,by rw[jm,hz];simp⟩
 rintro ys M ⟨Y,rfl⟩ c2 aw;rw[aEN,aE0];refine⟨c2,ns.map λn=>bI n cF 8,rfl,aJ,?_⟩;have g2:=(g1.trans Y).trans (Same.upd (o:=.lst ((ns.map λn=>bI n cF 8).map V.bl)) aw);generalize upd M c2 (.lst ((ns.map λn=>bI n cF 8).map V.bl))=H2 at g2 ⊢;rw[uu];refine⟨_,rfl,?_⟩;cases hn:ns.all (id∘λn=>bI n cF 8)with
 | false =>
  refine F5 ?_;exact kb (λz=>by have z2:=z.2.1;rw[show ns.all (λn=>bI n cF 8)=false from hn]at z2;cases z2) _ g2
 | true =>
 refine oW ?_;have bf:=g2 _ _ hl;clear Y aw U J g1;refine⟨_,rfl,_,rfl,_,rfl,l,_,rfl,SqL.of bf,λc1 U=>?_⟩;rw[av];have g1:=Same.upd (o:=.lst (xs.map V.str)) U;have J:(upd H2 c1 (.lst (xs.map V.str))) c1=some (.lst (xs.map V.str)):=aJ;generalize upd H2 c1 (.lst (xs.map V.str))=H3 at g1 J ⊢;refine⟨c1,rfl,⟨_,SqL.of J⟩,fF (K:=K) (a:=c1) (xs:=xs.map V.str) (λi ys M=>Same H3 M/\ys=((xs.take i).map gW).map V.bl) ⟨Same.refl _,rfl⟩ ?_ ?_ ?_⟩
 .rintro i ys M hi ⟨Y,rfl⟩;rw[aEN]at hi;exact⟨SqL.of (Y _ _ J),by rw[aEN,aEN,aE2];exact bV (by lia)⟩
 .rintro i x ys M hi ⟨Y,rfl⟩;obtain⟨z,hz,rfl⟩:∃ z,xs[i]?=some z/\V.str z=x:=by rw[aEa]at hi;exact aEk.mp hi
  refine⟨_,rfl,z,rfl,bd z (aEY hz),λHy gy=>?_⟩;exact⟨Y.trans gy,by rw[jm,hz];simp⟩
 rintro ys M ⟨Y,rfl⟩ c2 aw;rw[aEN,aE0];refine⟨c2,xs.map gW,rfl,aJ,?_⟩;have g3:=g2.trans ((g1.trans Y).trans (Same.upd (o:=.lst ((xs.map gW).map V.bl)) aw));generalize upd M c2 (.lst ((xs.map gW).map V.bl))=H4 at g3 ⊢;rw[uu];refine⟨_,rfl,?_⟩;cases hx:xs.all (id∘gW)with
 | false =>
  refine F5 ?_;exact kb (λz=>by have z2:=z.2.2;rw[show xs.all gW=false from hx]at z2;cases z2) _ g3
 | true =>
 refine oW ?_;have bg:=kg ⟨c0,hn,hx⟩;have bh:∀ z∈xs,gW z=true:=List.all_eq_true.mp hx;have bi:=g3 _ _ hl;clear Y aw U J g1;refine⟨_,rfl,_,rfl,_,rfl,l,_,rfl,SqL.of bi,λc1 U=>?_⟩;rw[au];have g4:=Same.upd (o:=.lst (ns.map V.str)) U;have J:(upd H4 c1 (.lst (ns.map V.str))) c1=some (.lst (ns.map V.str)):=aJ;generalize upd H4 c1 (.lst (ns.map V.str))=H5 at g4 J ⊢;refine⟨c1,_,rfl,.inl ⟨SqL.of J,λt1 ay=>?_⟩⟩;have g5:=Same.upd (o:=.tup (ns.map V.str)) ay;have az:(upd H5 t1 (.tup (ns.map V.str))) t1=some (.tup (ns.map V.str)):=aJ;have bu:H t1=none:=by
  cases q:H t1 with
  | none=>rfl
  | some o=>have:=(g3.trans g4) _ _ q;rw[ay]at this;cases this
 generalize upd H5 t1 (.tup (ns.map V.str))=H6 at g5 az ⊢;have g6:=g3.trans (g4.trans g5);have bj:=g6 _ _ hl;refine⟨_,rfl,_,rfl,_,rfl,l,_,rfl,SqL.of bj,λc3 bn=>?_⟩;rw[av];have g7:=Same.upd (o:=.lst (xs.map V.str)) bn;have ax:(upd H6 c3 (.lst (xs.map V.str))) c3=some (.lst (xs.map V.str)):=aJ;generalize upd H6 c3 (.lst (xs.map V.str))=H7 at g7 ax ⊢;refine⟨c3,rfl,⟨_,SqL.of ax⟩,fF (K:=K) (a:=c3) (xs:=xs.map V.str) (λi ys M=>M=H7/\ys=((xs.take i).map dE).map V.int) ⟨rfl,rfl⟩ ?_ ?_ ?_⟩
 .rintro i ys M hi ⟨rfl,rfl⟩;rw[aEN]at hi;exact⟨SqL.of ax,by rw[aEN,aEN,aE2];exact bV (by lia)⟩
 .rintro i x ys M hi ⟨rfl,rfl⟩;obtain⟨z,hz,rfl⟩:∃ z,xs[i]?=some z/\V.str z=x:=by rw[aEa]at hi;exact aEk.mp hi
  obtain⟨e1,_,e3⟩:=G9 (bh z (aEY hz));refine⟨_,rfl,z,dE z,rfl,by lia,e1,rfl,?_⟩;rw[jm,hz,aE1,aE1];rfl
 rintro ys M ⟨rfl,rfl⟩ c4 bo;rw[aEN,aE0];have g8:=Same.upd (o:=.lst ((xs.map dE).map V.int)) bo;have a_:(upd M c4 (.lst ((xs.map dE).map V.int))) c4=some (.lst ((xs.map dE).map V.int)):=aJ;generalize upd M c4 (.lst ((xs.map dE).map V.int))=H8 at g8 a_ ⊢;refine⟨c4,_,rfl,.inl ⟨SqL.of a_,λt2 bp=>?_⟩⟩;have g9:=Same.upd (o:=.tup ((xs.map dE).map V.int)) bp;have ba:(upd H8 t2 (.tup ((xs.map dE).map V.int))) t2=some (.tup ((xs.map dE).map V.int)):=aJ;generalize upd H8 t2 (.tup ((xs.map dE).map V.int))=H9 at g9 ba ⊢;have bb:=g7.trans (g8.trans g9);have bv:ns.length=min a ps.length:=by
  have e:=congrArg List.length au;rw[rC,aE2,aEN,aEN]at e;exact e.symm
 have bw:xs.length=ps.length - a:=by
  have e:=congrArg List.length av;rw[jB,jp,aEN,aEN]at e;exact e.symm
 exact⟨t1,t2,_,_,rfl,rfl,bb _ _ az,ba,bT (by rw[aEN,aEN,aEN];lia),λt3 H' g et=>bg t3 H' ((g6.trans bb).trans g) et⟩
abbrev pW:Stmt:=top 93
def eC:FnScope ["text","word","parts","things","names","numbers"] ["text"] (aG pW):=.of
def D7 {f dF:Addr} {fd:FuncData} {kvs:List (Key×Value)} (F:Fun K "deed_in" "deed_in" pW f fd) (B:Bt mg) (FM:aB1 P w K dF kvs) (mF:mg "FORMS_pages"=some (.ref dF)) (J:dU P w K mg base "read_parts" 3 ["parts","names","numbers"] nX):FnOk P w K mg base CX0 4 f fd ["text"] xR:=by
 refine F.g eC λbf A outer s H vs Q E hr h=>?_;obtain⟨t,rfl,ht,k,kn⟩:=h;have hu:=hr.units;refine⟨_,(aE (eZ (kF ku sh si zR (pv 0) (aA aP aB)) (R5 (n:=2) (i:=1) rfl (aX (aS (i:=1) eC.nd rfl (Or.inl rfl)) (sO (aS (i:=2) eC.nd rfl (Or.inl rfl)) cT)))) (aE (bM (aV (gT hu) (pv 1) aP (aY _)) (aE (bL (i:=3) eC.nd rfl (Or.inl rfl) (cJ J hr rfl (aA (pv 2) (aA aQ (aA (aZ (V0 rfl) (by rfl) B.max j9 (aA (bH wT (aZ bE (by rfl) B.len gV (aA (pv 2) aB)) aQ) (aA aQ aB))) aB))))) (aI (bA (oZ (iZ (aV rO (pv 3) fV (aY _)) fV (bN (aA (pv 1) (aA (cD cY (pv 3) aQ (λ_ _=>rfl)) (aA (cX i3 (pv 3) (dL aQ) dY) aB))))))))) aW) (aE (bM (wP (wA FM.dict rfl mF (pv 1))) (aI (bA fV)) aW) (aE (eZ (xH FM.dict rfl mF (pv 1) (λ_ _=>rfl)) (fW (n:=2) rfl (aX (aS (i:=4) eC.nd rfl (Or.inl rfl)) (aX (aS (i:=5) eC.nd rfl (Or.inl rfl)) cT)))) (aE (bL (i:=3) eC.nd rfl (Or.inl rfl) (cJ J hr rfl (aA (pv 2) (aA (pv 4) (aA (pv 5) aB))))) (aI (bA (oZ (iZ (aV rO (pv 3) fV (aY _)) fV (bH O7 (bN (aA (pv 1) aB)) (pv 3))))))))))),?_⟩
 try dsimp only[cN,cO]
 have h5:=ht.len;obtain⟨wd,ps,au,a_,av,hpl⟩:=aAH ht;rw[a_]at k kn;refine⟨_,rfl,rfl,t," ",rfl,rfl,by decide,bT (by lia),by rw[au];exact bT (by simp;lia),λl hl=>?_⟩;rw[au];have g1:=Same.upd (o:=.lst ((wd :: ps).map V.str)) hl;have el:(upd H l (.lst ((wd :: ps).map V.str))) l=some (.lst ((wd :: ps).map V.str)):=aJ;generalize upd H l (.lst ((wd :: ps).map V.str))=H1 at g1 el ⊢;have M:((wd :: ps).map V.str).length=ps.length+1:=by simp
 refine⟨l,_,rfl,SqL.of el,by decide,by rw[M];lia,by rw[M];lia,λD hD=>?_⟩;have e1:((wd :: ps).map V.str).take 1++[V.ref D]++(((wd :: ps).map V.str).drop 1).drop (((wd :: ps).map V.str).length+1 - 2)=[V.str wd,V.ref D]:=by
  rw[M];simp
 have e2:(((wd :: ps).map V.str).drop 1).take (((wd :: ps).map V.str).length+1 - 2)=ps.map V.str:=by
  rw[M,aEb,List.drop_one,List.tail_cons,jo (by simp)]
 rw[e1,e2];have g2:=Same.upd (o:=.lst (ps.map V.str)) hD;have eD:(upd H1 D (.lst (ps.map V.str))) D=some (.lst (ps.map V.str)):=aJ;generalize upd H1 D (.lst (ps.map V.str))=H2 at g2 eD ⊢;have L:=g1.trans g2;refine⟨_,_,rfl,_,_,rfl,rfl,?_⟩;have ba:Txs wd:=av wd aEP;have aw:∀ n∈ps,Txs n:=λn hn=>av n (aEQ _ hn);refine⟨_,rfl,_,_,Den.str _,Den.str _,jF ba.asc,(by decide +kernel),_,rfl,?_⟩;rw[S3];refine xB (λhw=>?_) λhw=>?_
 .subst hw;refine⟨_,rfl,_,rfl,D,_,rfl,.inl (SqL.of eD),_,_,rfl,rfl,_,0,rfl,?_⟩;rw[show (if (0:Int) > ((ps.map V.str).length:Int) - 1 then (0:Int)else ((ps.map V.str).length:Int) - 1)=((ps.length - 1:Nat):Int)by rw[aEN];split <;> lia];refine⟨D,ps,1,ps.length - 1,rfl,eD,aw,by lia,λhok t3 O U et=>?_,λY O U=>?_⟩
  .obtain⟨n,xs,rfl,bb⟩:=B2 hok;have ax:O t3=some (.tup ([n].map V.str++(xs.map dE).map V.int)):=et;refine⟨λv H'=>Same H H'/\DeedAt H' v ⟨"build",[n],xs.map dE,true⟩,?_,?_⟩
   .refine⟨_,rfl,rfl,_,rfl,?_⟩;have ay:fP ([n].map V.str++(xs.map dE).map V.int) (some 1) none=(xs.map dE).map V.int:=jB ([n].map V.str++(xs.map dE).map V.int) 1;refine⟨_,rfl,_,rfl,t3,_,_,_,rfl,rfl,SqT.of ax,jO (xs:=[n].map V.str++(xs.map dE).map V.int) (j:=0) rfl,_,rfl,_,rfl,t3,_,rfl,SqT.of ax,?_,λc hc=>?_⟩
    .rintro ⟨z,_⟩;have:HT.sIx (([n].map V.str++(xs.map dE).map V.int).length) 0 (some 1)=1:=by
      simp[HT.sIx]
     rw[this]at z;exact absurd z (by decide)
    rw[ay];have g4:=Same.upd (o:=.tup ((xs.map dE).map V.int)) hc;have ec:(upd O c (.tup ((xs.map dE).map V.int))) c=some (.tup ((xs.map dE).map V.int)):=aJ;generalize upd O c (.tup ((xs.map dE).map V.int))=H4 at g4 ec ⊢;refine⟨(show 3<=sizeLine by decide),λa ha=>⟨(L.trans U).trans (g4.trans (Same.upd ha)),.build aJ ?_⟩⟩;rw[aL (aU ec ha)];exact ec
   .rintro v H' ⟨g,da⟩;exact k _ bb v H' g da
  .refine⟨λv H'=>v=.non/\Same H H',?_,?_⟩
   .exact⟨_,rfl,rfl,_,rfl,rfl,L.trans U⟩
   .rintro v H' ⟨rfl,g⟩;exact kn (uQ Y) H' g
 .refine⟨_,rfl,wd,rfl,_,rfl,?_⟩;rw[FM.has];cases hf:fR wd with
  | none=>exact kn (tG hw hf) H2 L
  | some p =>
  obtain⟨a,b,rfl,bg,bh,bi⟩:=X3 hf;obtain⟨tt,bc,bd⟩:=FM.tup wd _ _ hf;refine⟨_,rfl,wd,tt,rfl,bc,?_⟩;refine⟨tt,_,rfl,bd _,rfl,_,_,rfl,_,_,rfl,rfl,?_⟩;refine⟨_,rfl,_,rfl,_,rfl,D,ps,a,b,rfl,eD,aw,by lia,λhok t3 O U et=>?_,λY O U=>?_⟩
  .refine⟨λv H'=>Same H H'/\DeedAt H' v ⟨wd,ps.take a,(ps.drop a).map dE,false⟩,?_,?_⟩
   .refine⟨_,rfl,rfl,_,rfl,?_⟩;refine⟨_,rfl,(show 1<=sizeLine by decide),λq hq=>?_⟩;have g4:=Same.upd (o:=.tup [V.str wd]) hq;have ea:(upd O q (.tup [V.str wd])) q=some (.tup [V.str wd]):=aJ;generalize upd O q (.tup [V.str wd])=H4 at g4 ea ⊢;refine⟨_,rfl,q,t3,_,_,rfl,rfl,SqT.of ea,SqT.of (g4 _ _ et),by simp,bT (by simp;lia),λaz=>?_,λaz z hz=>⟨((L.trans U).trans g4).trans (Same.upd hz),.plain aJ⟩⟩
    exfalso
    have h0:=congrArg List.length az;have h1:=hok.1;simp at h0;rcases h0.1 with z | z
    .lia
    .rw[z]at h1;simp at h1
     lia
   .rintro v H' ⟨g,da⟩;exact k _ (B3 hw hf hok) v H' g da
  .refine⟨λv H'=>v=.non/\Same H H',?_,?_⟩
   .exact⟨_,rfl,rfl,_,rfl,rfl,L.trans U⟩
   .rintro v H' ⟨rfl,g⟩;exact kn (aAG hw hf Y) H' g
abbrev lH:Stmt:=top 92
def yL:FnScope ["deed","parts","part"] ["deed"] (aG lH):=.of
def vB (F:Fun K "deed_text" "deed_text" lH f fd):FnOk P w K mg base CX0 1 f fd ["deed"] Y5 :=
 F.ok yL (λ_ _ _ _ h=>h.elim) λ_ _ _ _ _ _ _ _ _ h=>h.elim
abbrev oK:Stmt:=top 100
def Z2:FnScope ["things"] ["things"] (aG oK):=.of
def Z3 (F:Fun K "listed" "listed" oK f fd) (B:Bt mg):FnOk P w K mg base CX0 1 f fd ["things"] tK:=by
 refine F.g Z2 λav A outer s H vs Q E hr h=>?_;obtain⟨a,r,rfl,O,U,hl,hx,k⟩:=h;refine⟨_,(aE (bM (jM (cU (pv 0) (λ_=>rfl))) (aI (bA aP)) aW) (aI (bA (kF ku ph tf Q9 aP (aA (eO ["thing"] [] [] rfl (.of (show dZ (aG oK) _ ["things"] [] []=true by decide +kernel)) (fL (pv 0)) (λ_ _ _=>(aS (i:=0) (show (["thing"]:List Str).Nodup by decide +kernel) rfl (Or.inl rfl))) (eM (by decide)) (λ_ _ _=>eK) (λ_ _ _=>(cM pD (by rfl) B.str kM (aA (pv 0) aB)))) aB))))),?_⟩
 try dsimp only[cN,cO]
 have hb:(r.map V.int).isEmpty=false:=by cases r with
  | nil=>exact absurd rfl U
  | cons x r=>rfl
 refine⟨_,rfl,true,.inl ⟨_,SqL.of O,by rw[hb];rfl⟩,(b3 (by decide)).mpr ?_⟩;refine⟨rfl,_,rfl,a,rfl,⟨_,SqL.of O⟩,fF (K:=K) (a:=a) (xs:=r.map V.int) (λi ys M=>M=H/\ys=((r.take i).map nT).map V.str) ⟨rfl,rfl⟩ ?_ ?_ ?_⟩
 .rintro i ys M hi ⟨rfl,rfl⟩;exact⟨SqL.of O,by rw[aEN,aEN,aE2];exact bV (by lia)⟩
 .rintro i x ys M hi ⟨rfl,rfl⟩;rw[aEa]at hi;cases J:r[i]? with
  | none=>rw[J]at hi;cases hi
  | some z =>
   rw[J]at hi;cases hi;have Y:=hx z (aEY J);refine⟨_,rfl,z,rfl,Y.1,rfl,?_⟩;rw[jm,J];simp;rfl
 rintro ys M ⟨rfl,rfl⟩ D hD;rw[aEN,aE0];have L:∀ z∈r.map nT,z.length<=61:=λz J=>by
  obtain⟨x,au,rfl⟩:=aEo.mp J;exact(hx x au).2
 have h1:=x0 (r.map nT) 61 0 L;have h2:=lU (r.map nT) 61 L;have h3:(r.map nT).length * (61+1)<=60 * 62:=by rw[aEN];exact pw _ hl
 have h4:(5000:Nat)<=sizeLine:=by decide
 exact⟨" ",D,r.map nT,rfl,rfl,aJ,by lia,by lia,k _ (Same.upd hD)⟩
abbrev nG:Stmt:=top 98
def D8:FnScope ["house","word"] ["house","word"] (aG nG):=.of
def yM (X:cG K mg) (G:Hc K) (F:Fun K "of_house" "of_house" nG f fd) (z:dU P w K mg base "deed_text" 1 ["deed"] Y5) (J:gL P w K mg base G.Hs "again" 4 ["self"] (nY X G)):FnOk P w K mg base (CXR P w) 5 f fd ["house","word"] (mZ X G):=by
 refine F.gX D8 λY A outer s H vs Q E L M h=>?_;obtain⟨Hb,a,S,ds,rfl,O,k⟩:=h;have U:=M.units;obtain⟨dx,d,p,q,ha⟩:=O.ins;refine⟨_,(aE (bM (aV (gT U) (pv 1) aP (aY _)) (aI bK) aW) (aE (bM (aV (gT U) (pv 1) aP (aY _)) (aI (bA (cJ z M rfl (aA (aAM J G.hs M (cK L) (pv 0)) aB)))) aW) (aI bK))),?_⟩
 try dsimp only[cN,cO]
 refine⟨_,rfl,_,_,Den.str _,Den.str _,(by decide +kernel),(by decide +kernel),_,rfl,(b3 (by decide +kernel)).mpr ?_⟩;refine⟨_,rfl,_,_,Den.str _,Den.str _,(by decide +kernel),(by decide +kernel),_,rfl,(b4 (by decide +kernel)).mpr ?_⟩;exact⟨_,rfl,a,dx,_,rfl,ha,rfl,Hb,a,S,ds,rfl,O,k⟩
abbrev pX:Stmt:=top 99
def uH:FnScope ["house","word","things","row"] ["house","word","things"] (aG pX):=.of
def E1 (X:cG K mg) (G:Hc K) (F:Fun K "of_road" "of_road" pX f fd) (B:Bt mg) (J:dU P w K mg base "listed" 1 ["things"] tK) (z:cQ P w K mg base "carried" 6 ["row","creel"] (nZ X)) (Y:cQ P w K mg base "kin" 6 ["one","other"] Y5) (L:gL P w K mg base G.Hs "row" 8 ["self","name"] (tP X G)):FnOk P w K mg base (CXR P w) 9 f fd ["house","word","things"] (pK X G):=by
 refine F.gX uH λay A outer s H vs Q E M hr h=>?_;obtain⟨Hb,a,t,wd,ns,xs,S,ds,O,rfl,hO,au,ht,hA,kg,kb⟩:=h;have hu:=hr.units;obtain⟨dx,d,p,q,ha⟩:=hO.ins;refine⟨_,(aE (bL (i:=3) uH.nd rfl (Or.inl rfl) (xU L G.hs hr (cK M) (pv 0) (aA (cD cY (pv 2) aQ (λ_ _=>rfl)) aB))) (aE (bM (aV (gT hu) (pv 1) aP (aY _)) (aI (bA (cJ J hr rfl (aA (pv 3) aB)))) aW) (aE (bM (aV (gT hu) (pv 1) aP (aY _)) (aI bK) aW) (aE (bM (aV (gT hu) (pv 1) aP (aY _)) (aI bK) aW) (aE (bM (aV (gT hu) (pv 1) aP (aY _)) (aI (bA (cM pD (by rfl) B.str kM (aA (cC z hr rfl (cK M) (aA (pv 3) (aA (cD cY (pv 2) aQ (λ_ _=>rfl)) aB))) aB)))) aW) (aE (bM (aV (gT hu) (pv 1) aP (aY _)) (aI bK) aW) (aI (bA (oZ (iZ (aV (gT hu) (cD eI (cC Y hr rfl (cK M) (aA (pv 3) (aA (xU L G.hs hr (cK M) (pv 0) (aA (cD cY (pv 2) aQ (λ_ _=>rfl)) aB)) aB))) aQ (λ_ _=>rfl)) aP (aY _)) aP aP)))))))))),?_⟩
 try dsimp only[cN,cO]
 have W:∀ {x y:Str},uO x->SeqAt.shaped (.str x)=true:=λh=>jF h;cases hA with
 | @row n D hm hw aw hl hx =>
  refine⟨_,rfl,a,dx,_,rfl,ha,rfl,_,rfl,t,_,_,_,rfl,rfl,SqT.of ht,rfl,.good Hb a n S ds D rfl hO au hm hw λl H1 av U e1=>?_⟩;refine⟨_,rfl,_,_,Den.str _,Den.str _,(by decide +kernel),(by decide +kernel),_,rfl,(b4 (by decide +kernel)).mpr ?_⟩;exact⟨_,rfl,l,D.row,rfl,e1,aw,hl,hx,λH' g=>kg _ rfl H' (U.trans g)⟩
 | @load n D hm hw ax =>
  refine⟨_,rfl,a,dx,_,rfl,ha,rfl,_,rfl,t,_,_,_,rfl,rfl,SqT.of ht,rfl,.good Hb a n S ds D rfl hO au hm hw λl H1 av U e1=>?_⟩
  iterate 3 refine⟨_,rfl,_,_,Den.str _,Den.str _,(by decide +kernel),(by decide +kernel),_,rfl,(b3 (by decide +kernel)).mpr ?_⟩
  refine⟨_,rfl,_,_,Den.str _,Den.str _,(by decide +kernel),(by decide +kernel),_,rfl,(b4 (by decide +kernel)).mpr ?_⟩;exact⟨_,rfl,_,rfl,t,_,_,_,rfl,rfl,SqT.of (U _ _ ht),rfl,l,D.row,-1,rfl,e1,ax,by decide,(kb _ rfl).mono U⟩
 | @kin n m D hm hw h0 =>
  refine⟨_,rfl,a,dx,_,rfl,ha,rfl,_,rfl,t,_,_,_,rfl,rfl,SqT.of ht,rfl,.good Hb a n S ds D rfl hO au hm hw λl H1 av U e1=>?_⟩
  iterate 5 refine⟨_,rfl,_,_,Den.str _,Den.str _,(by decide +kernel),(by decide +kernel),_,rfl,(b3 (by decide +kernel)).mpr ?_⟩
  refine⟨λ_ _=>False,?_,λ_ _ h=>h.elim⟩;exact⟨_,rfl,_,rfl,a,dx,_,rfl,U _ _ ha,rfl,_,rfl,t,_,_,_,rfl,rfl,SqT.of (U _ _ ht),rfl,.bad Hb a m S ds rfl (hO.same U) h0 ((kb _ rfl).mono U)⟩
abbrev uI:Stmt:=top 97
def fK:FnScope ["house","line","deed","word","parts","names","numbers","things"] ["house","line"] (aG uI):=.of
def M0 {f dK:Addr} {fd:FuncData} {kvs:List (Key×Value)} (X:cG K mg) (G:Hc K) (F:Fun K "answer" "answer" uI f fd) (B:Bt mg) (FD:aAW P w K dK kvs) (mD:mg "FORMS_desk"=some (.ref dK)) (au:dU P w K mg base "deed_in" 4 ["text"] xR) (J:dU P w K mg base "read_parts" 3 ["parts","names","numbers"] nX) (bc:gL P w K mg base G.Hs "do" 12 ["self","deed"] (U0 X G)) (Y:cQ P w K mg base "of_house" 5 ["house","word"] (mZ X G)) (av:cQ P w K mg base "of_road" 9 ["house","word","things"] (pK X G)):FnOk P w K mg base (CXR P w) 13 f fd ["house","line"] (pL X G):=by
 refine F.gX fK λbi A outer s H vs Q E a_ hr h=>?_;obtain⟨Hb,a,z,S,ds,O,rfl,hO,hn,ba,hS,kg,kb⟩:=h;have hu:=hr.units;refine⟨_,(aE (bL (i:=2) fK.nd rfl (Or.inl rfl) (cJ au hr rfl (aA (pv 1) aB))) (aE (bM (aV aAb (pv 2) fV (aY _)) (aE (bG (xU bc G.hs hr (cK a_) (pv 0) (aA (pv 2) aB))) (aI (bA aP))) aW) (aE (eZ (kF ku sh si zR (pv 1) (aA aP aB)) (R5 (n:=2) (i:=1) rfl (aX (aS (i:=3) fK.nd rfl (Or.inl rfl)) (sO (aS (i:=4) fK.nd rfl (Or.inl rfl)) cT)))) (aE (bM (wP (wA FD.dict rfl mD (pv 3))) (aI (bA aP)) aW) (aE (eZ (xH FD.dict rfl mD (pv 3) (λ_ _=>rfl)) (fW (n:=2) rfl (aX (aS (i:=5) fK.nd rfl (Or.inl rfl)) (aX (aS (i:=6) fK.nd rfl (Or.inl rfl)) cT)))) (aE (bL (i:=7) fK.nd rfl (Or.inl rfl) (cJ J hr rfl (aA (pv 4) (aA (pv 5) (aA (pv 6) aB))))) (aE (bM (aV rO (pv 7) fV (aY _)) (aI (bA aP)) aW) (aE (bM (aV aBv (pv 5) aQ (aY _)) (aI (bA (cC Y hr rfl (cK a_) (aA (pv 0) (aA (pv 3) aB))))) aW) (aI (bA (cC av hr rfl (cK a_) (aA (pv 0) (aA (pv 3) (aA (pv 7) aB)))))))))))))),?_⟩
 try dsimp only[cN,cO]
 obtain⟨dx,d,p,q,ha⟩:=hO.ins;cases hS with
 | @deed d S' h hd =>
  obtain⟨ws,L,M,U⟩:=Ln.split h;refine⟨_,rfl,_,rfl,M,λd' aw v H1 g1 hv=>?_,λax=>(nomatch ax.symm.trans U)⟩;obtain rfl:d'=d:=jk (aw.symm.trans U);obtain⟨b,rfl⟩:∃ b,v=.ref b:=by cases hv <;> exact⟨_,rfl⟩
  refine⟨_,rfl,rfl,_,rfl,?_⟩;refine⟨_,rfl,a,dx,_,rfl,g1 _ _ ha,rfl,_,rfl,Hb,a,_,d',S,ds,_,rfl,hO.same g1,hn,ba,hv,hd,λS2 e2 H2 h2=>?_,λr e=>nomatch e⟩;cases e2;exact kg _ _ _ rfl H2 h2
 | @deedx d r h hd =>
  obtain⟨ws,L,M,U⟩:=Ln.split h;refine⟨_,rfl,_,rfl,M,λd' aw v H1 g1 hv=>?_,λax=>(nomatch ax.symm.trans U)⟩;obtain rfl:d'=d:=jk (aw.symm.trans U);obtain⟨b,rfl⟩:∃ b,v=.ref b:=by cases hv <;> exact⟨_,rfl⟩
  refine⟨_,rfl,rfl,_,rfl,?_⟩;exact⟨_,rfl,a,dx,_,rfl,g1 _ _ ha,rfl,_,rfl,Hb,a,_,d',S,ds,_,rfl,hO.same g1,hn,ba,hv,hd,(λS2 e2=>nomatch e2),λr' e=>by cases e;exact(kb _ rfl).mono g1⟩
 | again =>
  obtain⟨ws,L,M,U,rfl⟩:=Ln.split .again;refine⟨_,rfl,_,rfl,M,(λd' aw=>nomatch U.symm.trans aw),λ_ H1 g1=>?_⟩;have h5:("again":Str).length<=5000:=M.len;have L:Txt.split "again" " "=[("again":Str)]:=L;refine⟨_,rfl,rfl,_,rfl,?_⟩;refine⟨_,rfl,rfl,_," ",rfl,rfl,by decide,bT (by lia),by rw[L];exact bT (by simp),λl hl=>?_⟩;rw[L];refine bJ hl λH2 g2 el=>?_;refine⟨l,_,rfl,SqL.of el,by decide,(show 2<=2 by decide),(show 1<=16384 by decide),λD hD=>?_⟩;refine bJ hD λH3 g3 eD=>?_;refine⟨_,_,rfl,_,_,rfl,rfl,?_⟩;obtain⟨tt,ay,bb⟩:=FD.tup "again" _ _ rfl;refine⟨_,rfl,_,rfl,_,rfl,?_⟩;rw[ay];refine⟨_,rfl,_,tt,rfl,ay,?_⟩;refine⟨tt,_,rfl,bb _,rfl,_,_,rfl,_,_,rfl,rfl,?_⟩;refine⟨_,rfl,_,rfl,_,rfl,D,[],0,0,rfl,eD,(λ_ h=>nomatch h),(show 0<=5001 by decide),λ_ t3 H4 g4 e4=>?_,λax=>absurd ⟨rfl,rfl,rfl⟩ ax⟩;refine⟨_,rfl,rfl,_,rfl,?_⟩;have gA:=((g1.trans g2).trans g3).trans g4;refine⟨_,rfl,_,_,rfl,rfl,_,rfl,?_⟩;exact⟨_,rfl,_,rfl,Hb,a,S,ds,rfl,hO.same gA,(kb _ rfl).mono gA⟩
 | @ask wd ns xs O bd h =>
  obtain⟨L,M,U,hf,h1,h2,bf,hok,bg⟩:=h.say bd;have bh:(ns++xs.map nT).take ns.length=ns:=ub;generalize ns++xs.map nT=ps at *;generalize Builtin.Str.glued " " (wd :: ps)=z at *;refine⟨_,rfl,_,rfl,M,(λd' aw=>nomatch U.symm.trans aw),λ_ H1 g1=>?_⟩;have h5:=M.len;refine⟨_,rfl,rfl,_,rfl,?_⟩;refine⟨_,rfl,rfl,_," ",rfl,rfl,by decide,bT (by lia),by rw[L];exact bT (by simp;lia),λl hl=>?_⟩;rw[L];refine bJ hl λH2 g2 el=>?_;have az:((wd :: ps).map V.str).length=ps.length+1:=by simp
  refine⟨l,_,rfl,SqL.of el,by decide,by rw[az];lia,by rw[az];lia,λD hD=>?_⟩;have e1:((wd :: ps).map V.str).take 1++[V.ref D]++(((wd :: ps).map V.str).drop 1).drop (((wd :: ps).map V.str).length+1 - 2)=[V.str wd,V.ref D]:=by
   rw[az];simp
  have e2:(((wd :: ps).map V.str).drop 1).take (((wd :: ps).map V.str).length+1 - 2)=ps.map V.str:=by
   rw[az,aEb,List.drop_one,List.tail_cons,jo (by simp)]
  rw[e1,e2];refine bJ hD λH3 g3 eD=>?_;refine⟨_,_,rfl,_,_,rfl,rfl,?_⟩;obtain⟨tt,ay,bb⟩:=FD.tup wd _ _ hf;refine⟨_,rfl,_,rfl,_,rfl,?_⟩;rw[ay];refine⟨_,rfl,_,tt,rfl,ay,?_⟩;refine⟨tt,_,rfl,bb _,rfl,_,_,rfl,_,_,rfl,rfl,?_⟩;refine⟨_,rfl,_,rfl,_,rfl,D,ps,ns.length,xs.length,rfl,eD,bf,by lia,λ_ t3 H4 g4 e4=>?_,λax=>absurd hok ax⟩;refine⟨_,rfl,rfl,_,rfl,?_⟩;have gA:=((g1.trans g2).trans g3).trans g4;rw[bh,bg]at e4;refine⟨_,rfl,_,_,rfl,rfl,_,rfl,?_⟩;rw[show decide ((ns.length:Int)=0)=false from aE7 (by lia)];refine⟨_,rfl,_,rfl,_,rfl,Hb,a,t3,wd,ns,xs,S,ds,_,rfl,hO.same gA,ba,e4,h,λy ey H5 g5=>?_,λr er=>?_⟩
  .subst ey;exact kg _ _ _ rfl H5 (hO.same (gA.trans g5))
  .subst er;exact(kb _ rfl).mono gA
abbrev gH:Stmt:=bU (top 96) 0
def pY:FnScope ["self"] ["self"] (aG gH):=.of
def vC (G:Hc K) (D:Dc K) (F:Fun K "__init__" "Desk.__init__" gH f fd) (z:iM P w K mg base "House" G.Hs 1 ["self"] (jI G)):FnOk P w K mg base CX0 3 f fd ["self"] (rK G D):=by
 refine F.g pY λU A outer s H vs Q E Y h=>?_;obtain⟨x,dx,rfl,M,k⟩:=h;refine⟨_,(aI (dR (pv 0) (S1 z Y rfl) rfl)),?_⟩
 try dsimp only[cN,cO]
 refine λa da ha J L=>aCb ha J L λH' O=>?_;exact⟨_,rfl,x,_,dx,_,rfl,O.1 _ _ M,D.dk,D.ho,(show 0<1000 by decide),k a _ (O.set M)⟩
abbrev nH:Stmt:=bU (top 96) 1
def qP:FnScope ["self","line","refusal"] ["self","line"] (aG nH):=.of
def yN {X:cG K mg} {G:Hc K} {D:Dc K} (W:aC5 X) (F:Fun K "say" "Desk.say" nH f fd) (J:cQ P w K mg base "answer" 13 ["house","line"] (pL X G)):FnOk P w K mg base CX0 14 f fd ["self","line"] (xX G D):=by
 refine F.g qP λau A outer s H vs Q E hr h=>?_;obtain⟨Hb,k,dx,a,z,S,ds,O,rfl,hk,M,hn,hu,Y,kg,kb⟩:=h;refine⟨_,(aI (aBJ ⟨rfl,rfl,rfl⟩ (aAE J hr rfl (λ_=>(aA (aBK K rfl (pv 0) rfl) (aA (pv 1) aB)))) (z5 (i:=2) rfl X.m_err qP.nd rfl rfl (λe=>(aI (bA (dA (aM (bD (by decide)) (aM (cR (aAz K rfl (pv 2) rfl)) bS)))))) aCS))),?_⟩
 try dsimp only[cN,cO]
 have U:=M.1 _ _ hk;refine⟨_,rfl,k,_,dx,_,_,rfl,U,D.dk,D.ho,rfl,_,rfl,Hb,a,z,S,ds,O,rfl,M,hn,hu,Y,λS' av t e H' h'=>?_,λr e=>?_⟩
 .subst e;exact kg _ _ _ rfl H' h'
 .subst e;refine λH' g=>go9 (λz=>aC4 Y (by rw[z])) λc fs hc hw L hd e he=>?_;have g3:=(Same.upd (o:=.xd fs) hd).trans (Same.upd (o:=XH e (.ref c) (some L)) he);have ex:(upd (upd H' L (.xd fs)) e (XH e (.ref c) (some L))) L=some (.xd fs):=(Same.upd he) _ _ aJ;have ee:(upd (upd H' L (.xd fs)) e (XH e (.ref c) (some L))) e=some (XH e (.ref c) (some L)):=aJ;exact⟨_,W.exe c hc,F5 ⟨_,rfl,e,c,L,fs,_,rfl,ee,ex,W.wd c hc,hw,_,rfl,aB8 r,kb r rfl _ (M.same (g.trans g3))⟩⟩
abbrev eS:Stmt:=bU (top 2) 0
def nI:FnScope ["self","why","word"] ["self","why","word"] (aG eS):=.of
def mI (F:FunD K "__init__" "CreelError.__init__" eS f fd) (z:mg "ValueError"=none):FnOkH P w K mg base CX0 1 f fd ["self","why","word"] (aCT K):=by
 refine F.okH nI (λvs H Q E h=>?_) (λJ A outer s H vs Q E O h=>?_)
 .obtain⟨e,C,i,a,b,rfl,_⟩:=h;rfl
 .obtain⟨e,C,i,a,b,rfl,he,L,M,k⟩:=h;refine⟨_,(aE (bG (z8 rfl z (aA (pv 0) (aA (pv 1) aB)))) (aI (aCQ (pv 0) (pv 2) rfl))),?_⟩
  try dsimp only[cN,cO]
  exact⟨_,rfl,_,rfl,e,C,i,none,_,rfl,by show 1<=sizeLine;decide,he,L,_,rfl,_,rfl,e,C,rfl,he,M,λdx h1 h2=>k dx h1 h2⟩
abbrev kC:Stmt:=bU (top 17) 0
def vD:FnScope ["self","at"] ["self","at"] (aG kC):=.of
def uJ {f C D fB:Addr} {i:Option Value} {fd am:FuncData} (F:Fun K "__init__" "Clash.__init__" kC f fd) (OI:B0 K D fB) (FB:FnOkH P w K mg base CX0 1 fB am ["self","why","word"] (aCT K)) (bB:Binds K am ["self","why","word"] []) (mD:mg "CreelError"=some (.ref D)) (J:tD K C i) (L:gY K C "word") (M:gY K C "at"):FnOkH P w K mg base CX0 2 f fd ["self","at"] (aAB "Clash" C):=by
 refine F.okH vD (λvs H Q E h=>?_) (λO A outer s H vs Q E U h=>?_)
 .obtain⟨e,i,rfl,_⟩:=h;rfl
 .obtain⟨e,n,rfl,hi,he,k⟩:=h;refine⟨_,(aE (bG (Y0 OI FB U bB eJ rfl mD (aA (pv 0) (aA (lT (cB (fY (by decide)) (cB (pC (pv 1)) (cB (fY (by decide)) lS)))) (aA aP aB)))))
   (aI (T2 (pv 0) (pv 1) rfl))),?_⟩
  try dsimp only[cN,cO]
  refine⟨_,rfl,_,rfl,n,rfl,hi.1,hi.2,λz=>⟨e,C,i,_,_,rfl,he,J,L,λdx h1 h2=>⟨_,rfl,_,rfl,e,C,dx,_,rfl,aJ,(by rw[aL h2];exact aJ),by show 1<=1000;decide,M,?_⟩⟩⟩;show Q .non _;rw[wE h2];exact k dx h1 h2
abbrev hV:Stmt:=bU (top 3) 0
def qW:FnScope ["self","why"] ["self","why"] (aG hV):=.of
abbrev iW:Stmt:=bU (top 4) 0
def uK:FnScope ["self","at"] ["self","at"] (aG iW):=.of
abbrev gJ:Stmt:=bU (top 5) 0
def pZ:FnScope ["self","why"] ["self","why"] (aG gJ):=.of
abbrev hW:Stmt:=bU (top 7) 0
def qX:FnScope ["self","why"] ["self","why"] (aG hW):=.of
abbrev lI:Stmt:=bU (top 8) 0
def yO:FnScope ["self","why"] ["self","why"] (aG lI):=.of
abbrev kD:Stmt:=bU (top 10) 0
def vE:FnScope ["self","why"] ["self","why"] (aG kD):=.of
abbrev lJ:Stmt:=bU (top 11) 0
def yP:FnScope ["self","why"] ["self","why"] (aG lJ):=.of
abbrev iX:Stmt:=bU (top 12) 0
def uL:FnScope ["self","why"] ["self","why"] (aG iX):=.of
abbrev lL:Stmt:=bU (top 13) 0
def yQ:FnScope ["self","why"] ["self","why"] (aG lL):=.of
abbrev hX:Stmt:=bU (top 14) 0
def qY:FnScope ["self","why"] ["self","why"] (aG hX):=.of
abbrev iE:Stmt:=bU (top 15) 0
def qZ:FnScope ["self","why"] ["self","why"] (aG iE):=.of
abbrev iG:Stmt:=bU (top 16) 0
def rA:FnScope ["self","why"] ["self","why"] (aG iG):=.of
abbrev eE:Stmt:=bU (top 18) 0
def mJ:FnScope ["self","why"] ["self","why"] (aG eE):=.of
section
variable {C D I fB:Addr} {h:Heap} {am:FuncData} (X:K.In h) (G:h.Ns mainGlobals mg) (OI:B0 K D fB) (FB:FnOk P w K mg base CX0 1 fB am ["self","why","word"] (aCT K)) (bB:Binds K am ["self","why","word"] []) (mD:mg "CreelError"=some (.ref D))
include X G OI FB bB mD
def Z4 (E:ErrD K "TooMany" "TooMany.__init__" hV D C I fd):RA0 P w K mg base "TooMany" C:=E.r X G (E.F.ok qW (λvs H Q E h=>by obtain⟨e,a,rfl,_⟩:=h;rfl) λz A outer s H vs Q e J h=>by
 obtain⟨e,a,rfl,he,k⟩:=h;refine⟨_,(aI (bG (cZ OI FB J bB eJ rfl mD (aA (pv 0) (aA (pv 1) (aA aP aB)))))),?_⟩;exact⟨_,rfl,_,rfl,e,C,_,a,_,rfl,he,E.x,E.s,k⟩)
def aA3 (E:ErrA K "BadRow" "BadRow.__init__" iW D C I fd):RAI P w K mg base "BadRow" C:=E.r X G (E.F.ok uK (λvs H Q E h=>by obtain⟨e,a,rfl,_⟩:=h;rfl) λJ A outer s H vs Q e L h=>by
 obtain⟨e,n,rfl,hi,he,k⟩:=h;refine⟨_,(aE (bG (cZ OI FB L bB eJ rfl mD (aA (pv 0) (aA (lT (cB (fY (by decide)) (cB (pC (pv 1)) (cB (fY (by decide)) lS)))) (aA aP aB)))))
  (aI (T2 (pv 0) (pv 1) rfl))),?_⟩
 refine⟨_,rfl,_,rfl,n,rfl,hi.1,hi.2,λz=>⟨e,C,_,_,_,rfl,he,E.x,E.s,λdx h1 h2=>⟨_,rfl,_,rfl,e,C,dx,_,rfl,aJ,(by rw[aL h2];exact aJ),by show 1<=1000;decide,E.t,?_⟩⟩⟩;show Q .non _;rw[wE h2];exact k dx h1 h2)
def M3 (E:ErrD K "BadCreel" "BadCreel.__init__" gJ D C I fd):RA0 P w K mg base "BadCreel" C:=E.r X G (E.F.ok pZ (λvs H Q E h=>by obtain⟨e,a,rfl,_⟩:=h;rfl) λz A outer s H vs Q e J h=>by
 obtain⟨e,a,rfl,he,k⟩:=h;refine⟨_,(aI (bG (cZ OI FB J bB eJ rfl mD (aA (pv 0) (aA (pv 1) (aA aP aB)))))),?_⟩;exact⟨_,rfl,_,rfl,e,C,_,a,_,rfl,he,E.x,E.s,k⟩)
def Z5 (E:ErrD K "TooNear" "TooNear.__init__" hW D C I fd):RA0 P w K mg base "TooNear" C:=E.r X G (E.F.ok qX (λvs H Q E h=>by obtain⟨e,a,rfl,_⟩:=h;rfl) λz A outer s H vs Q e J h=>by
 obtain⟨e,a,rfl,he,k⟩:=h;refine⟨_,(aI (bG (cZ OI FB J bB eJ rfl mD (aA (pv 0) (aA (pv 1) (aA aP aB)))))),?_⟩;exact⟨_,rfl,_,rfl,e,C,_,a,_,rfl,he,E.x,E.s,k⟩)
def aCg (E:ErrD K "Bare" "Bare.__init__" lI D C I fd):RA0 P w K mg base "Bare" C:=E.r X G (E.F.ok yO (λvs H Q E h=>by obtain⟨e,a,rfl,_⟩:=h;rfl) λz A outer s H vs Q e J h=>by
 obtain⟨e,a,rfl,he,k⟩:=h;refine⟨_,(aI (bG (cZ OI FB J bB eJ rfl mD (aA (pv 0) (aA (pv 1) (aA aP aB)))))),?_⟩;exact⟨_,rfl,_,rfl,e,C,_,a,_,rfl,he,E.x,E.s,k⟩)
def aBR (E:ErrD K "Taken" "Taken.__init__" kD D C I fd):RA0 P w K mg base "Taken" C:=E.r X G (E.F.ok vE (λvs H Q E h=>by obtain⟨e,a,rfl,_⟩:=h;rfl) λz A outer s H vs Q e J h=>by
 obtain⟨e,a,rfl,he,k⟩:=h;refine⟨_,(aI (bG (cZ OI FB J bB eJ rfl mD (aA (pv 0) (aA (pv 1) (aA aP aB)))))),?_⟩;exact⟨_,rfl,_,rfl,e,C,_,a,_,rfl,he,E.x,E.s,k⟩)
def aCh (E:ErrD K "Full" "Full.__init__" lJ D C I fd):RA0 P w K mg base "Full" C:=E.r X G (E.F.ok yP (λvs H Q E h=>by obtain⟨e,a,rfl,_⟩:=h;rfl) λz A outer s H vs Q e J h=>by
 obtain⟨e,a,rfl,he,k⟩:=h;refine⟨_,(aI (bG (cZ OI FB J bB eJ rfl mD (aA (pv 0) (aA (pv 1) (aA aP aB)))))),?_⟩;exact⟨_,rfl,_,rfl,e,C,_,a,_,rfl,he,E.x,E.s,k⟩)
def aA4 (E:ErrD K "NoRoad" "NoRoad.__init__" iX D C I fd):RA0 P w K mg base "NoRoad" C:=E.r X G (E.F.ok uL (λvs H Q E h=>by obtain⟨e,a,rfl,_⟩:=h;rfl) λz A outer s H vs Q e J h=>by
 obtain⟨e,a,rfl,he,k⟩:=h;refine⟨_,(aI (bG (cZ OI FB J bB eJ rfl mD (aA (pv 0) (aA (pv 1) (aA aP aB)))))),?_⟩;exact⟨_,rfl,_,rfl,e,C,_,a,_,rfl,he,E.x,E.s,k⟩)
def aCi (E:ErrD K "Laid" "Laid.__init__" lL D C I fd):RA0 P w K mg base "Laid" C:=E.r X G (E.F.ok yQ (λvs H Q E h=>by obtain⟨e,a,rfl,_⟩:=h;rfl) λz A outer s H vs Q e J h=>by
 obtain⟨e,a,rfl,he,k⟩:=h;refine⟨_,(aI (bG (cZ OI FB J bB eJ rfl mD (aA (pv 0) (aA (pv 1) (aA aP aB)))))),?_⟩;exact⟨_,rfl,_,rfl,e,C,_,a,_,rfl,he,E.x,E.s,k⟩)
def Z6 (E:ErrD K "NoStone" "NoStone.__init__" hX D C I fd):RA0 P w K mg base "NoStone" C:=E.r X G (E.F.ok qY (λvs H Q E h=>by obtain⟨e,a,rfl,_⟩:=h;rfl) λz A outer s H vs Q e J h=>by
 obtain⟨e,a,rfl,he,k⟩:=h;refine⟨_,(aI (bG (cZ OI FB J bB eJ rfl mD (aA (pv 0) (aA (pv 1) (aA aP aB)))))),?_⟩;exact⟨_,rfl,_,rfl,e,C,_,a,_,rfl,he,E.x,E.s,k⟩)
def Z7 (E:ErrD K "NoEntry" "NoEntry.__init__" iE D C I fd):RA0 P w K mg base "NoEntry" C:=E.r X G (E.F.ok qZ (λvs H Q E h=>by obtain⟨e,a,rfl,_⟩:=h;rfl) λz A outer s H vs Q e J h=>by
 obtain⟨e,a,rfl,he,k⟩:=h;refine⟨_,(aI (bG (cZ OI FB J bB eJ rfl mD (aA (pv 0) (aA (pv 1) (aA aP aB)))))),?_⟩;exact⟨_,rfl,_,rfl,e,C,_,a,_,rfl,he,E.x,E.s,k⟩)
def Z8 (E:ErrD K "NotWalk" "NotWalk.__init__" iG D C I fd):RA0 P w K mg base "NotWalk" C:=E.r X G (E.F.ok rA (λvs H Q E h=>by obtain⟨e,a,rfl,_⟩:=h;rfl) λz A outer s H vs Q e J h=>by
 obtain⟨e,a,rfl,he,k⟩:=h;refine⟨_,(aI (bG (cZ OI FB J bB eJ rfl mD (aA (pv 0) (aA (pv 1) (aA aP aB)))))),?_⟩;exact⟨_,rfl,_,rfl,e,C,_,a,_,rfl,he,E.x,E.s,k⟩)
def vF (E:ErrD K "NothingLeft" "NothingLeft.__init__" eE D C I fd):RA0 P w K mg base "NothingLeft" C:=E.r X G (E.F.ok mJ (λvs H Q E h=>by obtain⟨e,a,rfl,_⟩:=h;rfl) λz A outer s H vs Q e J h=>by
 obtain⟨e,a,rfl,he,k⟩:=h;refine⟨_,(aI (bG (cZ OI FB J bB eJ rfl mD (aA (pv 0) (aA (pv 1) (aA aP aB)))))),?_⟩;exact⟨_,rfl,_,rfl,e,C,_,a,_,rfl,he,E.x,E.s,k⟩)
end
abbrev iY:Stmt:=top 102
def bW:FnScope ["_law_script","_law_many","_law_row","_law_seed","_law_cell","_law_rest","_law_k"] ["_law_script","_law_many"] (aG iY):=.of
inductive lM (H:Hp) (a:Addr) (l:Addr) (p:Addr) (m:Nat) (ms:List Int) (i:Nat) (σ:St) (H2:Hp):Prop
 | mk (seed:Int) (xs:List Int) (v1 v2 v3:Option V) (k0_:σ=[some (.ref a),some (.int m),some (.ref l),some (.int seed),v1,v2,v3]) (k1_:Same H H2) (k2_:H2 p=some (.lst (ms.map V.int))) (k3_:H2 l=some (.lst (xs.map V.int))) (k4_:m3 xs) (k5_:xs.length<=61 * i) (k6_:0<=seed) (k7_:seed<2147483629):lM H a l p m ms i σ H2
inductive lN (H:Hp) (a:Addr) (l:Addr) (p:Addr) (m:Nat) (ms:List Int) (i:Nat) (seed:Int) (z:Int) (v3:Option V) (σ:St) (H3:Hp):Prop
 | mk (ys:List Int) (k0_:σ=[some (.ref a),some (.int m),some (.ref l),some (.int (sd1 seed z)),some (.int z),some (.int (rs1 z)),v3]) (k1_:Same H H3) (k2_:H3 p=some (.lst (ms.map V.int))) (k3_:H3 l=some (.lst (ys.map V.int))) (k4_:m3 ys) (k5_:ys.length<=61 * i+1):lN H a l p m ms i seed z v3 σ H3
inductive lO (H:Hp) (a:Addr) (l:Addr) (p:Addr) (m:Nat) (ms:List Int) (i:Nat) (seed:Int) (z:Int) (j:Nat) (σ:St) (H4:Hp):Prop
 | mk (r:Int) (ys:List Int) (v:Option V) (k0_:σ=[some (.ref a),some (.int m),some (.ref l),some (.int (sd1 seed z)),some (.int z),some (.int r),v]) (k1_:Same H H4) (k2_:H4 p=some (.lst (ms.map V.int))) (k3_:H4 l=some (.lst (ys.map V.int))) (k4_:m3 ys) (k5_:ys.length<=61 * i+1+j):lO H a l p m ms i seed z j σ H4
inductive lP (H:Hp) (a:Addr) (l:Addr) (m:Nat) (v1:Option V) (v2:Option V) (v3:Option V) (σ:St) (H3:Hp):Prop
 | mk (seed:Int) (ys:List Int) (k0_:σ=[some (.ref a),some (.int m),some (.ref l),some (.int seed),v1,v2,v3]) (k1_:Same H H3) (k2_:H3 l=some (.lst (ys.map V.int))) (k3_:m3 ys) (k4_:ys.length<=5000) (k5_:0<=seed) (k6_:seed<2147483629):lP H a l m v1 v2 v3 σ H3
def M4 (F:Fun K "_law_numbers" "_law_numbers" iY f fd) (B:Bt mg):FnOk P w K mg base CX0 1 f fd ["_law_script","_law_many"] (pA K):=by
 refine F.ok bW (λvs H Q E h=>?_) (λbd A outer s H vs Q E hr h=>?_)
 .obtain⟨a,sc,m,rfl,_⟩:=h;rfl
 .obtain⟨a,sc,m,rfl,hS,hlen,hm,k⟩:=h;refine⟨_,(fH (bL (i:=2) bW.nd rfl (Or.inl rfl) (kJ aB)) (fH (bL (i:=3) bW.nd rfl (Or.inl rfl) aQ) (fH (iT jy rfl (fL (cX fN (pv 0) dY (dL aQ))) (aS (i:=4) bW.nd rfl (Or.inl rfl)) (fH (bL (i:=3) bW.nd rfl (Or.inl rfl) (bH gS (bH dB (bH dB (bH oO (pv 3) aQ) (bH gS (pv 4) aQ)) aQ) aQ)) (fH (bL (i:=5) bW.nd rfl (Or.inl rfl) (bH wT (pv 4) (bH aBl aQ aQ))) (P6 (bM (aV nK (pv 5) aQ (aY _)) (aI (bG (kF aEh aEi aEj fE (pv 2) (aA (bH gS (pv 4) aQ) aB)))) aW) (aI (iT jy rfl (lQ rfl B.range (aA aQ aB)) (aS (i:=6) bW.nd rfl (Or.inl rfl)) (aI (bM (aV qB (pv 5) aQ (aY _)) (fH (bG (kF aEh aEi aEj fE (pv 2) (aA (bH gS (pv 5) aQ) aB))) (aI (bL (i:=5) bW.nd rfl (Or.inl rfl) (bH M8 (pv 5) aQ)))) aW)))))))) (aE (yU jy (aV nK (aZ bE (by rfl) B.len gV (aA (pv 2) aB)) (pv 1) (aY _)) (fH (bL (i:=3) bW.nd rfl (Or.inl rfl) (bH gS (bH dB (bH dB (bH dB (bH oO (pv 3) (pv 3)) (bH oO aQ (pv 3))) (bH oO aQ (aZ bE (by rfl) B.len gV (aA (pv 2) aB)))) aQ) aQ)) (aI (bG (kF aEh aEi aEj fE (pv 2) (aA (bH gS (bH M8 (pv 3) aQ) aQ) aB)))))) (aI (bA (cX fN (pv 2) dY (dL (pv 1))))))))),?_⟩
  try dsimp only[cN,cO]
  refine λM1 L=>?_;refine⟨by decide,λl hl=>?_⟩;refine L [some (.ref a),some (.int m),some (.ref l),none,none,none,none] _ ?_;clear L M1;refine λM1 L=>?_;refine L [some (.ref a),some (.int m),some (.ref l),some (.int 59),none,none,none] _ ?_;clear L M1;refine λM1 L=>?_;refine⟨_,rfl,_,rfl,a,sc.map V.int,rfl,(Same.upd hl).seq hS,λp hp=>?_⟩;obtain⟨ms,ec,bf,bg⟩:=V8 sc none (some 63);rw[ec];have hpl:p≠l:=λe=>by subst e;rw[aJ]at hp;cases hp
  have az:H p=none:=by rw[<- hp,aL hpl]
  refine⟨p,rfl,⟨_,SqL.of aJ⟩,yX (K:=K) (a:=p) (xs:=ms.map V.int) (lM H a l p m ms) ?_ ?_ ?_ ?_⟩
  .exact⟨59,[],none,none,none,rfl,Same.upd' az (Same.upd hl),aJ,by rw[aL (lq hpl),aJ];rfl,λ_ h=>(by cases h),ah _,by decide,by decide⟩
  .rintro i σ H2 _ ⟨J,xs,v1,v2,v3,_,_,e,_⟩;exact SqL.of e
  .rintro i x σ H2 hi ⟨J,xs,v1,v2,v3,rfl,sm,ep,el,nx,lx,s0,s1⟩;have bh:i<ms.length:=by
    have:=(aEl.mp hi).1;simpa using this
   obtain⟨z,rfl⟩:∃ z,x=V.int z:=by
    rw[aEa]at hi;cases e:ms[i]? with
    | none=>rw[e]at hi;cases hi
    | some z=>rw[e]at hi;exact⟨z,(jk hi).symm⟩
   clear L;refine λM2 M=>?_;refine⟨_,rfl,_,_,rfl,rfl,.inr ⟨by decide,by decide⟩,_,rfl,_,_,rfl,rfl,(by show (0:Int)<999983;decide),_,_,rfl,rfl,_,_,rfl,rfl,_,_,rfl,rfl,(by show (0:Int)<2147483563;decide),?_⟩;have t0:0<=sd1 J z:=kf _ (by decide);have t1:sd1 J z<2147483563:=jq _ (by decide);refine M [some (.ref a),some (.int m),some (.ref l),some (.int (sd1 J z)),some (.int z),v2,v3] _ ?_;clear M M2;refine λM2 M=>?_;refine⟨_,rfl,_,_,rfl,rfl,⟨by decide,by decide,by decide⟩,_,_,rfl,rfl,?_⟩;refine M [some (.ref a),some (.int m),some (.ref l),some (.int (sd1 J z)),some (.int z),some (.int (rs1 z)),v3] _ ?_;clear M M2;refine⟨lN H a l p m ms i J z v3,?_,?_⟩
   .refine⟨_,rfl,_,_,rfl,rfl,_,rfl,xB (λ_=>?_) (λ_=>⟨xs,rfl,sm,ep,el,nx,by lia⟩)⟩;refine⟨_,rfl,.inl ⟨rfl,_,SqL.of el⟩,_,rfl,_,_,rfl,rfl,(by show (0:Int)<9967;decide),l,_,_,rfl,rfl,el,(by rw[aEN];exact bV (by lia)),?_⟩;refine⟨xs++[z % 9967],rfl,Same.upd' hl sm,by rw[aL hpl];exact ep,by rw[aJ];simp,?_,by simp;lia⟩;intro n hn;rcases aEn.mp hn with h | h
    .exact nx n h
    .rw[aEg.mp h];exact⟨kf _ (by decide),jq _ (by decide)⟩
   .rintro σ H3 ⟨ys,rfl,U,a_,O,au,ba⟩;refine⟨60,rfl,by decide,by decide,gO (lo:=0) (n:=60) (lO H a l p m ms i J z)
     ⟨rs1 z,ys,v3,rfl,U,a_,O,au,by lia⟩ ?_ ?_⟩
    .rintro j σ H4 hj ⟨r,ys,v,rfl,av,aw,Y,ax,bb⟩;refine⟨_,rfl,_,_,rfl,rfl,_,rfl,xB (λbi=>?_) (λ_=>⟨r,ys,_,rfl,av,aw,Y,ax,by lia⟩)⟩;refine λM2 M=>?_;refine⟨_,rfl,.inl ⟨rfl,_,SqL.of Y⟩,_,rfl,_,_,rfl,rfl,(by show (0:Int)<1013;decide),l,_,_,rfl,rfl,Y,(by rw[aEN];exact bV (by lia)),?_⟩;refine M [some (.ref a),some (.int m),some (.ref l),some (.int (sd1 J z)),some (.int z),some (.int r),some (.int (0+(j:Int)))] _ ?_;clear M M2;refine⟨_,rfl,_,_,rfl,rfl,⟨by decide,by decide⟩,?_⟩;refine⟨r / 1013,ys++[r % 1013],_,rfl,Same.upd' hl av,by rw[aL hpl];exact aw,by rw[aJ];simp,?_,by simp;lia⟩;intro n hn;rcases aEn.mp hn with h | h
     .exact ax n h
     .rw[aEg.mp h];have a1:=kf r (show (1013:Int)≠0 by decide);have a2:=jq r (show (0:Int)<1013 by decide);exact⟨a1,by lia⟩
    .rintro σ H4 ⟨r,ys,v,rfl,av,aw,Y,ax,bb⟩;exact⟨sd1 J z,ys,_,_,_,rfl,av,aw,Y,ax,by lia,t0,by lia⟩
  .rintro σ H2 ⟨J,xs,v1,v2,v3,rfl,sm,ep,el,nx,lx,s0,s1⟩;have bj:xs.length<=61 * 63:=by
    have:(ms.map V.int).length<=63:=by rw[aEN];lia
    lia
   refine L [some (.ref a),some (.int m),some (.ref l),some (.int J),v1,v2,v3] _ ?_;clear L M1;refine yY (lP H a l m v1 v2 v3)
    (λ_ H3=>match H3 l with | some (.lst ys)=>m - ys.length | _=>0) ⟨J,xs,rfl,sm,el,nx,by lia,s0,s1⟩ ?_ ?_
   .rintro σ H3 ⟨J,ys,rfl,U,O,au,ba,q0,q1⟩;refine⟨_,rfl,l,_,rfl,.inl (SqL.of O),_,rfl,_,_,rfl,rfl,_,rfl,xB (λhc=>?_) (λhc=>?_)⟩
    .rw[aEN]at hc;refine λM1 L=>?_;refine⟨_,rfl,_,rfl,_,_,rfl,rfl,.inl ⟨by lia,by lia⟩,_,rfl,_,_,rfl,rfl,.inl ⟨by decide,by decide⟩,_,_,rfl,rfl,_,rfl,l,_,rfl,.inl (SqL.of O),_,_,rfl,rfl,.inl ⟨by decide,by decide⟩,_,_,rfl,rfl,_,_,rfl,rfl,_,_,rfl,rfl,(by show (0:Int)<2147483629;decide),?_⟩;refine L [some (.ref a),some (.int m),some (.ref l),some (.int (sd2 J ys)),v1,v2,v3] _ ?_;clear L M1;have t0:0<=sd2 J ys:=kf _ (by decide);have t1:sd2 J ys<2147483629:=jq _ (by decide);refine⟨_,rfl,.inl ⟨rfl,_,SqL.of O⟩,_,rfl,_,_,rfl,rfl,⟨by decide,by decide⟩,_,_,rfl,rfl,(by show (0:Int)<9967;decide),l,_,_,rfl,rfl,O,(by rw[aEN];exact bV (by lia)),?_⟩;refine⟨⟨sd2 J ys,ys++[sd2 J ys / 1019 % 9967],rfl,Same.upd' hl U,by rw[aJ,aE1];rfl,?_,by simp;lia,t0,t1⟩,?_⟩
     .intro n hn;rcases aEn.mp hn with h | h
      .exact au n h
      .rw[aEg.mp h];exact⟨kf _ (by decide),jq _ (by decide)⟩
     .simp only[aJ,O,aEW,aEN,ju]
      lia
    .rw[aEN]at hc;refine⟨_,rfl,_,rfl,_,rfl,l,_,rfl,SqL.of O,λp2 ay=>?_⟩;rw[aBy ys m (by lia)];exact k p2 (ys.take m) _ (by simp;lia) (λn hn=>au n (nk hn)) (U.free ay) (Same.upd' (U.free ay) U) aJ
   .intro σ H3 Q1 Q2 hq h;obtain⟨x,e,p2,ys,e2,bc,z,e3,i,j,e4,e5,b,e6,q⟩:=h;exact⟨x,e,p2,ys,e2,bc,z,e3,i,j,e4,e5,b,e6,hq _ _ q⟩
abbrev nJ:Stmt:=top 103
def E3:FnScope ["_law_found","_law_due"] ["_law_found","_law_due"] (aG nJ):=.of
def aA5 (F:Fun K "_law_same" "_law_same" nJ f fd) (B:Bt mg):FnOk P w K mg base CX0 1 f fd ["_law_found","_law_due"] xZ:=by
 refine F.g E3 λL A outer s H vs Q E M h=>?_;obtain⟨b,rfl,z,O⟩:=h;have U:=M.units;refine⟨_,(aE (bM (aV rO (pv 1) fV (aY _)) (aI (bA (fM rO (pv 0) fV (aY _)))) aW) (aE (bM (cU (aZ V7 (by rfl) B.isinstance cE (aA (pv 1) (aA (bN (aA (iI (v:=.ty "list") rfl B.list vT rfl) (aA (iI (v:=.ty "tuple") rfl B.tuple eA rfl) aB))) aB))) (λ_=>rfl)) (aE bK (aI bK)) aW) (aE (bM (PW.pt (yT (aV b9 (aZ jA (by rfl) B.isinstance cE (aA (pv 0) (aA (iI (v:=.ty "bool") rfl B.bool vU rfl) aB))) (aZ jA (by rfl) B.isinstance cE (aA (pv 1) (aA (iI (v:=.ty "bool") rfl B.bool vU rfl) aB))) (aY _)) (rN (aV b9 (aZ jA (by rfl) B.isinstance cE (aA (pv 0) (aA (iI (v:=.ty "str") rfl B.str kM rfl) aB))) (aZ jA (by rfl) B.isinstance cE (aA (pv 1) (aA (iI (v:=.ty "str") rfl B.str kM rfl) aB))) (aY _))))) (aI (bA mL)) aW) (aI (bA (wR (fM yZ (aZ jA (by rfl) B.isinstance cE (aA (pv 0) (aA (iI (v:=.ty "int") rfl B.int sC rfl) aB))) (aZ jA (by rfl) B.isinstance cE (aA (pv 1) (aA (iI (v:=.ty "int") rfl B.int sC rfl) aB))) (aY _)) (wQ (fM (gT U) (pv 0) (pv 1) (aY _))))))))),?_⟩
 try dsimp only[cN,cO]
 refine⟨_,rfl,rfl,_,rfl,cW (by intro h;cases h) ?_⟩;refine⟨_,rfl,(show 2<=sizeLine by decide),λY J=>⟨_,Y,["list","tuple"],.str b,false,rfl,aJ,.str b,rfl,false,rfl,?_⟩⟩;refine⟨_,rfl,_,"bool",.str b,false,rfl,.str b,rfl,_,rfl,_,"bool",.str b,false,rfl,.str b,rfl,rfl,_,rfl,?_⟩;refine⟨_,rfl,_,"str",.str b,true,rfl,.str b,rfl,_,rfl,_,"str",.str b,true,rfl,.str b,rfl,rfl,_,rfl,?_⟩;refine⟨_,rfl,_,"int",.str b,false,rfl,.str b,rfl,_,rfl,_,"int",.str b,false,rfl,.str b,rfl,rfl,_,rfl,?_⟩;refine⟨_,rfl,_,rfl,_,_,.str b,.str b,z,z,?_⟩;rw[sH z];exact O _ (Same.upd J)
abbrev fU:Stmt:=top 104
def eU:FnScope ["_law_names","_law_place","_law_great","_law_a","_law_b","_law_c","_law_d"] ["_law_names","_law_place","_law_great"] (aG fU):=.of
abbrev llS (i:Nat):Stmt:=(bC fU).getD i (.Pass ⟨0,0,0,0⟩)
def sbR:Stmt->Expr
 | .Return (some v) _=>v
 | _=>.Constant .none 0 ⟨0,0,0,0⟩
def rtP:Stmt->Pos
 | .Return _ p=>p
 | _=>⟨0,0,0,0⟩
@[irreducible] def eLn:Expr:=sbR (llS 1)
def llB:bC fU=[llS 0,.Return (some eLn) (rtP (llS 1))]:=by
 unfold eLn;rfl
def aA6 (F:Fun K "_law_lines" "_law_lines" fU f fd):FnOk P w K mg base CX0 1 f fd ["_law_names","_law_place","_law_great"] pJ:=by
 refine F.g eU λau A outer s H vs Q E hr h=>?_;obtain⟨l,a,b,c,d,r1,r2,r3,r4,p,g,rfl,hl,ha,hb,hc,hd,hg,av,aw,k⟩:=h;have J:sN p:=iO (by lia);have M:sN (p+5):=iO (by lia);have z:a.length<=1000:=by lia
 have lb:b.length<=1000:=by lia
 have O:c.length<=1000:=by lia
 have ld:d.length<=1000:=by lia
 rw[llB]
 refine⟨_,(aE (eZ (cX fN (pv 0) dY (dL aQ)) (aBF (n:=4) rfl (aX (aS (i:=3) eU.nd rfl (Or.inl rfl)) (aX (aS (i:=4) eU.nd rfl (Or.inl rfl)) (aX (aS (i:=5) eU.nd rfl (Or.inl rfl)) (aX (aS (i:=6) eU.nd rfl (Or.inl rfl)) cT)))))) (aI (bA (PEi.out (by unfold eLn;exact(T7 (@aA _ _ _ _ _ (bN (aA (dA (aM (bD (by decide)) (aM (cR (pv 3)) (aM (bD (by decide)) bS)))) (aA aP aB))) (@aA _ _ _ _ _ (bN (aA (dA (aM (bD (by decide)) (aM (gD (pv 1)) (aM (bD (by decide)) (aM (gD (pv 1)) bS))))) (aA aP aB))) (@aA _ _ _ _ _ (bN (aA (dA (aM (bD (by decide)) (aM (cR (pv 2)) (aM (bD (by decide)) bS)))) (aA aP aB))) (@aA _ _ _ _ _ (bN (aA (dA (aM (bD (by decide)) (aM (gD (pv 1)) bS))) (aA aP aB))) (@aA _ _ _ _ _ (bN (aA (dA (aM (bD (by decide)) (aM (cR (pv 3)) (aM (bD (by decide)) bS)))) (aA aP aB))) (@aA _ _ _ _ _ (bN (aA aP (aA aP aB))) (@aA _ _ _ _ _ (bN (aA aP (aA aP aB))) (@aA _ _ _ _ _ (bN (aA (dA (aM (bD (by decide)) (aM (cR (pv 3)) (aM (bD (by decide)) bS)))) (aA aP aB))) (@aA _ _ _ _ _ (bN (aA (dA (aM (bD (by decide)) (aM (cR (pv 3)) (aM (bD (by decide)) (aM (gD (pv 1)) bS))))) (aA aP aB))) (@aA _ _ _ _ _ (bN (aA (dA (aM (bD (by decide)) (aM (cR (pv 5)) (aM (bD (by decide)) bS)))) (aA aP aB))) (@aA _ _ _ _ _ (bN (aA (dA (aM (bD (by decide)) (aM (cR (pv 5)) (aM (bD (by decide)) bS)))) (aA aP aB))) (@aA _ _ _ _ _ (bN (aA (dA (aM (bD (by decide)) (aM (cR (pv 3)) (aM (bD (by decide)) (aM (gD (bH dB (pv 1) aQ)) bS))))) (aA aP aB))) (@aA _ _ _ _ _ (bN (aA (dA (aM (bD (by decide)) (aM (cR (pv 3)) (aM (bD (by decide)) (aM (cR (pv 4)) (aM (bD (by decide)) bS)))))) (aA aP aB))) (@aA _ _ _ _ _ (bN (aA (dA (aM (bD (by decide)) (aM (cR (pv 3)) (aM (bD (by decide)) (aM (cR (pv 5)) (aM (bD (by decide)) bS)))))) (aA aP aB))) (@aA _ _ _ _ _ (bN (aA (dA (aM (bD (by decide)) (aM (cR (pv 3)) (aM (bD (by decide)) (aM (cR (pv 3)) (aM (bD (by decide)) bS)))))) (aA aP aB))) (@aA _ _ _ _ _ (bN (aA (dA (aM (bD (by decide)) (aM (cR (pv 3)) (aM (bD (by decide)) bS)))) (aA aP aB))) (@aA _ _ _ _ _ (bN (aA (dA (aM (bD (by decide)) (aM (cR (pv 3)) (aM (bD (by decide)) bS)))) (aA aP aB))) (@aA _ _ _ _ _ (bN (aA (dA (aM (bD (by decide)) (aM (cR (pv 3)) (aM (bD (by decide)) bS)))) (aA aP aB))) (@aA _ _ _ _ _ (bN (aA (dA (aM (bD (by decide)) (aM (cR (pv 6)) (aM (bD (by decide)) bS)))) (aA aP aB))) (@aA _ _ _ _ _ (bN (aA (dA (aM (bD (by decide)) (aM (cR (pv 6)) (aM (bD (by decide)) bS)))) (aA aP aB))) (@aA _ _ _ _ _ (bN (aA aP (aA aP aB))) (@aA _ _ _ _ _ (bN (aA (dA (aM (bD (by decide)) (aM (cR (pv 3)) (aM (bD (by decide)) bS)))) (aA aP aB))) (@aA _ _ _ _ _ (bN (aA (dA (aM (bD (by decide)) (aM (cR (pv 3)) (aM (bD (by decide)) bS)))) (aA aP aB))) aB (by rfl)) (by rfl)) (by rfl)) (by rfl)) (by rfl)) (by rfl)) (by rfl)) (by rfl)) (by rfl)) (by rfl)) (by rfl)) (by rfl)) (by rfl)) (by rfl)) (by rfl)) (by rfl)) (by rfl)) (by rfl)) (by rfl)) (by rfl)) (by rfl)) (by rfl)) (by rfl)))))))),?_⟩
 try dsimp only[cN,cO]
 refine⟨_,rfl,_,rfl,l,_,rfl,SqL.of hl,λq U=>bJ U λH1 Y eq=>⟨q,_,rfl,SqL.of eq,rfl,_,_,rfl,_,_,rfl,_,_,rfl,_,_,rfl,rfl,?_⟩⟩
 .refine aC0 ?_;refine aCZ (zs:=rF a b c d p g) ?_ (show 23<=sizeLine by decide) λus q H' hf g' U L=>k us q H' (Y.free hf) (Y.trans g') U L;unfold rF;exact .cons (λ_ _ q=>⟨_,rfl,⟨_,rfl,z,q⟩⟩) (.cons (λ_ _ q=>⟨_,rfl,⟨_,rfl,J,⟨_,rfl,⟨_,rfl,J,q⟩⟩⟩⟩) (.cons (λ_ _ q=>⟨_,rfl,⟨_,rfl,hg,q⟩⟩) (.cons (λ_ _ q=>⟨_,rfl,⟨_,rfl,J,q⟩⟩) (.cons (λ_ _ q=>⟨_,rfl,⟨_,rfl,z,q⟩⟩) (.cons (λ_ _ q=>q) (.cons (λ_ _ q=>q) (.cons (λ_ _ q=>⟨_,rfl,⟨_,rfl,z,q⟩⟩) (.cons (λ_ _ q=>⟨_,rfl,⟨_,rfl,z,⟨_,rfl,⟨_,rfl,J,q⟩⟩⟩⟩) (.cons (λ_ _ q=>⟨_,rfl,⟨_,rfl,O,q⟩⟩) (.cons (λ_ _ q=>⟨_,rfl,⟨_,rfl,O,q⟩⟩) (.cons (λ_ _ q=>⟨_,rfl,⟨_,rfl,z,⟨_,rfl,_,_,rfl,rfl,⟨_,rfl,M,q⟩⟩⟩⟩) (.cons (λ_ _ q=>⟨_,rfl,⟨_,rfl,z,⟨_,rfl,⟨_,rfl,lb,q⟩⟩⟩⟩) (.cons (λ_ _ q=>⟨_,rfl,⟨_,rfl,z,⟨_,rfl,⟨_,rfl,O,q⟩⟩⟩⟩) (.cons (λ_ _ q=>⟨_,rfl,⟨_,rfl,z,⟨_,rfl,⟨_,rfl,z,q⟩⟩⟩⟩) (.cons (λ_ _ q=>⟨_,rfl,⟨_,rfl,z,q⟩⟩) (.cons (λ_ _ q=>⟨_,rfl,⟨_,rfl,z,q⟩⟩) (.cons (λ_ _ q=>⟨_,rfl,⟨_,rfl,z,q⟩⟩) (.cons (λ_ _ q=>⟨_,rfl,⟨_,rfl,ld,q⟩⟩) (.cons (λ_ _ q=>⟨_,rfl,⟨_,rfl,ld,q⟩⟩) (.cons (λ_ _ q=>q) (.cons (λ_ _ q=>⟨_,rfl,⟨_,rfl,z,q⟩⟩) (.cons (λ_ _ q=>⟨_,rfl,⟨_,rfl,z,q⟩⟩) .nil))))))))))))))))))))))
abbrev oM:Stmt:=top 105
def dX:FnScope ["_law_script","_law_numbers_here","_law_names","_law_place","_law_great","_law_desk","_law_rows","_law_name","_law_row","_law_lines_here","_law_kept","_law_k","_law_at","_law_line"] ["_law_script"] (aG oM):=.of
abbrev lwS (i:Nat):Stmt:=(bC oM).getD i (.Pass ⟨0,0,0,0⟩)
def itN:Stmt->Expr
 | .Assign _ (.ListComp _ [c] _ _) _=>c.iter
 | _=>.Constant .none 0 ⟨0,0,0,0⟩
def aDd (e:Expr):Stmt->Stmt
 | .Assign ts (.ListComp t [c] s p) q=>.Assign ts (.ListComp t [⟨c.target,e,c.ifs,c.is_async⟩] s p) q
 | s=>s
@[irreducible] def eNm:Expr:=itN (lwS 1)
def lwB:bC oM=lwS 0 :: aDd eNm (lwS 1) :: (bC oM).drop 2:=by
 unfold eNm;rfl
def aCj (G:Hc K) (D:Dc K) (F:Fun K "law" "law" oM f fd) (B:Bt mg) (au:dU P w K mg base "_law_numbers" 1 ["_law_script","_law_many"] (pA K)) (aw:dU P w K mg base "_law_lines" 1 ["_law_names","_law_place","_law_great"] pJ) (ay:dU P w K mg base "_law_same" 1 ["_law_found","_law_due"] xZ)
 (bp:iM P w K mg base "Desk" D.Dk 3 ["self"] (rK G D)) (ax:mX P w K mg base D.Dk "say" 14 ["self","line"] (xX G D)) (az:mX P w K mg base G.Hs "deeds" 2 ["self"] (mB G)) :
 FnOk P w K mg base CX0 15 f fd ["_law_script"] (zG K):=by
 refine F.ok dX (λvs H Q E h=>?_) (λii A outer s H vs Q E hr h=>?_)
 .obtain⟨a,ns,rfl,_⟩:=h;rfl
 .obtain⟨sa,sc,rfl,hS,hlen,kk⟩:=h;have hu:=hr.units;rw[lwB]
  refine⟨_,(aE (bL (i:=1) dX.nd rfl (Or.inl rfl) (cJ au hr rfl (aA (pv 0) (aA aQ aB)))) (aE (P3 (hs:=λ_=>by unfold eNm;rfl) (i:=2) ["_law_name"] [] [] rfl dX.nd rfl rfl (.of (show dZ (aG oM) _ ["_law_script","_law_numbers_here","_law_names","_law_place","_law_great","_law_desk","_law_rows","_law_name","_law_row","_law_lines_here","_law_kept","_law_k","_law_at","_law_line"] [] []=true by decide +kernel)) (fL (PEi.out (by unfold eNm;exact(T7 (@aA _ _ _ _ _ aP (@aA _ _ _ _ _ aP (@aA _ _ _ _ _ aP (@aA _ _ _ _ _ aP (@aA _ _ _ _ _ aP (@aA _ _ _ _ _ aP (@aA _ _ _ _ _ aP (@aA _ _ _ _ _ aP aB (by rfl)) (by rfl)) (by rfl)) (by rfl)) (by rfl)) (by rfl)) (by rfl)) (by rfl)))))) (λ_ _ _=>(aS (i:=0) (show (["_law_name"]:List Str).Nodup by decide +kernel) rfl (Or.inl rfl))) (eM (by decide)) (λ_ _ _=>eK) (λ_ _ _=>(bH fA (pv 0) aP)) (by first | rfl | decide +kernel)) (aE (bL (i:=2) dX.nd rfl (Or.inl rfl) (bH wZ (cX fN (pv 2) (dL (bH gS (cD eI (pv 1) aQ (λ_ _=>rfl)) aQ)) dY) (cX fN (pv 2) dY (dL (bH gS (cD eI (pv 1) aQ (λ_ _=>rfl)) aQ))))) (aE (bL (i:=3) dX.nd rfl (Or.inl rfl) (bH gS (cD eI (pv 1) aQ (λ_ _=>rfl)) aQ)) (aE (@aBL _ 4 _ _ _ _ _ _ _ _ _ _ (aA (eO ["_law_one"] [] [] rfl (.of (show dZ (aG oM) _ ["_law_script","_law_numbers_here","_law_names","_law_place","_law_great","_law_desk","_law_rows","_law_name","_law_row","_law_lines_here","_law_kept","_law_k","_law_at","_law_line"] [] []=true by decide +kernel)) (lR rfl B.range (aA aQ (aA aQ aB))) (λ_ _ _=>(aS (i:=0) (show (["_law_one"]:List Str).Nodup by decide +kernel) rfl (Or.inl rfl))) (eM (by decide)) (λ_ _ _=>eK) (λ_ _ _=>(cM pD (by rfl) B.str kM (aA (pv 0) aB)))) aB) (by rfl) (by rfl) dX.nd rfl (Or.inl rfl) (by rfl) (Or.inl rfl)) (aE (bL (i:=5) dX.nd rfl (Or.inl rfl) (S1 bp hr rfl)) (aE (bL (i:=6) dX.nd rfl (Or.inl rfl) (bH wZ (kJ (aA (dA (aM (bD (by decide)) (aM (gD (pv 3)) (aM (bD (by decide)) (aM (gD (bH dB (pv 3) aQ)) bS))))) (aA aP (aA (bH fA aP (pv 4)) (aA (dA (aM (bD (by decide)) (aM (gD (pv 3)) bS))) aB))))) (eO ["_law_number"] [] [] rfl (.of (show dZ (aG oM) _ ["_law_script","_law_numbers_here","_law_names","_law_place","_law_great","_law_desk","_law_rows","_law_name","_law_row","_law_lines_here","_law_kept","_law_k","_law_at","_law_line"] [] []=true by decide +kernel)) (fL (cX fN (pv 1) (dL aQ) (dL aQ))) (λ_ _ _=>(aS (i:=0) (show (["_law_number"]:List Str).Nodup by decide +kernel) rfl (Or.inl rfl))) (eM (by decide)) (λ_ _ _=>eK) (λ_ _ _=>(dA (aM (bD (by decide)) (aM (gD (pv 0)) bS))))))) (aE (iT jy rfl (aBx rfl B.zip (aA (pv 2) (aA (pv 6) aB))) (fW (n:=2) rfl (aX (aS (i:=7) dX.nd rfl (Or.inl rfl)) (aX (aS (i:=8) dX.nd rfl (Or.inl rfl)) cT))) (aI (bM (aV (oY hu) (xM ax D.dk hr (pv 5) (aA (bH fA (bH fA aP (pv 7)) (pv 8)) aB)) aP (aY _)) (aI (bA mL)) aW))) (aE (bM (aV (oY hu) (xM ax D.dk hr (pv 5) (aA (dA (aM (bD (by decide)) (aM (cR (cD eI (pv 2) aQ (λ_ _=>rfl))) (aM (bD (by decide)) (aM (gD (bH dB (pv 3) aQ)) bS))))) aB)) aP (aY _)) (aI (bA mL)) aW) (aE (bL (i:=9) dX.nd rfl (Or.inl rfl) (cJ aw hr rfl (aA (pv 2) (aA (pv 3) (aA (pv 4) aB))))) (aE (bL (i:=10) dX.nd rfl (Or.inl rfl) (S0 az G.hs hr (bP (pv 5) rfl))) (aE (iT jy rfl (lQ rfl B.range (aA (bH oO aQ (aZ bE (by rfl) B.len gV (aA (pv 9) aB))) aB)) (aS (i:=11) dX.nd rfl (Or.inl rfl)) (aE (bL (i:=12) dX.nd rfl (Or.inl rfl) (bH dB (bH oO (pv 11) (bH dB aQ (bH gS (cD eI (pv 1) aQ (λ_ _=>rfl)) aQ))) (cD eI (pv 1) aQ (λ_ _=>rfl)))) (aE (eZ (cD eI (pv 9) (bH gS (pv 12) (aZ bE (by rfl) B.len gV (aA (pv 9) aB))) (λ_ _=>rfl)) (fW (n:=2) rfl (aX (aS (i:=13) dX.nd rfl (Or.inl rfl)) (aX (aS (i:=7) dX.nd rfl (Or.inl rfl)) cT)))) (aE (bM (jM (cU (cJ ay hr rfl (aA (xM ax D.dk hr (pv 5) (aA (pv 13) aB)) (aA (bH fA aP (pv 7)) aB))) (λ_=>rfl))) (aI (bA mL)) aW) (aI (bM (PW.pt (yT (aV (oY hu) (S0 az G.hs hr (bP (pv 5) rfl)) (pv 10) (aY _)) (rN (aV (oY hu) (xM ax D.dk hr (pv 5) (aA (bH fA aP (cD eI (pv 2) aQ (λ_ _=>rfl))) aB)) (dA (aM (gD (pv 3)) (aM (bD (by decide)) (aM (gD (bH dB (pv 3) aQ)) bS)))) (aY _))))) (aI (bA mL)) aW)))))) (aI (bA mL)))))))))))))),?_⟩
  try dsimp only[cN,cO]
  refine⟨_,rfl,sa,sc,20,rfl,hS,hlen,by decide,λl1 nums H1 cg ba ij ge bf=>?_⟩;obtain⟨n0,m0,_,e0⟩:=kN (ns:=nums) (i:=0) (by lia) (by lia);obtain⟨n1,m1,_,e1⟩:=kN (ns:=nums) (i:=1) (by lia) (by lia);refine⟨(show 8<=sizeLine by decide),λq hq=>bJ hq λH2 g2 eq=>?_⟩;refine⟨q,rfl,⟨_,SqL.of eq⟩,fF (K:=K) (a:=q) (xs:=nm0.map V.str) (λi ys Hy=>Hy=H2/\ys=((nmA.take i).map V.str)) ⟨rfl,rfl⟩ ?_ ?_ ?_⟩
  .rintro i ys Hy hi ⟨rfl,rfl⟩;exact⟨SqL.of eq,by rw[aEN,aE2];exact bV (by simp[nmA];lia)⟩
  .rintro i x ys Hy hi ⟨rfl,rfl⟩;have ci:i<8:=(aEl.mp hi).1;obtain⟨z,hz,cj,gf⟩:=aDa ci;rw[aEa,hz]at hi;cases hi;refine⟨_,rfl,_,_,rfl,rfl,bT (by show z.length+1<=10000;lia),rfl,?_⟩;rw[jm,cj,aE1];rfl
  rintro ys Hy ⟨rfl,rfl⟩ ln df;refine bJ df λH3 g3 bg=>?_;have bg:H3 ln=some (.lst (nmA.map V.str)):=bg;have t3:=g2.trans g3;obtain⟨j,hj⟩:∃ j:Nat,n0 % 8=(j:Int):=⟨(n0 % 8).toNat,by have:=kf n0 (show (8:Int)≠0 by decide);lia⟩;have gg:j<8:=by have:=jq n0 (show (0:Int)<8 by decide);lia
  refine⟨_,rfl,_,rfl,l1,_,_,_,rfl,rfl,SqL.of (t3 _ _ bf),e0,_,_,rfl,rfl,(show (0:Int)<8 by decide),_,rfl,ln,_,rfl,SqL.of bg,λp1 av=>?_⟩;rw[hj,xS];refine bJ av λH4 g4 dh=>?_;refine⟨_,rfl,_,rfl,l1,_,_,_,rfl,rfl,SqL.of ((t3.trans g4) _ _ bf),e0,_,_,rfl,rfl,(show (0:Int)<8 by decide),_,rfl,ln,_,rfl,SqL.of (g4 _ _ bg),λp2 di=>?_⟩;rw[hj,J5 nmA j (by show j<=8;lia)];refine bJ di λH5 g5 dj=>?_;refine⟨p1,p2,_,_,rfl,rfl,g5 _ _ dh,dj,bT (by rw[aEN,aEN,jp,aE2];show 8 - j+min j 8<=10000;lia),λL hL=>bJ hL λH6 g6 eL=>?_⟩;rw[<- aE1]at eL;obtain⟨a,b,c,d,r1,r2,r3,r4,eN,N⟩:=aC6 gg;rw[eN]at eL;have t6:=((t3.trans g4).trans g5).trans g6;clear bg df dh dj eq hq av di hL g2 g3 g4 g5 g6 t3 e0 hj;refine⟨_,rfl,l1,_,_,_,rfl,rfl,SqL.of (t6 _ _ bf),e1,_,_,rfl,rfl,(show (0:Int)<400 by decide),?_⟩;have bb:=kf n1 (show (400:Int)≠0 by decide);have av:=jq n1 (show (0:Int)<400 by decide);generalize n1 % 400=p at bb av ⊢;clear e1 m1 m0;refine⟨rfl,_,_,rfl,⟨by decide,by decide,by decide,by decide⟩,sA (lo:=1) (n:=60) (λi ys Hy=>Hy=H6/\ys=((gI.take i).map nT).map V.str) ⟨rfl,rfl⟩ ?_ ?_ ?_⟩
  .rintro i ys Hy hi ⟨_,rfl⟩;rw[aEN,aEN,aE2];exact bV (by lia)
  .rintro i ys Hy hi ⟨rfl,rfl⟩;refine⟨_,rfl,1+(i:Int),rfl,iO (by lia),rfl,?_⟩;have:gI[i]?=some (1+(i:Int)):=by
    unfold gI;rw[aEa,List.getElem?_range hi];rfl
   rw[jm,this,aE1,aE1];rfl
  rintro ys Hy ⟨rfl,rfl⟩ lg dm;have eg:(gI.take 60).map nT=gI.map nT:=by rw[jo (qj aAX.2.2.1)]
  rw[eg];refine bJ dm λH7 g7 dn=>?_;refine⟨" ",lg,gI.map nT,rfl,rfl,dn,fy K6.1 (show 1000<=sizeLine by decide),fy K6.2 (show 1000<=sizeLine by decide),?_⟩;have dq:=K6.2;generalize dr:Builtin.Str.glued " " (gI.map nT)=gr at dq ⊢;have t7:=t6.trans g7;refine λx dx hx du gh=>⟨x,dx,rfl,aJ,λha H8 hO=>⟨rfl,?_⟩⟩;have gb:Same H7 (upd (upd (upd H7 dx (.own x)) x (.ins D.Dk dx [])) x (.ins D.Dk dx [("house",.ref ha)])):=λb o e=>by
   rw[aL (aU e hx),aL (aU e hx),aL (aU e du)];exact e
  have ex:(upd (upd (upd H7 dx (.own x)) x (.ins D.Dk dx [])) x (.ins D.Dk dx [("house",.ref ha)])) x=some (.ins D.Dk dx [("house",.ref ha)]):=aJ;generalize upd (upd (upd H7 dx (.own x)) x (.ins D.Dk dx [])) x (.ins D.Dk dx [("house",.ref ha)])=Hb at gb ex hO;have hp:sN p:=iO (by lia);have dv:sN (p+1):=iO (by lia);have tb:=(ge.trans t7).trans gb;have dw:=(g7.trans gb) _ _ eL;have ck:=(t7.trans gb) _ _ bf;clear hx du gh dm dn g7 gb t6 t7 eL bf;refine⟨_,rfl,_,rfl,hp,_,rfl,_,_,rfl,rfl,_,rfl,dv,?_⟩;refine⟨_,rfl,_,_,rfl,rfl,bT (by show 1+gr.length<=10000;lia),?_⟩;refine⟨_,rfl,_,rfl,hp,(show 4<=sizeLine by decide),λw1 dy=>bJ dy λH9 g9 dz=>?_⟩;have s9:=hO.1.trans g9;refine⟨_,rfl,_,rfl,_,rfl,l1,_,rfl,SqL.of (s9 _ _ ck),λw2 d_=>?_⟩;obtain⟨J,O,U,Y,eB,hB⟩:∃ J O U Y,(nums.drop 2).take 4=[J,O,U,Y]/\∀ n∈[J,O,U,Y],0<=n/\n<9967:=by
   have hm:∀ n∈(nums.drop 2).take 4,0<=n/\n<9967:=λn h=>ba n (pp (nk h));have hl:((nums.drop 2).take 4).length=4:=by rw[aE2,jp,cg];rfl
   generalize (nums.drop 2).take 4=M at hm hl ⊢
   match M,hl with
   | [J,O,U,Y],_=>exact⟨J,O,U,Y,rfl,hm⟩
  rw[show fP (nums.map V.int) (some 2) (some 6)=[J,O,U,Y].map V.int by
   rw[show (2:Int)=((2:Nat):Int) from rfl,show (6:Int)=((6:Nat):Int) from rfl,x9 _ 2 6 (by rw[aEN,cg];decide) (by rw[aEN,cg];decide),<- eB,px,rg]]
  refine bJ d_ λgi bq cm=>?_;refine⟨w2,rfl,⟨_,SqL.of cm⟩,fF (K:=K) (a:=w2) (xs:=[J,O,U,Y].map V.int) (λi ys Hy=>Hy=gi/\ys=([J,O,U,Y].take i).map λn=>V.str (cP [" ",toString n])) ⟨rfl,rfl⟩ ?_ ?_ ?_⟩
  .rintro i ys Hy hi ⟨rfl,rfl⟩;exact⟨SqL.of cm,by rw[aEN,aE2];exact bV (by show min i 4<=10000;lia)⟩
  .rintro i y ys Hy hi ⟨rfl,rfl⟩;rw[aEa]at hi;cases hz:([J,O,U,Y]:List Int)[i]? with
   | none=>rw[hz]at hi;cases hi
   | some z =>
    rw[hz]at hi;cases hi;have ik:=hB z (aEY hz);refine⟨_,rfl,z,rfl,iO (by lia),rfl,?_⟩;rw[jm,hz,aE1];rfl
  rintro ys Hy ⟨rfl,rfl⟩ w3 ef;refine bJ ef λil br eh=>?_;refine⟨w1,w3,_,_,rfl,rfl,(bq.trans br) _ _ dz,eh,bT (show 8<=10000 by decide),λL2 cn=>bJ cn λgj ej ek=>?_⟩;have e_:=((g9.trans bq).trans br).trans ej;obtain⟨bh,cp,bi,_,fb⟩:=hO.grow e_;have cb:=fb L2 _ (((g9.trans bq).trans br).free cn) (show gj L2=some (.lst ((rtx p gr J O U Y).map V.str)) from ek);clear fb g9 bq br ej dz cm eh ek dy d_ ef cn s9 e_ hO;have bj:=bi _ _ dw;have fc:=bi _ _ ck;have bc:=bi _ _ ex;have im:=tb.trans bi;clear dw ck ex tb bi;have nd:=N.nodup;have cq:((Zs [a,b,c,d,r1,r2,r3,r4] p J O U Y).map (·.1)).Nodup:=nd;have hZ:∀ {i n r},(Zs [a,b,c,d,r1,r2,r3,r4] p J O U Y)[i]?=some (n,r)->n∈[a,b,c,d,r1,r2,r3,r4]/\r∈rws p J O U Y:=λh=>lv (aEY h);refine⟨_,rfl,_,rfl,L,L2,_,_,rfl,SqL.of (cp.1 _ _ bj),SqL.of (cp.1 _ _ cb),aAk (K:=K) (a:=L) (b:=L2) (xs:=[a,b,c,d,r1,r2,r3,r4].map V.str) (ys:=(rtx p gr J O U Y).map V.str) 8 rfl (λi σ Hy=>∃ v7 v8,σ=[some (.ref sa),some (.ref l1),some (.ref L),some (.int p),some (.str gr),some (.ref x),some (.ref L2),v7,v8,none,none,none,none,none]/\HO9 G bh Hy ha (((Zs [a,b,c,d,r1,r2,r3,r4] p J O U Y).take i).map mkR) (((Zs [a,b,c,d,r1,r2,r3,r4] p J O U Y).take i).map mkB)) ⟨none,none,rfl,cp⟩ ?_ ?_ ?_⟩
  .rintro i σ Hy hi ⟨v7,v8,rfl,hy⟩;exact⟨SqL.of (hy.1 _ _ bj),SqL.of (hy.1 _ _ cb)⟩
  .rintro i u1 u2 σ Hy t e1 e2 ⟨v7,v8,rfl,hy⟩ ht;refine bJ ht λio gk et=>?_;rw[aEa]at e1 e2;obtain⟨n,hn,rfl⟩:=aEk.mp e1;obtain⟨z,hz,rfl⟩:=aEk.mp e2;rw[<- dr]at hz;obtain⟨r,gm,cj,gf⟩:=gU (aC7 bb av hB) hz;have bt:(Zs [a,b,c,d,r1,r2,r3,r4] p J O U Y)[i]?=some (n,r):=List.getElem?_zip_eq_some.mpr ⟨hn,gm⟩;obtain⟨bu,fe⟩:=hZ bt;have ci:i<8:=(aEl.mp bt).1;obtain⟨ff,ie⟩:=N.made n bu;have fg:=aC8 r fe;have fh:=hy.same gk;refine⟨t,_,rfl,SqT.of et,rfl,_,_,rfl,_,_,rfl,rfl,?_⟩;refine⟨_,rfl,x,dx,_,rfl,fh.1 _ _ bc,rfl,_,rfl,_,_,rfl,rfl,bT (by show 6+n.length<=10000;lia),_,rfl,_,_,rfl,rfl,bT (by show ("build "++n).length+z.length<=10000;rw[<- bF ("build "++n),cH,aEW,bF,bF];show 6+n.length+z.length<=10000;lia),?_⟩;rw[K5 cj];refine⟨bh,x,dx,ha,_,_,_,_,rfl,bc,fh,by rw[aEN,aE2];lia,?_,.deed (.deed (okB ff (U3 bb av hB r fe)) (by show 1+r.length<=70;have:=fg.len;lia)) (K7 bt ci cq ff fg),λS' fi t e gp a_=>?_,λr e=>nomatch e⟩
   .rw[aEf];exact((List.take_sublist _ _).map _).nodup cq
   cases e;refine⟨_,_,.str _,.str _,by decide +kernel,by decide +kernel,_,rfl,(b3 (by decide +kernel)).mpr ?_⟩;refine⟨_,_,rfl,?_⟩;rw[show ((Zs [a,b,c,d,r1,r2,r3,r4] p J O U Y).take (i+1)).map mkB=((Zs [a,b,c,d,r1,r2,r3,r4] p J O U Y).take i).map mkB++[mkB (n,r)]by rw[jm,bt,aE1];rfl];exact a_
  .rintro σ Hy ⟨v7,v8,rfl,hy⟩;have hy:HO9 G bh Hy ha (S8 a b c d r1 r2 r3 r4 p J O U Y) ((Zs [a,b,c,d,r1,r2,r3,r4] p J O U Y).map mkB):=hy;obtain⟨ma,la⟩:=N.made a (by simp);obtain⟨mb,lb⟩:=N.made b (by simp);obtain⟨mc,lc⟩:=N.made c (by simp);obtain⟨md,ld⟩:=N.made d (by simp);have fj:sN (p+7):=iO (by lia);have cr:OkL ⟨"put",[d],[p+7],false⟩:=⟨(λz=>nomatch z),λ_=>rfl,(λm hm=>by rw[aEg.mp hm];exact md),λz hz=>by rw[aEg.mp hz];lia⟩;have eP:cP ["put ",d," ",toString (p+7)]=txt ⟨"put",[d],[p+7],false⟩:=aBI rfl;refine⟨_,rfl,x,dx,_,rfl,hy.1 _ _ bc,rfl,_,rfl,L,_,_,_,rfl,rfl,SqL.of (hy.1 _ _ bj),rfl,_,rfl,fy ld (by decide),_,rfl,_,_,rfl,rfl,_,rfl,fj,bh,x,dx,ha,cP ["put ",d," ",toString (p+7)],_,_,.inl (S9 a b c d r1 r2 r3 r4 p J O U Y,(Zs [a,b,c,d,r1,r2,r3,r4] p J O U Y).map mkB++[⟨"put",[d],[p+7],false⟩],"done"),rfl,bc,hy,(show 8<100 by decide),nd,eP ▸ .deed (.deed cr (show 2<=70 by decide)) aC9,λS' fi t e gp a_=>?_,λr e=>nomatch e⟩;cases e;refine⟨_,_,.str _,.str _,by decide +kernel,by decide +kernel,_,rfl,(b3 (by decide +kernel)).mpr ?_⟩;have fk:∀ e∈(Zs [a,b,c,d,r1,r2,r3,r4] p J O U Y).map mkB++[(⟨"put",[d],[p+7],false⟩:Dd)],OkL e:=λe he=>by
    rcases aEn.mp he with he | he
    .obtain⟨⟨n,r⟩,h1,rfl⟩:=aEo.mp he;obtain⟨h2,h3⟩:=lv h1;exact okB (N.made n h2).1 (U3 bb av hB r h3)
    .rw[aEg.mp he];exact cr
   have dl:((Zs [a,b,c,d,r1,r2,r3,r4] p J O U Y).map mkB++[(⟨"put",[d],[p+7],false⟩:Dd)]).length<100:=(show 9<100 by decide);have cu:=aDb (p:=p) (n1:=J) (n2:=O) (n3:=U) (n4:=Y) N.nx;have cv:((S9 a b c d r1 r2 r3 r4 p J O U Y).map (·.1)).Nodup:=nd;generalize (Zs [a,b,c,d,r1,r2,r3,r4] p J O U Y).map mkB++[⟨"put",[d],[p+7],false⟩]=ds at a_ fk dl;generalize S9 a b c d r1 r2 r3 r4 p J O U Y=S at a_ cu cv;clear hy hZ cq nd cr fj;refine⟨_,rfl,_,rfl,_,rfl,L,a,b,c,d,r1,r2,r3,r4,p,gr,rfl,a_.1 _ _ bj,la,lb,lc,ld,dq,bb,av,λus q ip fm bv eq bw=>?_⟩;rw[<- dr,aAU a b c d p aAX.2.2.2.1]at bw;have h15:=a_.same bv;obtain⟨cw,kd,kp,kq,bx⟩:=h15.ins;refine⟨_,rfl,x,_,dx,_,_,rfl,h15.1 _ _ bc,D.dk,D.ho,rfl,ha,cw,_,rfl,bx,rfl,bh,ha,S,ds,rfl,h15,dl,λl xs iq fo bz el fq=>?_⟩;obtain⟨bd,h16,b_,bn,cx⟩:=a_.grow (bv.trans bz);have cy:=cx q _ fm (bz _ _ eq);have gq:=cx l _ (bv.free fo) el;have ft:Paired (LnAt bd) us ((lns a b c d p gI).map λx=>(x.1.text,x.2)):=Paired.mapP bw λ_ _ ⟨t,h0,h1⟩=>⟨t,h0,bn _ _ (bz _ _ h1)⟩;have fu:Paired (DeedAt bd) xs ds:=Paired.mapP fq λ_ _ h=>by
    cases h with
    | plain e=>exact .plain (bn _ _ e)
    | build e1 e2=>exact .build (bn _ _ e1) (bn _ _ e2)
   have bo:=b_ _ _ bc;have gs:=b_ _ _ bj;have fw:=b_ _ _ fc;have cz:us.length=23:=by rw[bw.length];rfl
   clear a_ h15 bw fq bn cx b_ fm fo el eq bv bz bx;refine⟨_,rfl,q,_,rfl,.inl (SqL.of (h16.1 _ _ cy)),_,_,rfl,rfl,.inl ⟨by decide,by decide⟩,?_⟩;rw[cz];obtain⟨n6,m6,_,e6⟩:=kN (ns:=nums) (i:=6) (by lia) (by lia);obtain⟨n7,m7,_,e7⟩:=kN (ns:=nums) (i:=7) (by lia) (by lia);have q6:=ba n6 m6;have q7:=ba n7 m7;refine⟨_,rfl,by decide,by decide,gO (lo:=0) (λi σ Hy=>∃ v7 v8 gt gu gv,σ=[some (.ref sa),some (.ref l1),some (.ref L),some (.int p),some (.str gr),some (.ref x),some (.ref L2),v7,v8,some (.ref q),some (.ref l),gt,gu,gv]/\HO9 G bd Hy ha S ds) ⟨_,_,_,_,_,rfl,h16⟩ ?_ ?_⟩
   .rintro i σ Hy hi ⟨w7,w8,gw,gz,g_,rfl,hy⟩;have ig:i<46:=by lia
    have ir:=kf n6 (show (22:Int)≠0 by decide);have iu:=jq n6 (show (0:Int)<22 by decide);refine⟨_,rfl,_,rfl,l1,_,_,_,rfl,rfl,SqL.of (hy.1 _ _ fw),e6,_,_,rfl,rfl,(show (0:Int)<22 by decide),_,_,rfl,rfl,_,_,rfl,rfl,.inl ⟨by lia,by lia⟩,_,rfl,l1,_,_,_,rfl,rfl,SqL.of (hy.1 _ _ fw),e7,_,_,rfl,rfl,?_⟩;generalize (0+(i:Int)) * (1+n6 % 22)+n7=ca;refine⟨_,rfl,_,rfl,_,rfl,q,_,rfl,.inl (SqL.of (hy.1 _ _ cy)),_,_,rfl,rfl,by rw[cz];decide,?_⟩;rw[cz];have iw:=kf ca (show ((23:Nat):Int)≠0 by decide);have iy:=jq ca (show (0:Int)<((23:Nat):Int)by decide);obtain⟨m,hm⟩:∃ m:Nat,ca % ((23:Nat):Int)=(m:Int):=⟨(ca % ((23:Nat):Int)).toNat,by lia⟩;rw[hm];have cf:m<us.length:=by lia
    obtain⟨y,fz,t,ev,ht⟩:=gU ft (aEX cf);rw[aEa]at fz;obtain⟨y9,h_,rfl⟩:=aEk.mp fz;obtain⟨r,f_,bu⟩:=Y7 (ds:=ds) cu ma mb mc md bb av y9 (aEY h_);refine⟨q,_,_,_,rfl,rfl,SqL.of (hy.1 _ _ cy),jO (aEX cf),?_⟩;rw[ev];refine⟨t,_,rfl,SqT.of (hy.1 _ _ ht),rfl,_,_,rfl,_,_,rfl,rfl,?_⟩;refine⟨_,rfl,x,dx,_,rfl,hy.1 _ _ bo,rfl,_,rfl,bd,x,dx,ha,_,S,ds,_,rfl,bo,hy,dl,cv,f_,(λ_ _ _ e=>nomatch e),λr' e iz h17=>?_⟩;cases e;have nl:=aB8 r;refine⟨_,rfl,_,_,rfl,rfl,bT (by show 3+y9.2.length<=10000;rw[bu];lia),?_⟩;rw[bu,<- aBN];refine⟨_,rfl,aDc r,λi_ ia=>?_⟩;have h18:=h17.same ia;refine⟨true,by first | rfl | exact .inl rfl | exact .inr rfl,oW ?_⟩;obtain⟨cw,kd,kp,kq,bx⟩:=h18.ins;refine⟨_,rfl,x,_,dx,_,_,rfl,h18.1 _ _ bo,D.dk,D.ho,rfl,ha,cw,_,rfl,bx,rfl,bd,ha,S,ds,rfl,h18,dl,λl2 ja jb jc ib ic gc=>?_⟩;have h19:=h18.same ib;have c_:=yA fk;refine⟨_,rfl,_,_,.lst ic (pO gc),.lst (h19.1 _ _ gq) (pO (Paired.mapP fu λ_ _ z=>z.same h19.1)),c_,c_,_,rfl,?_⟩;rw[sH c_];refine oW ?_;have db:=aCc p;refine⟨_,rfl,x,dx,_,rfl,h19.1 _ _ bo,rfl,_,rfl,L,_,_,_,rfl,rfl,SqL.of (h19.1 _ _ gs),rfl,_,_,rfl,rfl,bT (by show 4+a.length<=10000;lia),bd,x,dx,ha,_,S,ds,_,rfl,bo,h19,dl,cv,aBM cu ma bb av,λS' fi t' e jd h20=>?_,λr e=>nomatch e⟩;cases e;refine⟨_,rfl,_,rfl,hp,_,rfl,_,_,rfl,rfl,_,rfl,dv,_,_,.str _,.str _,db,db,_,rfl,?_⟩;rw[sH db];exact oW ⟨_,_,_,_,_,rfl,h20⟩
   .rintro σ Hy ⟨w7,w8,gw,gz,g_,rfl,hy⟩;exact kk _
end
def all_mk {l:PySem.W.OpenLaw} {w:World} {K:PySem.W.Frag} {h:Heap} {mg:Str->Option Value} {fa:Addr} (X:K.In h) (Gm:h.Ns mainGlobals mg) (hfa:mg "law"=some (.ref fa))
 {C_Road C_Course C_House C_Desk:Addr}
 {C_TooMany I_TooMany C_BadRow I_BadRow C_BadCreel I_BadCreel C_TooNear I_TooNear C_Bare I_Bare C_Taken I_Taken C_Full I_Full C_NoRoad I_NoRoad C_Laid I_Laid C_NoStone I_NoStone C_NoEntry I_NoEntry C_NotWalk I_NotWalk C_Clash I_Clash C_NothingLeft I_NothingLeft C_CreelError I_CreelError:Addr} {j_TooMany j_BadRow j_BadCreel j_TooNear j_Bare j_Taken j_Full j_NoRoad j_Laid j_NoStone j_NoEntry j_NotWalk j_Clash j_NothingLeft j_CreelError:FuncData} {C_BadName:Addr}
 {f0:Addr} {d0:FuncData}
 {f1:Addr} {d1:FuncData}
 {f2:Addr} {d2:FuncData}
 {f3:Addr} {d3:FuncData}
 {f4:Addr} {d4:FuncData}
 {f5:Addr} {d5:FuncData}
 {f6:Addr} {d6:FuncData}
 {f7:Addr} {d7:FuncData}
 {f8:Addr} {d8:FuncData}
 {f9:Addr} {d9:FuncData}
 {f10:Addr} {d10:FuncData}
 {f11:Addr} {d11:FuncData}
 {f12:Addr} {d12:FuncData}
 {f13:Addr} {d13:FuncData}
 {f14:Addr} {d14:FuncData}
 {f15:Addr} {d15:FuncData}
 {f16:Addr} {d16:FuncData}
 {f17:Addr} {d17:FuncData}
 {f18:Addr} {d18:FuncData}
 {f19:Addr} {d19:FuncData}
 {f20:Addr} {d20:FuncData}
 {f21:Addr} {d21:FuncData}
 {f22:Addr} {d22:FuncData}
 {f23:Addr} {d23:FuncData}
 {f24:Addr} {d24:FuncData}
 {f25:Addr} {d25:FuncData}
 {f26:Addr} {d26:FuncData}
 {f27:Addr} {d27:FuncData}
 {f28:Addr} {d28:FuncData}
 {f29:Addr} {d29:FuncData}
 {f30:Addr} {d30:FuncData}
 {f31:Addr} {d31:FuncData}
 {f32:Addr} {d32:FuncData}
 {f33:Addr} {d33:FuncData}
 {f34:Addr} {d34:FuncData}
 {f35:Addr} {d35:FuncData}
 {f36:Addr} {d36:FuncData}
 {f37:Addr} {d37:FuncData}
 {f38:Addr} {d38:FuncData}
 {f39:Addr} {d39:FuncData}
 {i_Road:Addr} {j_Road:FuncData}
 {i_Course:Addr} {j_Course:FuncData}
 {i_House:Addr} {j_House:FuncData}
 {i_Desk:Addr} {j_Desk:FuncData}
 {m_do:Addr} {n_do:FuncData}
 {m_again:Addr} {n_again:FuncData}
 {m_row:Addr} {n_row:FuncData}
 {m_deeds:Addr} {n_deeds:FuncData}
 {m_say:Addr} {n_say:FuncData}
 {t_MOST_STONES:Tok}
 {t_FEW_WALKS:Tok}
 {t_REST_APART:Tok}
 {t_MOST_ROADS:Tok}
 {t_LETTERS:Tok}
 {t_FIGURES:Tok}
 {t_MOST_LETTERS:Tok}
 {t_MOST_FIGURES:Tok}
 {dD:Addr} {epD:Nat} {td0 td1 td2 td3 td4 td5 td6 td7 td8:Tok}
 {dF:Addr} {epF:Nat} {tf0 tf1 tf2 tf3 tf4 tf5 tf6 tf7:Tok} {rf0 rf1 rf2 rf3 rf4 rf5 rf6 rf7:Addr}
 {oF0:Option Addr} {sF0:Array (Option Value)} {ta0 tb0:Tok} {nF0:Nat}
 {oF1:Option Addr} {sF1:Array (Option Value)} {ta1 tb1:Tok} {nF1:Nat}
 {oF2:Option Addr} {sF2:Array (Option Value)} {ta2 tb2:Tok} {nF2:Nat}
 {oF3:Option Addr} {sF3:Array (Option Value)} {ta3 tb3:Tok} {nF3:Nat}
 {oF4:Option Addr} {sF4:Array (Option Value)} {ta4 tb4:Tok} {nF4:Nat}
 {oF5:Option Addr} {sF5:Array (Option Value)} {ta5 tb5:Tok} {nF5:Nat}
 {oF6:Option Addr} {sF6:Array (Option Value)} {ta6 tb6:Tok} {nF6:Nat}
 {oF7:Option Addr} {sF7:Array (Option Value)} {ta7 tb7:Tok} {nF7:Nat}
 {dK:Addr} {epK:Nat} {tk0 tk1 tk2 tk3 tk4 tk5 tk6 tk7 tk8:Tok} {rk0 rk1 rk2 rk3 rk4 rk5 rk6 rk7 rk8:Addr}
 {oK1:Option Addr} {sK1:Array (Option Value)} {ua1 ub1:Tok} {nK1:Nat}
 {oK3:Option Addr} {sK3:Array (Option Value)} {ua3 ub3:Tok} {nK3:Nat}
 {oK6:Option Addr} {sK6:Array (Option Value)} {ua6 ub6:Tok} {nK6:Nat}
 {oK8:Option Addr} {sK8:Array (Option Value)} {ua8 ub8:Tok} {nK8:Nat}
 (hG:HcIn K C_Road C_Course C_House)
 (hK:DcIn K C_Desk)
 (eT:aD5 K "CreelError.__init__" eS C_CreelError I_CreelError j_CreelError)
 (e_TooMany:ErrD K "TooMany" "TooMany.__init__" hV C_CreelError C_TooMany I_TooMany j_TooMany)
 (e_BadRow:ErrA K "BadRow" "BadRow.__init__" iW C_CreelError C_BadRow I_BadRow j_BadRow)
 (e_BadCreel:ErrD K "BadCreel" "BadCreel.__init__" gJ C_CreelError C_BadCreel I_BadCreel j_BadCreel)
 (e_TooNear:ErrD K "TooNear" "TooNear.__init__" hW C_CreelError C_TooNear I_TooNear j_TooNear)
 (e_Bare:ErrD K "Bare" "Bare.__init__" lI C_CreelError C_Bare I_Bare j_Bare)
 (e_Taken:ErrD K "Taken" "Taken.__init__" kD C_CreelError C_Taken I_Taken j_Taken)
 (e_Full:ErrD K "Full" "Full.__init__" lJ C_CreelError C_Full I_Full j_Full)
 (e_NoRoad:ErrD K "NoRoad" "NoRoad.__init__" iX C_CreelError C_NoRoad I_NoRoad j_NoRoad)
 (e_Laid:ErrD K "Laid" "Laid.__init__" lL C_CreelError C_Laid I_Laid j_Laid)
 (e_NoStone:ErrD K "NoStone" "NoStone.__init__" hX C_CreelError C_NoStone I_NoStone j_NoStone)
 (e_NoEntry:ErrD K "NoEntry" "NoEntry.__init__" iE C_CreelError C_NoEntry I_NoEntry j_NoEntry)
 (e_NotWalk:ErrD K "NotWalk" "NotWalk.__init__" iG C_CreelError C_NotWalk I_NotWalk j_NotWalk)
 (e_Clash:ErrA K "Clash" "Clash.__init__" kC C_CreelError C_Clash I_Clash j_Clash)
 (e_NothingLeft:ErrD K "NothingLeft" "NothingLeft.__init__" eE C_CreelError C_NothingLeft I_NothingLeft j_NothingLeft)
 (aN:PySem.W.nsIn K mainGlobals "BadName"=some (some (.ref C_BadName)))
 (eV:tT K [C_TooMany,C_BadRow,C_BadCreel,C_TooNear,C_Bare,C_BadName,C_Taken,C_Full,C_NoRoad,C_Laid,C_NoStone,C_NoEntry,C_NotWalk,C_Clash,C_NothingLeft] C_CreelError C_Laid C_NoStone=true)
 (z_VE:PySem.W.nsIn K mainGlobals "ValueError"=some none)
 (h0:DefIn K "look_row" jT f0 d0)
 (h1:DefIn K "look_creel" gM f1 d1)
 (h2:DefIn K "walked" lB f2 d2)
 (h3:DefIn K "carried" mC f3 d3)
 (h4:DefIn K "kin" aA0 f4 d4)
 (h5:DefIn K "behind" tV f5 d5)
 (h6:DefIn K "row_behind_walks" dG f6 d6)
 (h7:DefIn K "row_now" pQ f7 d7)
 (h8:DefIn K "with_stone" jU f8 d8)
 (h9:DefIn K "without_stone" gG f9 d9)
 (h10:DefIn K "row_behind" jV f10 d10)
 (h11:DefIn K "add_walk" nD f11 d11)
 (h12:DefIn K "go_on" yD f12 d12)
 (h13:DefIn K "is_rest" pS f13 d13)
 (h14:DefIn K "new_road" nE f14 d14)
 (h15:DefIn K "with_entry" jW f15 d15)
 (h16:DefIn K "with_log" jX f16 d16)
 (h17:DefIn K "is_made_of" gN f17 d17)
 (h18:DefIn K "is_name" pT f18 d18)
 (h19:DefIn K "road_named" jY f19 d19)
 (h20:DefIn K "with_road" lC f20 d20)
 (h21:DefIn K "built" yG f21 d21)
 (h22:DefIn K "shut" L7 f22 d22)
 (h23:DefIn K "entered" pU f23 d23)
 (h24:DefIn K "laid" L8 f24 d24)
 (h25:DefIn K "found_late" kB f25 d25)
 (h26:DefIn K "struck" uD f26 d26)
 (h27:DefIn K "roads_behind" hU f27 d27)
 (h28:DefIn K "is_number" lG f28 d28)
 (h29:DefIn K "read_parts" dP f29 d29)
 (h30:DefIn K "deed_in" pW f30 d30)
 (h31:DefIn K "deed_text" lH f31 d31)
 (h32:DefIn K "listed" oK f32 d32)
 (h33:DefIn K "of_house" nG f33 d33)
 (h34:DefIn K "of_road" pX f34 d34)
 (h35:DefIn K "answer" uI f35 d35)
 (h36:DefIn K "_law_numbers" iY f36 d36)
 (h37:DefIn K "_law_same" nJ f37 d37)
 (h38:DefIn K "_law_lines" fU f38 d38)
 (h39:DefIn K "law" oM f39 d39)
 (hi_Road:InitIn K C_Road "Road.__init__" gF i_Road j_Road)
 (hi_Course:InitIn K C_Course "Course.__init__" eR i_Course j_Course)
 (hi_House:InitIn K C_House "House.__init__" fJ i_House j_House)
 (hi_Desk:InitIn K C_Desk "Desk.__init__" gH i_Desk j_Desk)
 (hm_do:MethIn K C_House "do" "House.do" nF m_do n_do)
 (hm_again:MethIn K C_House "again" "House.again" iV m_again n_again)
 (hm_row:MethIn K C_House "row" "House.row" lE m_row n_row)
 (hm_deeds:MethIn K C_House "deeds" "House.deeds" fO m_deeds n_deeds)
 (hm_say:MethIn K C_Desk "say" "Desk.say" nH m_say n_say)
 (z_len:PySem.W.nsIn K mainGlobals "len"=some none)
 (z_range:PySem.W.nsIn K mainGlobals "range"=some none)
 (z_list:PySem.W.nsIn K mainGlobals "list"=some none)
 (z_tuple:PySem.W.nsIn K mainGlobals "tuple"=some none)
 (z_bool:PySem.W.nsIn K mainGlobals "bool"=some none)
 (z_str:PySem.W.nsIn K mainGlobals "str"=some none)
 (z_int:PySem.W.nsIn K mainGlobals "int"=some none)
 (z_isinstance:PySem.W.nsIn K mainGlobals "isinstance"=some none)
 (z_all:PySem.W.nsIn K mainGlobals "all"=some none)
 (z_sorted:PySem.W.nsIn K mainGlobals "sorted"=some none)
 (z_max:PySem.W.nsIn K mainGlobals "max"=some none)
 (z_min:PySem.W.nsIn K mainGlobals "min"=some none)
 (z_set:PySem.W.nsIn K mainGlobals "set"=some none)
 (z_reversed:PySem.W.nsIn K mainGlobals "reversed"=some none)
 (z_sum:PySem.W.nsIn K mainGlobals "sum"=some none)
 (z_enumerate:PySem.W.nsIn K mainGlobals "enumerate"=some none)
 (z_zip:PySem.W.nsIn K mainGlobals "zip"=some none)
 (z_any:PySem.W.nsIn K mainGlobals "any"=some none)
 (z_abs:PySem.W.nsIn K mainGlobals "abs"=some none)
 (z_dict:PySem.W.nsIn K mainGlobals "dict"=some none)
 (y_MOST_STONES:PySem.W.nsIn K mainGlobals "MOST_STONES"=some (some (.int 60 t_MOST_STONES)))
 (y_FEW_WALKS:PySem.W.nsIn K mainGlobals "FEW_WALKS"=some (some (.int 10 t_FEW_WALKS)))
 (y_REST_APART:PySem.W.nsIn K mainGlobals "REST_APART"=some (some (.int 16 t_REST_APART)))
 (y_MOST_ROADS:PySem.W.nsIn K mainGlobals "MOST_ROADS"=some (some (.int 8 t_MOST_ROADS)))
 (y_LETTERS:PySem.W.nsIn K mainGlobals "LETTERS"=some (some (.str "abcdefghijklmnopqrstuvwxyz" t_LETTERS)))
 (y_FIGURES:PySem.W.nsIn K mainGlobals "FIGURES"=some (some (.str "0123456789" t_FIGURES)))
 (y_MOST_LETTERS:PySem.W.nsIn K mainGlobals "MOST_LETTERS"=some (some (.int 8 t_MOST_LETTERS)))
 (y_MOST_FIGURES:PySem.W.nsIn K mainGlobals "MOST_FIGURES"=some (some (.int 60 t_MOST_FIGURES)))
 (aD:PySem.W.nsIn K mainGlobals "DEEDS"=some (some (.ref dD)))
 (lD:K.lookup dD=some ⟨.type "dict",none,.dict #[⟨PyData.keyHash w.params "build",.str "build" td0,.ref f21⟩,⟨PyData.keyHash w.params "shut",.str "shut" td1,.ref f22⟩,⟨PyData.keyHash w.params "walk",.str "walk" td2,.ref f23⟩,⟨PyData.keyHash w.params "put",.str "put" td3,.ref f23⟩,⟨PyData.keyHash w.params "take",.str "take" td4,.ref f23⟩,⟨PyData.keyHash w.params "mirror",.str "mirror" td5,.ref f23⟩,⟨PyData.keyHash w.params "lay",.str "lay" td6,.ref f24⟩,⟨PyData.keyHash w.params "late",.str "late" td7,.ref f25⟩,⟨PyData.keyHash w.params "strike",.str "strike" td8,.ref f26⟩] epD,#[]⟩)
 (sysD:(dD == sysModules)=false)
 (aF:PySem.W.nsIn K mainGlobals "FORMS_pages"=some (some (.ref dF)))
 (lF:K.lookup dF=some ⟨.type "dict",none,.dict #[⟨PyData.keyHash w.params "shut",.str "shut" tf0,.ref rf0⟩,⟨PyData.keyHash w.params "walk",.str "walk" tf1,.ref rf1⟩,⟨PyData.keyHash w.params "put",.str "put" tf2,.ref rf2⟩,⟨PyData.keyHash w.params "take",.str "take" tf3,.ref rf3⟩,⟨PyData.keyHash w.params "mirror",.str "mirror" tf4,.ref rf4⟩,⟨PyData.keyHash w.params "lay",.str "lay" tf5,.ref rf5⟩,⟨PyData.keyHash w.params "late",.str "late" tf6,.ref rf6⟩,⟨PyData.keyHash w.params "strike",.str "strike" tf7,.ref rf7⟩] epF,#[]⟩)
 (lf0:K.lookup rf0=some ⟨.type "tuple",oF0,.seq #[.int 1 ta0,.int 0 tb0] nF0,sF0⟩)
 (lf1:K.lookup rf1=some ⟨.type "tuple",oF1,.seq #[.int 1 ta1,.int 2 tb1] nF1,sF1⟩)
 (lf2:K.lookup rf2=some ⟨.type "tuple",oF2,.seq #[.int 1 ta2,.int 1 tb2] nF2,sF2⟩)
 (lf3:K.lookup rf3=some ⟨.type "tuple",oF3,.seq #[.int 1 ta3,.int 1 tb3] nF3,sF3⟩)
 (lf4:K.lookup rf4=some ⟨.type "tuple",oF4,.seq #[.int 1 ta4,.int 0 tb4] nF4,sF4⟩)
 (lf5:K.lookup rf5=some ⟨.type "tuple",oF5,.seq #[.int 2 ta5,.int 1 tb5] nF5,sF5⟩)
 (lf6:K.lookup rf6=some ⟨.type "tuple",oF6,.seq #[.int 1 ta6,.int 3 tb6] nF6,sF6⟩)
 (lf7:K.lookup rf7=some ⟨.type "tuple",oF7,.seq #[.int 1 ta7,.int 1 tb7] nF7,sF7⟩)
 (sysF:(dF == sysModules)=false)
 (aK:PySem.W.nsIn K mainGlobals "FORMS_desk"=some (some (.ref dK)))
 (lK:K.lookup dK=some ⟨.type "dict",none,.dict #[⟨PyData.keyHash w.params "back",.str "back" tk0,.ref rk0⟩,⟨PyData.keyHash w.params "again",.str "again" tk1,.ref rk1⟩,⟨PyData.keyHash w.params "roads",.str "roads" tk2,.ref rk2⟩,⟨PyData.keyHash w.params "row",.str "row" tk3,.ref rk3⟩,⟨PyData.keyHash w.params "trains",.str "trains" tk4,.ref rk4⟩,⟨PyData.keyHash w.params "log",.str "log" tk5,.ref rk5⟩,⟨PyData.keyHash w.params "load",.str "load" tk6,.ref rk6⟩,⟨PyData.keyHash w.params "ranked",.str "ranked" tk7,.ref rk7⟩,⟨PyData.keyHash w.params "kin",.str "kin" tk8,.ref rk8⟩] epK,#[]⟩)
 (lk1:K.lookup rk1=some ⟨.type "tuple",oK1,.seq #[.int 0 ua1,.int 0 ub1] nK1,sK1⟩)
 (lk3:K.lookup rk3=some ⟨.type "tuple",oK3,.seq #[.int 1 ua3,.int 0 ub3] nK3,sK3⟩)
 (lk6:K.lookup rk6=some ⟨.type "tuple",oK6,.seq #[.int 1 ua6,.int 1 ub6] nK6,sK6⟩)
 (lk8:K.lookup rk8=some ⟨.type "tuple",oK8,.seq #[.int 2 ua8,.int 0 ub8] nK8,sK8⟩)
 (sysK:(dK == sysModules)=false) :
 ∃ fd:FuncData,(∀ (s:Shared) (v:Value),BindsTo s fd ⟨[v],[]⟩ [("_law_script",v)])/\∀ base:Heap,K.In base->base.Ns mainGlobals mg->FnOk l.prog w K mg base CX0 15 fa fd ["_law_script"] (zG K):=by
 have e:=hfa.symm.trans (jg X Gm h39.a);cases e;have B:Bt mg:=⟨dt X Gm z_len,dt X Gm z_range,dt X Gm z_list,dt X Gm z_tuple,dt X Gm z_bool,dt X Gm z_str,dt X Gm z_int,dt X Gm z_isinstance,dt X Gm z_all,dt X Gm z_sorted,dt X Gm z_max,dt X Gm z_min,dt X Gm z_set,dt X Gm z_reversed,dt X Gm z_sum,dt X Gm z_enumerate,dt X Gm z_zip,dt X Gm z_any,dt X Gm z_abs⟩;have B6:Bt6 mg:=⟨dt X Gm z_dict⟩;have C:Cn mg t_MOST_STONES:=⟨jg X Gm y_MOST_STONES⟩;have C3:Cn3 mg t_FEW_WALKS t_REST_APART t_MOST_ROADS:=⟨jg X Gm y_FEW_WALKS,jg X Gm y_REST_APART,jg X Gm y_MOST_ROADS⟩;have WG:Wd mg:=⟨⟨_,jg X Gm y_LETTERS⟩,⟨_,jg X Gm y_FIGURES⟩,⟨_,jg X Gm y_MOST_LETTERS⟩,⟨_,jg X Gm y_MOST_FIGURES⟩⟩;have mD:=jg X Gm aD;have mV:=dt X Gm z_VE;have mF:=jg X Gm aF;have mK:=jg X Gm aK;obtain⟨kvD,DD,v_build,v_shut,v_walk,v_put,v_take,v_mirror,v_lay,v_late,v_strike⟩:=aAL (P:=l.prog) (w:=w) lD sysD;obtain⟨kvF,FM⟩:=y0 (P:=l.prog) (w:=w) lF sysF (gB lf0) (gB lf1) (gB lf2) (gB lf3) (gB lf4) (gB lf5) (gB lf6) (gB lf7);obtain⟨kvK,FK⟩:=Y4 (P:=l.prog) (w:=w) lK sysK (gB lk1) (gB lk3) (gB lk6) (gB lk8)
 let G:Hc K:=hG.g
 let D:Dc K:=hK.d
 have mE:=jg X Gm eT.a
 let XE:cG K mg:=⟨C_TooMany,C_BadRow,C_BadCreel,C_TooNear,C_Bare,C_BadName,C_Taken,C_Full,C_NoRoad,C_Laid,C_NoStone,C_NoEntry,C_NotWalk,C_Clash,C_NothingLeft,C_CreelError,e_BadRow.mm X Gm,e_Clash.mm X Gm,e_Laid.mm X Gm,e_NoStone.mm X Gm,mE⟩
 have XC:aCW XE:=aCd eV;have XW:aC5 XE:=aCe eV;have bl:∀ (s:Shared) (v:Value),BindsTo s d39 ⟨[v],[]⟩ [("_law_script",v)]:=by
  obtain⟨_,_,_,_,_,_,_,_,_,rfl,_,_⟩:=h39.F.ex;exact λs v=>.of_eq rfl
 refine⟨d39,bl,λbase _ _=>?_⟩;have OH:=mI (P:=l.prog) (w:=w) (mg:=mg) (base:=base) eT.F mV;have OB:=OH.fn;have R_TooMany:=Z4 X Gm eT.o OB eT.b mE e_TooMany;have R_BadRow:=aA3 X Gm eT.o OB eT.b mE e_BadRow;have R_BadCreel:=M3 X Gm eT.o OB eT.b mE e_BadCreel;have R_TooNear:=Z5 X Gm eT.o OB eT.b mE e_TooNear;have R_Bare:=aCg X Gm eT.o OB eT.b mE e_Bare;have R_Taken:=aBR X Gm eT.o OB eT.b mE e_Taken;have R_Full:=aCh X Gm eT.o OB eT.b mE e_Full;have R_NoRoad:=aA4 X Gm eT.o OB eT.b mE e_NoRoad;have R_Laid:=aCi X Gm eT.o OB eT.b mE e_Laid;have R_NoStone:=Z6 X Gm eT.o OB eT.b mE e_NoStone;have R_NoEntry:=Z7 X Gm eT.o OB eT.b mE e_NoEntry;have R_NotWalk:=Z8 X Gm eT.o OB eT.b mE e_NotWalk;have OC:=uJ e_Clash.F eT.o OH eT.b mE e_Clash.x e_Clash.s e_Clash.t;have RH_Clash:lX l.prog w K mg base "Clash" XE.clash ["self","at"] (aAB "Clash" XE.clash):=e_Clash.rH X Gm OC;have R_NothingLeft:=vF X Gm eT.o OB eT.b mE e_NothingLeft;have N_Road:iM l.prog w K mg base "Road" C_Road 1 ["self","entries","rests","course"] (lW G):=hi_Road.at (jg X Gm hG.aR) (hi_Road.F.binds4 (p1:="self") (p2:="entries") (p3:="rests") (p4:="course") λ_ _ _ _ _ _ _ _ _ _=>rfl) (yB G hi_Road.F);have N_Course:iM l.prog w K mg base "Course" C_Course 1 ["self","rested","walks","turned"] (mY G):=hi_Course.at (jg X Gm hG.aC) (hi_Course.F.binds4 (p1:="self") (p2:="rested") (p3:="walks") (p4:="turned") λ_ _ _ _ _ _ _ _ _ _=>rfl) (tW G hi_Course.F);have N_House:iM l.prog w K mg base "House" C_House 1 ["self"] (jI G):=hi_House.at (jg X Gm hG.aH) (hi_House.F.binds1 (p1:="self") λ_ _ _ _ _ _ _=>rfl) (uU G hi_House.F);have N_Desk:iM l.prog w K mg base "Desk" C_Desk 3 ["self"] (rK G D):=hi_Desk.at (jg X Gm hK.a) (hi_Desk.F.binds1 (p1:="self") λ_ _ _ _ _ _ _=>rfl) (vC G D hi_Desk.F N_House);have t0:=h0.d5 l.prog w base X Gm (h0.F.binds1 (p1:="row") λ_ _ _ _ _ _ _=>rfl);have A_look_row:=t0.fn (C7 h0.F B C);have A_look_rowL:dU l.prog w K mg base "look_row" 1 ["row"] xD:=t0.fn ((C7 h0.F B C).imp λ_ _ _ _=>aCV);have AX_look_row:=t0.fx (aAZ h0.F B C XE R_TooMany R_BadRow);have t1:=h1.d5 l.prog w base X Gm (h1.F.binds1 (p1:="creel") λ_ _ _ _ _ _ _=>rfl);have A_look_creel:=t1.fn (uT h1.F B);have AX_look_creel:=t1.fx (tU h1.F B XE R_BadCreel);have t2:=h2.d5 l.prog w base X Gm (h2.F.binds2 (p1:="row") (p2:="creel") λ_ _ _ _ _ _ _ _=>rfl);have A_walked:=t2.fn (Y8 h2.F B A_look_rowL A_look_creel);have AX_walked:=t2.fx (K8 h2.F B XE A_look_row AX_look_creel);have t3:=h3.d5 l.prog w base X Gm (h3.F.binds2 (p1:="row") (p2:="creel") λ_ _ _ _ _ _ _ _=>rfl);have AX_carried:=t3.fx (C8 h3.F B XE AX_walked);have t4:=h4.d5 l.prog w base X Gm (h4.F.binds2 (p1:="one") (p2:="other") λ_ _ _ _ _ _ _ _=>rfl);have AX_kin:cQ l.prog w K mg base "kin" 6 ["one","other"] Y5:=t4.fx (aBO h4.F);have t5:=h5.d5 l.prog w base X Gm (h5.F.binds3 (p1:="one") (p2:="other") (p3:="gap") λ_ _ _ _ _ _ _ _ _=>rfl);have AX_behind:=t5.fx (L3 h5.F B C XE A_look_row R_Bare R_TooMany R_TooNear);have t6:=h6.d5 l.prog w base X Gm (h6.F.binds2 (p1:="rested") (p2:="walks") λ_ _ _ _ _ _ _ _=>rfl);have A_row_behind_walks:=t6.fn (aBP h6.F B C3 A_walked);have t7:=h7.d5 l.prog w base X Gm (h7.F.binds1 (p1:="course") λ_ _ _ _ _ _ _=>rfl);have A_row_now:=t7.fn (C9 G h7.F B A_row_behind_walks);have t8:=h8.d5 l.prog w base X Gm (h8.F.binds2 (p1:="row") (p2:="place") λ_ _ _ _ _ _ _ _=>rfl);have AX_with_stone:=t8.fx (tY h8.F B C XE R_Laid R_TooMany);have t9:=h9.d5 l.prog w base X Gm (h9.F.binds2 (p1:="row") (p2:="place") λ_ _ _ _ _ _ _ _=>rfl);have AX_without_stone:=t9.fx (oF h9.F B XE R_NoStone)
 have t10:=h10.d5 l.prog w base X Gm (h10.F.binds2 (p1:="row") (p2:="entry") λ_ _ _ _ _ _ _ _=>rfl);have AX_row_behind:=t10.fx (tZ h10.F B XE AX_with_stone AX_without_stone AX_behind);have t11:=h11.d5 l.prog w base X Gm (h11.F.binds3 (p1:="course") (p2:="creel") (p3:="count") λ_ _ _ _ _ _ _ _ _=>rfl);have AX_add_walk:=t11.fx (yC G h11.F B C XE AX_look_creel);have t12:=h12.d5 l.prog w base X Gm (h12.F.binds2 (p1:="course") (p2:="entry") λ_ _ _ _ _ _ _ _=>rfl);have AX_go_on:=t12.fx (Z0 XE G h12.F B AX_add_walk AX_row_behind A_row_now);have t13:=h13.d5 l.prog w base X Gm (h13.F.binds3 (p1:="rests") (p2:="number") (p3:="entry") λ_ _ _ _ _ _ _ _ _=>rfl);have A_is_rest:=t13.fn (D3 h13.F B C3);have t14:=h14.d5 l.prog w base X Gm (h14.F.binds1 (p1:="row") λ_ _ _ _ _ _ _=>rfl);have A_new_road:=t14.fn (yE G h14.F B N_Road N_Course);have t15:=h15.d5 l.prog w base X Gm (h15.F.binds2 (p1:="road") (p2:="entry") λ_ _ _ _ _ _ _ _=>rfl);have AX_with_entry:=t15.fx (uA XE G h15.F B B6 N_Road N_Course AX_go_on A_is_rest);have t16:=h16.d5 l.prog w base X Gm (h16.F.binds3 (p1:="road") (p2:="at") (p3:="entries") λ_ _ _ _ _ _ _ _ _=>rfl);have AX_with_log:=t16.fx (yF XE XC G h16.F B N_Course RH_Clash AX_go_on A_is_rest);have t17:=h17.d5 l.prog w base X Gm (h17.F.binds3 (p1:="text") (p2:="signs") (p3:="most") λ_ _ _ _ _ _ _ _ _=>rfl);have A_is_made_of:=t17.fn (aBQ h17.F B);have t18:=h18.d5 l.prog w base X Gm (h18.F.binds1 (p1:="text") λ_ _ _ _ _ _ _=>rfl);have A_is_name:=t18.fn (L6 h18.F B WG A_is_made_of);have t19:=h19.d5 l.prog w base X Gm (h19.F.binds2 (p1:="roads") (p2:="name") λ_ _ _ _ _ _ _ _=>rfl);have AX_road_named:=t19.fx (uB XE h19.F B R_NoRoad);have t20:=h20.d5 l.prog w base X Gm (h20.F.binds3 (p1:="roads") (p2:="name") (p3:="road") λ_ _ _ _ _ _ _ _ _=>rfl);have A_with_road:=t20.fn (uX h20.F B B6);have t21:=h21.d5 l.prog w base X Gm (h21.F.binds2 (p1:="roads") (p2:="deed") λ_ _ _ _ _ _ _ _=>rfl);have RX_built:jR l.prog w K mg base f21 10 ["roads","deed"] (dM XE G .build):=t21.refX (Z1 XE G h21.F B C3 A_is_name AX_look_row A_new_road A_with_road R_Taken R_Full);have t22:=h22.d5 l.prog w base X Gm (h22.F.binds2 (p1:="roads") (p2:="deed") λ_ _ _ _ _ _ _ _=>rfl);have RX_shut:jR l.prog w K mg base f22 10 ["roads","deed"] (dM XE G .shut):=t22.refX (aA1 XE G h22.F B AX_road_named);have t23:=h23.d5 l.prog w base X Gm (h23.F.binds2 (p1:="roads") (p2:="deed") λ_ _ _ _ _ _ _ _=>rfl);have RX_entered:jR l.prog w K mg base f23 10 ["roads","deed"] (dM XE G .ent):=t23.refX (D6 XE G h23.F B AX_road_named A_with_road AX_with_entry);have t24:=h24.d5 l.prog w base X Gm (h24.F.binds2 (p1:="roads") (p2:="deed") λ_ _ _ _ _ _ _ _=>rfl);have RX_laid:jR l.prog w K mg base f24 10 ["roads","deed"] (dM XE G .lay):=t24.refX (aA2 XE G h24.F B AX_road_named A_row_now A_with_road AX_with_entry);have t25:=h25.d5 l.prog w base X Gm (h25.F.binds2 (p1:="roads") (p2:="deed") λ_ _ _ _ _ _ _ _=>rfl);have RX_found_late:jR l.prog w K mg base f25 10 ["roads","deed"] (dM XE G .late):=t25.refX (uC XE G h25.F B AX_road_named AX_look_creel A_with_road AX_with_log R_NoEntry);have t26:=h26.d5 l.prog w base X Gm (h26.F.binds2 (p1:="roads") (p2:="deed") λ_ _ _ _ _ _ _ _=>rfl);have RX_struck:jR l.prog w K mg base f26 10 ["roads","deed"] (dM XE G .strike):=t26.refX (L9 XE G h26.F B AX_road_named R_NoEntry R_NotWalk);have t27:=h27.d5 l.prog w base X Gm (h27.F.binds2 (p1:="roads") (p2:="deed") λ_ _ _ _ _ _ _ _=>rfl)
 have AX_roads_behind:=t27.fx (pV XE G h27.F B DD mD (fT ⟨_,v_build,RX_built⟩ (fT ⟨_,v_shut,RX_shut⟩ (fT ⟨_,v_walk,RX_entered⟩ (fT ⟨_,v_put,RX_entered⟩ (fT ⟨_,v_take,RX_entered⟩ (fT ⟨_,v_lay,RX_laid⟩ (fT ⟨_,v_late,RX_found_late⟩ (fT ⟨_,v_strike,RX_struck⟩ (λ_ h=>nomatch h))))))))));have M_do:gL l.prog w K mg base C_House "do" 12 ["self","deed"] (U0 XE G):=hm_do.atX (hm_do.F.binds2 (p1:="self") (p2:="deed") λ_ _ _ _ _ _ _ _=>rfl) (yI XE G hm_do.F B AX_roads_behind)
 have M_again:gL l.prog w K mg base C_House "again" 4 ["self"] (nY XE G):=hm_again.atX (hm_again.F.binds1 (p1:="self") λ_ _ _ _ _ _ _=>rfl) (qU XE G hm_again.F B R_NothingLeft);have M_row:gL l.prog w K mg base C_House "row" 8 ["self","name"] (tP XE G):=hm_row.atX (hm_row.F.binds2 (p1:="self") (p2:="name") λ_ _ _ _ _ _ _ _=>rfl) (uZ XE G hm_row.F B AX_road_named A_row_now);have M_deeds:mX l.prog w K mg base C_House "deeds" 2 ["self"] (mB G):=hm_deeds.at (hm_deeds.F.binds1 (p1:="self") λ_ _ _ _ _ _ _=>rfl) (qV G hm_deeds.F B);have t28:=h28.d5 l.prog w base X Gm (h28.F.binds1 (p1:="text") λ_ _ _ _ _ _ _=>rfl);have A_is_number:=t28.fn (yK h28.F B WG A_is_made_of);have t29:=h29.d5 l.prog w base X Gm (h29.F.binds3 (p1:="parts") (p2:="names") (p3:="numbers") λ_ _ _ _ _ _ _ _ _=>rfl);have A_read_parts:=t29.fn (uG h29.F B A_is_name A_is_number);have t30:=h30.d5 l.prog w base X Gm (h30.F.binds1 (p1:="text") λ_ _ _ _ _ _ _=>rfl);have A_deed_in:=t30.fn (D7 h30.F B FM mF A_read_parts);have t31:=h31.d5 l.prog w base X Gm (h31.F.binds1 (p1:="deed") λ_ _ _ _ _ _ _=>rfl);have A_deed_text:dU l.prog w K mg base "deed_text" 1 ["deed"] Y5:=t31.fn (vB h31.F);have t32:=h32.d5 l.prog w base X Gm (h32.F.binds1 (p1:="things") λ_ _ _ _ _ _ _=>rfl);have A_listed:=t32.fn (Z3 h32.F B);have t33:=h33.d5 l.prog w base X Gm (h33.F.binds2 (p1:="house") (p2:="word") λ_ _ _ _ _ _ _ _=>rfl);have AX_of_house:=t33.fx (yM XE G h33.F A_deed_text M_again);have t34:=h34.d5 l.prog w base X Gm (h34.F.binds3 (p1:="house") (p2:="word") (p3:="things") λ_ _ _ _ _ _ _ _ _=>rfl);have AX_of_road:=t34.fx (E1 XE G h34.F B A_listed AX_carried AX_kin M_row);have t35:=h35.d5 l.prog w base X Gm (h35.F.binds2 (p1:="house") (p2:="line") λ_ _ _ _ _ _ _ _=>rfl);have AX_answer:=t35.fx (M0 XE G h35.F B FK mK A_deed_in A_read_parts M_do AX_of_house AX_of_road);have M_say:mX l.prog w K mg base C_Desk "say" 14 ["self","line"] (xX G D):=hm_say.at (hm_say.F.binds2 (p1:="self") (p2:="line") λ_ _ _ _ _ _ _ _=>rfl) (yN XW hm_say.F AX_answer);have t36:=h36.d5 l.prog w base X Gm (h36.F.binds2 (p1:="_law_script") (p2:="_law_many") λ_ _ _ _ _ _ _ _=>rfl);have A_law_numbers:=t36.fn (M4 h36.F B);have t37:=h37.d5 l.prog w base X Gm (h37.F.binds2 (p1:="_law_found") (p2:="_law_due") λ_ _ _ _ _ _ _ _=>rfl);have A_law_same:=t37.fn (aA5 h37.F B);have t38:=h38.d5 l.prog w base X Gm (h38.F.binds3 (p1:="_law_names") (p2:="_law_place") (p3:="_law_great") λ_ _ _ _ _ _ _ _ _=>rfl);have A_law_lines:=t38.fn (aA6 h38.F);exact aCj G D h39.F B A_law_numbers A_law_lines A_law_same N_Desk M_say M_deeds
def walk {l:PySem.W.OpenLaw} {q:Program} {loose:List Str} {XP:(Str->Option Value)->Heap->Prop} {YP:World->Heap->Prop} {d:DefRec} {K:Params->PySem.W.Frag} (hn:l.most=some 63) (hdf:d.params.defaults=[])
 (hY:∀ (w:World) (h:Heap),YP w h->(K w.params).In h)
 (F:∀ (w:World) (mg:Str->Option Value) (fa:Addr) (h:Heap),(K w.params).In h->h.Ns mainGlobals mg->mg d.name=some (.ref fa) ->
  ∃ fd:FuncData,(∀ (s:Shared) (u:Value),BindsTo s fd ⟨[u],[]⟩ [("_law_script",u)])/\∀ base:Heap,(K w.params).In base->base.Ns mainGlobals mg->FnOk l.prog w (K w.params) mg base CX0 15 fa fd ["_law_script"] (zG (K w.params))) :
 PySem.W.WalkO q loose XP YP l.row.toRowW d [] (λf vs=>PySem.call f vs) :=
 L2.walk_of (n:=63) (k:=15) (x:="_law_script") (CX:=λ_=>CX0) (sp:=λw=>zG (K w.params)) hn (by decide) hdf ⟨rfl,by decide,by decide⟩ hY F (λ_ _ a ns hl _ hS=>⟨a,ns,rfl,hS,hl,λ_=>rfl⟩) λ_ _ _ _ _ z=>z
end CW
inductive PySem.W.Fast|tw16441100336337462765|tw252940808586122455|tw18124273911825890283|tw999204077626342867|tw10458717777931967458|tw2952857418838512284|tw2850480830936905083|tw13463999882732376098|tw14098966891930084216|tw7062464242300810921|tw11299637128040638721|tw8753277364784921531|tw14582508011919174958|tw14725145609810149393|tw4811600953364438027|tw12390983906824291668|tw9894586518544935725|tw18286869035330768753|tw2372664851984516136|tw574826663590426812|tw16060733531819887936|tw6807801885351559410|tw8378997797625206178|tw10427078464441564910|tw15704802964242607026|tw10257129532719833134|tw9903134498126548472|tw16663603348047033168|tw10498958488134039804|tw10516258324160132684|tw16290403434099015696|tw9024605069173077277|tw17087690778298508351|tw3267561800043730984|tw12999274286421705326|tw9591907747731454784|tw16064713353362249243|tw12180017728752907343|tw2905029968205197228|tw12340435510921897947|tw10907192590742563113|tw8780070464309018407|tw17562055853476968329|tw17872876012638052321|tw5703914749903417141|tw1797992352464260882|tw18090314604213473800|tw16180734304926688034|tw17154399315598800831|tw6118421364962428416|tw1606191669489032701|tw12266560583328433447|tw7738671491385953998|tw12937075012456709938|tw5341110949019929402|tw16055690880677629591|tw17810726983293816660|tw3885456021791337018|tw10374187917030825538|tw11880608318147805086|tw16622856028532543201|tw15328393812708010067|tw12607406585188542398|tw10137817656461962634|tw11000863421085797171|tw7694800439439713077|tw15356739813107130857|tw13656392993090037614|tw11951125530082629197|tw14712179206520577337|tw11111527164022539167|tw5207202054826366895|tw3142932317398558512|tw16145456958254342817|tw2771218846809924503|tw7769229932979155388|tw13143738412777610861|tw15064543386765557585|tw3177661860981563823|tw4012525745299520991|tw15924519506253279225|tw7993026351136284780|tw16074364382614460535|tw14137620415248258442|tw13122365645407826472|tw2576486834865768781|tw16853921591996224724|tw3172522675062428109|tw8719450964713667204|tw17734227942590257691|tw1581187504202166369|tw3462465952166740949|tw7655700941363369484|tw18213925078858360705|tw10565293052626402531|tw13687027806303537254|tw7275680355350186632|tw5332138347101346115|tw10499363861942815665|tw2374295881285078256|tw6560717008524192965|tw18317504245137389608|tw1356954154569837199|tw14825988401368854336|tw6233262861103135954|tw8741819838660153332|tw8594253108873940289|tw4342264776891835787|tw5267093739290301098|tw2830478620043052386|tw3622204019092355923|tw19427304567337709|tw284189333138468244|tw12183092209377686622|tw15415449621195189411|tw13739136033822139354|tw3511940561079291070|tw250282124839731121|tw2038091631389875646|tw10859285200324997727|tw11075070152396291948|tw7046560816735048264|tw4327536872744772909|tw18313522294487136331|tw7558446125103346617|tw14549913656629976865|tw2858001814682853375|tw2019538336159751829|tw18089594620690563325|tw4201531655010874381|tw17861842487239100264|tw12193419023247166967|tw13660651267294183220|tw9372243555189800588|tw844536146010875459|tw13891685624516694338|tw11849403403312520426|tw1282094744027424303|tw8902907143176191129|tw12175496712856943646|tw15922575091014398665|tw4610414973703068773|tw18193413144588934862|tw10760974806086963415|tw14479332931162452459|tw628769984354787599|tw7006616601867084898|tw861251053916249695|tw15794388469842908868|tw258095853270254293|tw8224401395564151879|tw9914341605374111542|tw3905914445446656711|tw2842579398545190336|tw5334610319401575928|tw8973317725444279367|tw10795195055569514088|tw2734582101849291200|tw14796188400367280841|tw16849272328689924979|tw14744764401280089101|tw12196683026316596345|tw18289623838812982303|tw14392512187878286918|tw18082431678380637392|tw3681932185154561734|tw11889719556825063468|tw17349482123956017083|tw4319424735672258487|tw10416683807279954895|tw6154903577226342702|tw2538587062271839539|tw2932959601760958285|tw6459479189607044312|tw593820128287830625|tw6600750333892303343|tw13944778348776293265|tw14920759575274384719|tw11513006652566910206|tw11032161321769913496|tw8721858211932043187|tw6000398003757663973|tw4020426176818224756|tw2271847420132647580|tw14064277820193216950|tw13119036181751993794|tw12477161061880109780|tw2718429815433229883|tw6780274545191393304|tw10180731621502478147|tw101113037286276931|tw17667016887178544714|tw2430563539582459792|tw5991520270547284169|tw11768898297407687506|tw14529387309593996074|tw14149843056128394012|tw3031177164341204657|tw5985514426006766080|tw5548331102144836794|tw9738156885430998088|tw11045518999842755466|tw1940990069440810732|tw4603511901743321778|tw4498829840727556967|tw2980653434630282398|tw16991901310060838391|tw16340910278728362118|tw17522679729319257002|tw12505837924914975294|tw10659565276797382442|tw10742114642665596594|tw18320290478798907662|tw8543655697503089937|tw13937954671418574001|tw4176688206703410960|tw4106097077917782400|tw5245328524536498210|tw2040165062135551426|tw6428786010659407102|tw8010374406913097934|tw10159451429021620853|tw4373866205779115230|tw8556631942040816580|tw6020069650076366692|tw11094303923814534954|tw11825956286130085711|tw634823335390550388|tw5984451859307883599|tw3756352970455011033|tw15901118759475369554|tw17714797712559232018|tw11744211055601845737|tw12457907073750567449|tw16278744245818483545|tw17106577433384948544|tw7030467545238941353|tw7966566358177796744|tw8755440679073647017|tw9363312053416285794|tw14995657485898150311|tw9196732524597806812|tw2039911969296567685|tw17654329671133817397|tw5015598921031828775|tw17979171893643724134|tw3584882914958541162|tw8908286546628496592|tw18329062438774632988|tw12699840265088700143|tw12617174389148903061|tw13227307741505410933|tw18166898893556821739|tw12978064029774550590|tw14762788274369053057|tw14234389418655800712|tw16696664123938004046|tw3024159726110222248|tw13748267770457792135|tw1996824631729605179|tw15104942336649213706|tw13262506274004017485|tw17944925936907259893|tw6476342458033853787|tw6892718446976989790|tw5674296778202912614|tw10047262304423812807|tw9633663040585364115|tw13564577063698553439|tw2214200393706676043|tw7185114270536577545|tw15095073907136912456|tw11036259482535161876|tw4715036093475504401|tw14472151531038797377|tw2748911964518901617|tw12802242519570451440|tw13229894167580989164|tw3327215376169300896|tw8581161703651717310|tw15125323686702152921|tw11638907936019454788|tw7346674121462920552|tw12347325957371338013|tw10382870585844899319|tw12979077486113749550|tw14880967352318365620|tw9546425312513548748|tw16662124185529983790|tw9493964402214220108|tw7147028121928351925|tw11215815142776979845|tw3229686258848113249|tw5401245182391963866|tw4815132613226261110|tw17908134931831247505|tw16909123495751786232|tw10297970030549069501|tw4817986593592169547|tw15790841267733684180|tw15970650863898991838|tw6449301064139529542|tw16296918043168424510|tw7372747330861382401|tw10841542403619247854|tw9217468557810667360|tw107107128205014195|tw1139825389529372876|tw1038944469850333451|tw13661082268224217464|tw11775378907533428318|tw18213778308635221141|tw15405688239655266966|tw17713287820125648831|tw4146009605530075444|tw17973716196848123323|tw15151656672596839996|tw16189741249526702350|tw10918460266578893220|tw8595571351411392438|tw8427665869962904490|tw4340029264815332141|tw8313181880288488343|tw14178955227320789985|tw7577660479693101719|tw14020351784141120128|tw11353363596954263688|tw6663134880128716130|tw14739660236307041345|tw1713722475457845411|tw8049845134327873092|tw4451417996418343731|tw9800172387390359427|tw12870422115729561710|tw5396080165223207532|tw3176092771258398799|tw4795539719722374880|tw15083626295839499948|tw11977367084964460133|tw4113815260109620640|tw17181374641905326694|tw18112626850110937049|tw735902480948839666|tw131856074966067401|tw10857986421357439247|tw5207496448216183178|tw2063706319890199343|tw10370387794105173671|tw14043510477226464580|tw9906276821973973174|tw14913059969118487007|tw5497028617701953735|tw5349743156116930663|tw5493781173279861597|tw15174016086652420249|tw1032425403391672106|tw2518644569558722730|tw10152827428576693363|tw17883046690434525150|tw18362967171276857331|tw13444932039380724772|tw18274674232142194345|tw4743186725563738393|tw9355677876747867593|tw18029586167860005235|tw6932330348524634832|tw4056392939688338332|tw14334326141489007132|tw2227688663011487782|tw3452769290907603217|tw16062748877544304546|tw3943974053978668776|tw3907332168620395708|tw5095609672437807123|tw2816981739817391568|tw1694428689594515774|tw11446997227330491456|tw15576917810434060353|tw8301108010848876097|tw8371795272143537126|tw5542226597997086598|tw1800529788192968892|tw17022823135860221288|tw7945617969206513419|tw18201085210108718991|tw2509757556336170717|tw17276041585295542064|tw5841461262949628901|tw8301064258773900096|tw216736732032933694|tw6018745955716883227|tw7286412890654681918|tw15435715496058093079
open PySem PySem.W PyProof.Rows
set_option maxRecDepth 100000 in
set_option maxHeartbeats 0 in
theorem PySem.Challenge.cw_creelway_k59_each_refusal_at_the_desk_holds : PySem.Challenge.rw_creelway_k59_each_refusal_at_the_desk.Holds := by
 w_on;o_law;k_head;(case hw=>w_witness2)
 k_fill
 refine CW.walk (l:=PySem.Challenge.rw_creelway_k59_each_refusal_at_the_desk) rfl rfl (fun w h Y=>PySem.W.kIn_of Y) ?F
 case F =>
  intro w mg fa h KX G hmg;refine' CW.all_mk KX G hmg ?h0 ?h1 ?h2 ?h3 ?h4 ?h5 ?h6 ?h7 ?h8 ?h9 ?h10 ?h11 ?h12 ?h13 ?h14 ?h15 ?h16 ?h17 ?h18 ?h19 ?h20 ?h21 ?h22 ?h23 ?h24 ?h25 ?h26 ?h27 ?h28 ?h29 ?h30 ?h31 ?h32 ?h33 ?h34 ?h35 ?h36 ?h37 ?h38 ?h39 ?h40 ?h41 ?h42 ?h43 ?h44 ?h45 ?h46 ?h47 ?h48 ?h49 ?h50 ?h51 ?h52 ?h53 ?h54 ?h55 ?h56 ?h57 ?h58 ?h59 ?h60 ?h61 ?h62 ?h63 ?h64 ?h65 ?h66 ?h67 ?h68 ?h69 ?h70 ?h71 ?h72 ?h73 ?h74 ?h75 ?h76 ?h77 ?h78 ?h79 ?h80 ?h81 ?h82 ?h83 ?h84 ?h85 ?h86 ?h87 ?h88 ?h89 ?h90 ?h91 ?h92 ?h93 ?h94 ?h95 ?h96 ?h97 ?h98 ?h99 ?h100 ?h101 ?h102 ?h103 ?h104 ?h105 ?h106 ?h107 ?h108 ?h109 ?h110 ?h111 ?h112 ?h113 ?h114 ?h115 ?h116 ?h117
  (case h0=>exact⟨by k_is,by k_is,by k_is,by k_is,by k_is,by k_is,by k_is,by k_is,by k_is,by k_is,by k_is,by k_is,by k_is,by k_is,by k_is,by k_is,by k_is,by k_is,by k_is,by k_is,by k_is,by k_is,by k_is,by k_is,by kernel_rfl,by kernel_rfl⟩)
  (case h1=>exact⟨by k_is,by k_is,by k_is,by k_is,by k_is,by k_is⟩)
  (case h2=>exact CW.errT (fun _ _ _=>⟨_,rfl,rfl⟩) (by k_is) (by k_is) (by k_is) (by k_is) (by k_is) (by k_is) (by k_is) (by k_is) (by k_is))
  (case h3=>exact CW.errD (fun _ _=>⟨_,rfl,rfl⟩) (by k_is) (by k_is) (by k_is) (by k_is) (by k_is) (by k_is) (by k_is) (by kernel_rfl) (by kernel_rfl))
  (case h4=>exact CW.errA (fun _ _ _ _ _ _ _ _=>rfl) (by k_is) (by k_is) (by k_is) (by k_is) (by k_is) (by k_is) (by kernel_rfl) (by kernel_rfl) (by kernel_rfl))
  (case h5 | h6 | h7 | h8 | h9 | h10 | h11 | h12 | h13 | h14=>exact CW.errD (fun _ _=>⟨_,rfl,rfl⟩) (by k_is) (by k_is) (by k_is) (by k_is) (by k_is) (by k_is) (by k_is) (by kernel_rfl) (by kernel_rfl))
  (case h15=>exact CW.errA (fun _ _ _ _ _ _ _ _=>rfl) (by k_is) (by k_is) (by k_is) (by k_is) (by k_is) (by k_is) (by kernel_rfl) (by kernel_rfl) (by kernel_rfl))
  (case h16=>exact CW.errD (fun _ _=>⟨_,rfl,rfl⟩) (by k_is) (by k_is) (by k_is) (by k_is) (by k_is) (by k_is) (by k_is) (by kernel_rfl) (by kernel_rfl))
  (case h17=>k_is)
  (case h18=>kernel_rfl)
  (case h19=>k_is)
  (case h20 | h21 | h22 | h23 | h24 | h25 | h26 | h27 | h28 | h29 | h30 | h31 | h32 | h33 | h34 | h35 | h36 | h37 | h38 | h39 | h40 | h41 | h42 | h43 | h44 | h45 | h46 | h47 | h48 | h49 | h50 | h51 | h52 | h53 | h54 | h55 | h56 | h57 | h58 | h59=>exact L2.defIn (by k_is) (by k_is) (by k_is) (by k_is))
  (case h60 | h61 | h62 | h63=>exact L2.initIn (by k_is) (by k_is) (by k_is) (by k_is) (by k_is) (by k_is) (by k_is))
  (case h64 | h65 | h66 | h67 | h68=>exact L2.methIn (by k_is) (by k_is) (by k_is) (by k_is) (by k_is))
  (case h69 | h70 | h71 | h72 | h73 | h74 | h75 | h76 | h77 | h78 | h79 | h80 | h81 | h82 | h83 | h84 | h85 | h86 | h87 | h88 | h89 | h90 | h91 | h92 | h93 | h94 | h95 | h96 | h97 | h98=>k_is)
  (case h99=>kernel_rfl)
  (case h100 | h101 | h102 | h103 | h104 | h105 | h106 | h107 | h108 | h109=>k_is)
  (case h110=>kernel_rfl)
  (case h111 | h112 | h113 | h114 | h115 | h116=>k_is)
  (case h117=>kernel_rfl)
