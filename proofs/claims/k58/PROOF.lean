import PyProof.Rows.All
import Wide.All
import OpenK.AllK
import Wide.FinOn
import Lean
import PyProof.EqAt
import PyProof.EqKinds
import PyProof.TupleCall
import PySem.Challenge.RW_creelway_k58_rows_refused_at_every_door
set_option Elab.async false
set_option linter.all false
set_option maxRecDepth 100000
set_option maxHeartbeats 4000000
section
open PySem PySem.Spec PyProof.Rows
def ah:=@Nat.le_refl
def bB:=@if_neg
def da:=@if_pos
def dt:=@PySem.wpAny_mono
def ft:=@PySem.PassesOwn.never
def fy:=@List.getD_eq_getElem?_getD
def jf:=@Nat.le_trans
def jg:=@PySem.boot_len
def jh:=@Ne.symm
def ji:=@PySem.F.plain_max_loop
def jj:=@PySem.W.mg_none_of
def jk:=@Option.some.inj
def jl:=@Bool.and_eq_true
def jm:=@List.drop_eq_getElem_cons
def jn:=@PySem.wpAny_holding
def jo:=@Int.emod_lt_of_pos
def jp:=@List.map_congr_left
def jq:=@List.append_assoc
def jr:=@Nat.zero_le
def jt:=@List.mem_of_find?_eq_some
def ju:=@List.lookup_cons
def jv:=@Bool.false_eq_true
def jw:=@Int.emod_nonneg
def jx:=@PySem.Heap.get?_update_ne
def jy:=@List.append_nil
def jz:=@List.length_range
def ka:=@PySem.Heap.size_push
def kc:=@PySem.wpAny_tryCatch
def kd:=@List.length_singleton
def ke:=@PySem.codeAny_builtin
def kf:=@PySem.F.entry_max_loop
def kh:=@PySem.F.plain_min_loop
def ki:=@PySem.wpAny_Call_Name_kw
def kj:=@List.contains_cons
def km:=@Nat.le_of_lt
def kn:=@PyProof.Rows.callWith_type1
def ko:=@Bool.eq_iff_iff
def kr:=@PySem.mem_of_lookup
def kt:=@PySem.wpAny_updateSeq
def ku:=@PySem.wpAny_seqItems
def kv:=@PySem.plainId_quiet
def kx:=@PySem.W.mg_of
def kz:=@PySem.Calls.callWith_builtin
def lg:=@PySem.W.kia_one
def lj:=@List.nil_append
def lm:=@List.find?_cons
def ln:=@Nat.lt_irrefl
def lq:=@PySem.wpAny_standAt
def lu:=@Nat.lt_succ_self
def lv:=@PySem.wpAny_loadPart_at
def ly:=@Nat.lt_succ_of_lt
def mD:=@PySem.wpAny_letGo
def md:=@PySem.SeqAt.canLay_of_shaped
def me:=@PySem.wpAny_truthy_bool
def mf:=@List.getElem?_set_ne
def mh:=@PySem.codeAny_call_builtin
def mi:=@PySem.codeAny_mono
def mj:=@PySem.wpAny_loadPart'
def ml:=@PyProof.Rows.KeyOrd.kle_refl
def mn:=@PySem.F.slot_enumerate_next
def mq:=@PySem.wpAny_pyNext_list_item
def mr:=@List.take_of_length_le
def mu:=@List.drop_length
def ng:=@Nat.le_add_right
def ni:=@PySem.wpAny_pyNext_list_end
def nj:=@PySem.Calls.spliced_cons
def nk:=@List.eq_nil_or_concat
def nq:=@List.concat_eq_append
def nu:=@Int.le_refl
def nv:=@PySem.Around.frames_deeper
def oa:=@PySem.Calls.evalArgs_plain
def og:=@PySem.wpAny_passesOwn
def oh:=@PySem.wpAny_pyIter_list
def oi:=@List.length_nil
def oj:=@decide_eq_true_eq
def ol:=@PySem.Paired.length
def om:=@List.replicate_succ
def oo:=@PySem.wpAny_isSubtype_exc
def oq:=@PySem.F.plainAttrs_dict
def ot:=@List.filter_cons
def ou:=@PySem.W.cellsFrom_some
def ow:=@PySem.F.entry_min_loop
def oy:=@if_false
def oz:=@List.dropLast_concat_getLast
def pb:=@PySem.wpAny_setField_rec
def pc:=@PySem.wpAny_execs_nil
def pd:=@PySem.W.kia_tup
def pe:=@List.range_succ
def pf:=@Array.Perm.refl
def ph:=@List.length_filter_le
def pi:=@List.sum_append
def pj:=@PySem.wpAny_newObj_type
def pk:=@PyProof.Rows.listUpdate_at
def pp:=@PySem.Calls.Name_function_global
def pq:=@List.getElem?_append_right
def pw:=@PySem.wpAny_newFunctionEnv_cells
def px:=@PySem.Heap.get?_none_of_le
def py:=@PySem.W.looks_findIn
def qa:=@List.not_mem_nil
def qb:=@PyProof.Rows.KeyOrd.kle_trans
def qc:=@List.filterMap_cons
def qd:=@Array.length_toList
def qe:=@PySem.W.looks_clsIn
def qf:=@PySem.wpAny_call
def qg:=@PySem.wpAny_comprehension_free
def qh:=@PySem.AutoSeq1.wpAny_loadPart'
def qi:=@List.any_cons
def qj:=@PySem.wpAny_Call_method0_late
def qk:=@PySem.W.KasT.kasWp_bind
def qm:=@PyProof.Rows.get?_update_seq
def qo:=@List.getElem?_set_self
def qp:=@Sum.inl.inj
def qq:=@PySem.Calls.spliced_nil
def qr:=@List.flatten_cons
def qt:=@bne_self_eq_false
def qu:=@PySem.plainObj_wpAny_Assign_Attribute
def qv:=@PySem.wpAny_rule
def qw:=@PyProof.Rows.KeyOrd.kle_of_klt
def qx:=@List.nodup_append
def qy:=@List.map_nil
def qz:=@Bool.or_true
def r4:=@PySem.call_meetsIn
def ra:=@PySem.F.slot_dict_get
def rb:=@PySem.SeqAt.depth_of_shaped
def rc:=@PySem.F.slot_list_pop
def rd:=@PySem.F.type_list_pop
def re:=@PySem.wpAny_eqBool_int
def rf:=@PySem.wpAny_execs_cons
def rg:=@List.getElem_mem
def rh:=@PySem.wpAny_call_entry
def rj:=@List.cons_append
def rk:=@List.perm_middle
def rm:=@PySem.F.args_enumerate_next_1
def ro:=@PySem.W.hideAll_none
def rp:=@PySem.wpAny_newFunctionEnv
def rq:=@List.mem_of_mem_drop
def se:=@List.mem_of_mem_take
def sf:=@PySem.wpAny_newList
def sg:=@PySem.F.slot_dict_setdefault
def sh:=@PySem.F.entry_enumerate_next
def si:=@List.of_mem_zip
def sj:=@PySem.evalArgs_none
def sk:=@Nat.le_succ
def so:=@Nat.min_eq_left
def sr:=@Array.getD_eq_getD_getElem?
def ss:=@Nat.not_lt_zero
def su:=@Option.map_some
def sv:=@List.find?_some
def sw:=@PySem.wpAny_field
def ti:=@PySem.F.excBase_ValueError
def tj:=@Nat.mod_two_eq_zero_or_one
def tq:=@PySem.W.callWith_K
def tu:=@Nat.lt_of_le_of_lt
def tw:=@PySem.Code.quiet_builtin
def tz:=@List.filter_append
def ua:=@PySem.tupleKind_room_in1
def ub:=@List.getElem?_drop
def uc:=@List.getElem?_append_left
def ud:=@if_true
def ue:=@PySem.Calls.call_function_entry
def uf:=@List.pairwise_iff_getElem
def ug:=@PySem.F.slot_dict_delitem
def uh:=@List.exists_mem_of_ne_nil
def ui:=@PySem.W.kitx_list
def uj:=@PySem.AutoSeq1.sub_tuple_tuple
def uk:=@PySem.F.store_ValueError
def ul:=@beq_iff_eq
def um:=@List.foldl_append
def uo:=@PySem.F.slot_dict_values
def uq:=@List.reverse_cons
def ur:=@PySem.F.slot_list_extend
def ut:=@PySem.F.type_list_extend
def uu:=@PySem.Calls.loadGlobal_global
def uv:=@PySem.sizeLine_eq
def uw:=@List.getElem?_replicate
def ux:=@PySem.F.args_tuple_lt_2
def uy:=@PySem.wpAny_attempt
def uz:=@PySem.wpAny_list_append_plain
def va:=@List.pairwise_singleton
def vb:=@PySem.wpAny_of_eq
def vc:=@PyProof.Rows.seqEpoch_at
def vd:=@PySem.F.args_dict_get_3
def ve:=@PySem.F.slot_dict_items
def vf:=@PySem.wpAny_callSpecial?_slot
def vg:=@List.length_drop
def vh:=@List.getElem_map
def vi:=@PySem.richCompare_meets_room
def vj:=@PySem.F.entry_tuple_lt
def vk:=@PySem.codeAny_compStart_list
def vl:=@List.range_succ_eq_map
def vm:=@PySem.F.entry_dict_get
def vn:=@PySem.codeAny_call_function
def vo:=@PySem.F.slot_tuple_lt
def vp:=@Array.getElem?_toList
def vq:=@PySem.codeAny_of_tree
def vr:=@List.lookup_cons_self
def vt:=@PySem.codeAny_handlers_test
def vu:=@PySem.W.methodCall_KW
def vv:=@PySem.W.Looks.of_pure
def vw:=@Classical.choose_spec
def vx:=@PyProof.Rows.entry_list_sort
def vy:=@List.perm_append_comm
def vz:=@List.Pairwise.sublist
def wa:=@List.take_append_drop
def wb:=@PySem.W.binds_K
def wc:=@PySem.call_meets
def wd:=@List.length_dropLast
def we:=@PySem.W.kla_callFunE
def wf:=@PySem.W.kla_codeExpr
def wg:=@PySem.W.handedOut_of
def wh:=@List.dropLast_concat
def wj:=@List.replicate_succ'
def wk:=@Bool.and_false
def wl:=@List.drop_zero
def wm:=@PySem.wpAny_newTuple
def wn:=@PySem.W.hideAll_get
def wo:=@PySem.wpAt_of_wpAny
def wq:=@PySem.W.looks_mroIn
def wr:=@PyProof.Rows.callWith_kw
def wt:=@PySem.Paired.snoc
def wu:=@List.flatMap_append
def wv:=@PySem.W.codeHd_of_K
def ww:=@List.length_reverse
def wx:=@Bool.or_false
def wy:=@List.all_cons
def wz:=@List.map_take
def xa:=@PySem.seqIndex_neg
def xb:=@Nat.add_comm
def xf:=@PySem.codeAny_loop
def xg:=@Nat.sub_zero
def xh:=@Nat.zero_add
def xi:=@Int.mul_one
def xj:=@Int.mul_add
def aEz:=@wpAny_bind
def aFA:=@wpAny_pure
def aFB:=@List.length_map
def aFC:=@Heap.get?_push_of_some
def aFD:=@List.mem_cons_self
def aFE:=@List.mem_cons_of_mem
def aFF:=@List.mem_append_right
def aFG:=@Heap.get?_update_other
def aFH:=@Heap.lt_size
def aFI:=@Heap.get?_push_size
def aFJ:=@List.size_toArray
def aFK:=@List.length_append
def aFL:=@List.getElem?_eq_getElem
def aFM:=@List.mem_of_getElem?
def aFN:=@Around.under_plainId
def aFO:=@Bool.false_ne_true
def aFP:=@List.take_length
def aFQ:=@List.map_append
def aFR:=@List.length_take
def aFS:=@Nat.lt_of_lt_of_le
def aFT:=@Heap.get?_update_self
def aFU:=@List.mem_append_left
def aFV:=@List.length_replicate
def aFW:=@decide_eq_false
def aFX:=@decide_eq_true
def aFY:=@Nat.ne_of_lt
def aFZ:=@List.getElem?_map
def aF0:=@List.map_cons
def aF1:=@Nat.ne_of_gt
def aF2:=@List.foldl_cons
def aF3:=@List.sum_cons
def aF4:=@List.length_cons
def aF5:=@List.map_map
def aF6:=@List.take_succ
def aF7:=@List.mem_singleton
def aF8:=@List.eq_nil_of_length_eq_zero
def aF9:=@PySem.F.plainAttrs_list
def aFa:=@PySem.F.slot_list_append
def aFb:=@PySem.F.type_list_append
def aFc:=@Option.map_eq_some_iff
def aFd:=@List.getElem?_eq_some_iff
def aFe:=@List.mem_cons
def aFf:=@List.mem_append
def aFg:=@List.mem_map
def aFh:=@List.mem_filter
end
namespace L2
open PySem PySem.Spec PyProof.Rows
abbrev Key:=Sum Int Str
def sA:Key->Value->Bool
 | .inl k,v=>Value.isInt k v
 | .inr x,v=>Value.isStrOf x v
def aEY (w:World):Key->Int
 | .inl k=>hashInt k
 | .inr x=>hashStr w x
def cH:∀ {k:Key} {v:Value},sA k v=true->(∃ i t,k=Sum.inl i/\v=Value.int i t)\/(∃ x t,k=Sum.inr x/\v=Value.str x t)
 | .inl i,v,h=>by
  obtain⟨t,e⟩:=Value.isInt_shape (k:=i) (v:=v) h;exact .inl ⟨i,t,rfl,e⟩
 | .inr x,v,h=>by
  obtain⟨t,e⟩:=Value.isStrOf_shape (x:=x) (v:=v) h;exact .inr ⟨x,t,rfl,e⟩
def Z1 (i:Int) (t:Tok):sA (.inl i) (.int i t)=true:=by simp[sA,Value.isInt]
def Z2 (x:Str) (t:Tok):sA (.inr x) (.str x t)=true:=by simp[sA,Value.isStrOf]
def aCj (a b:Int):decide ((Sum.inl a:Key)=Sum.inl b)=(a == b):=by
 by_cases e:a=b
 .subst e;simp
 .have h:¬ (Sum.inl a:Key)=Sum.inl b:=λq=>e (qp q);rw[aFW h];exact(beq_eq_false_iff_ne.mpr e).symm
def aCk (a b:Str):decide ((Sum.inr a:Key)=Sum.inr b)=decide (a=b):=by
 by_cases e:a=b
 .subst e;simp
 .have h:¬ (Sum.inr a:Key)=Sum.inr b:=λq=>e (Sum.inr.inj q);rw[aFW h,aFW e]
def aCl (a:Int) (b:Str):decide ((Sum.inl a:Key)=Sum.inr b)=false:=aFW (λq=>nomatch q)
def aCm (a:Str) (b:Int):decide ((Sum.inr a:Key)=Sum.inl b)=false:=aFW (λq=>nomatch q)
def bI (prog:Program) (w:World):PySem.KeyKind prog w Key where
 is:=sA
 hash:=aEY w
 inj:=λv a b ha hb=>by
  rcases cH ha with ⟨i,t,rfl,rfl⟩ | ⟨x,t,rfl,rfl⟩
  .rcases cH hb with ⟨j,u,rfl,e⟩ | ⟨y,u,rfl,e⟩
   .injection e with e1 _;rw[e1]
   .exact nomatch e
  .rcases cH hb with ⟨j,u,rfl,e⟩ | ⟨y,u,rfl,e⟩
   .exact nomatch e
   .injection e with e1 _;rw[e1]
 byValue:=λk v h=>by
  rcases cH h with ⟨i,t,rfl,rfl⟩ | ⟨x,t,rfl,rfl⟩ <;> rfl
 pyHash:=λhv h=>by
  rcases cH hv with ⟨i,t,rfl,rfl⟩ | ⟨x,t,rfl,rfl⟩
  .exact wpAny_pyHash_int h
  .exact wpAny_pyHash_str h
 eqBool:=λhu hv h=>by
  rcases cH hu with ⟨i,t,rfl,rfl⟩ | ⟨x,t,rfl,rfl⟩
  .rcases cH hv with ⟨j,u,rfl,rfl⟩ | ⟨y,u,rfl,rfl⟩
   .rw[aCj]at h;exact re h
   .rw[aCl]at h;exact SeqAt.EqAt.int_str i t y u _ _ _ _ h
  .rcases cH hv with ⟨j,u,rfl,rfl⟩ | ⟨y,u,rfl,rfl⟩
   .rw[aCm]at h;exact SeqAt.EqAt.str_int x t j u _ _ _ _ h
   .rw[aCk]at h;exact wpAny_eqBool_str h
 «strs»:=λk x t v h=>by
  rcases cH h with ⟨i,u,rfl,e⟩ | ⟨y,u,rfl,e⟩
  .exact nomatch e
  .injection e with e1 _
   subst e1;cases v <;> rfl
def mW (prog:Program) (w:World) (k:Key) (v:Value):(bI prog w).is k v=sA k v:=rfl
def zH (prog:Program) (w:World) (i:Int) (t:Tok):(bI prog w).is (.inl i) (.int i t)=true:=Z1 i t
def zI (prog:Program) (w:World) (x:Str) (t:Tok):(bI prog w).is (.inr x) (.str x t)=true:=Z2 x t
inductive V where
 | non | bl (b:Bool) | int (i:Int) | str (x:Str) | byt (b:Array UInt8) | flt (b:UInt64) | ref (a:Addr) | ty (n:String)
 deriving DecidableEq
def RelV:V->Value->Prop
 | .non,u=>u=Value.none
 | .bl b,u=>u=Value.bool b
 | .int i,u=>∃ t,u=Value.int i t
 | .str x,u=>∃ t,u=Value.str x t
 | .byt b,u=>∃ t,u=Value.bytes b t
 | .flt b,u=>∃ t,u=Value.float b t
 | .ref a,u=>u=Value.ref a
 | .ty n,u=>u=Value.type n
abbrev Vals:List V->List Value->Prop:=Paired RelV
def Vals.length {xs:List V} {us:List Value} (r:Vals xs us):xs.length=us.length:=ol r
def Vals.get:∀ {xs:List V} {us:List Value} {i:Nat} {x:V},Vals xs us->xs[i]?=some x->∃ u,us[i]?=some u/\RelV x u
 | _,_,_,_,.nil,e=>by simp at e
 | _,_,0,_,.cons r _,e=>by simp at e;subst e;exact⟨_,rfl,r⟩
 | _,_,i+1,x,.cons _ t,e=>by
  obtain⟨u,h1,h2⟩:=Vals.get (i:=i) (x:=x) t (by simpa using e);exact⟨u,by simpa using h1,h2⟩
def Vals.set {x:V} {u:Value} (r:RelV x u):∀ {xs:List V} {us:List Value} (i:Nat),Vals xs us->Vals (xs.set i x) (us.set i u)
 | _,_,_,.nil=>.nil
 | _,_,0,.cons _ t=>.cons r t
 | _,_,i+1,.cons q t=>.cons q (Vals.set r i t)
def Vals.append:∀ {xs ys:List V} {us z:List Value},Vals xs us->Vals ys z->Vals (xs++ys) (us++z)
 | _,_,_,_,.nil,s=>s
 | _,_,_,_,.cons r t,s=>.cons r (Vals.append t s)
def Vals.take:∀ {xs:List V} {us:List Value} (n:Nat),Vals xs us->Vals (xs.take n) (us.take n)
 | _,_,0,_=>.nil
 | _,_,_+1,.nil=>.nil
 | _,_,n+1,.cons r t=>.cons r (Vals.take n t)
def Vals.drop:∀ {xs:List V} {us:List Value} (n:Nat),Vals xs us->Vals (xs.drop n) (us.drop n)
 | _,_,0,r=>r
 | _,_,_+1,.nil=>.nil
 | _,_,n+1,.cons _ t=>Vals.drop n t
def RelO:Option V->Option Value->Prop
 | some v,some u=>RelV v u
 | none,none=>True
 | _,_=>False
def KV {κ:Type}:List (κ×V)->List (κ×Value)->Prop:=Paired λ(p:κ×V) (q:κ×Value)=>p.1=q.1/\RelV p.2 q.2
def kV:Key->V
 | .inl i=>.int i
 | .inr x=>.str x
inductive HO where
 | lst (xs:List V)
 | tup (xs:List V)
 | dK (kvs:List (Key×V)) | dT (kvs:List (List Key×V))
 | set (S:Int->Bool) (n:Nat)
 | ins (C dx:Addr) (fs:List (Str×V))
 | own (x:Addr)
 | xd (fs:List (Str×V))
 | met (f x:Addr)
 | rng (lo hi:Int)
 | frz (o:Obj) (u:HO)
 | tbl (ps:Array Value)
 | ext (φ:Heap->Prop)
abbrev Hp:=Addr->Option HO
def upd (H:Hp) (a:Addr) (o:HO):Hp:=λb=>if b=a then some o else H b
def aD {H:Hp} {a:Addr} {o:HO}:upd H a o a=some o:=by unfold upd;rw[da rfl]
def aE {H:Hp} {a b:Addr} {o:HO} (h:b≠a):upd H a o b=H b:=by unfold upd;rw[bB h]
def kC {H:Hp} {a b:Addr} {o u:HO} (h:H a=some o) (h':H b=some u) (d:o≠u):a≠b:=by
 intro e;subst e;rw[h]at h';exact d (jk h')
def aU {H:Hp} {a b:Addr} {o:HO} (h:H a=some o) (h':H b=none):a≠b:=by
 intro e;subst e;rw[h]at h';cases h'
section
variable (P:Program) (w:World)
def ObjOk (H:Hp) (h:Heap) (a:Addr):HO->Prop
 | .lst xs=>xs.length<=sizeLine/\∃ (its:List Value) (n:Nat),Vals xs its/\h.get? a=some { cls:=.type "list",data:=.seq its.toArray n }
 | .tup xs=>xs.length<=sizeLine/\∃ its:List Value,Vals xs its/\IsTup h a its.toArray
 | .dK kvs=>kvs.length<=sizeLine/\(a == sysModules)=false/\∃ vs,KV kvs vs/\h.DictOf (bI P w) a vs
 | .dT kvs=>kvs.length<=sizeLine/\(a == sysModules)=false/\∃ xs:List (List Key×Addr×Value),
  Paired (λ(p:List Key×V) (q:List Key×Addr×Value)=>p.1=q.1/\H q.2.1=some (.tup (p.1.map kV))/\RelV p.2 q.2.2) kvs xs /\
  ∃ o es ep,h.get? a=some o/\o.ExactDict/\o.data=.dict es ep/\es.toList=xs.map (entryOfKey (tupleKind (bI P w)))/\(xs.map (·.1)).Nodup
 | .set S n=>h.SetOf (intKind P w) a S n
 | .ins C dx fs=>H dx=some (.own a)/\fs.length<=1000/\dx≠a/\h.get? a=some (PySem.W.instObj C dx) /\
  ∃ z,h.Ns1 dx z/\(∀ f,RelO (fs.lookup f) (z f))/\PySem.Within z (fs.map (·.1))
 | .own _=>∃ o,h.get? a=some o
 | .xd fs=>∃ z,h.Ns1 a z/\∀ f,RelO (fs.lookup f) (z f)
 | .rng lo hi=>∃ t u v,h.get? a=some { cls:=.type "range",data:=.fields #[.int lo t,.int hi u,.int 1 v] }
 | .frz o u=>h.get? a=some o/\ObjOk H h a u
 | .tbl ps=>h.get? a=some { cls:=.none,data:=.fields ps }
 | .met f x=>h.get? a=some (PySem.W.methodObj (.ref f) (.ref x))
 | .ext φ=>φ h/\(∃ o,h.get? a=some o)/\∀ h1 h2:Heap,φ h1->(∀ o,h1.get? a=some o->h2.get? a=some o)->φ h2
def HOk (H:Hp) (h:Heap):Prop:=∀ a o,H a=some o->ObjOk P w H h a o
end
section
variable {P:Program} {w:World} {H H':Hp} {h h':Heap} {a:Addr} {o:HO}
def ObjOk.lt (x:ObjOk P w H h a o):a<h.objs.size:=by
 cases o with
 | lst xs=>obtain⟨_,_,_,_,e⟩:=x;exact aFH e
 | tup xs=>obtain⟨_,_,_,p⟩:=x;exact p.lt
 | dK kvs=>obtain⟨_,_,_,_,o,_,_,e,_⟩:=x;exact aFH e
 | dT kvs=>obtain⟨_,_,_,_,o,_,_,e,_⟩:=x;exact aFH e
 | set S n=>obtain⟨o,_,_,_,e,_⟩:=x;exact aFH e
 | ins C dx fs=>obtain⟨_,_,_,e,_⟩:=x;exact aFH e
 | own y=>obtain⟨_,e⟩:=x;exact aFH e
 | xd fs=>obtain⟨_,⟨_,_,_,e,_⟩,_⟩:=x;exact aFH e
 | rng lo hi=>obtain⟨_,_,_,e⟩:=x;exact aFH e
 | frz z u=>obtain⟨e,_⟩:=x;exact aFH e
 | tbl ps=>exact aFH (show h.get? a=some _ from x)
 | met f y=>exact aFH (show h.get? a=some _ from x)
 | ext φ=>obtain⟨_,⟨_,e⟩,_⟩:=x;exact aFH e
def Paired.mapP {z J:Type} {F G:z->J->Prop}:∀ {l₁:List z} {l₂:List J},Paired F l₁ l₂->(∀ a b,F a b->G a b)->Paired G l₁ l₂
 | _,_,.nil,_=>.nil
 | _,_,.cons r t,f=>.cons (f _ _ r) (Paired.mapP t f)
def ObjOk.stay (x:ObjOk P w H h a o) (k:∀ b u,(b=a\/H b=some (.own a))->h.get? b=some u->h'.get? b=some u)
 (L:∀ b,H b=some (.own a)->H' b=some (.own a)) (M:∀ b xs,H b=some (.tup xs)->H' b=some (.tup xs)):ObjOk P w H' h' a o:=by
 induction o with
 | lst xs=>obtain⟨z,its,n,r,e⟩:=x;exact⟨z,its,n,r,k _ _ (.inl rfl) e⟩
 | tup xs=>obtain⟨z,its,r,G,e,c⟩:=x;exact⟨z,its,r,G,k _ _ (.inl rfl) e,c⟩
 | dK kvs=>obtain⟨z,y,vs,r,G,es,ep,e,c⟩:=x;exact⟨z,y,vs,r,G,es,ep,k _ _ (.inl rfl) e,c⟩
 | dT kvs =>
  obtain⟨z,y,xs,r,G,es,ep,e,c⟩:=x;exact⟨z,y,xs,Paired.mapP r λp q z=>⟨z.1,M _ _ z.2.1,z.2.2⟩,G,es,ep,k _ _ (.inl rfl) e,c⟩
 | set S n=>obtain⟨G,es,ep,t,e,c⟩:=x;exact⟨G,es,ep,t,k _ _ (.inl rfl) e,c⟩
 | ins C dx fs =>
  obtain⟨d,z,ne,e,J,⟨od,es,ep,U,c⟩,r⟩:=x;exact⟨L _ d,z,ne,k _ _ (.inl rfl) e,J,⟨od,es,ep,k _ _ (.inr d) U,c⟩,r⟩
 | own y=>obtain⟨G,e⟩:=x;exact⟨G,k _ _ (.inl rfl) e⟩
 | xd fs=>obtain⟨J,⟨od,es,ep,e,c⟩,r⟩:=x;exact⟨J,⟨od,es,ep,k _ _ (.inl rfl) e,c⟩,r⟩
 | rng lo hi=>obtain⟨t,u,v,e⟩:=x;exact⟨t,u,v,k _ _ (.inl rfl) e⟩
 | frz G u Y=>obtain⟨e,q⟩:=x;exact⟨k _ _ (.inl rfl) e,Y q⟩
 | tbl ps =>
  have e:h.get? a=some { cls:=.none,data:=.fields ps }:=x;show h'.get? a=some { cls:=.none,data:=.fields ps };exact k a _ (.inl rfl) e
 | met f y =>
  have e:h.get? a=some (PySem.W.methodObj (.ref f) (.ref y)):=x;show h'.get? a=some (PySem.W.methodObj (.ref f) (.ref y));exact k a _ (.inl rfl) e
 | ext φ=>obtain⟨p,⟨o,e⟩,st⟩:=x;exact⟨st _ _ p λo q=>k _ _ (.inl rfl) q,⟨o,k _ _ (.inl rfl) e⟩,st⟩
def HOk.lt (x:HOk P w H h) (e:H a=some o):a<h.objs.size:=(x a o e).lt
def HOk.fresh (x:HOk P w H h) (e:h.objs.size<=a):H a=none:=by
 cases q:H a with
 | none=>rfl
 | some u=>exact absurd (aFS (x.lt q) e) (ln _)
def HOk.kept (x:HOk P w H h) (k:∀ b u,h.get? b=some u->h'.get? b=some u):HOk P w H h':=λa o e =>
 (x a o e).stay (λb u _ q=>k b u q) (λ_ q=>q) λ_ _ q=>q
def HOk.laid (x:HOk P w H h) (k:∀ b u,h.get? b=some u->h'.get? b=some u) (J:h.objs.size<=a) (new:ObjOk P w (upd H a o) h' a o):HOk P w (upd H a o) h':=λb u e=>by
 have z:=x.fresh J
 by_cases G:b=a
 .subst G;rw[aD]at e;cases e;exact new
 .rw[aE G]at e;exact(x b u e).stay (λc v _ q=>k c v q) (λc q=>by rw[aE (aU q z)];exact q) λc xs q=>by rw[aE (aU q z)];exact q
end
def Rd (H:Hp) (a:Addr) (u:HO):Prop:=H a=some u\/∃ o,H a=some (.frz o u)
def Rd.ok {P:Program} {w:World} {H:Hp} {h:Heap} {a:Addr} {u:HO} (r:Rd H a u) (x:HOk P w H h):ObjOk P w H h a u:=by
 rcases r with r | ⟨o,r⟩
 .exact x a u r
 .obtain⟨_,q⟩:=x a _ r;exact q
def Mut:Option HO->Prop
 | some (.lst _)=>True
 | some (.dK _)=>True
 | some (.dT _)=>True
 | some (.set _ _)=>True
 | some (.ins _ _ _)=>True
 | some (.ext _)=>True
 | _=>False
section
variable {P:Program} {w:World} {H:Hp} {h h':Heap} {x e:Addr} {o':HO}
def HOk.write (ok:HOk P w H h) (M:Mut (H x)) (he:e=x\/H e=some (.own x)) (k:∀ b u,b≠e->h.get? b=some u->h'.get? b=some u) (Y:∃ u,h'.get? e=some u)
 (new:ObjOk P w (upd H x o') h' x o'):HOk P w (upd H x o') h':=λb u q=>by
 have J:∀ c y,H c=some (.own y)->c≠x:=λc y r z=>by subst z;rw[r]at M;exact M
 have L:∀ c xs,H c=some (.tup xs)->c≠x:=λc xs r z=>by subst z;rw[r]at M;exact M
 by_cases U:b=x
 .subst U;rw[aD]at q;cases q;exact new
 .rw[aE U]at q
  by_cases G:b=e
  .have q':H b=some (.own x):=by
    rcases he with z | z
    .exact absurd (G.trans z) U
    .rw[G];exact z
   rw[q]at q';cases q';obtain⟨v,hv⟩:=Y;exact⟨v,by rw[G];exact hv⟩
  .refine(ok b u q).stay (λc v hc r=>k c v ?_ r) (λc r=>by rw[aE (J c b r)];exact r) λc xs r=>by rw[aE (L c xs r)];exact r
   rcases hc with rfl | hc
   .exact G
   .rintro rfl;rcases he with z | z
    .exact J c b hc z
    .rw[hc]at z;cases z;exact U rfl
end
structure Un (fs ex:List Addr) (H H':Hp) (h h':Heap):Prop where
 keep:∀ b o,h.get? b=some o->H b=none->b∉fs->b∉ex->h'.get? b=some o
 slot:∀ b o,h.get? b=some o->H b=none->b∈fs->b∉ex->∃ sl,h'.get? b=some { o with slots:=sl }
 free:∀ b o,h.get? b=some o->H b=none->b∉ex->H' b=none
 there:∀ b o,h.get? b=some o->b∉ex->∃ o',h'.get? b=some o'
 tups:∀ b xs,H b=some (.tup xs)->H' b=some (.tup xs)
 frzs:∀ b o u,H b=some (.frz o u)->H' b=some (.frz o u)
 tbls:∀ b ps,H b=some (.tbl ps)->∃ more,H' b=some (.tbl (ps++more))
section
variable {fs fs' ex ex':List Addr} {H H1 H2:Hp} {h h1 h2 h':Heap} {a x e:Addr} {o:HO}
def Un.any (u:Un fs ex H H1 h h1) {b:Addr} {z:Obj} (q:h.get? b=some z) (n:H b=none) (G:b∉ex):∃ L,h1.get? b=some { z with slots:=L }:=by
 by_cases J:b∈fs
 .exact u.slot b z q n J G
 .exact⟨z.slots,u.keep b z q n J G⟩
def Un.kept (k:∀ b u,h.get? b=some u->h'.get? b=some u):Un fs ex H H h h' :=
 ⟨λb z q _ _ _=>k b z q,λb z q _ _ _=>⟨z.slots,k b z q⟩,λ_ _ _ n _=>n,λb z q _=>⟨z,k b z q⟩,λ_ _ q=>q,λ_ _ _ q=>q,λ_ ps q=>⟨#[],by rw[q];simp⟩⟩
def Un.refl:Un fs ex H H h h:=Un.kept λ_ _ q=>q
def Un.laid (k:∀ b u,h.get? b=some u->h'.get? b=some u) (hp:h.objs.size<=a) (hn:H a=none):Un fs ex H (upd H a o) h h' where
 keep:=λb u q _ _ _=>k b u q
 slot:=λb u q _ _ _=>⟨u.slots,k b u q⟩
 free:=λb u q n _=>by rw[aE (aFY (aFS (aFH q) hp))];exact n
 there:=λb u q _=>⟨u,k b u q⟩
 tups:=λb xs q=>by rw[aE (aU q hn)];exact q
 frzs:=λb u xs q=>by rw[aE (aU q hn)];exact q
 tbls:=λb ps q=>⟨#[],by rw[aE (aU q hn),q];simp⟩
def Un.write (J:Mut (H x)) (he:e=x\/H e=some (.own x)) (k:∀ b u,b≠e->h.get? b=some u->h'.get? b=some u) (L:∃ u,h'.get? e=some u):Un fs ex H (upd H x o) h h':=by
 have U:∀ b,H b=none->b≠x:=λb n z=>by subst z;rw[n]at J;exact J
 have Y:∀ b,H b=none->b≠e:=λb n z=>by
  subst z;rcases he with r | r
  .exact U b n r
  .rw[n]at r;cases r
 have M:∀ b u,H b=some u->¬ Mut (some u)->b≠x:=λb u q nm z=>by subst z;rw[q]at J;exact nm J
 refine⟨λb u q n _ _=>k b u (Y b n) q,λb u q n _ _=>⟨u.slots,k b u (Y b n) q⟩,λb u q n _=>by rw[aE (U b n)];exact n,λb u q _=>?_,
  λb xs q=>by rw[aE (M b _ q λz=>z)];exact q,λb u xs q=>by rw[aE (M b _ q λz=>z)];exact q,λb ps q=>⟨#[],by rw[aE (M b _ q λz=>z),q];simp⟩⟩
 by_cases G:b=e
 .subst G;exact L
 .exact⟨u,k b u G q⟩
end
def trk (h:Heap) (H:Hp):List Addr:=(List.range h.objs.size).filter λa=>(H a).isSome
def sB (h:Heap) (H:Hp):Heap:=PySem.W.hideAll h (trk h H)
def Z3 (h:Heap) (H:Hp):(sB h H).objs.size=h.objs.size:=PySem.W.hideAll_size _ _
def w4 {h:Heap} {H:Hp} {b:Addr} {o:Obj} (e:h.get? b=some o) (n:H b=none):(sB h H).get? b=some o :=
 wn _ e λz=>by
  have q:(H b).isSome=true:=(aFh.mp z).2;rw[n]at q;simp at q
def aB5 {h:Heap} {H:Hp} {b:Addr} {o:Obj} (e:(sB h H).get? b=some o):h.get? b=some o/\H b=none:=by
 have G:h.get? b=some o:=PySem.W.of_hideAll (trk h H) e;refine⟨G,?_⟩;cases q:H b with
 | none=>rfl
 | some x =>
  have J:b∈trk h H:=aFh.mpr ⟨List.mem_range.mpr (aFH G),by simp[q]⟩;have z:(sB h H).get? b=none:=ro (trk h H) J;rw[z]at e;cases e
structure Mod (K:PySem.W.Frag) (mg:Str->Option Value) (base:Heap):Prop where
 kin:K.In base
 glob:base.Ns mainGlobals mg
 blt:∃ mb,base.Ns builtinsNs mb/\∀ x:Str,x≠"__name__"->mb x=bootBuiltins x
 nolimit:base.NoLimit
structure Cx where
 prog:Program
 w:World
 K:PySem.W.Frag
 mg:Str->Option Value
 base:Heap
 A:Around
 N:List Str
 s₀:Shared
 H₀:Hp
 env:Env
 outer:List Env
 stack:List Env
 ex:List Addr
 fn:Str->Bool
 calm:Bool
 pn:List (Addr×Obj)
 xe:Value->Shared->Prop
def frs (l:List Env):List Addr:=l.filterMap (·.frame)
abbrev Cx.fs (X:Cx):List Addr:=frs X.outer
def Vis (z:Scope) (x:Str):Prop:=z.names.lookup x=some .local\/z.names.lookup x=some .cell\/z.names.lookup x=some .free
def Loc (z:Scope) (x:Str):Prop:=z.names.lookup x=some .local\/z.names.lookup x=some .cell
def aEZ (env:Env) (h:Heap) (m:Str->Option Value) (x:Str) (u:Value):Prop :=
 (env.kindOf x=some .local/\m x=some u)\/((env.kindOf x=some .cell\/env.kindOf x=some .free)/\∃ c,env.cells.lookup x=some c/\h.IsCell c (some u))
structure Cx.Ok (X:Cx):Prop where
 mod:Mod X.K X.mg X.base
 kind:X.env.scope.kind=.function
 glob:X.env.globals=mainGlobals
 blt:X.env.builtins=builtinsNs
 above:X.s₀.heap.objs.size<=X.env.locals
 inj:∀ x y c,X.env.cells.lookup x=some c->X.env.cells.lookup y=some c->x=y
 has:∀ x,(X.env.kindOf x=some .cell\/X.env.kindOf x=some .free)->∃ c,X.env.cells.lookup x=some c
 cab:∀ x c,X.fn x=true->X.env.cells.lookup x=some c->X.s₀.heap.objs.size<=c
 hd:X.calm=true->X.A.handled=none
 frames:X.A.frames=some X.stack
 stk:X.stack=X.outer\/(X.stack=X.env :: X.outer/\X.env.frame=some X.env.locals)
 exf:∀ b∈X.ex,b≠X.env.locals/\∀ x c,X.env.cells.lookup x=some c->c≠b
 bs:∀ b o,X.base.get? b=some o->X.s₀.heap.get? b=some o/\X.H₀ b=none
 bsz:X.base.objs.size<=X.s₀.heap.objs.size
 noex:∀ b o,X.base.get? b=some o->b∉X.ex
 exfs:∀ b∈X.ex,b∉X.fs
 funs:X.s₀.heap.FunFrames X.base X.outer
 frf:∀ b∈X.fs,X.H₀ b=none
structure Inv (X:Cx) (pins:List (Addr×Obj)) (σ:List (Option V)) (H:Hp) (s:Shared):Prop where
 ok:X.Ok
 os:s.os=X.s₀.os
 bare:AllBare s.gens
 base:Un X.fs X.ex X.H₀ H X.s₀.heap s.heap
 loc:∃ m,s.heap.Ns X.env.locals m/\∀ (i:Nat) (x:Str) (v:V),X.N[i]?=some x->σ[i]?=some (some v)->Vis X.env.scope x->∃ u,RelV v u/\aEZ X.env s.heap m x u
 cell:∀ x c,X.env.cells.lookup x=some c->∃ v,s.heap.IsCell c v
 free:H X.env.locals=none
 freeC:∀ x c,X.env.cells.lookup x=some c->H c=none
 pin:∀ p∈X.pn++pins,s.heap.get? p.1=some p.2/\H p.1=none/\p.1≠X.env.locals/\p.1∉X.fs/\∀ v,p.2.data≠.cell v
 hok:HOk X.prog X.w H s.heap
 len:σ.length=X.N.length
section
variable {X:Cx} {pins:List (Addr×Obj)} {σ:List (Option V)} {H H':Hp} {s:Shared} {h':Heap}
def Cx.Ok.nofr (ok:X.Ok) {b:Addr} {o:Obj} (e:X.base.get? b=some o):b∉X.fs:=λz=>by
 have:=(ok.funs.mem z).1;rw[e]at this;cases this
def Inv.bs (I:Inv X pins σ H s):∀ b o,X.base.get? b=some o->s.heap.get? b=some o/\H b=none:=λb o e =>
 ⟨I.base.keep b o (I.ok.bs b o e).1 (I.ok.bs b o e).2 (I.ok.nofr e) (I.ok.noex b o e),I.base.free b o (I.ok.bs b o e).1 (I.ok.bs b o e).2 (I.ok.noex b o e)⟩
def Inv.bk (I:Inv X pins σ H s):∀ b o,X.base.get? b=some o->s.heap.get? b=some o:=λb o e=>(I.bs b o e).1
def Inv.mod (I:Inv X pins σ H s):Mod X.K X.mg X.base:=I.ok.mod
def Inv.kIn (I:Inv X pins σ H s):X.K.In s.heap:=I.ok.mod.kin.keeps I.bk
def Inv.lt (I:Inv X pins σ H s):X.env.locals<s.heap.objs.size:=let ⟨_,z,_⟩:=I.loc;z.lt
def Inv.sz (I:Inv X pins σ H s):X.s₀.heap.objs.size<=s.heap.objs.size:=jf I.ok.above (km I.lt)
def Inv.nofs (I:Inv X pins σ H s) {a:Addr} (h:s.heap.objs.size<=a):a∉X.fs:=λz=>by
 obtain⟨_,o,G,_⟩:=I.ok.funs.mem z;exact absurd (aFS (aFH G) (jf I.sz h)) (ln _)
def Inv.cne (I:Inv X pins σ H s):∀ x c,X.env.cells.lookup x=some c->c≠X.env.locals:=λx c e z=>by
 obtain⟨v,o,L,hd⟩:=I.cell x c e;obtain⟨m,⟨o',es,ep,G,J,_⟩,_⟩:=I.loc;rw[z,G]at L;cases L;rw[J]at hd;cases hd
def Inv.funs (I:Inv X pins σ H s):s.heap.FunFrames X.base X.outer:=by
 have all:∀ (l:List Env),(∀ b∈frs l,b∈X.fs)->X.s₀.heap.FunFrames X.base l->s.heap.FunFrames X.base l:=by
  intro l
  induction l with
  | nil=>intro _ _;trivial
  | cons env r Y =>
   intro U hl;obtain⟨hk,⟨L,o,G,hn,ho,hd⟩,hr⟩:=hl;have J:L∈X.fs:=U L (by unfold frs;rw[qc,G];exact aFD);obtain⟨sl,e⟩:=I.base.slot L o ho (I.ok.frf L J) J λz=>I.ok.exfs L z J;exact⟨hk,⟨L,_,G,hn,e,hd⟩,Y (λb M=>U b (by unfold frs;rw[qc,G];exact aFE _ M)) hr⟩
 exact all X.outer (λ_ M=>M) I.ok.funs
def Inv.stack (I:Inv X pins σ H s):s.heap.FunFrames X.base X.stack:=by
 rcases I.ok.stk with e | ⟨e,z⟩
 .rw[e];exact I.funs
 .rw[e];obtain⟨m,G,_⟩:=I.loc;refine .cons (by rw[I.ok.kind];decide) z G ?_ I.funs;exact px (jf I.ok.bsz I.ok.above)
def Inv.stkSub (I:Inv X pins σ H s):∀ b∈frs X.stack,b∈X.env.locals :: X.fs:=λb z=>by
 rcases I.ok.stk with e | ⟨e,G⟩
 .rw[e]at z;exact aFE _ z
 .rw[e]at z;unfold frs at z;rw[qc,G]at z;exact z
def Inv.stkFree (I:Inv X pins σ H s):∀ b∈frs X.stack,H b=none:=λb hb=>by
 rcases aFe.mp (I.stkSub b hb)with e | hb
 .rw[e];exact I.free
 .obtain⟨_,o,G,_⟩:=I.ok.funs.mem hb;exact I.base.free b o G (I.ok.frf b hb) λz=>I.ok.exfs b z hb
def Inv.step {g':Array GenState} {t':Nat} {d':Drawn} {ch:List Addr} (I:Inv X pins σ H s)
 (J:∀ b∈ch,(b∈X.ex\/X.s₀.heap.objs.size<=b)/\b≠X.env.locals/\(∀ x c,X.env.cells.lookup x=some c->c≠b)/\∀ p∈X.pn++pins,p.1≠b)
 (keep:∀ b o,b≠X.env.locals->b∉X.fs->b∉ch->s.heap.get? b=some o->H b=none->h'.get? b=some o)
 (slot:∀ b o,b≠X.env.locals->b∈X.fs->b∉ch->s.heap.get? b=some o->H b=none->∃ sl,h'.get? b=some { o with slots:=sl }) (free:∀ b o,b∉ch->s.heap.get? b=some o->H b=none->H' b=none)
 (there:∀ b o,b∉ch->s.heap.get? b=some o->∃ o',h'.get? b=some o')
 (tups:∀ b xs,H b=some (.tup xs)->H' b=some (.tup xs)) (frzs:∀ b o u,H b=some (.frz o u)->H' b=some (.frz o u)) (tbls:∀ b ps,H b=some (.tbl ps)->∃ more,H' b=some (.tbl (ps++more)))
 (ns:∀ m,s.heap.Ns X.env.locals m->h'.Ns X.env.locals m) (hok:HOk X.prog X.w H' h') (hg:AllBare g') :
 Inv X pins σ H' { s with heap:=h',gens:=g',drawn:=d',toks:=t' }:=by
 have av:∀ b o,X.s₀.heap.get? b=some o->b≠X.env.locals:=λb o e=>aFY (aFS (aFH e) I.ok.above);have M:∀ b o,X.s₀.heap.get? b=some o->b∉X.ex->b∉ch:=λb o e G U=>by
  rcases (J b U).1 with z | z
  .exact G z
  .exact absurd (aFS (aFH e) z) (ln _)
 have cellK:∀ x c,X.env.cells.lookup x=some c->∀ v,s.heap.IsCell c v->h'.IsCell c v:=λx c e v ⟨o,Y,hd⟩=>by
  have L:c∉ch:=λz=>(J c z).2.2.1 x c e rfl
  by_cases hc:c∈X.fs
  .obtain⟨sl,q⟩:=slot c o (I.cne x c e) hc L Y (I.freeC x c e);exact⟨_,q,hd⟩
  .exact⟨o,keep c o (I.cne x c e) hc L Y (I.freeC x c e),hd⟩
 refine⟨I.ok,I.os,hg,⟨λb o e n U G=>?_,λb o e n U G=>?_,λb o e n G=>?_,λb o e G=>?_,λb xs e=>tups b xs (I.base.tups b xs e),λb o xs e=>frzs b o xs (I.base.frzs b o xs e),λb ps e=>?_⟩,?_,λx c e=>?_,?_,λx c e=>?_,λp hp=>?_,hok,I.len⟩
 .exact keep b o (av b o e) U (M b o e G) (I.base.keep b o e n U G) (I.base.free b o e n G)
 .obtain⟨sl,e1⟩:=I.base.slot b o e n U G;obtain⟨aw,e2⟩:=slot b _ (av b o e) U (M b o e G) e1 (I.base.free b o e n G);exact⟨aw,e2⟩
 .obtain⟨o',e1⟩:=I.base.there b o e G;exact free b o' (M b o e G) e1 (I.base.free b o e n G)
 .obtain⟨o',e1⟩:=I.base.there b o e G;exact there b o' (M b o e G) e1
 .obtain⟨m1,e1⟩:=I.base.tbls b ps e;obtain⟨m2,e2⟩:=tbls b _ e1;exact⟨m1++m2,by rw[e2,Array.append_assoc]⟩
 .obtain⟨m,hn,hl⟩:=I.loc;refine⟨m,ns m hn,λi x v e1 e2 e3=>?_⟩;obtain⟨u,r,l⟩:=hl i x v e1 e2 e3;refine⟨u,r,?_⟩;rcases l with l | ⟨k,c,e,z⟩
  .exact .inl l
  .exact .inr ⟨k,c,e,cellK x c e _ z⟩
 .obtain⟨v,z⟩:=I.cell x c e;exact⟨v,cellK x c e v z⟩
 .obtain⟨m,⟨o,_,_,Y,_⟩,_⟩:=I.loc;exact free _ o (λz=>(J _ z).2.1 rfl) Y I.free
 .obtain⟨v,o,Y,hd⟩:=I.cell x c e;exact free c o (λz=>(J c z).2.2.1 x c e rfl) Y (I.freeC x c e)
 .obtain⟨e,n,ne,nf,d⟩:=I.pin p hp;have L:p.1∉ch:=λz=>(J p.1 z).2.2.2 p hp rfl;exact⟨keep p.1 p.2 ne nf L e n,free p.1 p.2 L e n,ne,nf,d⟩
def Inv.un {t':Nat} (I:Inv X pins σ H s) (u:Un X.fs [] H H' s.heap h') (hok:HOk X.prog X.w H' h'):Inv X pins σ H' { s with heap:=h',toks:=t' }:=by
 obtain⟨m,⟨o,es,ep,U,r⟩,_⟩:=id I.loc;obtain⟨sl,Y⟩:=u.any U I.free (by simp);exact I.step (g':=s.gens) (d':=s.drawn) (ch:=[]) (λ_ z=>nomatch z) (λb o _ J _ e n=>u.keep b o e n J (by simp)) (λb o _ J _ e n=>u.slot b o e n J (by simp)) (λb o _ e n=>u.free b o e n (by simp)) (λb o _ e=>u.there b o e (by simp)) u.tups u.frzs u.tbls (λm' hm=>by
  obtain⟨o',L,M,G,r'⟩:=hm;rw[U]at G;cases G;exact⟨_,L,M,Y,r'⟩) hok I.bare
def Inv.call {g':Array GenState} {t':Nat} {d':Drawn} {ch:List Addr} (I:Inv X pins σ H s) (u:Un (frs X.stack) ch H H' s.heap h') (hok:HOk X.prog X.w H' h') (hg:AllBare g')
 (J:∀ b∈ch,(b∈X.ex\/X.s₀.heap.objs.size<=b)/\b≠X.env.locals/\(∀ x c,X.env.cells.lookup x=some c->c≠b)/\∀ p∈X.pn++pins,p.1≠b) :
 Inv X pins σ H' { s with heap:=h',gens:=g',drawn:=d',toks:=t' }:=by
 obtain⟨m,⟨o,es,ep,ho,r⟩,_⟩:=id I.loc;obtain⟨sl,M⟩:=u.any ho I.free λz=>(J _ z).2.1 rfl;exact I.step (ch:=ch) J (λb o M hb G e n=>u.keep b o e n (λz=>(aFe.mp (I.stkSub b z)).elim M hb) G) (λb o _ _ G e n=>u.any e n G) (λb o G e n=>u.free b o e n G) (λb o G e=>u.there b o e G) u.tups u.frzs u.tbls (λm' hm=>by
  obtain⟨o',U,Y,L,r'⟩:=hm;rw[ho]at L;cases L;exact⟨_,U,Y,M,r'⟩) hok hg
def Inv.turned {t':Nat} {it:Addr} (I:Inv X pins σ H s) (k:∀ b o,b≠it->s.heap.get? b=some o->h'.get? b=some o) (M:H it=none) (L:it≠X.env.locals)
 (h1:it∈X.ex\/X.s₀.heap.objs.size<=it) (h2:∀ x c,X.env.cells.lookup x=some c->c≠it) (h3:∀ p∈X.pn++pins,p.1≠it):Inv X pins σ H { s with heap:=h',toks:=t' }:=by
 have J:∀ b u,H b=some u->b≠it:=λb u e z=>by rw[z,M]at e;cases e
 refine I.step (g':=s.gens) (d':=s.drawn) (ch:=[it]) (λb U=>?_) (λb o _ _ G e _=>k b o (λz=>G (by simp[z])) e) (λb o _ _ G e _=>⟨o.slots,k b o (λz=>G (by simp[z])) e⟩) (λ_ _ _ _ n=>n)
  (λb o G e=>⟨o,k b o (λz=>G (by simp[z])) e⟩) (λ_ _ e=>e) (λ_ _ _ e=>e) (λb ps e=>⟨#[],by rw[e];simp⟩) (λm Y=>?_) (λb u e=>?_) I.bare
 .have e:b=it:=by simpa using U
  subst e;exact⟨h1,L,h2,h3⟩
 .obtain⟨o,es,ep,ho,r⟩:=Y;exact⟨o,es,ep,k _ o (jh L) ho,r⟩
 .refine(I.hok b u e).stay (λc v G q=>k c v ?_ q) (λ_ q=>q) λ_ _ q=>q;rcases G with z | z
  .rw[z];exact J b u e
  .exact J c _ z
def Inv.tok (I:Inv X pins σ H s) (t:Nat):Inv X pins σ H { s with toks:=t }:=I.un (h':=s.heap) (t':=t) Un.refl I.hok
def Inv.kept {t':Nat} (I:Inv X pins σ H s) (k:∀ b u,s.heap.get? b=some u->h'.get? b=some u):Inv X pins σ H { s with heap:=h',toks:=t' }:=I.un (Un.kept k) (I.hok.kept k)
def Inv.laid {a:Addr} {o:HO} {t':Nat} (I:Inv X pins σ H s) (k:∀ b u,s.heap.get? b=some u->h'.get? b=some u) (z:s.heap.objs.size<=a) (new:ObjOk X.prog X.w (upd H a o) h' a o) :
 Inv X pins σ (upd H a o) { s with heap:=h',toks:=t' }:=I.un (Un.laid k z (I.hok.fresh z)) (I.hok.laid k z new)
def Inv.write {x e:Addr} {o:HO} {t':Nat} (I:Inv X pins σ H s) (G:Mut (H x)) (he:e=x\/H e=some (.own x)) (k:∀ b u,b≠e->s.heap.get? b=some u->h'.get? b=some u) (z:∃ u,h'.get? e=some u)
 (new:ObjOk X.prog X.w (upd H x o) h' x o):Inv X pins σ (upd H x o) { s with heap:=h',toks:=t' }:=I.un (Un.write G he k z) (I.hok.write G he k z new)
def Inv.weak {z:List (Option V)} (I:Inv X pins σ H s) (J:z.length=σ.length) (w:∀ (i:Nat) v,z[i]?=some (some v)->σ[i]?=some (some v)):Inv X pins z H s :=
 ⟨I.ok,I.os,I.bare,I.base,let ⟨m,L,G⟩:=I.loc;⟨m,L,λi x v e1 M U=>G i x v e1 (w i v M) U⟩,I.cell,I.free,I.freeC,I.pin,I.hok,J.trans I.len⟩
def Inv.pins_of {G:List (Addr×Obj)} (I:Inv X pins σ H s) (h:∀ p∈G,s.heap.get? p.1=some p.2/\H p.1=none/\p.1≠X.env.locals/\p.1∉X.fs/\∀ v,p.2.data≠.cell v):Inv X G σ H s :=
 ⟨I.ok,I.os,I.bare,I.base,I.loc,I.cell,I.free,I.freeC,λp J=>(aFf.mp J).elim (λz=>I.pin p (aFU _ z)) (h p),I.hok,I.len⟩
def sC {N:List Str} (z:N.Nodup) {i j:Nat} {x:Str} (a:N[i]?=some x) (b:N[j]?=some x):i=j:=by
 obtain⟨h1,e1⟩:=aFd.mp a;obtain⟨h2,G⟩:=aFd.mp b;exact(List.getElem_inj z).mp (e1.trans G.symm)
def pB {M:Model} {A:Around} {E:Value->Shared->Prop} {i:Nat} {x:Str} {v:V} {u:Value} {Q:Unit->Shared->Prop} (I:Inv X pins σ H s) (hN:X.N.Nodup) (hi:X.N[i]?=some x) (J:Loc X.env.scope x) (r:RelV v u)
 (h:∀ s',Inv X pins (σ.set i (some v)) H s'->(∃ a,Heap.SameBut a s.heap s'.heap/\(a=X.env.locals\/X.env.cells.lookup x=some a))->Q () s') (hf:X.fn x=true\/X.env.scope.names.lookup x=some .local:=by first | exact .inl rfl | exact .inr rfl | assumption):wpAny M A (storeName X.env x u) Q E s:=by
 obtain⟨m,hn,hl⟩:=id I.loc;have aw:(X.env.scope.kind == .class || (X.env.scope.kind == .module && X.env.locals != X.env.globals))=false:=by rw[I.ok.kind];rfl
 have Y:i<σ.length:=by rw[I.len];exact(aFd.mp hi).1
 have cne:=I.cne;have tracked:∀ {a:Addr} {h':Heap},(∃ o,s.heap.get? a=some o/\H a=none)->Heap.SameBut a s.heap h'->HOk X.prog X.w H h':=λ{a h'} ha G b ob e=>by
  obtain⟨_,_,L⟩:=ha;refine(I.hok b ob e).stay (λc w' hc q=>(G.2 c ?_).trans q) (λ_ q=>q) λ_ _ q=>q;rintro rfl;rcases hc with rfl | hc
  .rw[L]at e;cases e
  .rw[L]at hc;cases hc
 rcases J with hk | hk
 .refine wpAny_storeName_local hk hn (λh' bf G=>?_) aw;obtain⟨oL,_,_,bg,_⟩:=id hn;refine h _ ⟨I.ok,I.os,I.bare,⟨λb o e n hb J=>?_,λb o e n hb J=>?_,I.base.free,λb o e J=>?_,I.base.tups,I.base.frzs,I.base.tbls⟩,⟨_,bf,λj y v' e1 U e3=>?_⟩,λy c e=>?_,I.free,I.freeC,λp hp=>?_,tracked ⟨oL,bg,I.free⟩ G,by simpa using I.len⟩ ⟨_,G,.inl rfl⟩
  .exact(G.2 b (aFY (aFS (aFH e) I.ok.above))).trans (I.base.keep b o e n hb J)
  .obtain⟨sl,e1⟩:=I.base.slot b o e n hb J;exact⟨sl,(G.2 b (aFY (aFS (aFH e) I.ok.above))).trans e1⟩
  .obtain⟨o',e1⟩:=I.base.there b o e J;exact⟨o',(G.2 b (aFY (aFS (aFH e) I.ok.above))).trans e1⟩
  .by_cases hj:j=i
   .subst hj;rw[hi]at e1;cases e1;rw[qo Y]at U;cases U;exact⟨u,r,.inl ⟨hk,by simp⟩⟩
   .rw[mf (jh hj)]at U;obtain⟨u',r',q⟩:=hl j y v' e1 U e3;refine⟨u',r',?_⟩;rcases q with ⟨k,e⟩ | ⟨k,c,e,z⟩
    .refine .inl ⟨k,?_⟩;have:y≠x:=λe=>hj (sC hN e1 (e ▸ hi));simp[this,e]
    .exact .inr ⟨k,c,e,z.sameBut G (cne y c e)⟩
  .obtain⟨w',z⟩:=I.cell y c e;exact⟨w',z.sameBut G (cne y c e)⟩
  .obtain⟨e,n,ne,nf,d⟩:=I.pin p hp;exact⟨(G.2 p.1 ne).trans e,n,ne,nf,d⟩
 .have av:X.fn x=true:=by
   rcases hf with z | z
   .exact z
   .rw[z]at hk;cases hk
  obtain⟨c,hc⟩:=I.ok.has x (.inl hk);obtain⟨w',z⟩:=I.cell x c hc;refine wpAny_storeName_cell I.ok.kind hk hc z (λh' a_ G=>?_);obtain⟨oc,ba,bb⟩:=id z;refine h { s with heap:=h' } ⟨I.ok,I.os,I.bare,⟨λb o e n hb J=>?_,λb o e n hb J=>?_,I.base.free,λb o e J=>?_,I.base.tups,I.base.frzs,I.base.tbls⟩,⟨m,hn.sameBut G (jh (cne x c hc)),λj y v' e1 U e3=>?_⟩,λy c' e=>?_,I.free,I.freeC,λp hp=>?_,tracked ⟨oc,ba,I.freeC x c hc⟩ G,by simpa using I.len⟩ ⟨c,G,.inr hc⟩
  .exact(G.2 b (aFY (aFS (aFH e) (I.ok.cab x c av hc)))).trans (I.base.keep b o e n hb J)
  .obtain⟨sl,e1⟩:=I.base.slot b o e n hb J;exact⟨sl,(G.2 b (aFY (aFS (aFH e) (I.ok.cab x c av hc)))).trans e1⟩
  .obtain⟨o',e1⟩:=I.base.there b o e J;exact⟨o',(G.2 b (aFY (aFS (aFH e) (I.ok.cab x c av hc)))).trans e1⟩
  .by_cases hj:j=i
   .subst hj;rw[hi]at e1;cases e1;rw[qo Y]at U;cases U;exact⟨u,r,.inr ⟨.inl hk,c,hc,a_⟩⟩
   .rw[mf (jh hj)]at U;obtain⟨u',r',q⟩:=hl j y v' e1 U e3;refine⟨u',r',?_⟩;rcases q with q | ⟨k,c',e,z'⟩
    .exact .inl q
    .refine .inr ⟨k,c',e,z'.sameBut G ?_⟩;rintro rfl;exact hj (sC hN e1 (I.ok.inj _ _ _ e hc ▸ hi))
  .by_cases bc:c'=c
   .subst bc;exact⟨_,a_⟩
   .obtain⟨w2,z2⟩:=I.cell y c' e;exact⟨w2,z2.sameBut G bc⟩
  .obtain⟨e,n,ne,nf,d⟩:=I.pin p hp;refine⟨(G.2 p.1 ?_).trans e,n,ne,nf,d⟩;intro q;rw[q,ba]at e;have q':oc=p.2:=jk e;exact d w' (by rw[<- q'];exact bb)
def sD {M:Model} {A:Around} {E:Value->Shared->Prop} {i:Nat} {x:Str} {v:V} {u:Value} {Q:Unit->Shared->Prop} (I:Inv X pins σ H s) (z:X.N.Nodup) (hi:X.N[i]?=some x) (G:Loc X.env.scope x) (r:RelV v u)
 (h:∀ s',Inv X pins (σ.set i (some v)) H s'->Q () s') (J:X.fn x=true\/X.env.scope.names.lookup x=some .local:=by first | exact .inl rfl | exact .inr rfl | assumption):wpAny M A (storeName X.env x u) Q E s :=
 pB I z hi G r (λs' L _=>h s' L) J
def Inv.call' {s':Shared} {ch:List Addr} (I:Inv X pins σ H s) (G:s'.os=s.os) (u:Un (frs X.stack) ch H H' s.heap s'.heap) (hok:HOk X.prog X.w H' s'.heap) (J:AllBare s'.gens)
 (z:∀ b∈ch,(b∈X.ex\/X.s₀.heap.objs.size<=b)/\b≠X.env.locals/\(∀ x c,X.env.cells.lookup x=some c->c≠b)/\∀ p∈X.pn++pins,p.1≠b):Inv X pins σ H' s':=by
 obtain⟨h',g',d',t',o'⟩:=s';have e:o'=s.os:=G;subst e;exact I.call (g':=g') (t':=t') (d':=d') u hok J z
end
abbrev XK:=Value->Option Addr->Hp->Prop
abbrev St:=List (Option V)
abbrev VK:=V->Hp->Prop
abbrev TE:=St->Hp->VK->Prop
abbrev TT:=St->Hp->(Bool->Hp->Prop)->Prop
abbrev TA:=St->Hp->(List V->Hp->Prop)->Prop
structure nJ where
 nx:St->Hp->Prop
 rt:VK
 bk:St->Hp->Prop:=λ_ _=>False
 ct:St->Hp->Prop:=λ_ _=>False
abbrev TS:=nJ->St->Hp->Prop
def EP (X:Cx) (pins:List (Addr×Obj)) (σ:St) (Q:VK) (u:Value) (s':Shared):Prop:=∃ v H',Inv X pins σ H' s'/\RelV v u/\Q v H'
def TP (X:Cx) (pins:List (Addr×Obj)) (σ:St) (Q:Bool->Hp->Prop) (b:Bool) (s':Shared):Prop:=∃ H',Inv X pins σ H' s'/\Q b H'
def AP (X:Cx) (pins:List (Addr×Obj)) (σ:St) (Q:List V->Hp->Prop) (us:List Value) (s':Shared):Prop:=∃ vs H',Inv X pins σ H' s'/\Vals vs us/\Q vs H'
def SP (X:Cx) (pins:List (Addr×Obj)) (D:nJ) (f:Flow) (s':Shared):Prop :=
 match f with
 | .next=>∃ z H',Inv X pins z H' s'/\D.nx z H'
 | .brk=>∃ z H',Inv X pins z H' s'/\D.bk z H'
 | .cont=>∃ z H',Inv X pins z H' s'/\D.ct z H'
 | .ret u=>∃ v z H',Inv X pins z H' s'/\RelV v u/\D.rt v H'
def PE (X:Cx) (e:Expr) (t:TE):Prop :=
 ∀ (pins:List (Addr×Obj)) (s:Shared) (σ:St) (H:Hp) (Q:VK),Inv X pins σ H s->t σ H Q->wpAny (model X.prog X.w) X.A (eval e X.env) (EP X pins σ Q) X.xe s
def PT (X:Cx) (e:Expr) (t:TT):Prop :=
 ∀ (pins:List (Addr×Obj)) (s:Shared) (σ:St) (H:Hp) (Q:Bool->Hp->Prop),Inv X pins σ H s->t σ H Q->wpAny (model X.prog X.w) X.A (isTrue e X.env (eval e X.env)) (TP X pins σ Q) X.xe s
def PW (X:Cx) (e:Expr) (t:TT):Prop :=
 ∀ (whole:Sem Value) (pins:List (Addr×Obj)) (s:Shared) (σ:St) (H:Hp) (Q:Bool->Hp->Prop),Inv X pins σ H s->t σ H Q->wpAny (model X.prog X.w) X.A (isTrue e X.env whole) (TP X pins σ Q) X.xe s
def PW.pt {X:Cx} {e:Expr} {t:TT} (h:PW X e t):PT X e t:=h _
def PA (X:Cx) (es:List Expr) (t:TA):Prop :=
 ∀ (pos:Pos) (pins:List (Addr×Obj)) (s:Shared) (σ:St) (H:Hp) (Q:List V->Hp->Prop),Inv X pins σ H s->t σ H Q->wpAny (model X.prog X.w) X.A (spliced (backTo pos (starEach es X.env))) (AP X pins σ Q) X.xe s
def PS (X:Cx) (st:Stmt) (t:TS):Prop :=
 ∀ (pins:List (Addr×Obj)) (s:Shared) (σ:St) (H:Hp) (D:nJ),Inv X pins σ H s->t D σ H->wpAny (model X.prog X.w) X.A (exec st X.env) (SP X pins D) X.xe s
def PSs (X:Cx) (st:List Stmt) (t:TS):Prop :=
 ∀ (pins:List (Addr×Obj)) (s:Shared) (σ:St) (H:Hp) (D:nJ),Inv X pins σ H s->t D σ H->wpAny (model X.prog X.w) X.A (execs st X.env) (SP X pins D) X.xe s
def thn {z:Type} {t:Sem z} {Q G:z->Shared->Prop} {M:Model} {A:Around} {E:Value->Shared->Prop} {s:Shared} (h:wpAny M A t Q E s) (J:∀ a s,Q a s->G a s):wpAny M A t G E s:=dt h J λ_ _ x=>x
section
variable {X:Cx}
def aCn (i:Nat):TE:=fun σ H Q=>∃ v,σ[i]?=some (some v)/\Q v H
def tC (v:V):TE:=λ_ H Q=>Q v H
def w6 {i:Nat} {x:Str} {pos:Pos} (L:X.N[i]?=some x) (M:Vis X.env.scope x) (hd:(x == ("__debug__":Str))=false:=by decide) (G:(x == ("__classdict__":Str))=false:=by decide):PE X (.Name x pos) (aCn i):=by
 intro pins s σ H Q I h;obtain⟨v,e,h⟩:=h;obtain⟨m,U,Y⟩:=I.loc;obtain⟨u,r,l⟩:=Y i x v L e M;have fin:EP X pins σ Q u s:=⟨v,H,I,r,h⟩;rcases l with ⟨hk,hm⟩ | ⟨hk,c,J,z⟩
 .exact wpAny_Name (wpAny_loadName_local I.ok.kind hk U hm fin) hd
 .rcases hk with hk | hk
  .exact wpAny_Name (wpAny_loadName_cell I.ok.kind hk J z fin) hd
  .exact wpAny_Name (wpAny_loadName_free I.ok.kind hk J z fin G) hd
def aF {i j pos}:PE X (.Constant (.int i) j pos) (tC (.int i)):=λ_ _ _ H _ I h=>wpAny_Constant_int ⟨.int i,H,I.tok _,⟨_,rfl⟩,h⟩
def vM {b j pos}:PE X (.Constant (.bool b) j pos) (tC (.bl b)):=λ_ _ _ H _ I h=>Constant_bool ⟨.bl b,H,I,rfl,h⟩
def w8 {j pos}:PE X (.Constant .none j pos) (tC .non):=λ_ _ _ H _ I h=>Constant_none ⟨.non,H,I,rfl,h⟩
def cV {x j pos}:PE X (.Constant (.str x) j pos) (tC (.str x)):=λ_ _ _ H _ I h=>Calls.Constant_str ⟨.str x,H,I.tok _,⟨_,rfl⟩,h⟩
def Gl (X:Cx) (x:Str):Prop:=X.env.kindOf x=some .globalImplicit
def nK {E:Value->Shared->Prop} {pins:List (Addr×Obj)} {s:Shared} {σ:St} {H:Hp} {x:Str} {u:Value} {pos:Pos} {Q:Value->Shared->Prop} (I:Inv X pins σ H s) (z:Gl X x) (G:X.mg x=some u) (h:Q u s)
 (hd:(x == ("__debug__":Str))=false:=by decide):wpAny (model X.prog X.w) X.A (eval (.Name x pos) X.env) Q E s :=
 pp I.ok.kind z (uu (by rw[I.ok.glob];exact I.mod.glob.keeps I.bk) G h) hd
def fA {E:Value->Shared->Prop} {pins:List (Addr×Obj)} {s:Shared} {σ:St} {H:Hp} {x:Str} {u:Value} {pos:Pos} {Q:Value->Shared->Prop} (I:Inv X pins σ H s) (z:Gl X x) (G:X.mg x=none) (J:bootBuiltins x=some u) (h:Q u s)
 (L:x≠"__name__":=by decide) (hd:(x == ("__debug__":Str))=false:=by decide):wpAny (model X.prog X.w) X.A (eval (.Name x pos) X.env) Q E s:=by
 obtain⟨M,h1,h2⟩:=I.mod.blt;exact pp I.ok.kind z (Calls.loadGlobal_builtin (by rw[I.ok.glob];exact I.mod.glob.keeps I.bk) G (by rw[I.ok.blt];exact h1.keeps I.bk) ((h2 x L).trans J) h) hd
def xH {x:Str} {v:V} {u:Value} {pos:Pos} (z:Gl X x) (G:X.mg x=some u) (r:RelV v u) (hd:(x == ("__debug__":Str))=false:=by decide):PE X (.Name x pos) (tC v) :=
 λ_ _ _ H _ I h=>nK I z G ⟨v,H,I,r,h⟩ hd
def eQ {x:Str} {v:V} {u:Value} {pos:Pos} (z:Gl X x) (G:X.mg x=none) (J:bootBuiltins x=some u) (r:RelV v u) (L:x≠"__name__":=by decide) (hd:(x == ("__debug__":Str))=false:=by decide):PE X (.Name x pos) (tC v) :=
 λ_ _ _ H _ I h=>fA I z G J ⟨v,H,I,r,h⟩ L hd
variable {a b:Expr} {ta tb:TE} {pos:Pos}
variable {tA ar:TT} {rest:List Expr}
def aE0 (t u:TT):TT:=fun σ H Q=>t σ H λc H1=>if c=true then u σ H1 Q else Q false H1
def tOr (t u:TT):TT:=fun σ H Q=>t σ H λc H1=>if c=true then Q true H1 else u σ H1 Q
def aE1 (t:TT):TT:=fun σ H Q=>t σ H λc H1=>Q (!c) H1
def xI (z:PT X a tA):PW X (.BoolOp .And [a] pos) tA:=by
 intro G pins s σ H Q I h;refine isTrue_and (thn (z pins s σ H Q I h) λc J e=>?_);cases c with
 | true=>exact isTrue_and_nil e
 | false=>exact e
def xJ (z:PT X a tA):PW X (.BoolOp .Or [a] pos) tA:=by
 intro G pins s σ H Q I h;refine isTrue_or (thn (z pins s σ H Q I h) λc J e=>?_);cases c with
 | false=>exact isTrue_or_nil e
 | true=>exact e
def J6 (J:PT X a tA) (L:PW X (.BoolOp .And (b :: rest) pos) ar):PW X (.BoolOp .And (a :: b :: rest) pos) (aE0 tA ar):=by
 intro M pins s σ H Q I h;refine isTrue_and (thn (J pins s σ H _ I h) λc U ⟨H1,z,G⟩=>?_);cases c with
 | true=>exact L M pins U σ H1 Q z G
 | false=>exact⟨H1,z,G⟩
def S8 (J:PT X a tA) (L:PW X (.BoolOp .Or (b :: rest) pos) ar):PW X (.BoolOp .Or (a :: b :: rest) pos) (tOr tA ar):=by
 intro M pins s σ H Q I h;refine isTrue_or (thn (J pins s σ H _ I h) λc U ⟨H1,z,G⟩=>?_);cases c with
 | true=>exact⟨H1,z,G⟩
 | false=>exact L M pins U σ H1 Q z G
def J7 (z:PT X a tA):PT X (.UnaryOp .Not a pos) (aE1 tA):=by
 intro pins s σ H Q I h;exact isTrue_not (z pins s σ H (λc H1=>Q (!c) H1) I h)
def aDe (ta tb:TE):TE:=fun σ H Q=>ta σ H λx H1=>∃ c,x=.bl c/\if c=true then tb σ H1 Q else Q (.bl false) H1
def J8 {op} {t:TE} (h:PE X a t):PE X (.BoolOp op [a] pos) t:=λpins s σ H Q I hw=>BoolOp_one (h pins s σ H Q I hw)
def J9 (J:PE X a ta) (L:PE X (.BoolOp .And (b :: rest) pos) tb):PE X (.BoolOp .And (a :: b :: rest) pos) (aDe ta tb):=by
 intro pins s σ H Q I h;refine BoolOp_and (thn (J pins s σ H _ I h) λv M ⟨x,H1,G,U,z⟩=>?_);obtain⟨c,rfl,z⟩:=z;cases U;refine me ?_;cases c with
 | true=>exact L pins M σ H1 Q G z
 | false=>exact⟨.bl false,H1,G,rfl,z⟩
def tIf (t:TT) (ta tb:TE):TE:=fun σ H Q=>t σ H λc H1=>if c=true then ta σ H1 Q else tb σ H1 Q
def kI {c:Expr} (L:PT X c tA) (M:PE X a ta) (U:PE X b tb):PE X (.IfExp c a b pos) (tIf tA ta tb):=by
 intro pins s σ H Q I h;refine wpAny_IfExp (thn (L pins s σ H _ I h) λd z ⟨H1,G,J⟩=>?_);cases d with
 | true=>exact M pins z σ H1 Q G J
 | false=>exact U pins z σ H1 Q G J
end
def SqL (K:PySem.W.Frag) (H:Hp) (a:Addr) (xs:List V):Prop :=
 Rd H a (.lst xs) \/
  ∃ (o:Obj) (its:Array Value) (n:Nat),K.lookup a=some o/\o.cls=.type "list"/\o.dict=none/\o.data=.seq its n/\its.size<=sizeLine/\Vals xs its.toList
def SqT (K:PySem.W.Frag) (H:Hp) (a:Addr) (xs:List V):Prop :=
 Rd H a (.tup xs) \/
  ∃ (o:Obj) (its:Array Value) (n:Nat),K.lookup a=some o/\o.cls=.type "tuple"/\o.data=.seq its n/\its.size<=sizeLine/\Vals xs its.toList
def aE2:Value->Option V
 | .none=>some .non
 | .bool b=>some (.bl b)
 | .int i _=>some (.int i)
 | .str x _=>some (.str x)
 | .bytes b _=>some (.byt b)
 | .float b _=>some (.flt b)
 | .ref a=>some (.ref a)
 | .type n=>some (.ty n)
 | _=>none
def RelV.abs {x:V} {u:Value} (r:RelV x u):aE2 u=some x:=by
 cases x with
 | non=>cases r;rfl
 | bl _=>cases r;rfl
 | int _=>obtain⟨t,rfl⟩:=r;rfl
 | str _=>obtain⟨t,rfl⟩:=r;rfl
 | byt _=>obtain⟨t,rfl⟩:=r;rfl
 | flt _=>obtain⟨t,rfl⟩:=r;rfl
 | ref _=>cases r;rfl
 | ty _=>cases r;rfl
def RelV.inj {x y:V} {u:Value} (r:RelV x u) (q:RelV y u):x=y:=jk (r.abs.symm.trans q.abs)
def Vals.inj:∀ {xs ys:List V} {us:List Value},Vals xs us->Vals ys us->xs=ys
 | _,_,_,.nil,.nil=>rfl
 | _,_,_,.cons r t,.cons z t'=>by rw[r.inj z,Vals.inj t t']
section
variable {X:Cx} {pins:List (Addr×Obj)} {σ:St} {H:Hp} {s:Shared} {a:Addr} {xs ys:List V}
def SqL.of {K:PySem.W.Frag} (h:H a=some (.lst xs)):SqL K H a xs:=.inl (.inl h)
def SqT.of {K:PySem.W.Frag} (h:H a=some (.tup xs)):SqT K H a xs:=.inl (.inl h)
def Inv.list (I:Inv X pins σ H s) (h:SqL X.K H a xs):∃ its:List Value,Vals xs its/\PlainL s.heap a its.toArray/\xs.length<=sizeLine:=by
 rcases h with h | ⟨o,its,n,G,J,hd,L,hz,r⟩
 .obtain⟨z,its,n,r,e⟩:=h.ok I.hok;exact⟨its,r,⟨_,n,e,rfl,rfl,rfl⟩,z⟩
 .refine⟨its.toList,r,⟨o,n,I.kIn a o G,J,hd,by simpa using L⟩,?_⟩;have e:=r.length;simp only[qd]at e;omega
def Inv.tuple (I:Inv X pins σ H s) (h:SqT X.K H a xs):∃ its:List Value,Vals xs its/\IsTup s.heap a its.toArray/\xs.length<=sizeLine:=by
 rcases h with h | ⟨o,its,n,G,J,L,hz,r⟩
 .obtain⟨z,its,r,p⟩:=h.ok I.hok;exact⟨its,r,p,z⟩
 .refine⟨its.toList,r,⟨o,I.kIn a o G,J,n,by simpa using L⟩,?_⟩;have e:=r.length;simp only[qd]at e;omega
def Inv.list_inj (I:Inv X pins σ H s) (h:SqL X.K H a xs) (h':SqL X.K H a ys):xs=ys:=by
 obtain⟨its,r,⟨o,n,e,_,_,d⟩,_⟩:=I.list h;obtain⟨its',G,⟨o',J,z,_,_,d'⟩,_⟩:=I.list h';rw[e]at z;cases z;rw[d]at d'
 injection d' with d1 _
 have:its=its':=by simpa using congrArg Array.toList d1
 subst this;exact r.inj G
end
abbrev Cx.wish (X:Cx) (E:Value->Shared->Prop):Cx:={ X with xe:=E }
abbrev Cx.nox (X:Cx):Cx:=X.wish λ_ _=>False
def Cx.Ok.wish {X:Cx} (ok:X.Ok) (E:Value->Shared->Prop):(X.wish E).Ok :=
 ⟨ok.mod,ok.kind,ok.glob,ok.blt,ok.above,ok.inj,ok.has,ok.cab,ok.hd,ok.frames,ok.stk,ok.exf,ok.bs,ok.bsz,ok.noex,ok.exfs,ok.funs,ok.frf⟩
def Cx.Ok.unwish {X:Cx} {E:Value->Shared->Prop} (ok:(X.wish E).Ok):X.Ok :=
 ⟨ok.mod,ok.kind,ok.glob,ok.blt,ok.above,ok.inj,ok.has,ok.cab,ok.hd,ok.frames,ok.stk,ok.exf,ok.bs,ok.bsz,ok.noex,ok.exfs,ok.funs,ok.frf⟩
section
variable {X:Cx} {pins:List (Addr×Obj)} {σ:St} {H:Hp} {s:Shared} {E:Value->Shared->Prop}
def Inv.wish (I:Inv X pins σ H s) (E:Value->Shared->Prop):Inv (X.wish E) pins σ H s:=⟨I.ok.wish E,I.os,I.bare,I.base,I.loc,I.cell,I.free,I.freeC,I.pin,I.hok,I.len⟩
def Inv.unwish (I:Inv (X.wish E) pins σ H s):Inv X pins σ H s:=⟨I.ok.unwish,I.os,I.bare,I.base,I.loc,I.cell,I.free,I.freeC,I.pin,I.hok,I.len⟩
def SP.unwish {D:nJ} {f:Flow} {s':Shared} (h:SP (X.wish E) pins D f s'):SP X pins D f s':=by
 cases f with
 | next=>obtain⟨z,H',I,q⟩:=h;exact⟨z,H',I.unwish,q⟩
 | brk=>obtain⟨z,H',I,q⟩:=h;exact⟨z,H',I.unwish,q⟩
 | cont=>obtain⟨z,H',I,q⟩:=h;exact⟨z,H',I.unwish,q⟩
 | ret u=>obtain⟨v,z,H',I,r,q⟩:=h;exact⟨v,z,H',I.unwish,r,q⟩
def PSs.nox {st:List Stmt} {t:TS} (h:PSs X.nox st t):PSs X st t:=λpins s σ H D I hw =>
 dt (h pins s σ H D (I.wish _) hw) (λ_ _ q=>q.unwish) λ_ _ z=>False.elim z
end
section
variable {X:Cx} {st:Stmt} {rest:List Stmt} {t u:TS} {e:Expr} {te:TE} {pos:Pos}
def aDf:TS:=λD σ H=>D.nx σ H
def aDg (t u:TS):TS:=λD σ H=>t { D with nx:=u D } σ H
def bQ:PSs X [] aDf:=λ_ _ σ H _ I h=>pc ⟨σ,H,I,h⟩
def aC (h1:PS X st t) (h2:PSs X rest u):PSs X (st :: rest) (aDg t u):=by
 intro pins s σ H D I h;refine rf (thn (h1 pins s σ H { D with nx:=u D } I h) λf G q=>?_);cases f with
 | next =>
  obtain⟨z,H',J,q⟩:=q;exact h2 pins G z H' D J q
 | ret v=>exact q
 | brk=>exact q
 | cont=>exact q
def aG (h1:PS X st t):PSs X [st] t:=by
 intro pins s σ H D I h;refine rf (thn (h1 pins s σ H D I h) λf z q=>?_);cases f with
 | next=>exact pc q
 | ret v=>exact q
 | brk=>exact q
 | cont=>exact q
def Inv.quiet {pins:List (Addr×Obj)} {σ:St} {H:Hp} {s:Shared} (I:Inv X pins σ H s):interactive X.env=false:=by simp[interactive,I.ok.kind]
def aDh (te:TE):TS:=λD σ H=>te σ H λ_ H1=>D.nx σ H1
def aN (he:PE X e te) (z:swapsWith e none pos.line X.env=pure false:=by rfl):PS X (.Expr e pos) (aDh te):=by
 intro pins s σ H D I h;exact wpAny_Expr_any (thn (he pins s σ H _ I h) λv L ⟨x,H1,G,M,J⟩=>⟨σ,H1,G,J⟩) I.quiet z
def aE3 (te:TE):TS:=λD σ H=>te σ H D.rt
def aY (he:PE X e te):PS X (.Return (some e) pos) (aE3 te):=by
 intro pins s σ H D I h;exact wpAny_Return_some (thn (he pins s σ H _ I h) λv L ⟨x,H1,z,G,J⟩=>⟨x,σ,H1,z,G,J⟩)
def aE4 (c:TT) (t u:TS):TS:=λD σ H=>c σ H λb H1=>if b=true then t D σ H1 else u D σ H1
def dE {c:Expr} {a b:List Stmt} {tc:TT} (L:PT X c tc) (M:PSs X a t) (U:PSs X b u):PS X (.If c a b pos) (aE4 tc t u):=by
 intro pins s σ H D I h;refine wpAny_If (thn (L pins s σ H _ I h) λd z ⟨H1,G,J⟩=>?_);cases d with
 | true=>exact M pins z σ H1 D G J
 | false=>exact U pins z σ H1 D G J
def aCo:TS:=λ_ _ _=>False
def aP:PS X st aCo:=λ_ _ _ _ _ _ h=>h.elim
end
abbrev TG:=V->St->Hp->(St->Hp->Prop)->Prop
abbrev TGs:=List V->St->Hp->(St->Hp->Prop)->Prop
def PG (X:Cx) (target:Expr) (t:TG):Prop :=
 ∀ (pins:List (Addr×Obj)) (s:Shared) (σ:St) (H:Hp) (v:V) (u:Value) (Q:St->Hp->Prop),Inv X pins σ H s->RelV v u->t v σ H Q ->
  wpAny (model X.prog X.w) X.A (assign target X.env u) (λ_ s'=>∃ z H',Inv X pins z H' s'/\Q z H') X.xe s
def PGs (X:Cx) (ts:List Expr) (t:TGs):Prop :=
 ∀ (pins:List (Addr×Obj)) (s:Shared) (σ:St) (H:Hp) (vs:List V) (us:List Value) (Q:St->Hp->Prop),Inv X pins σ H s->Vals vs us->t vs σ H Q ->
  wpAny (model X.prog X.w) X.A (assignInOrder ((assignEach ts X.env).map (·.2)) us) (λ_ s'=>∃ z H',Inv X pins z H' s'/\Q z H') X.xe s
abbrev aCp:=V->V->V->Hp->(Hp->Prop)->Prop
def aDi (X:Cx) (t:aCp):Prop :=
 ∀ (pins:List (Addr×Obj)) (s:Shared) (σ:St) (H:Hp) (o i v:V) (z G u:Value) (Q:Hp->Prop),Inv X pins σ H s->RelV o z->RelV i G->RelV v u->t o i v H Q ->
  wpAny (model X.prog X.w) X.A (setItem z G u) (λ_ s'=>∃ H',Inv X pins σ H' s'/\Q H') X.xe s
abbrev TIp:=V->V->Hp->VK->Prop
def PIp (X:Cx) (op:Operator) (t:TIp):Prop :=
 ∀ (pins:List (Addr×Obj)) (s:Shared) (σ:St) (H:Hp) (x y:V) (v u:Value) (Q:VK),Inv X pins σ H s->RelV x v->RelV y u->t x y H Q ->
  wpAny (model X.prog X.w) X.A (inplaceOp op v u) (EP X pins σ Q) X.xe s
section
variable {X:Cx} {pos:Pos}
def qK (i:Nat):TG:=λv σ H Q=>Q (σ.set i (some v)) H
def bR {i:Nat} {x:Str} (z:X.N.Nodup) (hi:X.N[i]?=some x) (G:Loc X.env.scope x) (J:X.fn x=true\/X.env.scope.names.lookup x=some .local:=by first | exact .inl rfl | exact .inr rfl | assumption):PG X (.Name x pos) (qK i):=by
 intro pins s σ H v u Q I r h;exact wpAny_assign_Name (sD I z hi G r (λs' L=>⟨_,H,L,h⟩) J)
def aDj:TGs:=λvs σ H Q=>vs=[]/\Q σ H
def aC1 (t:TG) (u:TGs):TGs:=λvs σ H Q=>∃ v r,vs=v :: r/\t v σ H λz H'=>u r z H' Q
def cR:PGs X [] aDj:=by
 intro pins s σ H vs us Q I r h;obtain⟨e,h⟩:=h;subst e;cases r;exact assignInOrder_nil ⟨σ,H,I,h⟩
def aR {e:Expr} {es:List Expr} {t:TG} {u:TGs} (h1:PG X e t) (h2:PGs X es u)
 (G:(assignEach (e :: es) X.env).map (·.2)=assign e X.env :: (assignEach es X.env).map (·.2):=by rfl):PGs X (e :: es) (aC1 t u):=by
 intro pins s σ H vs us Q I r h;obtain⟨v,Y,e1,h⟩:=h;subst e1;cases r with
 | cons r J =>
  rw[G];refine assignInOrder_cons (thn (h1 pins s σ H _ _ _ I r h) λ_ L ⟨z,H1,M,U⟩=>?_);exact h2 pins L z H1 _ _ Q M J U
def aCq (K:PySem.W.Frag) (n:Nat) (t:TGs):TG:=λv σ H Q=>∃ a xs,v=.ref a/\SqT K H a xs/\xs.length=n/\t xs σ H Q
def fE {es:List Expr} {k:Nat} {t:TGs} {n:Nat} (J:X.calm=true) (h:PGs X es t)
 (L:(assignEach es X.env).length=n:=by rfl) (z:(assignEach es X.env).findIdx? (·.1)=none:=by rfl):PG X (.Tuple es k pos) (aCq X.K n t):=by
 intro pins s σ H v u Q I r hw;obtain⟨a,xs,e1,M,U,hw⟩:=hw;subst e1;cases r;obtain⟨its,G,Y,hz⟩:=I.tuple M;refine assign_Tuple_tuple (I.ok.hd J) Y (by simp[L,<- U,G.length]) z λh' hx=>?_;have I1:Inv X pins σ H { s with heap:=h' }:=I.kept (t':=s.toks) λb o e=>hx b o (aFY (aFH e)) e;exact h pins _ σ H xs _ Q I1 (by simpa using G) hw
def aE5 (to z:TE) (t:aCp):TG:=λv σ H Q=>to σ H λo H1=>z σ H1 λi H2=>t o i v H2 λG=>Q σ G
def x5 {o i:Expr} {to J:TE} {t:aCp} (L:PE X o to) (hi:PE X i J) (M:aDi X t)
 (U:∀ v,assign (.Subscript o i pos) X.env v=(do
  let z <- holding [v] (eval o X.env)
  let G <- holding [v,z] (eval i X.env)
  standAt pos
  holding [v,z,G] (setItem z G v)
  release [v,z,G] []):=by intro _;rfl):PG X (.Subscript o i pos) (aE5 to J t):=by
 intro pins s σ H v u Q I r h;rw[U];refine aEz (jn (thn (L pins s σ H _ I h) λz Y ⟨x,H1,I1,r1,q1⟩=>?_));refine aEz (jn (thn (hi pins Y σ H1 _ I1 q1) λG s2 ⟨y,H2,I2,r2,q2⟩=>?_));refine aEz (lq (aEz (jn (thn (M pins s2 σ H2 x y v z G u _ I2 r1 r2 r q2) λ_ s3 ⟨H3,I3,q3⟩=>?_))));exact wpAny_release ⟨σ,H3,I3,q3⟩
def aB6 (te:TE) (g:TG):TS:=λD σ H=>te σ H λx H1=>g x σ H1 D.nx
def M3 {tg e:Expr} {te:TE} {g:TG} (he:PE X e te) (z:PG X tg g) (G:swapsWithSole [tg] e pos.line X.env=pure false:=by rfl) (hw:swappedStores [tg] e X.env=pure none:=by rfl)
 (h1:(assignEach [tg] X.env).map (·.2)=[assign tg X.env]:=by rfl):PS X (.Assign [tg] e pos) (aB6 te g):=by
 intro pins s σ H D I h;refine wpAny_Assign_stores (thn (he pins s σ H _ I h) λv J ⟨x,H1,L,M,U⟩=>?_) G hw;rw[h1];exact thn (z pins J σ H1 x v _ L M U) λ_ Y q=>q
def aCr {i:Nat} {x:Str} {e:Expr} {te:TE} {pos':Pos} (z:X.N.Nodup) (hi:X.N[i]?=some x) (G:Loc X.env.scope x) (he:PE X e te) (J:swapsWith e (some (.Name x pos')) pos.line X.env=pure false:=by rfl) (L:X.fn x=true\/X.env.scope.names.lookup x=some .local:=by first | exact .inl rfl | exact .inr rfl | assumption) :
 PS X (.Assign [.Name x pos'] e pos) (aB6 te (qK i)):=by
 intro pins s σ H D I h;refine wpAny_Assign_Name (thn (he pins s σ H _ I h) λv s1 ⟨y,H1,M,U,Y⟩=>?_) J;exact sD M z hi G U (λs2 I2=>⟨_,H1,I2,Y⟩) L
def aE6 (i:Nat) (te:TE) (G:TIp):TS:=λD σ H=>∃ x,σ[i]?=some (some x)/\te σ H λy H1=>G x y H1 λz H2=>D.nx (σ.set i (some z)) H2
def jR {i:Nat} {x:Str} {e:Expr} {te:TE} {op:Operator} {Y:TIp} {pos':Pos} (hN:X.N.Nodup) (hi:X.N[i]?=some x) (M:Loc X.env.scope x) (he:PE X e te) (ho:PIp X op Y) (hf:X.fn x=true\/X.env.scope.names.lookup x=some .local:=by first | exact .inl rfl | exact .inr rfl | assumption) :
 PS X (.AugAssign (.Name x pos') op e pos) (aE6 i te Y):=by
 intro pins s σ H D I h;obtain⟨v,e1,h⟩:=h;obtain⟨m,hn,hl⟩:=I.loc;have U:Vis X.env.scope x:=by rcases M with k | k;exact .inl k;exact .inr (.inl k)
 obtain⟨u,r,l⟩:=hl i x v hi e1 U;refine wpAny_AugAssign_Name ?_;have go:wpAny (model X.prog X.w) X.A (eval e X.env) (λw J=>wpAny (model X.prog X.w) X.A (inplaceOp op u w) (λr L=>wpAny (model X.prog X.w) X.A (storeName X.env x r) (λ_=>SP X pins D .next) X.xe L) X.xe J) X.xe s:=by
  refine thn (he pins s σ H _ I h) λw s1 ⟨y,H1,I1,r1,q1⟩=>?_;refine thn (ho pins s1 σ H1 v y u w _ I1 r r1 q1) λz s2 ⟨zv,H2,I2,r2,q2⟩=>?_;exact sD I2 hN hi M r2 (λs3 I3=>⟨_,H2,I3,q2⟩) hf
 rcases l with ⟨hk,hm⟩ | ⟨hk,c,hc,G⟩
 .exact wpAny_loadName_local I.ok.kind hk hn hm go
 .rcases hk with hk | hk
  .exact wpAny_loadName_cell I.ok.kind hk hc G go
  .rcases M with k | k
   .have:X.env.scope.names.lookup x=some .free:=hk;rw[k]at this;cases this
   .have:X.env.scope.names.lookup x=some .free:=hk;rw[k]at this;cases this
def ipI (f:Int->Int->Int):TIp:=λx y H Q=>∃ i j,x=.int i/\y=.int j/\Q (.int (f i j)) H
def mX:PIp X .Add (ipI λi j=>i+j):=by
 intro pins s σ H x y v u Q I z G h;obtain⟨i,j,e1,J,q⟩:=h;subst e1;subst J;obtain⟨t,rfl⟩:=z;obtain⟨t',rfl⟩:=G;exact iadd_int ⟨.int _,H,I.tok _,⟨_,rfl⟩,q⟩
def x6:PIp X .Sub (ipI λi j=>i - j):=by
 intro pins s σ H x y v u Q I z G h;obtain⟨i,j,e1,J,q⟩:=h;subst e1;subst J;obtain⟨t,rfl⟩:=z;obtain⟨t',rfl⟩:=G;exact isub_int ⟨.int _,H,I.tok _,⟨_,rfl⟩,q⟩
def x8 (c:TT) (tb:TS):TS:=λD σ H=>∃ W:Nat->St->Hp->Prop,(∃ m,W m σ H)/\∀ m σ H,W m σ H ->
 c σ H λb H1=>if b=true then ∃ N:St->Hp->Prop,(∀ z H',N z H'->∃ G,G<m/\W G z H')/\tb { D with nx:=N,ct:=N,bk:=D.nx } σ H1 else D.nx σ H1
def fF {c:Expr} {body:List Stmt} {tc:TT} {tb:TS} (hp:PassesOwn (model X.prog X.w) X.A X.env X.xe) (hc:PT X c tc) (hb:PSs X body tb):PS X (.While c body [] pos) (x8 tc tb):=by
 intro pins s σ H D I h;obtain⟨W,⟨m0,w0⟩,turn⟩:=h;refine wpAny_While (codeAny_whileLoop (λn s'=>∃ J H',Inv X pins J H' s'/\W n J H') ?_ m0 ⟨σ,H,I,w0⟩);rintro n s1 ⟨G,H1,I1,w1⟩;refine og hp (thn (hc pins s1 G H1 _ I1 (turn n G H1 w1)) λb s2 ⟨H2,I2,M⟩=>?_);cases b with
 | true =>
  obtain⟨N,hN,M⟩:=M;rw[da rfl];refine og hp (thn (hb pins s2 G H2 _ I2 M) λf s3 U=>?_);cases f with
  | next =>
   obtain⟨z,L,Y,n3⟩:=U;obtain⟨m',hm,w3⟩:=hN z L n3;exact⟨m',hm,z,L,Y,w3⟩
  | cont =>
   obtain⟨z,L,Y,n3⟩:=U;obtain⟨m',hm,w3⟩:=hN z L n3;exact⟨m',hm,z,L,Y,w3⟩
  | brk=>exact U
  | ret v=>exact U
 | false =>
  rw[bB aFO];exact pc ⟨G,H2,I2,M⟩
end
structure It where
 go:Nat->Hp->Prop
 yld:Nat->Hp->V->Hp->Prop
 stop:Nat->Hp->Prop
def kG (X:Cx) (pins:List (Addr×Obj)) (H:Hp) (b:Addr):Prop :=
 H b=none/\b≠X.env.locals/\b∉X.fs/\(b∈X.ex\/X.s₀.heap.objs.size<=b)/\(∀ x c,X.env.cells.lookup x=some c->c≠b)/\∀ p∈X.pn++pins,p.1≠b
def Inv.fpOk {X:Cx} {pins:List (Addr×Obj)} {σ:St} {H H':Hp} {s:Shared} {b:Addr} (I:Inv X pins σ H s) (G:s.heap.objs.size<=b) (J:H' b=none):kG X pins H' b:=by
 refine⟨J,aF1 (aFS I.lt G),I.nofs G,.inr (jf I.sz G),λx c e z=>?_,λp L z=>?_⟩
 .obtain⟨v,q⟩:=I.cell x c e;exact absurd (aFS q.lt (by rw[z];exact G)) (ln _)
 .exact absurd (aFS (aFH (I.pin p L).1) (by rw[z];exact G)) (ln _)
structure sE (P:Program) (w:World) (K:PySem.W.Frag) (tg:Expr) (J:It) (fp:List Addr) (it:Addr) (tn:Nat->Heap->Prop):Prop where
 mem:it∈fp
 obj:∀ i h,tn i h->∀ b∈fp,∃ o,h.get? b=some o/\∀ v,o.data≠.cell v
 keep:∀ i h h',tn i h->(∀ b∈fp,∀ o,h.get? b=some o->h'.get? b=some o)->tn i h'
 item:∀ (X:Cx),X.prog=P->X.w=w->X.K=K->X.calm=true->∀ (i:Nat) (pins:List (Addr×Obj)) (s:Shared) (σ:St) (H:Hp) (E:Value->Shared->Prop),Inv X pins σ H s->(∀ b∈fp,kG X pins H b)->tn i s.heap->J.go i H ->
  wpAny (model P w) X.A (pyNext (.ref it)) (λr s1=>∃ u,r=some u /\
   wpAny (model P w) X.A (letOwnedTupleGo tg (.ref it) u) (λ_ s2=>∃ x H',Inv X pins σ H' s2/\RelV x u/\J.yld i H x H'/\tn (i+1) s2.heap/\∀ b∈fp,H' b=none) E s1) E s
 done:∀ (X:Cx),X.prog=P->X.w=w->X.K=K->X.calm=true->∀ (i:Nat) (pins:List (Addr×Obj)) (s:Shared) (σ:St) (H:Hp) (E:Value->Shared->Prop),Inv X pins σ H s->(∀ b∈fp,kG X pins H b)->tn i s.heap->J.stop i H ->
  wpAny (model P w) X.A (pyNext (.ref it)) (λr s1=>r=none/\Inv X pins σ H s1) E s
 self:∀ (A:Around) (i:Nat) (s:Shared) (Q:Value->Shared->Prop) (E:Value->Shared->Prop),tn i s.heap->Q (.ref it) s->wpAny (model P w) A (pyIter (.ref it)) Q E s
abbrev TI:=St->Hp->(It->Hp->Prop)->Prop
def PIE (X:Cx) (pins:List (Addr×Obj)) (σ:St) (tg:Expr) (R:It->Hp->Prop) (z:Value) (G:Shared):Prop :=
 ∃ (it:Addr) (fp:List Addr) (L:Nat->Heap->Prop) (J:It) (H':Hp),z=.ref it/\Inv X pins σ H' G/\sE X.prog X.w X.K tg J fp it L/\L 0 G.heap/\(∀ b∈fp,kG X pins H' b)/\R J H'
def PI (X:Cx) (tg iter:Expr) (wi:TI):Prop :=
 ∀ (pins:List (Addr×Obj)) (s:Shared) (σ:St) (H:Hp) (R:It->Hp->Prop),Inv X pins σ H s->wi σ H R ->
  wpAny (model X.prog X.w) X.A (eval iter X.env) (λv z=>wpAny (model X.prog X.w) X.A (pyIter v) (PIE X pins σ tg R) X.xe z) X.xe s
def S9 {M:Model} {A:Around} {E:Value->Shared->Prop} {s:Shared} {tg:Expr} {it:Addr} {u:Value} {o:Obj} {n:String} {vs:Array Value} {Q:Unit->Shared->Prop} (G:s.heap.get? it=some o) (J:o.cls=.type n) (hd:o.data=.fields vs)
 (L:["enumerate","zip","dict_itemiterator","dict_reverseitemiterator","odict_iterator","itertools.zip_longest","itertools.pairwise"].contains n=false) (z:Q () s):wpAny M A (letOwnedTupleGo tg (.ref it) u) Q E s:=by
 unfold letOwnedTupleGo;cases tg <;> first
  | exact aFA z
  | (cases u <;> first
   | exact aFA z
   | (refine aEz (wpAny_load G ?_)
      rw[J,hd];show wpAny M A (if (["enumerate","zip","dict_itemiterator","dict_reverseitemiterator","odict_iterator","itertools.zip_longest","itertools.pairwise"].contains n && vs[0]? == some (rawInt _))=true then _ else _) Q E s;rw[bB (by intro h;rw[L,Bool.false_and]at h;cases h)];exact aFA z))
def Itl (K:PySem.W.Frag) (a:Addr):It :=
 ⟨λi H=>∃ xs x,SqL K H a xs/\xs[i]?=some x,λi H x H'=>H'=H/\∀ xs,SqL K H a xs->xs[i]?=some x,λi H=>∃ xs,SqL K H a xs/\xs.length<=i⟩
def Itr (lo:Int) (n:Nat):It:=⟨λi _=>i<n,λi H x H'=>H'=H/\x=.int (lo+i),λi _=>n<=i⟩
def Z4 {P:Program} {w:World} {K:PySem.W.Frag} {tg:Expr} (a it:Addr):sE P w K tg (Itl K a) [it] it (λi h=>h.IsListIter it a i) where
 mem:=by simp
 obj:=λi h st b hb=>by
  have e:b=it:=by simpa using hb
  subst e;obtain⟨o,e,c,d⟩:=st;exact⟨o,e,λv z=>by rw[d]at z;cases z⟩
 keep:=λi h h' st k=>st.at λo e=>k it (by simp) o e
 item:=by
  intro X hP hw hK hc i pins s σ H E I hf st hg;subst hP hw hK;obtain⟨xs,x,hq,hx⟩:=hg;obtain⟨its,rv,p,hz⟩:=I.list hq;obtain⟨u,hu,ru⟩:=rv.get hx;obtain⟨f0,f1,f2,f3,f4,f5⟩:=hf it (by simp);refine mq st p.isList (x:=u) (by simpa using hu) λh' st' sb=>?_;have I1:Inv X pins σ H { s with heap:=h' }:=I.turned (t':=s.toks) (λb o hb e=>(sb.2 b hb).trans e) f0 f1 f3 f4 f5;obtain⟨o,e,c,d⟩:=id st';exact⟨u,rfl,S9 (s:={ s with heap:=h' }) e c d (by decide) ⟨x,H,I1,ru,⟨rfl,λys hy=>by rw[I.list_inj hy hq];exact hx⟩,st',λb hb=>(hf b hb).1⟩⟩
 done:=by
  intro X hP hw hK hc i pins s σ H E I hf st hg;subst hP hw hK;obtain⟨xs,hq,hx⟩:=hg;obtain⟨its,rv,p,hz⟩:=I.list hq;obtain⟨f0,f1,f2,f3,f4,f5⟩:=hf it (by simp);have hl:=rv.length;exact ni (I.ok.hd hc) st p.isList (by simp;omega) λh' eb=>⟨rfl,I.turned (t':=s.toks) (λb o hb e=>eb b o hb e) f0 f1 f3 f4 f5⟩
 self:=λ_ _ _ _ _ st h=>wpAny_pyIter_listiter st h
def M4 {P:Program} {w:World} {K:PySem.W.Frag} {tg:Expr} (it:Addr) (lo:Int) (n:Nat):sE P w K tg (Itr lo n) [it] it (λi h=>IsRangeIter h it (lo+(i:Nat) * 1) ((n:Int) - (i:Nat)) 1) where
 mem:=by simp
 obj:=λi h st b hb=>by
  have e:b=it:=by simpa using hb
  subst e;exact⟨_,st,λv z=>by
   have z':Data.fields _=Data.cell v:=z;cases z'⟩
 keep:=λi h h' st k=>k it (by simp) _ st
 item:=by
  intro X hP hw hK hc i pins s σ H E I hf st hg;subst hP hw hK;obtain⟨f0,f1,f2,f3,f4,f5⟩:=hf it (by simp);have W:=Walks.range (prog:=X.prog) (w:=X.w) (I.ok.hd hc) it lo 1 n;refine W.item i s _ _ hg st λv h' tk hv st' kk=>?_;obtain⟨t,rfl⟩:=hv;have I1:Inv X pins σ H { s with heap:=h',toks:=tk }:=I.turned (λb o hb e=>kk b o (by simpa using hb) e) f0 f1 f3 f4 f5;refine⟨_,rfl,S9 (s:={ s with heap:=h',toks:=tk }) (n:="range_iterator") st' rfl rfl (by decide) ⟨.int (lo+i),H,I1,⟨t,?_⟩,⟨rfl,rfl⟩,st',λb hb=>(hf b hb).1⟩⟩;rw[xi]
 done:=by
  intro X hP hw hK hc i pins s σ H E I hf st hg;subst hP hw hK;obtain⟨f0,f1,f2,f3,f4,f5⟩:=hf it (by simp);exact wpAny_pyNext_range_end (I.ok.hd hc) st (by have:n<=i:=hg;omega) λh' eb=>⟨rfl,I.turned (t':=s.toks) (λb o hb e=>eb b o hb e) f0 f1 f3 f4 f5⟩
 self:=λ_ _ _ _ _ st h=>wpAny_pyIter_rangeiter st h
section
variable {X:Cx} {tg:Expr}
def aC2 (K:PySem.W.Frag) (tl:TE):TI:=fun σ H R=>tl σ H λx H1=>∃ a,x=.ref a/\(∃ xs,SqL K H1 a xs)/\R (Itl K a) H1
def bX {l:Expr} {tl:TE} (J:PE X l tl):PI X tg l (aC2 X.K tl):=by
 intro pins s σ H R I h;refine thn (J pins s σ H _ I h) λv z ⟨x,H1,G,L,M⟩=>?_;obtain⟨a,e,⟨xs,U⟩,q⟩:=M;subst e;cases L;obtain⟨its,rv,p,hz⟩:=G.list U;refine oh p.isList ?_;refine⟨z.heap.objs.size,[z.heap.objs.size],_,_,H1,rfl,G.kept (t':=z.toks) λb o e=>aFC _ e,Z4 a _,⟨_,aFI _ rfl,rfl,rfl⟩,λb Y=>?_,q⟩;have e:b=z.heap.objs.size:=by simpa using Y
 subst e;exact G.fpOk (ah _) (G.hok.fresh (ah _))
def zJ {pins:List (Addr×Obj)} {σ:St} {H:Hp} {s:Shared} {R:It->Hp->Prop} {E:Value->Shared->Prop} {lo hi:Int} {t u v:Tok} {tk:Nat} (I:Inv X pins σ H s) (h1:-(2 ^ 62)<=lo) (h2:lo<2 ^ 62) (h3:-(2 ^ 62)<=hi) (h4:hi<2 ^ 62)
 (q:R (Itr lo (hi - lo).toNat) H):wpAny (model X.prog X.w) X.A (pyIter (.ref s.heap.objs.size)) (PIE X pins σ tg R) E { s with heap:=s.heap.push { cls:=.type "range",data:=.fields #[.int lo t,.int hi u,.int 1 v] },toks:=tk }:=by
 refine wpAny_pyIter_range (IsRange.new ..) (small_one h1 h2 h3 h4) ?_;have z:Inv X pins σ H { s with heap:=s.heap.push { cls:=.type "range",data:=.fields #[.int lo t,.int hi u,.int 1 v] },toks:=tk }:=I.kept λb o e=>aFC _ e;refine⟨(s.heap.push { cls:=.type "range",data:=.fields #[.int lo t,.int hi u,.int 1 v] }).objs.size,[(s.heap.push { cls:=.type "range",data:=.fields #[.int lo t,.int hi u,.int 1 v] }).objs.size],_,_,H,rfl,
  z.kept (t':=tk) λb o e=>aFC _ e,M4 _ lo (hi - lo).toNat,?_,λb G=>?_,q⟩
 .have e1:lo+((0:Nat):Int) * 1=lo:=by simp
  have J:(((hi - lo).toNat:Nat):Int) - ((0:Nat):Int)=Builtin.Range.rangeSize lo hi 1:=by rw[rangeSize_one];split <;> omega
  show IsRangeIter _ _ (lo+((0:Nat):Int) * 1) ((((hi - lo).toNat:Nat):Int) - ((0:Nat):Int)) 1;rw[e1,J];exact aFI _ rfl
 .have e:b=(s.heap.push { cls:=.type "range",data:=.fields #[.int lo t,.int hi u,.int 1 v] }).objs.size:=by simpa using G
  subst e;exact z.fpOk (ah _) (z.hok.fresh (ah _))
def aDk (ta:TA):TI:=fun σ H R=>ta σ H λvs H1=>∃ j:Int,vs=[.int j]/\-(2 ^ 62)<=j/\j<2 ^ 62/\R (Itr 0 j.toNat) H1
def aDl (ta:TA):TI:=fun σ H R=>ta σ H λvs H1=>∃ i j:Int,vs=[.int i,.int j]/\(-(2 ^ 62)<=i/\i<2 ^ 62/\-(2 ^ 62)<=j/\j<2 ^ 62)/\R (Itr i (j - i).toNat) H1
def gT {a:Expr} {ta:TA} {p pos:Pos} (G:Gl X "range") (J:X.mg "range"=none) (L:PA X [a] ta) (M:starEach [a] X.env=[(false,eval a X.env)]:=by rfl):PI X tg (.Call (.Name "range" p) [a] [] pos) (aDk ta):=by
 intro pins s σ H R I h;refine Call_ (fA I G J boot_range (kn (thn (L pos pins s σ H _ I h) λus s1 ⟨vs,H1,U,Y,z⟩=>?_) M rfl));obtain⟨j,e,z,q2,q⟩:=z;subst e;cases Y with
 | cons r rr =>
  cases rr;obtain⟨t,rfl⟩:=r;exact call_range_1 (zJ U (by omega) (by omega) z q2 (by simpa using q))
def jC {a b:Expr} {ta:TA} {p pos:Pos} (L:Gl X "range") (M:X.mg "range"=none) (U:PA X [a,b] ta) (Y:starEach [a,b] X.env=[(false,eval a X.env),(false,eval b X.env)]:=by rfl) (z:starEach [b] X.env=[(false,eval b X.env)]:=by rfl) :
 PI X tg (.Call (.Name "range" p) [a,b] [] pos) (aDl ta):=by
 intro pins s σ H R I h;refine Call_ (fA I L M boot_range (kn (thn (U pos pins s σ H _ I h) λus s1 ⟨vs,H1,I1,r1,G⟩=>?_) (by rw[Y,z]) (by rw[z];rfl)));obtain⟨i,j,e,⟨G,q2,q3,q4⟩,q⟩:=G;subst e;cases r1 with
 | cons r J =>
  cases J with
  | cons r' J =>
   cases J;obtain⟨t,rfl⟩:=r;obtain⟨t',rfl⟩:=r';exact call_range_2 (zJ I1 G q2 q3 q4 q)
def aE7 (wi:TI) (g:TG) (tb:TS):TS:=λD σ H=>wi σ H λJ H1=>∃ W:Nat->Nat->St->Hp->Prop,(∃ m,W 0 m σ H1)/\∀ i m σ H,W i m σ H ->
 (J.stop i H/\D.nx σ H)\/(J.go i H/\∃ N:St->Hp->Prop,(∀ z H',N z H'->∃ L,L<m/\W (i+1) L z H')/\∀ x H',J.yld i H x H'->g x σ H' λG H2=>tb { D with nx:=N,ct:=N,bk:=D.nx } G H2)
def cW (fp:List Addr) (h:Heap):List (Addr×Obj):=fp.filterMap λb=>(h.get? b).map λo=>(b,o)
def cK {fp:List Addr} {h:Heap} {b:Addr} {o:Obj} (z:b∈fp) (e:h.get? b=some o):(b,o)∈cW fp h:=List.mem_filterMap.mpr ⟨b,z,by rw[e];rfl⟩
def jD {fp:List Addr} {h:Heap} {p:Addr×Obj} (z:p∈cW fp h):p.1∈fp/\h.get? p.1=some p.2:=by
 obtain⟨b,G,e⟩:=List.mem_filterMap.mp z;cases q:h.get? b with
 | none=>rw[q]at e;cases e
 | some o =>
  rw[q]at e;have J:(b,o)=p:=jk e;subst J;exact⟨G,q⟩
def Inv.pinned {pins:List (Addr×Obj)} {σ:St} {H:Hp} {s:Shared} {fp:List Addr} (I:Inv X pins σ H s) (L:∀ b∈fp,kG X pins H b) (M:∀ b∈fp,∃ o,s.heap.get? b=some o/\∀ v,o.data≠.cell v):Inv X (pins++cW fp s.heap) σ H s :=
 I.pins_of λp U=>(aFf.mp U).elim (λz=>I.pin p (aFF _ z)) λz=>by
  obtain⟨G,e⟩:=jD z;obtain⟨Y,f1,f2,_⟩:=L p.1 G;obtain⟨o,J,d⟩:=M p.1 G;rw[e]at J;cases J;exact⟨e,Y,f1,f2,d⟩
def Inv.unpinned {pins pl:List (Addr×Obj)} {σ:St} {H:Hp} {s:Shared} (I:Inv X (pins++pl) σ H s):Inv X pins σ H s:=I.pins_of λp z=>I.pin p (aFF _ (aFU _ z))
def cS {iter:Expr} {body:List Stmt} {wi:TI} {g:TG} {tb:TS} {pos:Pos} (hp:PassesOwn (model X.prog X.w) X.A X.env X.xe) (hc:X.calm=true) (hi:PI X tg iter wi) (hg:PG X tg g) (G:PSs X body tb)
 (hs:∀ x,foldedSetIterable iter X.env x=pure x:=by intro _;rfl):PS X (.For tg iter body [] pos) (aE7 wi g tb):=by
 intro pins s σ H D I h;refine wpAny_For (thn (hi pins s σ H _ I h) λv s1 h1=>thn h1 λbg s2 h2=>?_) hs;obtain⟨it,fp,tn,J,H2,e,I2,T,ba,f2,W,⟨m0,w0⟩,turn⟩:=h2;subst e;have L:∀ {H':Hp},(∀ b∈fp,H' b=none)->∀ b∈fp,kG X pins H' b:=λhn b G=>⟨hn b G,(f2 b G).2⟩;refine codeAny_forLoop_any (λn s'=>∃ i M H',Inv X pins M H' s'/\tn i s'.heap/\(∀ b∈fp,H' b=none)/\W i n M H') ?_ m0 ⟨0,σ,H2,I2,ba,λb G=>(f2 b G).1,w0⟩;rintro n s3 ⟨i,U,H3,I3,aw,a_,w3⟩;rcases turn i n U H3 w3 with ⟨stop,qn⟩ | ⟨go,N,hN,step⟩
 .refine og hp (thn (T.done X rfl rfl rfl hc i pins s3 U H3 X.xe I3 (L a_) aw stop) λr s4 ⟨hr,I4⟩=>?_);subst hr;exact pc ⟨U,H3,I4,qn⟩
 .refine og hp (thn (T.item X rfl rfl rfl hc i pins s3 U H3 X.xe I3 (L a_) aw go) λr s4 ⟨u,hr,h4⟩=>?_);subst hr;refine og hp (thn h4 λ_ s5 ⟨x,H5,I5,r5,y5,av,bb⟩=>?_);have bc:=I5.pinned (L bb) (T.obj _ _ av);refine og hp (thn (hg _ s5 U H5 x u _ bc r5 (step x H5 y5)) λ_ s6 ⟨bf,H6,I6,q6⟩=>?_);refine og hp (thn (G _ s6 bf H6 _ I6 q6) λf s7 q7=>?_);have again:∀ {z:St} {Y:Hp},Inv X (pins++cW fp s5.heap) z Y s7->N z Y->∃ m,m<n/\∃ i M H',Inv X pins M H' s7/\tn i s7.heap/\(∀ b∈fp,H' b=none)/\W i m M H':=λ{z Y} I7 n7=>by
   obtain⟨m',hm,w7⟩:=hN z Y n7;refine⟨m',hm,i+1,z,Y,I7.unpinned,T.keep _ _ _ av λb G o e=>(I7.pin (b,o) (aFF _ (aFF _ (cK G e)))).1,λb G=>?_,w7⟩;obtain⟨o,e,d⟩:=T.obj _ _ av b G;exact(I7.pin (b,o) (aFF _ (aFF _ (cK G e)))).2.1
  cases f with
  | next=>obtain⟨z,Y,I7,n7⟩:=q7;exact again I7 n7
  | cont=>obtain⟨z,Y,I7,n7⟩:=q7;exact again I7 n7
  | brk=>obtain⟨z,Y,I7,q7⟩:=q7;exact⟨z,Y,I7.unpinned,q7⟩
  | ret v=>obtain⟨x7,z,Y,I7,r7,q7⟩:=q7;exact⟨x7,z,Y,I7.unpinned,r7,q7⟩
end
def dP {K:PySem.W.Frag} {a:Addr} {xs:List V} {g:TG} {tb:TS} {D:nJ} {σ:St} {H:Hp} (Pv:Nat->St->Hp->Prop) (h0:Pv 0 σ H) (M:∀ i σ H,i<=xs.length->Pv i σ H->SqL K H a xs)
 (U:∀ i x σ H,xs[i]?=some x->Pv i σ H->g x σ H λz H2=>tb { D with nx:=Pv (i+1),ct:=Pv (i+1),bk:=D.nx } z H2) (hd:∀ σ H,Pv xs.length σ H->D.nx σ H) :
 ∃ W:Nat->Nat->St->Hp->Prop,(∃ m,W 0 m σ H)/\∀ i m σ H,W i m σ H ->
  ((Itl K a).stop i H/\D.nx σ H)\/((Itl K a).go i H/\∃ N:St->Hp->Prop,(∀ G H',N G H'->∃ L,L<m/\W (i+1) L G H')/\∀ x H',(Itl K a).yld i H x H'->g x σ H' λz H2=>tb { D with nx:=N,ct:=N,bk:=D.nx } z H2):=by
 refine⟨λi m σ H=>m=xs.length - i/\i<=xs.length/\Pv i σ H,⟨xs.length,by simp,jr _,h0⟩,?_⟩;rintro i m σ H ⟨rfl,hi,p⟩;have q:=M i σ H hi p
 by_cases J:i<xs.length
 .refine .inr ⟨⟨xs,xs[i],q,by simp[J]⟩,Pv (i+1),λG H' Y=>⟨xs.length - (i+1),by omega,rfl,J,Y⟩,λx H' y=>?_⟩;obtain⟨e,y⟩:=y;subst e;exact U i x σ _ (y xs q) p
 .have e:i=xs.length:=by omega
  subst e;exact .inl ⟨⟨xs,q,ah _⟩,hd σ H p⟩
def fO {lo:Int} {n:Nat} {g:TG} {tb:TS} {D:nJ} {σ:St} {H:Hp} (Pv:Nat->St->Hp->Prop) (h0:Pv 0 σ H)
 (M:∀ i σ H,i<n->Pv i σ H->g (.int (lo+i)) σ H λz H2=>tb { D with nx:=Pv (i+1),ct:=Pv (i+1),bk:=D.nx } z H2) (hd:∀ σ H,Pv n σ H->D.nx σ H) :
 ∃ W:Nat->Nat->St->Hp->Prop,(∃ m,W 0 m σ H)/\∀ i m σ H,W i m σ H ->
  ((Itr lo n).stop i H/\D.nx σ H)\/((Itr lo n).go i H/\∃ N:St->Hp->Prop,(∀ G H',N G H'->∃ L,L<m/\W (i+1) L G H')/\∀ x H',(Itr lo n).yld i H x H'->g x σ H' λz H2=>tb { D with nx:=N,ct:=N,bk:=D.nx } z H2):=by
 refine⟨λi m σ H=>m=n - i/\i<=n/\Pv i σ H,⟨n,by simp,jr _,h0⟩,?_⟩;rintro i m σ H ⟨rfl,hi,p⟩
 by_cases J:i<n
 .refine .inr ⟨J,Pv (i+1),λG H' U=>⟨n - (i+1),by omega,rfl,J,U⟩,λx H' y=>?_⟩;obtain⟨e,y⟩:=y;subst e y;exact M i σ _ J p
 .have e:i=n:=by omega
  subst e;exact .inl ⟨ah _,hd σ H p⟩
def nL {c:TT} {tb:TS} {D:nJ} {σ:St} {H:Hp} (Pv:St->Hp->Prop) (G:St->Hp->Nat) (h0:Pv σ H)
 (L:∀ σ H,Pv σ H->c σ H λb H1=>if b=true then tb { D with nx:=λz H'=>Pv z H'/\G z H'<G σ H,ct:=λz H'=>Pv z H'/\G z H'<G σ H,bk:=D.nx } σ H1 else D.nx σ H1)
 (mono:∀ σ H Q J,(∀ b H1,Q b H1->J b H1)->c σ H Q->c σ H J):x8 c tb D σ H:=by
 refine⟨λm σ H=>m=G σ H/\Pv σ H,⟨_,rfl,h0⟩,?_⟩;rintro m σ H ⟨rfl,p⟩;refine mono σ H _ _ (λb H1 q=>?_) (L σ H p);cases b with
 | true=>exact⟨_,λz H' ⟨M,l⟩=>⟨_,l,rfl,M⟩,q⟩
 | false=>exact q
abbrev R2:=V->V->Hp->VK->Prop
def OpR (X:Cx) (f:Value->Value->Sem Value) (r:R2):Prop :=
 ∀ (pins:List (Addr×Obj)) (s:Shared) (σ:St) (H:Hp) (x y:V) (v u:Value) (Q:VK),Inv X pins σ H s->RelV x v->RelV y u->r x y H Q ->
  wpAny (model X.prog X.w) X.A (f v u) (EP X pins σ Q) X.xe s
def UnR (X:Cx) (f:Value->Sem Value) (r:V->Hp->VK->Prop):Prop :=
 ∀ (pins:List (Addr×Obj)) (s:Shared) (σ:St) (H:Hp) (x:V) (v:Value) (Q:VK),Inv X pins σ H s->RelV x v->r x H Q ->
  wpAny (model X.prog X.w) X.A (f v) (EP X pins σ Q) X.xe s
def gY (X:Cx) (f:Value) (r:List V->Hp->VK->Prop):Prop :=
 ∀ (pins:List (Addr×Obj)) (s:Shared) (σ:St) (H:Hp) (xs:List V) (us:List Value) (Q:VK),Inv X pins σ H s->Vals xs us->r xs H Q ->
  wpAny (model X.prog X.w) X.A (call f us) (EP X pins σ Q) X.xe s
def aE8 (X:Cx) (r:V->Hp->(Bool->Hp->Prop)->Prop):Prop :=
 ∀ (pins:List (Addr×Obj)) (s:Shared) (σ:St) (H:Hp) (x:V) (v:Value) (Q:Bool->Hp->Prop),Inv X pins σ H s->RelV x v->r x H Q ->
  wpAny (model X.prog X.w) X.A (truthy v) (TP X pins σ Q) X.xe s
def tOp (r:R2) (ta tb:TE):TE:=fun σ H Q=>ta σ H λx H1=>tb σ H1 λy H2=>r x y H2 Q
def tUn (r:V->Hp->VK->Prop) (ta:TE):TE:=fun σ H Q=>ta σ H λx H1=>r x H1 Q
def rI (C:Int->Int->Prop) (g:Int->Int->V):R2:=λx y H Q=>∃ i j,x=.int i/\y=.int j/\C i j/\Q (g i j) H
def rI0 (g:Int->Int->V):R2:=λx y H Q=>∃ i j,x=.int i/\y=.int j/\Q (g i j) H
def rU (g:Int->V):V->Hp->VK->Prop:=λx H Q=>∃ i,x=.int i/\Q (g i) H
section
variable {X:Cx} {a b c:Expr} {ta tb tc:TE} {pos:Pos}
def aCs (L:PE X a ta) (M:PE X b tb) {pins:List (Addr×Obj)} {s:Shared} {σ:St} {H:Hp} {R:V->V->Hp->Prop} (I:Inv X pins σ H s)
 (h:ta σ H λx H1=>tb σ H1 λy H2=>R x y H2) {Q:Value->Shared->Prop} {f:Value->Value->Sem Value}
 (U:∀ v u J x y H2,Inv X pins σ H2 J->RelV x v->RelV y u->R x y H2->wpAny (model X.prog X.w) X.A (f v u) Q X.xe J) :
 wpAny (model X.prog X.w) X.A (eval a X.env) (λv z=>wpAny (model X.prog X.w) X.A (eval b X.env) (λu G=>wpAny (model X.prog X.w) X.A (f v u) Q X.xe G) X.xe z) X.xe s:=by
 refine thn (L pins s σ H _ I h) λv Y ⟨x,H1,I1,r1,q1⟩=>?_;refine thn (M pins Y σ H1 _ I1 q1) λu J ⟨y,H2,I2,r2,q2⟩=>?_;exact U v u J x y H2 I2 r1 r2 q2
def aI {op:Operator} {r:R2} (z:OpR X (binaryOp op) r) (G:PE X a ta) (J:PE X b tb):PE X (.BinOp a op b pos) (tOp r ta tb):=by
 intro pins s σ H Q I h;exact wpAny_BinOp (aCs G J I h λv u L x y H2 M U Y q=>z pins L σ H2 x y v u Q M U Y q)
def mO {op:UnaryOp} {r:V->Hp->VK->Prop} (z:UnR X (unaryOp op) r) (G:PE X a ta):PE X (.UnaryOp op a pos) (tUn r ta):=by
 intro pins s σ H Q I h;exact UnaryOp_ (thn (G pins s σ H _ I h) λv J ⟨x,H1,L,M,U⟩=>z pins J σ H1 x v Q L M U)
def opI {f:Value->Value->Sem Value} {C:Int->Int->Prop} {g:Int->Int->Int}
 (rule:∀ (i j:Int) (t u:Tok) (s:Shared) (Q:Value->Shared->Prop) (E:Value->Shared->Prop),C i j->Q (.int (g i j) s.toks) { s with toks:=s.toks+1 }->wpAny (model X.prog X.w) X.A (f (.int i t) (.int j u)) Q E s) :
 OpR X f (rI C λi j=>.int (g i j)):=by
 intro pins s σ H x y v u Q I z G h;obtain⟨i,j,rfl,rfl,J,q⟩:=h;obtain⟨t,rfl⟩:=z;obtain⟨t',rfl⟩:=G;exact rule i j t t' s _ _ J ⟨.int (g i j),H,I.tok _,⟨_,rfl⟩,q⟩
def aDm {f:Value->Value->Sem Value} {g:Int->Int->Int}
 (rule:∀ (i j:Int) (t u:Tok) (s:Shared) (Q:Value->Shared->Prop) (E:Value->Shared->Prop),Q (.int (g i j) s.toks) { s with toks:=s.toks+1 }->wpAny (model X.prog X.w) X.A (f (.int i t) (.int j u)) Q E s) :
 OpR X f (rI0 λi j=>.int (g i j)):=by
 intro pins s σ H x y v u Q I z G h;obtain⟨i,j,rfl,rfl,q⟩:=h;obtain⟨t,rfl⟩:=z;obtain⟨t',rfl⟩:=G;exact rule i j t t' s _ _ ⟨.int (g i j),H,I.tok _,⟨_,rfl⟩,q⟩
def x9 {f:Value->Value->Sem Value} {g:Int->Int->Bool}
 (rule:∀ (i j:Int) (t u:Tok) (s:Shared) (Q:Value->Shared->Prop) (E:Value->Shared->Prop),Q (.bool (g i j)) s->wpAny (model X.prog X.w) X.A (f (.int i t) (.int j u)) Q E s) :
 OpR X f (rI0 λi j=>.bl (g i j)):=by
 intro pins s σ H x y v u Q I z G h;obtain⟨i,j,rfl,rfl,q⟩:=h;obtain⟨t,rfl⟩:=z;obtain⟨t',rfl⟩:=G;exact rule i j t t' s _ _ ⟨.bl (g i j),H,I,rfl,q⟩
def aE9 (i j:Int):Prop:=0<j/\j<1073741824
def aEa (i j:Int):Prop:=0<=j/\j<=1000000/\i.natAbs<2 ^ 64
def CMul (i j:Int):Prop:=(-(2 ^ 64)<i/\i<2 ^ 64)\/(-(2 ^ 64)<j/\j<2 ^ 64)
def CMul.ok {i j:Int} (h:CMul i j):IntMulOk i j:=by
 rcases h with ⟨h1,h2⟩ | ⟨h1,h2⟩
 .exact .of_left (intBits_le_64 h1 h2)
 .exact .of_right (intBits_le_64 h1 h2)
def bK:OpR X (binaryOp .Add) (rI0 λi j=>.int (i+j)):=aDm λ_ _ _ _ _ _ _ q=>add_int q
def bC:OpR X (binaryOp .Sub) (rI0 λi j=>.int (i - j)):=aDm λ_ _ _ _ _ _ _ q=>sub_int q
def fP:OpR X (binaryOp .Mult) (rI CMul λi j=>.int (i * j)):=opI λ_ _ _ _ _ _ _ z q=>mul_int q z.ok
def nM:OpR X (binaryOp .FloorDiv) (rI aE9 λi j=>.int (i / j)):=opI λi j _ _ _ _ _ z q=>by
 have h1:(0:Int)<j:=z.1;have h2:j<1073741824:=z.2;exact floordiv_int (by omega) (by rw[Int.fdiv_eq_ediv_of_nonneg i (by omega)];exact q) (.inl (PyProof.noPylong_small (by omega)))
def dL:OpR X (binaryOp .Mod) (rI (λ_ j=>0<j) λi j=>.int (i % j)):=opI λi j _ _ _ _ _ z q=>by
 have h1:(0:Int)<j:=z;exact mod_int' (by omega) (by rw[Int.fmod_eq_emod_of_nonneg i (by omega)];exact q)
def y3:OpR X (binaryOp .Pow) (rI aEa λi j=>.int (i ^ j.toNat)):=opI λ_ _ _ _ _ _ _ z q=>pow_int_small z.1 z.2.1 z.2.2 q
def unI {f:Value->Sem Value} {g:Int->Int}
 (rule:∀ (i:Int) (t:Tok) (s:Shared) (Q:Value->Shared->Prop) (E:Value->Shared->Prop),Q (.int (g i) s.toks) { s with toks:=s.toks+1 }->wpAny (model X.prog X.w) X.A (f (.int i t)) Q E s) :
 UnR X f (rU λi=>.int (g i)):=by
 intro pins s σ H x v Q I z h;obtain⟨i,rfl,q⟩:=h;obtain⟨t,rfl⟩:=z;exact rule i t s _ _ ⟨.int (g i),H,I.tok _,⟨_,rfl⟩,q⟩
def iU:UnR X (unaryOp .USub) (rU λi=>.int (-i)):=unI λ_ _ _ _ _ q=>neg_int q
end
def aDn:V->V->Bool
 | .non,.non=>true | .non,.int _=>true | .int _,.non=>true | .non,.bl _=>true | .bl _,.non=>true | .non,.str _=>true | .str _,.non=>true
 | .int _,.int _=>true | .bl _,.bl _=>true | .str _,.str _=>true | .byt _,.byt _=>true
 | .int _,.str _=>true | .str _,.int _=>true | .bl _,.str _=>true | .str _,.bl _=>true
 | _,_=>false
def rEq:R2:=λx y H Q=>aDn x y=true/\Q (.bl (decide (x=y))) H
def rNe:R2:=λx y H Q=>aDn x y=true/\Q (.bl (!decide (x=y))) H
def T0 {i j:Int}:decide (V.int i=V.int j)=(i == j):=by
 rw[ko];simp
def y4 {i j:Bool}:decide (V.bl i=V.bl j)=(i == j):=by
 rw[ko];simp
def T1 {i j:Str}:decide (V.str i=V.str j)=(i == j):=by
 rw[ko];simp
def T3 {i j:Array UInt8}:decide (V.byt i=V.byt j)=(i.toList == j.toList):=by
 rw[ko];cases i;cases j;simp
section
variable {X:Cx} {a b c:Expr} {ta tb tc:TE} {pos:Pos}
def bV {pins:List (Addr×Obj)} {σ:St} {H:Hp} {s:Shared} {Q:VK} {k z:Bool} (I:Inv X pins σ H s) (q:Q (.bl k) H) (e:k=z):EP X pins σ Q (.bool z) s:=by
 subst e;exact⟨.bl k,H,I,rfl,q⟩
def aDo:OpR X (compareOp .Eq) rEq:=by
 intro pins s σ H x y v u Q I J z h;obtain⟨G,q⟩:=h;cases x with
 | non =>
  cases J;cases y with
  | non=>cases z;exact PySem.EqNone.eq_none_none (bV I q (by simp))
  | bl j=>cases z;exact PySem.EqNone.eq_none_bool (bV I q (by simp))
  | int j=>obtain⟨t',rfl⟩:=z;exact PySem.EqNone.eq_none_int (bV I q (by simp))
  | str j=>obtain⟨t',rfl⟩:=z;exact PySem.EqNone.eq_none_str (bV I q (by simp))
  | _=>exact absurd (show false=true from G) aFO
 | bl i =>
  cases J;cases y with
  | non=>cases z;exact PySem.EqNone.eq_bool_none (bV I q (by simp))
  | bl j=>cases z;exact eq_bool (bV I q y4)
  | str j=>obtain⟨t',rfl⟩:=z;exact PySem.EqMixed.eq_bool_str (bV I q (by simp))
  | _=>exact absurd (show false=true from G) aFO
 | int i =>
  obtain⟨t,rfl⟩:=J;cases y with
  | non=>cases z;exact PySem.EqNone.eq_int_none (bV I q (by simp))
  | int j=>obtain⟨t',rfl⟩:=z;exact eq_int (bV I q T0)
  | str j=>obtain⟨t',rfl⟩:=z;exact PySem.EqMixed.eq_int_str (bV I q (by simp))
  | _=>exact absurd (show false=true from G) aFO
 | str i =>
  obtain⟨t,rfl⟩:=J;cases y with
  | non=>cases z;exact PySem.EqNone.eq_str_none (bV I q (by simp))
  | bl j=>cases z;exact PySem.EqMixed.eq_str_bool (bV I q (by simp))
  | int j=>obtain⟨t',rfl⟩:=z;exact PySem.EqMixed.eq_str_int (bV I q (by simp))
  | str j=>obtain⟨t',rfl⟩:=z;exact eq_str (bV I q T1)
  | _=>exact absurd (show false=true from G) aFO
 | byt i =>
  obtain⟨t,rfl⟩:=J;cases y with
  | byt j=>obtain⟨t',rfl⟩:=z;exact PySem.W.eq_bytes (bV I q T3)
  | _=>exact absurd (show false=true from G) aFO
 | _=>cases y <;> exact absurd (show false=true from G) aFO
def T4:OpR X (compareOp .NotEq) rNe:=by
 intro pins s σ H x y v u Q I J z h;obtain⟨G,q⟩:=h;cases x with
 | non =>
  cases J;cases y with
  | non=>cases z;exact PySem.EqNone.ne_none_none (bV I q (by simp))
  | bl j=>cases z;exact PySem.EqNone.ne_none_bool (bV I q (by simp))
  | int j=>obtain⟨t',rfl⟩:=z;exact PySem.EqNone.ne_none_int (bV I q (by simp))
  | str j=>obtain⟨t',rfl⟩:=z;exact PySem.EqNone.ne_none_str (bV I q (by simp))
  | _=>exact absurd (show false=true from G) aFO
 | bl i =>
  cases J;cases y with
  | non=>cases z;exact PySem.EqNone.ne_bool_none (bV I q (by simp))
  | bl j=>cases z;exact ne_bool (bV I q (congrArg not y4))
  | str j=>obtain⟨t',rfl⟩:=z;exact PySem.EqMixed.ne_bool_str (bV I q (by simp))
  | _=>exact absurd (show false=true from G) aFO
 | int i =>
  obtain⟨t,rfl⟩:=J;cases y with
  | non=>cases z;exact PySem.EqNone.ne_int_none (bV I q (by simp))
  | int j=>obtain⟨t',rfl⟩:=z;exact ne_int (bV I q (congrArg not T0))
  | str j=>obtain⟨t',rfl⟩:=z;exact PySem.EqMixed.ne_int_str (bV I q (by simp))
  | _=>exact absurd (show false=true from G) aFO
 | str i =>
  obtain⟨t,rfl⟩:=J;cases y with
  | non=>cases z;exact PySem.EqNone.ne_str_none (bV I q (by simp))
  | bl j=>cases z;exact PySem.EqMixed.ne_str_bool (bV I q (by simp))
  | int j=>obtain⟨t',rfl⟩:=z;exact PySem.EqMixed.ne_str_int (bV I q (by simp))
  | str j=>obtain⟨t',rfl⟩:=z;exact ne_str (bV I q (congrArg not T1))
  | _=>exact absurd (show false=true from G) aFO
 | byt i =>
  obtain⟨t,rfl⟩:=J;cases y with
  | byt j=>obtain⟨t',rfl⟩:=z;exact PySem.W.ne_bytes (bV I q (congrArg not T3))
  | _=>exact absurd (show false=true from G) aFO
 | _=>cases y <;> exact absurd (show false=true from G) aFO
def kD:OpR X (compareOp .Lt) (rI0 λi j=>.bl (decide (i<j))):=x9 λ_ _ _ _ _ _ _ q=>lt_int q
def T5:OpR X (compareOp .LtE) (rI0 λi j=>.bl (decide (i<=j))):=x9 λ_ _ _ _ _ _ _ q=>le_int q
def nN:OpR X (compareOp .Gt) (rI0 λi j=>.bl (decide (j<i))):=x9 λ_ _ _ _ _ _ _ q=>gt_int q
def y6:OpR X (compareOp .Is) (λx y H Q=>y=.non/\Q (.bl (decide (x=.non))) H):=by
 intro pins s σ H x y v u Q I z G h;obtain⟨rfl,q⟩:=h;cases G;refine is_none_gen (bV I q ?_);cases x <;> first
  | (cases z;rfl)
  | (obtain⟨t,rfl⟩:=z;rfl)
def aZ (b:Expr) {op:CmpOp} (h:op≠.In:=by decide) (h2:op≠.NotIn:=by decide):behindInMarks op b=false:=by
 have e1:(op == CmpOp.In)=false:=by cases op <;> first | rfl | exact absurd rfl h
 have z:(op == CmpOp.NotIn)=false:=by cases op <;> first | rfl | exact absurd rfl h2
 cases b <;> simp[behindInMarks,e1,z]
def nO {op:CmpOp} {r:R2} (z:OpR X (compareOp op) r) (G:PE X a ta) (J:PE X b tb) (L:behindInMarks op b=false):PE X (.Compare a [op] [b] pos) (tOp r ta tb):=by
 intro pins s σ H Q I h;exact wpAny_Compare1 (aCs G J I h λv u M x y H2 U Y ry q=>z pins M σ H2 x y v u Q U Y ry q) L
def aDp (t:TE):TT:=fun σ H Q=>t σ H λx H'=>∃ k,x=.bl k/\Q k H'
def aS {op:CmpOp} {r:R2} (G:OpR X (compareOp op) r) (J:PE X a ta) (L:PE X b tb) (M:behindInMarks op b=false):PT X (.Compare a [op] [b] pos) (aDp (tOp r ta tb)):=by
 intro pins s σ H Q I h;refine wpAny_isTrue_Compare1 (thn (J pins s σ H _ I h) λv U ⟨x,H1,Y,r1,q1⟩=>thn (L pins U σ H1 _ Y q1) λu s2 ⟨y,H2,I2,r2,q2⟩ =>
  thn (G pins s2 σ H2 x y v u _ I2 r1 r2 q2) λc s3 ⟨z,H3,I3,r3,k,e,q3⟩=>?_) M
 subst e;cases r3;exact me ⟨H3,I3,q3⟩
def aDq (K:PySem.W.Frag) (x:V) (H:Hp) (k:Bool):Prop :=
 match x with
 | .non=>k=false
 | .bl b=>k=b
 | .int i=>k=(i != 0)
 | .str y=>y.length<=sizeLine/\k=((y.length:Int) != 0)
 | .byt y=>y.size<=sizeLine/\k=((y.size:Int) != 0)
 | .ref p=>(∃ xs,SqL K H p xs/\k=!xs.isEmpty)\/(∃ xs,SqT K H p xs/\k=!xs.isEmpty)\/∃ kvs,H p=some (.dK kvs)/\k=!kvs.isEmpty
 | _=>False
def M5 {κ:Type} {kvs:List (κ×V)} {vs:List (κ×Value)} (r:KV kvs vs):(!vs.isEmpty)=!kvs.isEmpty:=by
 cases r <;> rfl
def sF {xs:List V} {its:List Value} (r:Vals xs its):(!its.toArray.isEmpty)=!xs.isEmpty:=by
 cases r <;> simp
def pC:(sizeLine:Nat)<2 ^ 63:=by rw[uv];decide
def aCt:aE8 X (λx H Q=>∃ k,aDq X.K x H k/\Q k H):=by
 intro pins s σ H x v Q I G h;obtain⟨k,e,q⟩:=h;have U:=pC;have Y:sizeLine=16777216:=uv;cases x with
 | non =>
  cases G;have z:k=false:=e;subst z;exact truthy_none ⟨H,I,q⟩
 | bl b =>
  cases G;have z:k=b:=e;subst z;exact me ⟨H,I,q⟩
 | int i =>
  obtain⟨t,rfl⟩:=G;have z:k=(i != 0):=e;subst z;exact PySem.P.truthy_int ⟨H,I,q⟩
 | str y =>
  obtain⟨t,rfl⟩:=G;obtain⟨L,z⟩:y.length<=sizeLine/\k=((y.length:Int) != 0):=e;subst z;exact PySem.P.truthy_str (by omega) ⟨H,I.tok _,q⟩
 | byt y =>
  obtain⟨t,rfl⟩:=G;obtain⟨L,z⟩:y.size<=sizeLine/\k=((y.size:Int) != 0):=e;subst z;exact PySem.W.truthy_bytes (by omega) ⟨H,I.tok _,q⟩
 | ref p =>
  cases G;have z:(∃ xs,SqL X.K H p xs/\k=!xs.isEmpty)\/(∃ xs,SqT X.K H p xs/\k=!xs.isEmpty)\/∃ kvs,H p=some (.dK kvs)/\k=!kvs.isEmpty:=e;rcases z with ⟨xs,J,z⟩ | ⟨xs,J,z⟩ | ⟨kvs,J,z⟩
  .subst z;obtain⟨its,r,pl,hz⟩:=I.list J;have hlen:=r.length;exact wpAny_truthy_list pl.isList (by simp only[aFJ];omega) ⟨H,I.tok _,by rw[sF r];exact q⟩
  .subst z;obtain⟨its,r,pl,hz⟩:=I.tuple J;have hlen:=r.length;exact truthy_tuple pl (by simp only[aFJ];omega) ⟨H,I.tok _,by rw[sF r];exact q⟩
  .subst z;obtain⟨hz,M,vs,r,m⟩:kvs.length<=sizeLine/\(p == sysModules)=false/\∃ vs,KV kvs vs/\s.heap.DictOf (bI X.prog X.w) p vs:=I.hok p _ J;have hlen:kvs.length=vs.length:=ol r;exact wpAny_truthy_dict M m (by omega) ⟨H,I.tok _,by rw[M5 r];exact q⟩
 | _=>exact(show False from e).elim
def fG (z:PE X a ta) (he:∀ whole,isTrue a X.env whole=(do let v <- whole;standAt a.pos;holding [v] (truthy v))) :
 PT X a (fun σ H Q=>ta σ H λx H'=>∃ k,aDq X.K x H' k/\Q k H'):=by
 intro pins s σ H Q I h;exact isTrue_plain (thn (z pins s σ H _ I h) λv G ⟨x,H1,J,L,M⟩=>aCt pins G σ H1 x v Q J L M) (he _)
def kJ {x:V} {us:List Value} (r:Vals [x] us):∃ u,us=[u]/\RelV x u:=by
 cases r with
 | cons z G=>cases G;exact⟨_,rfl,z⟩
def aC3 {x y:V} {us:List Value} (r:Vals [x,y] us):∃ u z,us=[u,z]/\RelV x u/\RelV y z:=by
 cases r with
 | cons G J =>
  cases J with
  | cons L M=>cases M;exact⟨_,_,rfl,G,L⟩
def Z5 (z:X.calm=true):gY X (.builtin "max") (λxs H Q=>∃ i j,xs=[.int i,.int j]/\Q (.int (if j > i then j else i)) H):=by
 intro pins s σ H xs us Q I r h;obtain⟨i,j,rfl,q⟩:=h;obtain⟨u,G,rfl,⟨t,rfl⟩,⟨t',rfl⟩⟩:=aC3 r;refine max_two_ints (I.ok.hd z) λh' tk k=>⟨_,H,I.kept k,?_,q⟩
 by_cases hj:j > i
 .rw[da hj,da hj];exact⟨_,rfl⟩
 .rw[bB hj,bB hj];exact⟨_,rfl⟩
def vN (z:X.calm=true):gY X (.builtin "min") (λxs H Q=>∃ i j,xs=[.int i,.int j]/\Q (.int (if j<i then j else i)) H):=by
 intro pins s σ H xs us Q I r h;obtain⟨i,j,rfl,q⟩:=h;obtain⟨u,G,rfl,⟨t,rfl⟩,⟨t',rfl⟩⟩:=aC3 r;refine min_two_ints (I.ok.hd z) λh' tk k=>⟨_,H,I.kept k,?_,q⟩
 by_cases hj:j<i
 .rw[da hj,da hj];exact⟨_,rfl⟩
 .rw[bB hj,bB hj];exact⟨_,rfl⟩
end
structure ObjM (h:Heap) (x dx C:Addr) (mA:Str->Option Value):Prop where
 obj:h.get? x=some (PySem.W.instObj C dx)
 ns:h.Ns1 dx mA
 ne:dx≠x
def vO {h:Heap} {dx:Addr} {J:Str->Option Value} (n:h.Ns1 dx J):∃ od,h.get? dx=some od/\∀ name,PySem.W.lookIn name od=some (J name):=by
 obtain⟨o,es,ep,L,hd,M,_,U⟩:=n;refine⟨o,L,λname=>?_⟩;have e:=U name;unfold nsFind findBy at e;rw[<- Array.find?_toList]at e;unfold PySem.W.lookIn;rw[hd];dsimp only;split
 .rename_i y q
  rw[q]at e;exact congrArg some e
 .rename_i q
  rw[q]at e;have a:es.toList.any (·.refKey)=false:=by
   rw[List.any_eq_false];intro y Y;obtain⟨z,t,G⟩:=M y (Array.mem_toList_iff.mp Y);simp[DictEntry.refKey,G]
  have a':¬ es.toList.any (·.refKey)=true:=by rw[a];exact aFO
  rw[bB a'];exact congrArg some e
def ObjM.look {h:Heap} {x dx C:Addr} {z:Str->Option Value} (I:ObjM h x dx C z):∃ od,PySem.W.InstAt h x (PySem.W.instObj C dx) C (some od)/\∀ name,PySem.W.lookIn name od=some (z name) :=
 let ⟨od,G,J⟩:=vO I.ns
 ⟨od,⟨I.obj,rfl,rfl,G⟩,J⟩
def RelO.some_of {v:V} {o:Option Value} (r:RelO (some v) o):∃ u,o=some u/\RelV v u:=by
 cases o with
 | none=>exact(show False from r).elim
 | some u=>exact⟨u,rfl,r⟩
def RelO.none_of {o:Option Value} (r:RelO none o):o=none:=by
 cases o with
 | none=>rfl
 | some u=>exact(show False from r).elim
def Z6 {v:V} {u:Value} (r:RelV v u):PySem.W.handedIn u=true:=by
 cases v with
 | non=>cases (show u=Value.none from r);rfl
 | bl b=>cases (show u=Value.bool b from r);rfl
 | int i=>obtain⟨t,e⟩:=(show ∃ t,u=Value.int i t from r);cases e;rfl
 | str x=>obtain⟨t,e⟩:=(show ∃ t,u=Value.str x t from r);cases e;rfl
 | byt b=>obtain⟨t,e⟩:=(show ∃ t,u=Value.bytes b t from r);cases e;rfl
 | flt b=>obtain⟨t,e⟩:=(show ∃ t,u=Value.float b t from r);cases e;rfl
 | ref a=>cases (show u=Value.ref a from r);rfl
 | ty n=>cases (show u=Value.type n from r);rfl
section
variable {P:Program} {w:World} {H H':Hp} {h h':Heap} {a C dx:Addr} {fs fs':List (Str×V)}
def aB7 (hok:HOk P w H h) (e:H a=some (.ins C dx fs)):∃ G,ObjM h a dx C G/\(∀ f,RelO (fs.lookup f) (G f))/\PySem.Within G (fs.map (·.1))/\fs.length<=1000/\H dx=some (.own a):=by
 obtain⟨d,z,ne,J,G,n,r,q⟩:=(show ObjOk P w H h a (.ins C dx fs) from hok a _ e);exact⟨G,⟨J,n,ne⟩,r,q,z,d⟩
end
structure Cls (K:PySem.W.Frag) (C:Addr):Prop where
 pg:PySem.W.plainGet K C Str.empty=true
 hd:PySem.W.hasDictIn K C=true
 po:PySem.W.plainOver K C=true
 sa:PySem.W.findIn K (.ref C) "__setattr__"=some (some (.builtin "object.__setattr__"))
def Cls.get {K:PySem.W.Frag} {C:Addr} (c:Cls K C) (f:Str):PySem.W.plainGet K C f=true:=c.pg
section
variable {X:Cx} {pins:List (Addr×Obj)} {σ:St} {H:Hp} {s:Shared} {a C dx:Addr} {fs:List (Str×V)} {f:Str} {v:V} {A:Around} {E:Value->Shared->Prop}
def aB8 {prog:Program} {w:World} {env:Env} {e:Expr} {f:Str} {pos:Pos} {s:Shared} {Q:Value->Shared->Prop} (G:attributeBase e f env (eval e env)=eval e env)
 (h:wpAny (model prog w) A (eval e env) (λo z=>wpAny (model prog w) A (getAttr o f true) Q E z) E s):wpAny (model prog w) A (eval (.Attribute e f pos) env) Q E s :=
 Attribute_any_ h (by rw[arm_eval_Attribute,G])
end
section
variable {X:Cx} {pins:List (Addr×Obj)} {σ:St} {H:Hp} {s:Shared} {A:Around} {E:Value->Shared->Prop} {Q:Value->Shared->Prop} {c:Value} {b:Bool}
inductive pD (K:PySem.W.Frag) (H:Hp):V->Value->Prop where
 | non:pD K H .non (.type "NoneType")
 | bl (x:Bool):pD K H (.bl x) (.type "bool")
 | int (i:Int):pD K H (.int i) (.type "int")
 | str (x:Str):pD K H (.str x) (.type "str")
 | flt (x:UInt64):pD K H (.flt x) (.type "float")
 | lst {a:Addr} {xs:List V} (e:H a=some (.lst xs)):pD K H (.ref a) (.type "list")
 | frz {a:Addr} {o:Obj} {xs:List V} (e:H a=some (.frz o (.lst xs))):pD K H (.ref a) (.type "list")
 | tup {a:Addr} {xs:List V} (e:H a=some (.tup xs)):pD K H (.ref a) (.type "tuple")
 | dK {a:Addr} {kvs:List (Key×V)} (e:H a=some (.dK kvs)):pD K H (.ref a) (.type "dict")
 | dT {a:Addr} {kvs:List (List Key×V)} (e:H a=some (.dT kvs)):pD K H (.ref a) (.type "dict")
 | ins {a C dx:Addr} {fs:List (Str×V)} (e:H a=some (.ins C dx fs)) (cl:Cls K C) (ha:PySem.W.findIn K (.ref C) "__class__"=some (some (.builtin "object.__class__")))
  (hn:PySem.W.specialIn K (.builtin "object.__class__") "__get__"=some (some (.builtin "getset_descriptor.__get__"))) (htk:PySem.W.takesIn K (.builtin "object.__class__")=some true)
  (hm:PySem.W.mroIn K C (.type "object")=some true):pD K H (.ref a) (.ref C)
def Z7 {x:V} {u t:Value} (I:Inv X pins σ H s) (G:RelV x u) (ty:pD X.K H x t) (e:PySem.W.kitOne X.K t c=some b) (h:∀ tk,Q (.bool b) { s with toks:=tk }) :
 wpAny (model X.prog X.w) A (call (.builtin "isinstance") [u,c]) Q E s:=by
 cases ty with
 | non=>cases (show u=Value.none from G);exact lg PySem.W.kitx_none I.kIn True.intro e (λz=>nomatch z) h
 | bl y=>cases (show u=Value.bool y from G);exact lg PySem.W.kitx_bool I.kIn True.intro e (λz=>nomatch z) h
 | int i=>obtain⟨t,q⟩:=(show ∃ t,u=Value.int i t from G);cases q;exact lg PySem.W.kitx_int I.kIn True.intro e (λz=>nomatch z) h
 | str y=>obtain⟨t,q⟩:=(show ∃ t,u=Value.str y t from G);cases q;exact lg PySem.W.kitx_str I.kIn True.intro e (λz=>nomatch z) h
 | flt y=>obtain⟨t,q⟩:=(show ∃ t,u=Value.float y t from G);cases q;exact lg PySem.W.kitx_float I.kIn True.intro e (λz=>nomatch z) h
 | @lst a xs L =>
  cases (show u=Value.ref a from G);obtain⟨_,_,n,_,h1⟩:=(show ObjOk X.prog X.w H s.heap a (.lst xs) from I.hok a _ L);exact lg ui I.kIn ⟨_,h1,rfl⟩ e (λz=>nomatch z) h
 | @frz a U xs L =>
  cases (show u=Value.ref a from G);obtain⟨_,_,_,n,_,h1⟩:=(show ObjOk X.prog X.w H s.heap a (.frz U (.lst xs)) from I.hok a _ L);exact lg ui I.kIn ⟨_,h1,rfl⟩ e (λz=>nomatch z) h
 | @tup a xs L =>
  cases (show u=Value.ref a from G);obtain⟨_,_,_,p⟩:=(show ObjOk X.prog X.w H s.heap a (.tup xs) from I.hok a _ L);obtain⟨o,h1,h2,_⟩:=p;exact lg PySem.W.kitx_tuple I.kIn ⟨o,h1,h2⟩ e (λz=>nomatch z) h
 | @dK a kvs L =>
  cases (show u=Value.ref a from G);obtain⟨_,_,vs,_,p⟩:=(show ObjOk X.prog X.w H s.heap a (.dK kvs) from I.hok a _ L);obtain⟨o,es,ep,h1,h2,_⟩:=p;exact lg PySem.W.kitx_dict I.kIn ⟨o,h1,h2.1⟩ e (λz=>nomatch z) h
 | @dT a kvs L =>
  cases (show u=Value.ref a from G);obtain⟨_,_,xs,_,o,es,ep,h1,h2,_⟩:=(show ObjOk X.prog X.w H s.heap a (.dT kvs) from I.hok a _ L);exact lg PySem.W.kitx_dict I.kIn ⟨o,h1,h2.1⟩ e (λz=>nomatch z) h
 | @ins a C dx fs L cl Y hn M hm =>
  cases (show u=Value.ref a from G);obtain⟨mA,O,_⟩:=aB7 I.hok L;obtain⟨od,J,_⟩:=O.look;exact lg (PySem.W.kitx_own (cl.get _) cl.hd Y hn M hm) I.kIn J e (λz=>nomatch z) h
end
structure Room (k:Nat) (A:Around):Prop where
 hd:A.handled=none
 dp:A.depth+3 * k+5<recursionLimit
 un:A.units+16 * k+200<cLine
def Room.mono {j k:Nat} {A:Around} (r:Room k A) (h:j<=k):Room j A:=⟨r.hd,by have:=r.dp;omega,by have:=r.un;omega⟩
def Room.deeper {k:Nat} {A:Around} (r:Room (k+1) A) (env:Env):Room k (A.deeper env) :=
 ⟨r.hd,by have:=r.dp;show A.depth+1+3 * k+5<_;omega,by have:=r.un;show A.units+3+16 * k+200<_;omega⟩
def Room.in1 {k:Nat} {A:Around} (r:Room (k+1) A):Room k A.in1 :=
 ⟨r.hd,by have:=r.dp;show A.depth+3 * k+5<_;omega,by have:=r.un;show A.units+1+16 * k+200<_;omega⟩
def M6 {A:Around} {C:Addr} {us:List Value} {z:List (Str×Value)}:(A.under (.builtin "type.__call__" ⟨.ref C :: us,z⟩)).depth=A.depth+1:=by
 first | rfl | simp[Around.under,Code.weight,Code.isCreation,Code.isGuard,Code.isCaller,Code.frames,Code.isFrame,guardIds]
def M7 {A:Around} {C:Addr} {us:List Value} {z:List (Str×Value)}:(A.under (.builtin "type.__call__" ⟨.ref C :: us,z⟩)).units=A.units+1:=by
 first | rfl | simp[Around.under,Code.cUnits,Code.frames,Code.isFrame]
def Room.make {k:Nat} {A:Around} (r:Room (k+1) A) (C:Addr) (us:List Value) (z:List (Str×Value)):Room k (A.under (.builtin "type.__call__" ⟨.ref C :: us,z⟩)) :=
 ⟨r.hd,by have:=r.dp;rw[M6];omega,by have:=r.un;rw[M7];omega⟩
def Room.depth {k:Nat} {A:Around} (r:Room k A):A.depth<recursionLimit:=by have:=r.dp;omega
def Room.units {k:Nat} {A:Around} (r:Room k A):A.units+64<cLine:=by have:=r.un;omega
def M8:TA:=λ_ H Q=>Q [] H
def nQ (ta:TE) (tr:TA):TA:=fun σ H Q=>ta σ H λx H1=>tr σ H1 λxs H2=>Q (x :: xs) H2
section
variable {X:Cx} {e:Expr} {es:List Expr} {te:TE} {t:TA} {pos:Pos}
def aB:PA X [] M8:=λ_ _ _ _ H Q I h=>qq ⟨[],H,I,.nil,h⟩
def aA (z:PE X e te) (G:PA X es t) (J:starEach (e :: es) X.env=(false,eval e X.env) :: starEach es X.env:=by rfl):PA X (e :: es) (nQ te t):=by
 intro pos pins s σ H Q I h;rw[J];show wpAny _ _ (spliced ((false,eval e X.env) :: backTo pos (starEach es X.env))) _ _ s;refine nj (thn (z pins s σ H _ I h) λu L ⟨x,H1,M,U,Y⟩=>?_);exact thn (G pos pins L σ H1 _ M Y) λus s2 ⟨xs,H2,I2,r2,q2⟩=>⟨x :: xs,H2,I2,.cons U r2,q2⟩
def aEb (t:TA):TE:=fun σ H Q=>t σ H λxs H1=>xs.length<=sizeLine/\∀ p,H1 p=none->Q (.ref p) (upd H1 p (.tup xs))
def aEc (t:TA):TE:=fun σ H Q=>t σ H λxs H1=>xs.length<=sizeLine/\∀ p,H1 p=none->Q (.ref p) (upd H1 p (.lst xs))
def bM {L} (h:PA X es t):PE X (.Tuple es L pos) (aEb t):=by
 intro pins s σ H Q I M;refine wpAny_Tuple_spliced (thn (h pos pins s σ H _ I M) λus G ⟨xs,H1,J,r,z,q⟩=>⟨by rw[<- r.length];exact z,?_⟩);have U:H1 G.heap.objs.size=none:=J.hok.fresh (ah _);refine⟨.ref G.heap.objs.size,upd H1 G.heap.objs.size (.tup xs),J.laid (t':=G.toks) (λb u e=>aFC _ e) (ah _) ?_,rfl,q _ U⟩;exact⟨z,us,r,⟨_,aFI _ rfl,rfl,_,rfl⟩⟩
def bF (h:PA X es t):PE X (.List es pos) (aEc t):=by
 intro pins s σ H Q I L;refine wpAny_List_spliced (thn (h pos pins s σ H _ I L) λus G ⟨xs,H1,J,r,z,q⟩=>⟨by rw[<- r.length];exact z,?_⟩);have M:H1 G.heap.objs.size=none:=J.hok.fresh (ah _);refine⟨.ref G.heap.objs.size,upd H1 G.heap.objs.size (.lst xs),J.laid (t':=G.toks) (λb u e=>aFC _ e) (ah _) ?_,rfl,q _ M⟩;exact⟨z,us,0,r,aFI _ rfl⟩
end
abbrev Sp:=List V->Hp->VK->XK->Prop
abbrev CXT:=List Env->Hp->Shared->XK->Value->Shared->Prop
structure Env0 (P:Program) (w:World) (K:PySem.W.Frag) (mg:Str->Option Value) (base:Heap) (A:Around) (outer:List Env) (s:Shared) (H:Hp):Prop where
 frames:A.frames=some outer
 mod:Mod K mg base
 bs:∀ b o,base.get? b=some o->s.heap.get? b=some o/\H b=none
 bsz:base.objs.size<=s.heap.objs.size
 funs:s.heap.FunFrames base outer
 frf:∀ b∈frs outer,H b=none
 hok:HOk P w H s.heap
 bare:AllBare s.gens
def CE (outer:List Env) (P:Program) (w:World) (H:Hp) (s:Shared) (Q:VK) (u:Value) (s':Shared):Prop :=
 ∃ v H',s'.os=s.os/\AllBare s'.gens/\Un (frs outer) [] H H' s.heap s'.heap/\HOk P w H' s'.heap/\RelV v u/\Q v H'
def CR (CX:CXT) (outer:List Env) (P:Program) (w:World) (H:Hp) (s:Shared) (Q:VK) (E:XK) (r:Result) (s':Shared):Prop :=
 match r with
 | .ok (.ret u)=>CE outer P w H s Q u s'
 | .ok _=>False
 | .error e=>CX outer H s E e s'
structure FnOk (P:Program) (w:World) (K:PySem.W.Frag) (mg:Str->Option Value) (base:Heap) (CX:CXT) (k:Nat) (f:Addr) (fd:FuncData) (ps:List Str) (sp:Sp):Prop where
 len:∀ vs H Q E,sp vs H Q E->vs.length=ps.length
 run:∀ (A:Around) (outer:List Env) (s:Shared) (H:Hp) (args:Args) (us:List Value) (vs:List V) (Q:VK) (E:XK),Room k A->Env0 P w K mg base A outer s H->BindsTo s fd args (ps.zip us)->Vals vs us->sp vs H Q E ->
  codeAny (model P w) A (.call (.ref f) args) (CR CX outer P w H s Q E) s
def FnOk.imp {P:Program} {w:World} {K:PySem.W.Frag} {mg:Str->Option Value} {base:Heap} {CX:CXT} {k:Nat} {f:Addr} {fd:FuncData} {ps:List Str} {sp z:Sp} (F:FnOk P w K mg base CX k f fd ps sp)
 (h:∀ vs H Q E,z vs H Q E->sp vs H Q E):FnOk P w K mg base CX k f fd ps z :=
 ⟨λvs H Q E q=>F.len vs H Q E (h _ _ _ _ q),λA outer s H args us vs Q E G he J L M=>F.run A outer s H args us vs Q E G he J L (h _ _ _ _ M)⟩
def Env0.make {P:Program} {w:World} {K:PySem.W.Frag} {mg:Str->Option Value} {base:Heap} {A:Around} {outer:List Env} {s:Shared} {H:Hp} (e:Env0 P w K mg base A outer s H) (C:Addr) (us:List Value) (z:List (Str×Value)) :
 Env0 P w K mg base (A.under (.builtin "type.__call__" ⟨.ref C :: us,z⟩)) outer s H:=⟨by first | exact e.frames | (simpa[Around.under,Code.envs,Code.isFrame,pushEnvs]using e.frames),e.mod,e.bs,e.bsz,e.funs,e.frf,e.hok,e.bare⟩
def Env0.in1 {P:Program} {w:World} {K:PySem.W.Frag} {mg:Str->Option Value} {base:Heap} {A:Around} {outer:List Env} {s:Shared} {H:Hp} (e:Env0 P w K mg base A outer s H) :
 Env0 P w K mg base A.in1 outer s H:=⟨e.frames,e.mod,e.bs,e.bsz,e.funs,e.frf,e.hok,e.bare⟩
section
variable {X:Cx} {pins:List (Addr×Obj)} {σ:St} {H:Hp} {s s':Shared}
def Inv.env0 (I:Inv X pins σ H s):Env0 X.prog X.w X.K X.mg X.base X.A X.stack s H :=
 ⟨I.ok.frames,I.ok.mod,I.bs,jf I.ok.bsz I.sz,I.stack,I.stkFree,I.hok,I.bare⟩
def Inv.after {Q:VK} {u:Value} (I:Inv X pins σ H s) (h:CE X.stack X.prog X.w H s Q u s'):EP X pins σ Q u s':=by
 obtain⟨v,H',os,bare,un,hok,r,q⟩:=h;obtain⟨J,g,d,t,G⟩:=s';obtain rfl:G=s.os:=os;exact⟨v,H',I.call (h':=J) (g':=g) (d':=d) (t':=t) (ch:=[]) un hok bare (λb z=>absurd z (by simp)),r,q⟩
end
def qL (sp:Sp) (am:List V) (E:XK) (t:TA):TE:=fun σ H Q=>t σ H λvs H1=>sp (vs++am) H1 Q E
def Binds (K:PySem.W.Frag) (fd:FuncData) (ps:List Str) (ds:List Value):Prop :=
 ∀ (s:Shared) (us:List Value),K.In s.heap->(us++ds).length=ps.length->BindsTo s fd ⟨us,[]⟩ (ps.zip (us++ds))
def Binds.all {K:PySem.W.Frag} {fd:FuncData} {ps:List Str} (h:∀ us:List Value,us.length=ps.length->bindArgs fd ⟨us,[]⟩=pure (ps.zip us)):Binds K fd ps []:=λs us _ z=>by
 rw[jy]at z ⊢;exact .of_eq (h us z)
def iV (CX:CXT) (X:Cx) (E:XK):Prop:=∀ (pins:List (Addr×Obj)) (σ:St) (H:Hp) (s:Shared) (e:Value) (s':Shared),Inv X pins σ H s->CX X.stack H s E e s'->X.xe e s'
section
variable {X:Cx} {CX:CXT} {k:Nat} {f C:Addr} {fd:FuncData} {ps:List Str} {sp:Sp} {am:List V} {ds:List Value} {E:XK} {x m:Str} {p pos apos:Pos} {e o:Expr} {es:List Expr} {ta:TE} {t:TA}
def y8 {pins:List (Addr×Obj)} {σ:St} {H:Hp} {s:Shared} {Q:VK} {us:List Value} {vs:List V} (F:FnOk X.prog X.w X.K X.mg X.base CX k f fd ps sp) (J:Room k X.A) (L:Binds X.K fd ps ds) (hd:Vals am ds) (M:iV CX X E)
 (I:Inv X pins σ H s) (r:Vals vs us) (h:sp (vs++am) H Q E):wpAny (model X.prog X.w) X.A (call (.ref f) us) (EP X pins σ Q) X.xe s:=by
 have G:Vals (vs++am) (us++ds):=r.append hd;have U:(us++ds).length=ps.length:=by rw[<- G.length];exact F.len _ _ _ _ h
 refine qf (mi (F.run X.A X.stack s H ⟨us,[]⟩ (us++ds) (vs++am) Q E J I.env0 (L s us I.kIn U) G h) λr s' z=>?_);cases r with
 | error e=>exact M pins σ H s e s' I z
 | ok fl =>
  cases fl with
  | ret u=>exact I.after z
  | next=>exact False.elim z
  | brk=>exact False.elim z
  | cont=>exact False.elim z
def T6 (F:FnOk X.prog X.w X.K X.mg X.base CX k f fd ps sp) (G:Room k X.A) (J:Gl X x) (L:X.mg x=some (.ref f)) (M:PySem.W.keepIn X.K (.ref f)=true) (U:Binds X.K fd ps ds) (hd:Vals am ds) (Y:iV CX X E)
 (ha:PA X (e :: es) t) (hdb:(x == ("__debug__":Str))=false:=by decide) (he:starEach (e :: es) X.env=(false,eval e X.env) :: starEach es X.env:=by rfl) (hpl:(backTo pos (starEach es X.env)).any (·.1)=false:=by rfl) :
 PE X (.Call (.Name x p) (e :: es) [] pos) (qL sp am E t):=by
 intro pins s σ H Q I h;refine ki (nK I J L ?_ hdb);refine tq (h₀:=X.base) I.ok.mod.kin M (thn (ha pos pins s σ H _ I h) λus s1 ⟨vs,H1,z,r,q⟩=>⟨z.kIn,?_⟩) he hpl;exact y8 F G U hd Y z r q
end
def PK (X:Cx) (aj:List Keyword) (t:TA):Prop :=
 ∀ (pos:Pos) (pins:List (Addr×Obj)) (s:Shared) (σ:St) (H:Hp) (Q:List V->Hp->Prop),Inv X pins σ H s->t σ H Q->wpAny (model X.prog X.w) X.A (evalAll ((backToKw pos (keywordEach aj X.env)).map (·.2))) (AP X pins σ Q) X.xe s
section
variable {X:Cx} {CX:CXT} {k:Nat} {f C:Addr} {fd:FuncData} {ps ks:List Str} {sp:Sp} {E:XK} {x m:Str} {p pos apos au:Pos} {e o:Expr} {es:List Expr} {aj:List Keyword} {te ta:TE} {t tk:TA} {nm:Option Str}
def sG:PK X [] M8:=λ_ _ _ _ H Q I h=>wpAny_evalAll_nil ⟨[],H,I,.nil,h⟩
def nR (z:PE X e te) (G:PK X aj t):PK X (⟨nm,e,au⟩ :: aj) (nQ te t):=by
 intro pos pins s σ H Q I h;show wpAny _ _ (evalAll ((do let v <- eval e X.env;standAt pos;pure v) :: (backToKw pos (keywordEach aj X.env)).map (·.2))) _ _ s;refine wpAny_evalAll_cons (aEz (thn (z pins s σ H _ I h) λu J ⟨x,H1,L,M,U⟩=>aEz (lq (aFA ?_))));exact thn (G pos pins J σ H1 _ L U) λus s2 ⟨xs,H2,Y,r2,q2⟩=>⟨x :: xs,H2,Y,.cons M r2,q2⟩
variable {g:List Value->List Value->List Value} {gV:List V->List V->List V}
end
structure FnScope (N P:List Str) (sc:Scope):Prop where
 kind:sc.kind=.function
 co:sc.isCoroutine=false
 gen:sc.isGenerator=false
 nd:N.Nodup
 pre:N.take P.length=P
 par:∀ x∈P,sc.names.lookup x=some .local\/sc.names.lookup x=some .cell
 nofree:∀ y∈sc.names,y.2≠.free
def vP {kindOf:Str->Option NameKind} {x:Str}:∀ {binds:List (Str×Value)} {m:Str->Option Value},(∀ v,(x,v)∉binds)->bindL kindOf binds m x=m x
 | [],_,_=>rfl
 | (n,v) :: r,m,h=>by
  unfold bindL;rw[vP λw hw=>h w (aFE _ hw)];split
  .have:x≠n:=by rintro rfl;exact h v aFD
   simp[this]
  .rfl
def vQ {kindOf:Str->Option NameKind} {x:Str}:∀ {binds:List (Str×Value)} {m:Str->Option Value},(∀ v,(x,v)∉binds)->bindC kindOf binds m x=m x
 | [],_,_=>rfl
 | (n,v) :: r,m,h=>by
  unfold bindC;rw[vQ λw hw=>h w (aFE _ hw)];split
  .rfl
  .have:x≠n:=by rintro rfl;exact h v aFD
   simp[this]
def vR {kindOf:Str->Option NameKind} {x:Str} {v:Value}:∀ {P:List Str} {vs:List Value} {i:Nat} {m:Str->Option Value},P.Nodup->P[i]?=some x->vs[i]?=some v->kindOf x=some .local ->
 bindL kindOf (P.zip vs) m x=some v
 | [],_,_,_,_,h,_,_=>by simp at h
 | _ :: _,[],_,_,_,_,h,_=>by simp at h
 | p :: P,w :: vs,0,m,nd,h1,h2,z=>by
  simp at h1 h2;subst h1;subst h2;show bindL kindOf ((p,w) :: P.zip vs) m p=_;unfold bindL;rw[vP λv G=>(List.nodup_cons.mp nd).1 (si G).1,da z];simp
 | p :: P,w :: vs,i+1,m,nd,h1,h2,z=>by
  show bindL kindOf ((p,w) :: P.zip vs) m x=_;unfold bindL;exact vR (i:=i) (List.nodup_cons.mp nd).2 (by simpa using h1) (by simpa using h2) z
def vS {kindOf:Str->Option NameKind} {x:Str} {v:Value}:∀ {P:List Str} {vs:List Value} {i:Nat} {m:Str->Option Value},P.Nodup->P[i]?=some x->vs[i]?=some v->kindOf x≠some .local ->
 bindC kindOf (P.zip vs) m x=some v
 | [],_,_,_,_,h,_,_=>by simp at h
 | _ :: _,[],_,_,_,_,h,_=>by simp at h
 | p :: P,w :: vs,0,m,nd,h1,h2,z=>by
  simp at h1 h2;subst h1;subst h2;show bindC kindOf ((p,w) :: P.zip vs) m p=_;unfold bindC;rw[vQ λv G=>(List.nodup_cons.mp nd).1 (si G).1,bB z];simp
 | p :: P,w :: vs,i+1,m,nd,h1,h2,z=>by
  show bindC kindOf ((p,w) :: P.zip vs) m x=_;unfold bindC;exact vS (i:=i) (List.nodup_cons.mp nd).2 (by simpa using h1) (by simpa using h2) z
def eL (N:List Str) (vs:List V):St:=vs.map some++List.replicate (N.length - vs.length) none
def gK (CX:CXT) (P:Program) (w:World) (K:PySem.W.Frag) (mg:Str->Option Value) (base:Heap) (N:List Str) (qual:Str) (scope:Scope) (f:Addr) (cd:Value) (A:Around) (outer:List Env) (s:Shared) (H:Hp) (E:XK):Cx where
 prog:=P
 w:=w
 K:=K
 mg:=mg
 base:=base
 A:=A.deeper (envOfC qual scope s.heap.objs.size f cd)
 N:=N
 s₀:=s
 H₀:=H
 env:=envOfC qual scope s.heap.objs.size f cd
 outer:=outer
 stack:=envOfC qual scope s.heap.objs.size f cd :: outer
 ex:=[]
 calm:=true
 fn:=λ_=>true
 pn:=[]
 xe:=λe s'=>wpAny (model P w) (A.deeper (envOfC qual scope s.heap.objs.size f cd)) (leaving (envOfC qual scope s.heap.objs.size f cd) e) (λ_ s''=>CX outer H s E e s'') (λe' s''=>CX outer H s E e' s'') s'
def zK {z:Scope} {n:Nat} {x:Str} (h:z.names.lookup x=some .cell):∃ c,(cellsFrom n z.names []).lookup x=some c:=by
 have q:=ou z.names n [] (.inl h);exact Option.isSome_iff_exists.mp q
def pE {CX:CXT} {P:Program} {w:World} {K:PySem.W.Frag} {mg:Str->Option Value} {base:Heap} {N ps:List Str} {qual:Str} {scope:Scope} {f:Addr} {U:Value} {A:Around} {outer:List Env} {s Y:Shared} {H:Hp} {E:XK} {us:List Value} {vs:List V}
 (S:FnScope N ps scope) (hd:A.handled=none) (G:Env0 P w K mg base A outer s H) (hl:vs.length=ps.length) (r:Vals vs us)
 (x:InCallC s s.heap.objs.size (bindL (envOfC qual scope s.heap.objs.size f U).kindOf (ps.zip us) λ_=>none) (cellsFrom (s.heap.objs.size+1) scope.names []) (bindC (envOfC qual scope s.heap.objs.size f U).kindOf (ps.zip us) λ_=>none) Y) :
 Inv (gK CX P w K mg base N qual scope f U A outer s H E) [] (eL N vs) H Y:=by
 have hpl:ps.length<=N.length:=by have:=congrArg List.length S.pre;rw[aFR]at this;omega
 obtain⟨h1,tk,rfl,hk⟩:=x.done;have J:∀ b:Addr,b∉(gK CX P w K mg base N qual scope f U A outer s H E).ex:=λb z=>absurd (show b∈([]:List Addr) from z) (by simp);refine⟨⟨G.mod,S.kind,rfl,rfl,ah _,λy z c h1 h2=>?_,λy hy=>?_,λy c _ h=>?_,λ_=>hd,nv G.frames,.inr ⟨rfl,rfl⟩,λb z=>absurd z (J b),G.bs,G.bsz,λb _ _=>J b,λb z=>absurd z (J b),G.funs,G.frf⟩,
  rfl,G.bare,Un.kept hk,⟨_,x.toInCall.ns,λi y v h1 h2 h3=>?_⟩,λy c h=>⟨_,x.cell y c h⟩,G.hok.fresh (ah _),λy c h=>?_,λp L=>absurd (show p∈([]:List (Addr×Obj)) from L) (by simp),G.hok.kept hk,?_⟩
 .exact name_of_addr x.apart (kr h1) (kr h2)
 .have hy:scope.names.lookup y=some .cell\/scope.names.lookup y=some .free:=hy;rcases hy with hy | hy
  .exact zK hy
  .exact absurd rfl (S.nofree _ (kr hy))
 .exact km (x.above y c (kr h))
 .have hi:i<vs.length:=by
   unfold eL at h2
   by_cases hi:i<vs.length
   .exact hi
   .rw[pq (by simpa using hi)]at h2;rw[uw]at h2;split at h2 <;> cases h2
  have ha:vs[i]?=some v:=by
   unfold eL at h2;rw[uc (by simpa using hi),aFZ]at h2;cases e:vs[i]? with
   | none=>rw[e]at h2;cases h2
   | some a=>rw[e]at h2;cases h2;rfl
  obtain⟨u,hu,rv⟩:=r.get ha;have L:ps[i]?=some y:=by
   rw[<- S.pre,List.getElem?_take_of_lt (by omega)];exact h1
  have M:ps.Nodup:=by rw[<- S.pre];exact S.nd.sublist (List.take_sublist _ _)
  refine⟨u,rv,?_⟩;rcases S.par y (aFM L)with k | k
  .exact .inl ⟨k,vR M L hu k⟩
  .obtain⟨c,e⟩:=zK (n:=s.heap.objs.size+1) k;refine .inr ⟨.inl k,c,e,?_⟩;have q:=x.cell y c e;rw[vS M L hu (by show scope.names.lookup y≠_;rw[k];decide)]at q;exact q
 .exact G.hok.fresh (km (x.above y c (kr h)))
 .unfold eL;show _=N.length;rw[aFK,aFB,aFV];omega
def y9 {CX:CXT} {P:Program} {w:World} {K:PySem.W.Frag} {mg:Str->Option Value} {base:Heap} {k:Nat} {f:Addr} {name qual:Str} {params:Arguments} {body:List Stmt} {scope:Scope} {dV kV Y pm z ct oc:Value} {an od:Option Addr}
 {aw:Array (Option Value)} {N ps:List Str} {sp:Sp} (lk:K.lookup f=some ⟨oc,od,.func (PySem.W.fnOf name qual params body scope dV kV Y pm an z ct),aw⟩) (a_:PySem.W.codeIn K z qual=true) (S:FnScope N ps scope)
 (len:∀ vs H Q E,sp vs H Q E->vs.length=ps.length)
 (L:∀ (A:Around) (outer:List Env) (s:Shared) (H:Hp) (vs:List V) (Q:VK) (E:XK),Room k (A.deeper (envOfC qual scope s.heap.objs.size f z))->sp vs H Q E ->
  ∃ t,PSs (gK CX P w K mg base N qual scope f z A outer s H E) body t/\t { nx:=λ_ H'=>Q .non H',rt:=Q } (eL N vs) H) :
 FnOk P w K mg base CX (k+1) f (PySem.W.fnOf name qual params body scope dV kV Y pm an z ct) ps sp:=by
 refine⟨len,λA outer s H args us vs Q E hr e0 hb r av=>?_⟩;have hl:=len _ _ _ _ av;have KX:K.In s.heap:=e0.mod.kin.keeps λb o e=>(e0.bs b o e).1;have ba:s.heap.NoLimit:=e0.mod.nolimit.keeps λb o e=>(e0.bs b o e).1;have M:∀ y∈ps.zip us,scope.names.lookup y.1=some .local\/(scope.names.lookup y.1=some .cell/\((cellsFrom (s.heap.objs.size+1) scope.names []).lookup y.1).isSome=true):=λ⟨n,v⟩ hy=>by
  rcases S.par n (si hy).1 with q | q
  .exact .inl q
  .exact .inr ⟨q,ou _ _ _ (.inl q)⟩
 refine vn hr.depth (KX _ _ lk) rfl S.co S.gen rfl (PySem.W.codeRec_of KX a_) (hb _ _ _ _ ?_);refine pw S.kind M λenv he s1 x=>?_;subst he;refine⟨ba.keeps x.toInCall.keep,codeAny_func ?_⟩;obtain⟨t,ht,hq⟩:=L A outer s H vs Q E (hr.deeper _) av;have I:Inv (gK CX P w K mg base N qual scope f z A outer s H E) [] (eL N vs) H s1:=pE S hr.hd e0 hl r x;refine dt (ht [] s1 (eL N vs) H _ I hq) (λfl s' U=>?_) λe s' U=>U;have fin:∀ {G:St} {H':Hp} {v:V} {u:Value},Inv (gK CX P w K mg base N qual scope f z A outer s H E) [] G H' s'->RelV v u->Q v H'->CE outer P w H s Q u s' :=
  λ{G H' v u} J rv q=>⟨v,H',J.os,J.bare,J.base,J.hok,rv,q⟩
 cases fl with
 | ret u =>
  obtain⟨v,G,H',J,rv,q⟩:=U;exact fin J rv q
 | next =>
  obtain⟨G,H',J,q⟩:=U;exact fin (v:=V.non) (u:=Value.none) J rfl q
 | brk =>
  obtain⟨_,_,_,q⟩:=U;exact False.elim q
 | cont =>
  obtain⟨_,_,_,q⟩:=U;exact False.elim q
section
variable {X:Cx} {x:Str} {p pos:Pos} {e:Expr} {es:List Expr} {t:TA} {id T:String} {r:List V->Hp->VK->Prop}
def tCB (r:List V->Hp->VK->Prop) (t:TA):TE:=fun σ H Q=>t σ H λvs H1=>r vs H1 Q
def aJ (z:gY X (.builtin id) r) (G:Gl X x) (J:X.mg x=none) (L:bootBuiltins x=some (.builtin id)) (M:PA X (e :: es) t) (U:x≠"__name__":=by decide) (hdb:(x == ("__debug__":Str))=false:=by decide)
 (he:starEach (e :: es) X.env=(false,eval e X.env) :: starEach es X.env:=by rfl) (hpl:(backTo pos (starEach es X.env)).any (·.1)=false:=by rfl):PE X (.Call (.Name x p) (e :: es) [] pos) (tCB r t):=by
 intro pins s σ H Q I h;refine ki (fA I G J L ?_ U hdb);exact PyProof.Rows.callWith_builtin1 (thn (M pos pins s σ H _ I h) λus Y ⟨vs,H1,I1,r1,q1⟩=>z pins Y σ H1 vs us Q I1 r1 q1) he hpl
def eV (z:gY X (.type T) r) (G:Gl X x) (J:X.mg x=none) (L:bootBuiltins x=some (.type T)) (M:PA X (e :: es) t) (U:x≠"__name__":=by decide) (hdb:(x == ("__debug__":Str))=false:=by decide)
 (he:starEach (e :: es) X.env=(false,eval e X.env) :: starEach es X.env:=by rfl) (hpl:(backTo pos (starEach es X.env)).any (·.1)=false:=by rfl):PE X (.Call (.Name x p) (e :: es) [] pos) (tCB r t):=by
 intro pins s σ H Q I h;refine ki (fA I G J L ?_ U hdb);exact kn (thn (M pos pins s σ H _ I h) λus Y ⟨vs,H1,I1,r1,q1⟩=>z pins Y σ H1 vs us Q I1 r1 q1) he hpl
end
end L2
namespace HT
open PySem PyProof.Rows
def lexLt:List Int->List Int->Bool
 | [],[]=>false
 | [],_ :: _=>true
 | _ :: _,[]=>false
 | x :: xs,y :: ys=>if x=y then lexLt xs ys else decide (x<y)
def lexLt_cons (x y:Int) (xs ys:List Int):lexLt (x :: xs) (y :: ys)=if x=y then lexLt xs ys else decide (x<y):=rfl
def uX:lexLt [] []=false:=rfl
def sH (y:Int) (ys:List Int):lexLt [] (y :: ys)=true:=rfl
def sI (x:Int) (xs:List Int):lexLt (x :: xs) []=false:=rfl
def z0 (A:Around) (s:Shared) (a:Int) (t:Tok) (c:Int) (u:Tok):∃ e,SeqAt.EqAt A s (.int a t) (.int c u) e/\(e=true↔a=c) :=
 ⟨(a == c),SeqAt.EqAt.int_int a t c u,by simp⟩
def z5 (A:Around) (s:Shared) (a:Int) (t:Tok) (c:Int) (u:Tok) (prog:Program) (w:World) (E:Value->Shared->Prop) (Q:Value->Shared->Prop) (h:Q (.bool (decide (a<c))) s) :
 wpAny (model prog w) A (richCompare .Lt (.int a t) (.int c u)) Q E s :=
 (PyProof.Rows.lt_int h:wpAny (model prog w) A (compareOp .Lt (.int a t) (.int c u)) Q E s)
section
open PySem.SeqAt
open PySem.AutoSeq1 (wpAny_loadPart')
open PySem.MeetsSeq PySem.MeetsSeq2 PySem.MeetsSeq3
def uY (l b:Addr) (items z:Array Value) (n n2:Nat) (dd ba:Option Addr) (sl bb:Array (Option Value)) (ns ms:List Int) (hi:IntsAre items.toList ns) (hj:IntsAre z.toList ms) :
 Meets (Builtin.«tuple.__lt__» ⟨[.ref l,.ref b],[]⟩)
  (λ_ R s=>s.heap.get? l=some { cls:=.type "tuple",dict:=dd,data:=.seq items n,slots:=sl }/\s.heap.get? b=some { cls:=.type "tuple",dict:=ba,data:=.seq z n2,slots:=bb } /\
   R (.ok (.ret (.bool (lexLt ns ms)))) s) :=
 .of_wp λprog w A R s h=>by
  obtain⟨hp,g,d,tk,os⟩:=s;obtain⟨hl,hb,h⟩:=h;have f2:=uj;have z1:items.size=ns.length:=by rw[<- hi.length];simp
  have z2:z.size=ms.length:=by rw[<- hj.length];simp
  wp_walk using mj hl,mj hb,wpAny_forIn_list _ (λrest b s'=>b.1=none/\s'=⟨hp,g,d,tk,os⟩/\∃ (vs ws:List Value) (G J:List Int),rest=vs.zip ws /\
   IntsAre vs G/\IntsAre ws J/\G.length+z.size=J.length+items.size/\R (.ok (.ret (.bool (lexLt G J)))) ⟨hp,g,d,tk,os⟩) _
  case turn =>
   rintro ⟨y,x⟩ rest b s' ⟨Y,rfl,vs,ws,G,J,hz,av,L,hlen,M⟩;cases av with
   | nil=>rw[List.zip_nil_left]at hz;cases hz
   | cons a t aw =>
    cases L with
    | nil=>rw[List.zip_nil_right]at hz;cases hz
    | cons c u a_ =>
     rw[List.zip_cons_cons]at hz
     injection hz with bc hrest
     injection bc with hy hx
     subst hy hx;rw[lexLt_cons]at M;simp only[aF4]at hlen;obtain⟨e,he,U⟩:=z0 A.in1 ⟨hp,g,d,tk,os⟩ a t c u;refine aEz (he prog w _ _ ?_);cases e with
     | true =>
      rw[da (U.mp rfl)]at M
      wp_walk
      exact⟨rfl,rfl,_,_,_,_,hrest,aw,a_,by omega,M⟩
     | false =>
      rw[bB (λq=>absurd (U.mpr q) aFO)]at M;have bf:=z5 A.in1 ⟨hp,g,d,tk,os⟩ a t c u prog w
      wp_walk using bf
      exact⟨_,rfl,by simpa using M⟩
  case fin =>
   rintro ⟨b1,b2⟩ s' ⟨Y,rfl,vs,ws,G,J,hz,av,L,hlen,M⟩;simp only at Y;subst Y;have hv:lexLt G J=decide (items.size<z.size):=by
    cases av with
    | nil =>
     cases L with
     | nil =>
      simp only[oi]at hlen;rw[uX];exact(aFW (by omega)).symm
     | cons c u hw =>
      simp only[oi,aF4]at hlen;rw[sH];exact(aFX (by omega)).symm
    | cons a t hv =>
     cases L with
     | nil =>
      simp only[oi,aF4]at hlen;rw[sI];exact(aFW (by omega)).symm
     | cons c u hw =>
      rw[List.zip_cons_cons]at hz;cases hz
   rw[hv]at M
   wp_walk
   exact⟨_,rfl,by simpa[Builtin.Tuple.tupleCompareSizes]using M⟩
  case h =>
   exact⟨rfl,rfl,items.toList,z.toList,ns,ms,rfl,hi,hj,by omega,h⟩
end
section
variable {prog:Program} {w:World} {A:Around} {E:Value->Shared->Prop} {s:Shared}
def lt_tupInts {l b:Addr} {items z:Array Value} {ns G:List Int} {Q:Value->Shared->Prop} (hl:IsTup s.heap l items) (hb:IsTup s.heap b z) (hi:IntsAre items.toList ns) (hj:IntsAre z.toList G)
 (hu:A.units<cLine) (h:Q (.bool (lexLt ns G)) s):wpAny (model prog w) A (compareOp .Lt (.ref l) (.ref b)) Q E s:=by
 obtain⟨⟨cls,dd,data,sl⟩,ho,hc,n,hd⟩:=id hl;obtain⟨⟨av,U,data2,Y⟩,J,L,n2,M⟩:=id hb;simp only at hc hd L M;subst hc hd L M;exact vi (op:=.Lt) ⟨_,ho,rfl⟩ ⟨_,J,rfl⟩ vo vj (ux _ _) (uY l b items z n n2 dd U sl Y ns G hi hj)
  ⟨ho,J,show Value.bool (lexLt ns G)≠Value.notImplemented/\Q (.bool (lexLt ns G)) s from ⟨(λx=>nomatch x),h⟩⟩ hu
def sIx (n d:Nat):Option Int->Nat
 | none=>d
 | some v=>if v<0 then (v+(n:Int)).toNat else min v.toNat n
def sIx_none (n d:Nat):sIx n d none=d:=rfl
def sIx_nat (n d k:Nat):sIx n d (some (k:Int))=min k n:=by
 show (if (k:Int)<0 then ((k:Int)+(n:Int)).toNat else min (k:Int).toNat n)=min k n;rw[bB (by omega),Int.toNat_natCast]
end
end HT
namespace L2
open PySem PySem.Spec PyProof.Rows
abbrev TO:=St->Hp->(Option Int->Hp->Prop)->Prop
def PO (X:Cx) (e:Option Expr) (t:TO):Prop :=
 ∀ (pins:List (Addr×Obj)) (s:Shared) (σ:St) (H:Hp) (Q:Option Int->Hp->Prop),Inv X pins σ H s->t σ H Q ->
  wpAny (model X.prog X.w) X.A (evalPart e X.env) (λu s'=>∃ o H',Inv X pins σ H' s'/\IsPart u o/\Q o H') X.xe s
def aB9:TO:=λ_ H Q=>Q none H
def aDr (t:TE):TO:=fun σ H Q=>t σ H λx H1=>∃ i,x=.int i/\Q (some i) H1
def jS {ns:List Int}:∀ {us:List Value},Vals (ns.map V.int) us->IntsAre us ns:=by
 induction ns with
 | nil=>intro us r;rw[qy]at r;cases r;exact .nil
 | cons n ns z =>
  intro us r;rw[aF0]at r;cases r with
  | cons G J =>
   obtain⟨t,e⟩:=G;subst e;exact .cons n t (z J)
section
variable {X:Cx} {e:Expr} {te:TE} {lo hi:Option Expr} {tl th:TO} {pos p2:Pos}
def fY:PO X none aB9:=by
 intro pins s σ H Q I h;rw[evalPart_none];exact aFA ⟨none,H,I,.none,h⟩
def fZ (h:PE X e te):PO X (some e) (aDr te):=by
 intro pins s σ H Q I hw;rw[evalPart_some];refine thn (h pins s σ H _ I hw) λu L ⟨x,H1,z,G,J⟩=>?_;obtain⟨i,rfl,q⟩:=J;obtain⟨t,rfl⟩:=G;exact⟨some i,H1,z,.int i t,q⟩
def SlR (X:Cx) (r:V->Option Int->Option Int->Hp->VK->Prop):Prop :=
 ∀ (pins:List (Addr×Obj)) (s:Shared) (σ:St) (H:Hp) (x:V) (v z G:Value) (lo hi:Option Int) (J:Addr) (Q:VK),Inv X pins σ H s->RelV x v->s.heap.IsSliceOf J z G .none->IsPart z lo->IsPart G hi->r x lo hi H Q ->
  ∃ T id,typeLookup (.type T) "__getitem__"=pure (some (.builtin id))/\s.TypeIs v T/\wpAny (model X.prog X.w) X.A (getItem v (.ref J)) (EP X pins σ Q) X.xe s
def tSl (r:V->Option Int->Option Int->Hp->VK->Prop) (te:TE) (tl th:TO):TE:=fun σ H Q=>te σ H λx H1=>tl σ H1 λl H2=>th σ H2 λu z=>r x l u z Q
def eM {r:V->Option Int->Option Int->Hp->VK->Prop} (M:SlR X r) (he:PE X e te) (U:PO X lo tl) (Y:PO X hi th):PE X (.Subscript e (.Slice lo hi none p2) pos) (tSl r te tl th):=by
 intro pins s σ H Q I h;refine Subscript_ (thn (he pins s σ H _ I h) λv s1 ⟨x,H1,I1,r1,q1⟩=>?_);refine wpAny_Slice (thn (U pins s1 σ H1 _ I1 q1) λG s2 ⟨l,H2,I2,pl,q2⟩=>thn (Y pins s2 σ H2 _ I2 q2) λJ z ⟨u,L,I3,pu,q3⟩=>?_);rw[evalPart_none];refine aFA ?_;have I4:Inv X pins σ L { z with heap:=z.heap.push { cls:=.type "slice",data:=.fields #[G,J,.none] } }:=I3.kept (t':=z.toks) λb ob q=>aFC _ q;obtain⟨T,id,hT,ht,hg⟩:=M pins { z with heap:=z.heap.push { cls:=.type "slice",data:=.fields #[G,J,.none] } } σ L x v G J l u z.heap.objs.size Q I4 r1 (Heap.IsSliceOf.new ..) pl pu q3;show wpAny (model X.prog X.w) X.A (subscriptTail e (.Slice lo hi none p2) v (.ref z.heap.objs.size)) (EP X pins σ Q) X.xe { z with heap:=z.heap.push { cls:=.type "slice",data:=.fields #[G,J,.none] } };exact tail_any (ops:=[.ref z.heap.objs.size,v]) ht hT hg (by with_unfolding_all rfl)
def iE (xs:List V) (lo hi:Option Int):List V:=(xs.drop (HT.sIx xs.length 0 lo)).take (HT.sIx xs.length xs.length hi - HT.sIx xs.length 0 lo)
def zL (xs:List V) (lo hi:Option Int):(iE xs lo hi).length<=xs.length:=by
 unfold iE;rw[aFR,vg];omega
end
def ixN (n:Nat) (i:Int):Option Nat:=if 0<=i then (if i<n then some i.toNat else none)else if -(n:Int)<=i then some (i+n).toNat else none
def atI {z:Type} (xs:List z) (i:Int):Option z:=(ixN xs.length i).bind λj=>xs[j]?
def T7 {n:Nat} {i:Int} {j:Nat} (h:ixN n i=some j):seqIndex? i n=some j/\j<n/\-(n:Int)<=i/\i<n:=by
 unfold ixN at h
 by_cases h0:0<=i
 .rw[da h0]at h
  by_cases h1:i<n
  .rw[da h1]at h;have e:i.toNat=j:=jk h;exact⟨by rw[seqIndex_of h0 h1,e],by omega,by omega,h1⟩
  .rw[bB h1]at h;cases h
 .rw[bB h0]at h
  by_cases h1:-(n:Int)<=i
  .rw[da h1]at h;have e:(i+n).toNat=j:=jk h;exact⟨by rw[xa (by omega) h1,e],by omega,h1,by omega⟩
  .rw[bB h1]at h;cases h
def xL {z:Type} {xs:List z} {i:Int} {v:z} (h:atI xs i=some v):∃ j,seqIndex? i xs.length=some j/\xs[j]?=some v/\j<xs.length/\-(xs.length:Int)<=i/\i<xs.length:=by
 unfold atI at h;cases e:ixN xs.length i with
 | none=>rw[e]at h;cases h
 | some j =>
  rw[e]at h;obtain⟨h1,h2,h3,h4⟩:=T7 e;exact⟨j,h1,h,h2,h3,h4⟩
def gL {z:Type} {xs:List z} {j:Nat} {v:z} (h:xs[j]?=some v):atI xs (j:Int)=some v:=by
 have hj:j<xs.length:=(aFd.mp h).1;have e:ixN xs.length (j:Int)=some j:=by
  unfold ixN;rw[da (by omega),da (by omega)];simp
 unfold atI;rw[e];exact h
def nS {z:Type} (xs:List z) (v:z):atI (xs++[v]) (-1)=some v:=by
 have G:(xs++[v]).length=xs.length+1:=by simp
 have e:ixN (xs++[v]).length (-1)=some xs.length:=by
  unfold ixN;rw[G,bB (by decide),da (by omega)]
  congr 1
  omega
 unfold atI;rw[e];show (xs++[v])[xs.length]?=some v;simp
def aBa (b:Expr):Prop:=∀ o i,subscripted b false o i=operate [o,i] (getItem o i)
def IxR (X:Cx) (r:R2):Prop :=
 ∀ (value slice:Expr) (pins:List (Addr×Obj)) (s:Shared) (σ:St) (H:Hp) (x y:V) (v u:Value) (Q:VK),Inv X pins σ H s->RelV x v->RelV y u->r x y H Q ->
  subscripted slice false v u=operate [v,u] (getItem v u)->wpAny (model X.prog X.w) X.A (subscriptTail value slice v u) (EP X pins σ Q) X.xe s
def MtR (X:Cx) (id:String) (r:V->List V->Hp->VK->Prop):Prop :=
 ∀ (pins:List (Addr×Obj)) (s:Shared) (σ:St) (H:Hp) (x:V) (xs:List V) (v:Value) (us:List Value) (Q:VK),Inv X pins σ H s->RelV x v->Vals xs us->r x xs H Q ->
  wpAny (model X.prog X.w) X.A (call (.builtin id) (v :: us)) (EP X pins σ Q) X.xe s
section
variable {X:Cx} {a b:Expr} {ta tb:TE} {pos:Pos}
def IxR.or {r z:R2} (h:IxR X r) (h':IxR X z):IxR X (λx y H Q=>r x y H Q\/z x y H Q):=by
 intro value slice pins s σ H x y v u Q I G J q L;rcases q with q | q
 .exact h value slice pins s σ H x y v u Q I G J q L
 .exact h' value slice pins s σ H x y v u Q I G J q L
def aX {r:R2} (z:IxR X r) (G:PE X a ta) (J:PE X b tb) (L:aBa b):PE X (.Subscript a b pos) (tOp r ta tb):=by
 intro pins s σ H Q I h;exact Subscript_ (aCs G J I h λv u M x y H2 U Y ry q=>z a b pins M σ H2 x y v u Q U Y ry q (L _ _))
def aBb (K:PySem.W.Frag):R2:=λx y H Q=>∃ p xs i v,x=.ref p/\y=.int i/\SqL K H p xs/\atI xs i=some v/\Q v H
def aCu (K:PySem.W.Frag):R2:=λx y H Q=>∃ p xs i v,x=.ref p/\y=.int i/\SqT K H p xs/\atI xs i=some v/\Q v H
def aDs:R2:=λx y H Q=>∃ z i c,x=.str z/\y=.int i/\z.length<=sizeLine/\atI z.cps.toList i=some c/\Q (.str ⟨#[c]⟩) H
def aW:IxR X (aBb X.K):=by
 intro value slice pins s σ H x y v u Q I M U h J;obtain⟨p,xs,i,z,rfl,rfl,Y,he,q⟩:=h;cases M;obtain⟨t,rfl⟩:=U;obtain⟨its,r,pl,hz⟩:=I.list Y;obtain⟨j,h1,h2,h3,h4,h5⟩:=xL he;obtain⟨w,L,G⟩:=r.get h2;have hl:=r.length;have hn:=pC;have fin:EP X pins σ Q w s:=⟨z,H,I,G,q⟩
 by_cases h0:0<=i
 .have hj:i.toNat=j:=by
   rw[seqIndex_of h0 h5]at h1;exact jk h1
  exact item_listR pl.isList h0 (by omega) (by rw[hj];simpa using L) fin J
 .have hj:(i+(its.toArray.size:Int)).toNat=j:=by
   rw[xa (by omega) h4]at h1;rw[aFJ,<- hl];exact jk h1
  exact subscriptTail_builtinR (x:=w) pl.isList.typeIs slot_list_getitem.lookup
   (wpAny_getItem_list_neg (Q:=λr s'=>r=w/\EP X pins σ Q r s') pl.isList (by omega) (by rw[aFJ] <;> omega) (by omega) (by rw[hj];simpa using L) ⟨rfl,fin⟩) J
def mY:IxR X (aCu X.K):=by
 intro value slice pins s σ H x y v u Q I J L h M;obtain⟨p,xs,i,z,rfl,rfl,U,he,q⟩:=h;cases J;obtain⟨t,rfl⟩:=L;obtain⟨its,r,pl,hz⟩:=I.tuple U;obtain⟨j,h1,h2,h3,h4,h5⟩:=xL he;obtain⟨w,Y,G⟩:=r.get h2;have hl:=r.length;have hn:=pC;have fin:EP X pins σ Q w s:=⟨z,H,I,G,q⟩;exact subscriptTail_builtinR (x:=w) pl.typeIs slot_tuple_getitem.lookup
  (getItem_tuple (j:=j) (Q:=λr s'=>r=w/\EP X pins σ Q r s') pl (by omega) (by omega) (by rw[aFJ,<- hl];exact h1) (by simpa using Y) ⟨rfl,fin⟩) M
def aCv:IxR X aDs:=by
 intro value slice pins s σ H x y v u Q I G J h L;obtain⟨z,i,c,rfl,rfl,hz,he,q⟩:=h;obtain⟨t,rfl⟩:=G;obtain⟨t',rfl⟩:=J;obtain⟨j,h1,h2,h3,h4,h5⟩:=xL he;have M:z.cps.toList.length=z.length:=by simp[Str.length]
 rw[M]at h1 h4 h5;have Y:=pC;exact tail_any (typeIs_str s z t) slot_str_getitem.lookup (getItem_str (c:=c) (by
  have e1:decide (i < -(2 ^ 63:Int))=false:=aFW (by omega);have U:decide (i≥2 ^ 63)=false:=aFW (by omega);rw[e1,U,wx]) (by rw[h1];simpa using h2) ⟨.str ⟨#[c]⟩,H,I.tok _,⟨_,rfl⟩,q⟩) L
def rIx (K:PySem.W.Frag):R2:=λx y H Q=>aBb K x y H Q\/aCu K x y H Q\/aDs x y H Q
def aCw:IxR X (rIx X.K):=aW.or (mY.or aCv)
def M9 (its:List Value) (n j:Nat) (u:Value):Obj.mapSeq (·.setIfInBounds j u) { cls:=.type "list",data:=.seq its.toArray n }={ cls:=.type "list",data:=.seq (its.set j u).toArray n }:=by
 simp[Obj.mapSeq]
def Inv.lst {pins:List (Addr×Obj)} {σ:St} {H:Hp} {s:Shared} {p:Addr} {xs:List V} (I:Inv X pins σ H s) (h:H p=some (.lst xs)) :
 ∃ (its:List Value) (n:Nat),Vals xs its/\s.heap.get? p=some { cls:=.type "list",data:=.seq its.toArray n }/\xs.length<=sizeLine:=by
 obtain⟨z,its,n,r,e⟩:=I.hok p _ h;exact⟨its,n,r,e,z⟩
def Inv.lstUpd {pins:List (Addr×Obj)} {σ:St} {H:Hp} {s:Shared} {p:Addr} {xs ys:List V} {its its':List Value} {n z:Nat} {f:Obj->Obj} (I:Inv X pins σ H s) (h:H p=some (.lst xs))
 (J:s.heap.get? p=some { cls:=.type "list",data:=.seq its.toArray n }) (G:f { cls:=.type "list",data:=.seq its.toArray n }={ cls:=.type "list",data:=.seq its'.toArray z }) (r:Vals ys its') (hz:ys.length<=sizeLine) (t:Nat) :
 Inv X pins σ (upd H p (.lst ys)) { s with heap:=s.heap.update p f,toks:=t }:=by
 have e:(s.heap.update p f).get? p=some { cls:=.type "list",data:=.seq its'.toArray z }:=by
  rw[aFT f J (by rw[G] <;> rfl),G]
 refine I.write (x:=p) (e:=p) (by rw[h];trivial) (.inl rfl) (λb u L q=>(aFG _ _ (jh L)).trans q) ⟨_,e⟩ ?_;exact⟨hz,its',z,r,e⟩
def aDt:V->V->V->Hp->(Hp->Prop)->Prop:=λo i v H Q=>∃ p xs k j,o=.ref p/\i=.int k/\H p=some (.lst xs)/\ixN xs.length k=some j/\Q (upd H p (.lst (xs.set j v)))
def zM:aDi X aDt:=by
 intro pins s σ H o i v ov iv u Q I U Y rv h;obtain⟨p,xs,k,j,rfl,rfl,L,hj,q⟩:=h;cases U;obtain⟨t,rfl⟩:=Y;obtain⟨its,n,r,z,hz⟩:=I.lst L;obtain⟨h1,h2,h3,h4⟩:=T7 hj;have G:=r.length;have hn:=pC;have M:Inv X pins σ (upd H p (.lst (xs.set j v))) { s with heap:=s.heap.update p (Obj.mapSeq (·.setIfInBounds j u)) } :=
  I.lstUpd L z (M9 its n j u) (r.set rv j) (by rw[List.length_set];exact hz) s.toks
 by_cases h0:0<=k
 .have J:k.toNat=j:=by
   rw[seqIndex_of h0 h4]at h1;exact jk h1
  exact PySem.W.ki_setAt z h0 (by omega) (by rw[aFJ,<- G];exact h4) (by rw[J];exact⟨_,M,q⟩)
 .have J:(k+(its.toArray.size:Int)).toNat=j:=by
   rw[xa (by omega) h3]at h1;rw[aFJ,<- G];exact jk h1
  exact PySem.W.ki_setBack z (by omega) (by rw[aFJ,<- G];exact h3) (by omega) (by rw[J];exact⟨_,M,q⟩)
def xM (lo hi:Option Int) (n:Nat):(sliceBounds lo hi none n).1=((HT.sIx n 0 lo:Nat):Int)/\(sliceBounds lo hi none n).2.1=((HT.sIx n n hi:Nat):Int)/\(sliceBounds lo hi none n).2.2=1:=by
 refine⟨?_,?_,rfl⟩
 .cases lo with
  | none=>simp[sliceBounds,HT.sIx]
  | some i =>
   simp only[sliceBounds,HT.sIx,Option.getD_none,show (1:Int) > 0 by decide,ud]
   by_cases h:i<0
   .simp only[h,ud] <;> omega
   .simp only[h,oy] <;> omega
 .cases hi with
  | none=>simp[sliceBounds,HT.sIx]
  | some i =>
   simp only[sliceBounds,HT.sIx,Option.getD_none,show (1:Int) > 0 by decide,ud]
   by_cases h:i<0
   .simp only[h,ud] <;> omega
   .simp only[h,oy] <;> omega
def uZ (its:List Value) (lo hi:Option Int):slicePick its.toArray lo hi none=((its.drop (HT.sIx its.length 0 lo)).take (HT.sIx its.length its.length hi - HT.sIx its.length 0 lo)).toArray:=by
 obtain⟨h1,h2,h3⟩:=xM lo hi its.toArray.size;unfold slicePick;rw[h1,h2,h3];simp only[sliceRange_one,pick_run,aFJ] <;> rfl
def aEd (K:PySem.W.Frag):V->Option Int->Option Int->Hp->VK->Prop:=λx lo hi H Q=>∃ a xs,x=.ref a/\SqL K H a xs/\∀ p,H p=none->Q (.ref p) (upd H p (.lst (iE xs lo hi)))
def gA:SlR X (aEd X.K):=by
 intro pins s σ H x v U Y lo hi sl Q I G J pl L h;obtain⟨a,xs,rfl,M,q⟩:=h;cases G;obtain⟨its,r,z,hz⟩:=I.list M;have hlen:=r.length;refine⟨"list",_,slot_list_getitem.lookup,z.isList.typeIs,?_⟩;refine wpAny_getItem_list_slice z.isList J pl L .none (by simp) ?_ (by rw[aFJ] <;> omega);rw[uZ,<- hlen];refine⟨.ref s.heap.objs.size,_,I.laid (t':=s.toks) (o:=.lst (iE xs lo hi)) (λb ob q=>aFC _ q) (ah _) ?_,rfl,q _ (I.hok.fresh (ah _))⟩;exact⟨jf (zL xs lo hi) hz,_,0,(r.drop (HT.sIx xs.length 0 lo)).take (HT.sIx xs.length xs.length hi - HT.sIx xs.length 0 lo),aFI _ rfl⟩
def nU:V->Bool
 | .non=>true
 | .bl _=>true
 | .int _=>true
 | .str _=>true
 | _=>false
def eqV:V->V->Bool
 | .non,.non=>true
 | .bl a,.bl b=>a == b
 | .bl a,.int b=>(if a then 1 else 0) == b
 | .int a,.bl b=>a == (if b then 1 else 0)
 | .int a,.int b=>a == b
 | .str a,.str b=>a == b
 | _,_=>false
def aCx {A:Around} {s:Shared} {y x:V} {u v:Value} (G:RelV y u) (z:RelV x v) (J:nU y=true) (fx:nU x=true):SeqAt.EqAt A s u v (eqV y x):=by
 cases y with
 | non =>
  cases G;cases x with
  | non=>cases z;exact SeqAt.EqAt.same _
  | bl b=>cases z;exact SeqAt.EqAt.none_bool b
  | int b=>obtain⟨t,rfl⟩:=z;exact SeqAt.EqAt.none_int b t
  | str b=>obtain⟨t,rfl⟩:=z;exact SeqAt.EqAt.none_str b t
  | _=>exact absurd (show false=true from fx) aFO
 | bl a =>
  cases G;cases x with
  | non=>cases z;exact SeqAt.EqAt.bool_none a
  | bl b=>cases z;exact SeqAt.EqAt.bool_bool a b
  | int b=>obtain⟨t,rfl⟩:=z;exact SeqAt.EqAt.bool_int a b t
  | str b=>obtain⟨t,rfl⟩:=z;exact SeqAt.EqAt.bool_str a b t
  | _=>exact absurd (show false=true from fx) aFO
 | int a =>
  obtain⟨t',rfl⟩:=G;cases x with
  | non=>cases z;exact SeqAt.EqAt.int_none a t'
  | bl b=>cases z;exact SeqAt.EqAt.int_bool a t' b
  | int b=>obtain⟨t,rfl⟩:=z;exact SeqAt.EqAt.int_int a t' b t
  | str b=>obtain⟨t,rfl⟩:=z;exact SeqAt.EqAt.int_str a t' b t
  | _=>exact absurd (show false=true from fx) aFO
 | str a =>
  obtain⟨t',rfl⟩:=G;cases x with
  | non=>cases z;exact SeqAt.EqAt.str_none a t'
  | bl b=>cases z;exact SeqAt.EqAt.str_bool a t' b
  | int b=>obtain⟨t,rfl⟩:=z;exact SeqAt.EqAt.str_int a t' b t
  | str b=>obtain⟨t,rfl⟩:=z;exact SeqAt.EqAt.str_str a t' b t
  | _=>exact absurd (show false=true from fx) aFO
 | _=>exact absurd (show false=true from J) aFO
def eqU (x:V) (u:Value):Bool:=match u with
 | .none=>eqV .non x
 | .bool b=>eqV (.bl b) x
 | .int i _=>eqV (.int i) x
 | .str z _=>eqV (.str z) x
 | _=>false
def z6 {x y:V} {u:Value} (r:RelV y u) (f:nU y=true):eqU x u=eqV y x:=by
 cases y with
 | non=>cases r;rfl
 | bl b=>cases r;rfl
 | int i=>obtain⟨t,rfl⟩:=r;rfl
 | str z=>obtain⟨t,rfl⟩:=r;rfl
 | _=>exact absurd (show false=true from f) aFO
def xN {x:V}:∀ {xs:List V} {us:List Value},Vals xs us->xs.all nU=true->us.any (eqU x)=xs.any λy=>eqV y x
 | _,_,.nil,_=>rfl
 | y :: xs,u :: us,.cons r t,f=>by
  rw[wy,jl]at f;rw[qi,qi,z6 r f.1,xN t f.2]
def sJ {A:Around} {s:Shared} {x:V} {v:Value} (z:RelV x v) (fx:nU x=true):∀ {xs:List V} {us:List Value},Vals xs us->xs.all nU=true->∀ u∈us,SeqAt.EqAt A s u v (eqU x u)
 | _,_,.nil,_=>λu hu=>by cases hu
 | y :: xs,u :: us,.cons r t,f=>λG hu=>by
  rw[wy,jl]at f;rcases aFe.mp hu with rfl | hu
  .rw[z6 r f.1];exact aCx r z f.1 fx
  .exact sJ z fx t f.2 G hu
def inV (x:V) (xs:List V):Bool:=xs.any λy=>eqV y x
def rIn (K:PySem.W.Frag) (z:Bool):R2:=λx y H Q=>∃ p xs,y=.ref p/\(SqL K H p xs\/SqT K H p xs)/\nU x=true/\xs.all nU=true/\Q (.bl (if z then !inV x xs else inV x xs)) H
def xO:OpR X (compareOp .NotIn) (rIn X.K true):=by
 intro pins s σ H x y v u Q I z G h;obtain⟨p,xs,rfl,hq,fx,fs,q⟩:=h;cases G;rcases hq with hq | hq
 .obtain⟨its,r,pl,hz⟩:=I.list hq;refine SeqAt.notIn_listAt (eqU x) pl.isList (λw hw=>sJ z fx r fs w (by simpa using hw)) ⟨.bl _,H,I,rfl,?_⟩;rw[show its.toArray.any (eqU x)=its.any (eqU x)by simp,xN r fs];exact q
 .obtain⟨its,r,pl,hz⟩:=I.tuple hq;refine SeqAt.notIn_tupleAt (eqU x) pl (λw hw=>sJ z fx r fs w (by simpa using hw)) ⟨.bl _,H,I,rfl,?_⟩;rw[show its.toArray.any (eqU x)=its.any (eqU x)by simp,xN r fs];exact q
def aL:gY X (.builtin "len") (λxs H Q=>∃ p ys,xs=[.ref p]/\(SqL X.K H p ys\/SqT X.K H p ys)/\Q (.int ys.length) H):=by
 intro pins s σ H xs us Q I r h;obtain⟨p,ys,rfl,hq,q⟩:=h;obtain⟨u,rfl,G⟩:=kJ r;cases G;have J:=pC;rcases hq with hq | hq
 .obtain⟨its,z,pl,hz⟩:=I.list hq;have hlen:=z.length;exact Calls.call_len_list pl.isList (by simp only[aFJ] <;> omega) ⟨.int ys.length,H,I.tok _,⟨s.toks+1,by rw[aFJ,hlen]⟩,q⟩
 .obtain⟨its,z,pl,hz⟩:=I.tuple hq;have hlen:=z.length;exact len_tuple pl (by simp only[aFJ] <;> omega) ⟨.int ys.length,H,I.tok _,⟨s.toks+1,by rw[aFJ,hlen]⟩,q⟩
def jT:gY X (.type "list") (λxs H Q=>∃ p ys,xs=[.ref p]/\(SqL X.K H p ys\/SqT X.K H p ys)/\∀ l,H l=none->Q (.ref l) (upd H l (.lst ys))):=by
 intro pins s σ H xs us Q I r h;obtain⟨p,ys,rfl,hq,q⟩:=h;obtain⟨u,rfl,L⟩:=kJ r;cases L;have fin:∀ (its:List Value),Vals ys its->ys.length<=sizeLine->∀ (h':Heap) (c':Nat),(∀ b o',s.heap.get? b=some o'->h'.get? b=some o') ->
  h'.get? s.heap.objs.size=some { cls:=.type "list",dict:=none,data:=.seq its.toArray c',slots:=#[] }->EP X pins σ Q (.ref s.heap.objs.size) { s with heap:=h' }:=λits z hz h' c' kp e =>
  ⟨.ref s.heap.objs.size,_,I.laid (t':=s.toks) kp (ah _) (show ObjOk X.prog X.w _ h' _ (.lst ys) from ⟨hz,its,c',z,e⟩),rfl,q _ (I.hok.fresh (ah _))⟩
 rcases hq with hq | hq
 .obtain⟨its,z,pl,hz⟩:=I.list hq;have hlen:=z.length;obtain⟨o,G,J,n,hd⟩:=pl.isList;exact call_list_seq p (.inl rfl) G J hd (λh' c' kp e=>fin its z hz h' c' kp e) (by simp only[aFJ] <;> omega)
 .obtain⟨its,z,pl,hz⟩:=I.tuple hq;have hlen:=z.length;obtain⟨o,G,J,n,hd⟩:=pl;exact call_list_seq p (.inr rfl) G J hd (λh' c' kp e=>fin its z hz h' c' kp e) (by simp only[aFJ] <;> omega)
def gB:gY X (.type "tuple") (λxs H Q=>∃ p ys,xs=[.ref p]/\((SqL X.K H p ys/\∀ l,H l=none->Q (.ref l) (upd H l (.tup ys)))\/(SqT X.K H p ys/\Q (.ref p) H))):=by
 intro pins s σ H xs us Q I r h;obtain⟨p,ys,rfl,h⟩:=h;obtain⟨u,rfl,L⟩:=kJ r;cases L;rcases h with ⟨z,q⟩ | ⟨z,q⟩
 .obtain⟨its,G,pl,hz⟩:=I.list z;have hlen:=G.length;refine call_tuple_list pl.isList (λh' kp=>?_) (by simp only[aFJ] <;> omega);have J:Inv X pins σ H { s with heap:=h' }:=I.kept (t':=s.toks) kp;have M:Inv X pins σ (upd H h'.objs.size (.tup ys)) { s with heap:=h'.push { cls:=.type "tuple",data:=.seq its.toArray } } :=
   J.laid (t':=s.toks) (λb o e=>aFC _ e) (ah _) (show ObjOk X.prog X.w _ _ _ (.tup ys) from ⟨hz,its,G,IsTup.new _ _⟩)
  exact⟨.ref h'.objs.size,_,M,rfl,q _ (J.hok.fresh (ah _))⟩
 .obtain⟨its,G,pl,hz⟩:=I.tuple z;exact call_tuple_same pl ⟨.ref p,H,I,rfl,q⟩
def tyV (K:PySem.W.Frag) (T:String) (x:V) (H:Hp):Prop:=match x with
 | .str _=>T="str"
 | .int _=>T="int"
 | .ref p=>(T="list"/\∃ xs,SqL K H p xs)\/(T="tuple"/\∃ o,K.lookup p=some o/\o.cls=.type "tuple"/\o.dict=none) \/
  (T="dict"/\((∃ kvs,H p=some (.dK kvs))\/∃ kvs,H p=some (.dT kvs)))\/(T="set"/\∃ S n,H p=some (.set S n))
 | _=>False
def z7 {pins:List (Addr×Obj)} {σ:St} {H:Hp} {s:Shared} {T:String} {x:V} {v:Value} (I:Inv X pins σ H s) (r:RelV x v) (ty:tyV X.K T x H) :
 s.TypeIs v T/\∀ a,v=.ref a->∃ L,s.heap.get? a=some L/\L.dict=none:=by
 cases x with
 | str z =>
  obtain⟨t,rfl⟩:=r;cases (show T="str" from ty);exact⟨typeIs_str s z t,λ_ e=>nomatch e⟩
 | int i =>
  obtain⟨t,rfl⟩:=r;cases (show T="int" from ty);exact⟨typeIs_int s i t,λ_ e=>nomatch e⟩
 | ref p =>
  cases r;rcases ty with ⟨rfl,xs,M⟩ | ⟨rfl,o,G,U,hd⟩ | ⟨rfl,G⟩ | ⟨rfl,S,n,G⟩
  .obtain⟨its,_,pl,_⟩:=I.list M;refine⟨pl.isList.typeIs,λa e=>?_⟩;cases e;obtain⟨o,n,e,c,hd,_⟩:=pl;exact⟨o,e,hd⟩
  .refine⟨⟨o,I.kIn p o G,U⟩,λa e=>?_⟩;cases e;exact⟨o,I.kIn _ o G,hd⟩
  .have z:∃ o,s.heap.get? p=some o/\o.ExactDict:=by
    rcases G with ⟨kvs,G⟩ | ⟨kvs,G⟩
    .obtain⟨_,_,_,_,o,_,_,e,ex,_⟩:=I.hok p _ G;exact⟨o,e,ex⟩
    .obtain⟨_,_,_,_,o,_,_,e,ex,_⟩:=I.hok p _ G;exact⟨o,e,ex⟩
   obtain⟨o,e,ex⟩:=z;refine⟨⟨o,e,ex.1⟩,λa J=>?_⟩;cases J;exact⟨o,e,ex.2.1⟩
  .obtain⟨o,_,_,_,e,ex,_⟩:=I.hok p _ G;refine⟨⟨o,e,ex.1⟩,λa J=>?_⟩;cases J;exact⟨o,e,ex.2.1⟩
 | _=>exact False.elim ty
def aEe (K:PySem.W.Frag) (T:String) (r:V->List V->Hp->VK->Prop) (to:TE):TE:=fun σ H Q=>to σ H λx H1=>tyV K T x H1/\r x [] H1 Q
def tBM (K:PySem.W.Frag) (T:String) (r:V->List V->Hp->VK->Prop) (to:TE) (t:TA):TE:=fun σ H Q=>to σ H λx H1=>tyV K T x H1/\t σ H1 λxs H2=>r x xs H2 Q
variable {o e:Expr} {es:List Expr} {to:TE} {t:TA} {name:Str} {apos aa:Pos} {T id:String} {r:V->List V->Hp->VK->Prop}
def N1 (U:PlainAttrs T) (slot:Slot T name id) (J:typeOf (.builtin id)=pure (.type "method_descriptor")) (Y:MtR X id r) (ho:PE X o to)
 (z:attributeBase o name X.env (eval o X.env)=eval o X.env:=by rfl) (G:(apos.endLine == aa.line)=true:=by rfl):PE X (.Call (.Attribute o name apos) [] [] aa) (aEe X.K T r to):=by
 intro pins s σ H Q I h;refine qj z G (thn (ho pins s σ H _ I h) λv s1 ⟨x,H1,L,M,ty,q1⟩=>?_);obtain⟨h1,h2⟩:=z7 L M ty;exact⟨T,id,U,slot,J,h1,h2,kz rfl (sj (Y pins s1 σ H1 x [] v [] Q L M .nil q1))⟩
def dF (pa:PlainAttrs T) (slot:Slot T name id) (M:typeOf (.builtin id)=pure (.type "method_descriptor")) (hm:MtR X id r) (ho:PE X o to) (ha:PA X (e :: es) t)
 (G:attributeBase o name X.env (eval o X.env)=eval o X.env:=by rfl)
 (L:((backTo aa (starEach (e :: es) X.env)).all (λx=>!x.1) && (backToKw aa (keywordEach [] X.env)).all (λx=>x.1.isSome)
  && decide ((e :: es).length+([]:List Keyword).length+(if ([]:List Keyword).isEmpty then 0 else 1)<30))=true:=by rfl)
 (J:(apos.endLine == aa.line)=true:=by rfl) (hs:starEach (e :: es) X.env=(false,eval e X.env) :: starEach es X.env:=by rfl) (z:(backTo aa (starEach es X.env)).any (·.1)=false:=by rfl) :
 PE X (.Call (.Attribute o name apos) (e :: es) [] aa) (tBM X.K T r to t):=by
 intro pins s σ H Q I h;refine wpAny_Call_method_late G L J rfl (thn (ho pins s σ H _ I h) λv s1 ⟨x,H1,U,Y,ty,q1⟩=>?_);obtain⟨h1,h2⟩:=z7 U Y ty;refine⟨T,id,pa,slot,M,h1,h2,?_⟩;have hA:=ha aa pins s1 σ H1 _ U q1;rw[hs]at hA ⊢;refine kz (by show (false || (backTo aa (starEach es X.env)).any (·.1))=false;rw[z] <;> rfl) (oa ?_);exact thn hA λus s2 ⟨vs,H2,I2,r2,q2⟩=>hm pins s2 σ H2 x vs v us Q I2 Y r2 q2
/- xs.append(e),list.index on a module's tuple .. are MtR facts of 06m -/
end
def MtM (X:Cx) (id:String) (r:V->List V->Hp->VK->Prop):Prop :=
 ∀ (pins:List (Addr×Obj)) (s:Shared) (σ:St) (H:Hp) (x:V) (xs:List V) (v:Value) (us:List Value) (Q:VK),Inv X pins σ H s->RelV x v->Vals xs us->r x xs H Q ->
  wpAny (model X.prog X.w) X.A (call (.builtin id) (v :: us)) (EP X pins σ Q) X.xe s
def Vals.one:∀ {x:V} {us:List Value},Vals [x] us->∃ u,us=[u]/\RelV x u
 | _,_,.cons r .nil=>⟨_,rfl,r⟩
def Vals.two {x y:V} {us:List Value} (h:Vals [x,y] us):∃ u v,us=[u,v]/\RelV x u/\RelV y v:=by
 cases h with
 | cons r h =>
  obtain⟨u,e,q⟩:=Vals.one h;exact⟨_,u,by rw[e],r,q⟩
def Vals.zero:∀ {us:List Value},Vals [] us->us=[]
 | _,.nil=>rfl
def Vals.dropLast {xs:List V} {us:List Value} (h:Vals xs us):Vals xs.dropLast us.dropLast:=by
 induction h with
 | nil=>exact .nil
 | cons r t z =>
  cases t with
  | nil=>exact .nil
  | cons q t'=>exact .cons r z
def Vals.rep {xs:List V} {us:List Value} (h:Vals xs us):∀ k:Nat,Vals (List.replicate k xs).flatten (List.replicate k us).flatten
 | 0=>.nil
 | k+1=>by
  rw[om,om,qr,qr];exact Vals.append h (Vals.rep h k)
def N2 {z:Type} (l:List z):l.eraseIdx (l.length - 1)=l.dropLast:=by
 induction l with
 | nil=>rfl
 | cons a r G =>
  cases r with
  | nil=>rfl
  | cons b r =>
   have e:(a :: b :: r).length - 1=((b :: r).length - 1)+1:=by
    have h1:(a :: b :: r).length=r.length+2:=rfl;have h2:(b :: r).length=r.length+1:=rfl;omega
   rw[e,List.eraseIdx_cons_succ,G]
   all_goals rfl
def vT (its:List Value):∀ (k:Nat) (z:List Value),
 List.foldl (λG J=>G++J) z.toArray (List.replicate k its.toArray)=(z++(List.replicate k its).flatten).toArray
 | 0,z=>by simp
 | k+1,z=>by
  have e:z.toArray++its.toArray=(z++its).toArray:=by simp
  have L:(z++its)++(List.replicate k its).flatten=z++(List.replicate (k+1) its).flatten:=by
   rw[om,qr,jq]
  rw[<- L,<- vT its k (z++its),<- e,om,aF2]
section
variable {X:Cx} {pins:List (Addr×Obj)} {σ:St} {H:Hp} {s:Shared} {l b:Addr} {xs ys zs:List V}
def Inv.lset {its its':List Value} {n:Nat} {f:Array Value->Array Value} {t':Nat} (I:Inv X pins σ H s) (z:H l=some (.lst xs))
 (e:s.heap.get? l=some { cls:=.type "list",data:=.seq its.toArray n }) (G:f its.toArray=its'.toArray) (J:Vals ys its') (hz:ys.length<=sizeLine) :
 Inv X pins σ (upd H l (.lst ys)) { s with heap:=s.heap.update l (Obj.mapSeq f),toks:=t' }:=by
 have q:=PySem.IsL.update e f;rw[G]at q;refine I.write (x:=l) (e:=l) (by rw[z];exact trivial) (.inl rfl) (λU u L M=>(aFG s.heap (Obj.mapSeq f) (jh L)).trans M) ⟨_,q⟩ ?_;exact⟨hz,its',_,J,q⟩
def Inv.lnew {its:List Value} {t':Nat} (I:Inv X pins σ H s) (z:Vals ys its) (hz:ys.length<=sizeLine) :
 Inv X pins σ (upd H s.heap.objs.size (.lst ys)) { s with heap:=s.heap.push { cls:=.type "list",data:=.seq its.toArray },toks:=t' } :=
 I.laid (λ_ _ q=>aFC _ q) (ah _) ⟨hz,its,0,z,aFI _ rfl⟩
def Inv.fresh (I:Inv X pins σ H s):H s.heap.objs.size=none:=I.hok.fresh (ah _)
def Inv.lstM (I:Inv X pins σ H s) (G:H l=some (.lst xs)):xs.length<=sizeLine/\∃ (its:List Value) (n:Nat),Vals xs its/\xs.length=its.length/\s.heap.get? l=some { cls:=.type "list",data:=.seq its.toArray n }:=by
 obtain⟨z,its,n,r,e⟩:=I.hok l _ G;exact⟨z,its,n,r,r.length,e⟩
def zN {n:Nat} (h:n<=sizeLine):Builtin.List.listTooLong n=false:=by
 unfold Builtin.List.listTooLong;exact aFW (by omega)
end
section
variable {X:Cx}
def aBc:V->List V->Hp->VK->Prop:=λx vs H Q=>∃ l xs y,x=.ref l/\vs=[y]/\H l=some (.lst xs)/\xs.length<sizeLine/\Q .non (upd H l (.lst (xs++[y])))
def bA:MtM X "list.append" aBc:=by
 intro pins s σ H x vs v us Q I J L h;obtain⟨l,xs,y,rfl,rfl,G,hz,q⟩:=h;cases J;obtain⟨u,rfl,M⟩:=L.one;obtain⟨z,its,n,r,U,e⟩:=I.lstM G;refine wc F.slot_list_append ⟨_,e,rfl⟩ F.entry_list_append (F.args_list_append_2 _ _) (PySem.list_append l its.toArray n u (by rw[aFJ];omega)) ⟨e,?_⟩;refine⟨.non,_,I.lset (its':=its++[u]) G e (by simp) (r.append (.cons M .nil)) ?_,rfl,q⟩;rw[aFK,kd];omega
def aBd:V->List V->Hp->VK->Prop:=λx vs H Q=>∃ l b xs zs,x=.ref l/\vs=[.ref b]/\H l=some (.lst xs)/\H b=some (.lst zs)/\xs.length+zs.length<=sizeLine/\Q .non (upd H l (.lst (xs++zs)))
def vU:MtM X "list.extend" aBd:=by
 intro pins s σ H x vs v us Q I M U h;obtain⟨l,b,xs,zs,rfl,rfl,L,Y,hz,q⟩:=h;cases M;obtain⟨u,rfl,ru⟩:=U.one;cases ru;obtain⟨z,its,n,r,hl,e⟩:=I.lstM L;obtain⟨z2,G,n2,r2,av,e2⟩:=I.lstM Y;have hsz:its.toArray.size+G.toArray.size<=sizeLine:=by rw[aFJ,aFJ];omega
 have J:¬ (!its.toArray.isEmpty && Builtin.List.listTooLong (its.toArray.size+G.toArray.size))=true:=by
  rw[zN hsz,wk];exact aFO
 refine wc F.slot_list_extend ⟨_,e,rfl⟩ F.entry_list_extend (F.args_list_extend_2 _ _)
  (AutoSeq1.list_extend_list_list_0 l its.toArray n b G.toArray n2 J (by rw[aFJ];omega) (by omega)) ⟨e,e2,?_⟩
 refine⟨.non,_,I.lset (its':=its++G) L e (by simp) (r.append r2) ?_,rfl,q⟩;rw[aFK];omega
def aEf:V->List V->Hp->VK->Prop:=λx vs H Q=>∃ l xs y,x=.ref l/\vs=[]/\H l=some (.lst xs)/\xs[xs.length - 1]?=some y/\Q y (upd H l (.lst xs.dropLast))
def N3:MtM X "list.pop" aEf:=by
 intro pins s σ H x vs v us Q I M U h;obtain⟨l,xs,y,rfl,rfl,L,Y,q⟩:=h;cases M;have G:=U.zero;subst G;obtain⟨z,its,n,r,hl,e⟩:=I.lstM L;obtain⟨u,hu,ru⟩:=r.get Y;have J:its.toArray[its.toArray.size - 1]?=some u:=by
  show its.toArray[its.length - 1]?=some u;rw[<- vp,<- hl];exact hu
 refine wc F.slot_list_pop ⟨_,e,rfl⟩ F.entry_list_pop (F.args_list_pop_1 _) (MeetsSeq.list_pop_last l its.toArray n u J (by rw[aFJ];omega)) ⟨e,?_⟩;refine⟨y,_,I.lset (its':=its.dropLast) L e ?_ r.dropLast ?_,ru,q⟩
 .show its.toArray.eraseIdxIfInBounds (its.toArray.size - 1)=its.dropLast.toArray;rw[aFJ,List.eraseIdxIfInBounds_toArray,N2]
 .rw[wd];omega
def aEg:R2:=λx y H Q=>∃ l b xs zs,x=.ref l/\y=.ref b/\H l=some (.lst xs)/\H b=some (.lst zs)/\xs.length+zs.length<=sizeLine/\∀ p,H p=none->Q (.ref p) (upd H p (.lst (xs++zs)))
def pF:OpR X (binaryOp .Add) aEg:=by
 intro pins s σ H x y v u Q I J L h;obtain⟨l,b,xs,zs,rfl,rfl,M,U,hz,q⟩:=h;cases J;cases L;obtain⟨z,its,n,r,hl,e⟩:=I.lstM M;obtain⟨z2,G,n2,Y,av,e2⟩:=I.lstM U;refine PySem.P.add_list e e2 ?_ (by rw[aFJ,aFJ];omega);have ea:its.toArray++G.toArray=(its++G).toArray:=by simp
 rw[ea];exact⟨.ref _,_,I.lnew (t':=s.toks) (r.append Y) (by rw[aFK];omega),rfl,q _ I.fresh⟩
def aEh:R2:=λx y H Q=>∃ l k xs,x=.ref l/\y=.int k/\H l=some (.lst xs)/\-(2 ^ 63)<=k/\k<2 ^ 63/\xs.length * k.toNat<=sizeLine /\
 ∀ p,H p=none->Q (.ref p) (upd H p (.lst (List.replicate k.toNat xs).flatten))
def aBe {z:Type} (xs:List z) (k:Nat):(List.replicate k xs).flatten.length=k * xs.length:=by
 induction k with
 | zero=>simp
 | succ k G=>rw[om,qr,aFK,G,Nat.succ_mul,xb]
def aCy:OpR X (binaryOp .Mult) aEh:=by
 intro pins s σ H x y v u Q I rx ry h;obtain⟨l,k,xs,rfl,rfl,hH,h1,h2,hz,q⟩:=h;cases rx;obtain⟨t,rfl⟩:=ry;obtain⟨z,its,n,r,hl,e⟩:=I.lstM hH;have hlen:its.toArray.size * k.toNat<=sizeLine:=by rw[aFJ,<- hl];exact hz
 have J:¬ its.toArray.size * k.toNat > (2 ^ 63 - 1) / 8:=by
  have:(sizeLine:Nat)<=(2 ^ 63 - 1) / 8:=by decide
  omega
 have L:¬ (!Builtin.List.listFitsIndex k)=true:=by
  rw[fitsIndex_both h1 h2];exact aFO
 have G:¬ Builtin.List.listTooLong (its.toArray.size * k.toNat)=true:=by
  rw[zN hlen];exact aFO
 have M:List.foldl (λY x2=>Y++x2) #[] (List.replicate (if its.toArray.isEmpty=true then 0 else k.toNat) its.toArray)=(List.replicate k.toNat its).flatten.toArray:=by
  have f0:∀ m:Nat,List.foldl (λY x2=>Y++x2) #[] (List.replicate m its.toArray)=(List.replicate m its).flatten.toArray:=λm=>by
   have:=vT its m [];rw[lj]at this;exact this
  rw[f0];cases its with
  | nil=>simp
  | cons a r'=>rw[bB (by simp)]
 refine wpAny_binaryOp_repeat_ref (T:="list") (U:="int") (by decide) ⟨_,e,rfl⟩ (λs'=>typeIs_int s' k t) noFill_list_mul F.fills_int_mul F.slot_int_rmul repeat_list F.slot_int_index.lookup
  (wc F.slot_int_rmul (typeIs_int s k t) F.entry_int_rmul (F.args_int_rmul_2 _ _) (int___rmul___int_list k t l its.toArray n)
   ⟨e,rfl,⟨_,e,rfl⟩,wc F.slot_list_mul ⟨_,e,rfl⟩ F.entry_list_mul (F.args_list_mul_2 _ _) (AutoListH.list___mul___list_int_3 l its.toArray n k t L J G) ⟨e,?_⟩⟩)
 rw[M];exact⟨.ref _,_,I.lnew (t':=s.toks) (r.rep k.toNat) (by rw[aBe,Nat.mul_comm];exact hz),rfl,q _ I.fresh⟩
end
end L2
namespace Att
open PySem PySem.W PySem.Calls PyProof.Rows
def qX {P:Params} {h:Heap}:∀ (ns:List Int) (vs:List Value),WellAll P h vs (ns.map WData.int)->IntsAre vs ns:=by
 intro ns
 induction ns with
 | nil =>
  intro vs w;rw[qy]at w;cases w;exact .nil
 | cons n ns z =>
  intro vs w;rw[aF0]at w;cases w with
  | cons a b =>
   cases a;exact .cons _ _ (z _ b)
def Z8 {l:OpenLaw} {n:Nat} (U:l.most=some n) {P:Params} {h:Heap} {args:List WData} {vals:List Value}
 (z:l.row.toRowW.claim.pre args=true) (J:WellAll P h vals args) :
 ∃ a vs ns,vals=[Value.ref a]/\args=[WData.list (ns.map WData.int)]/\h.get? a=some { cls:=.type "list",data:=.seq vs.toArray }/\IntsAre vs ns/\ns.length<=n:=by
 have L:WShape.hasAll [] args [.list .int]=true:=(pre_splitW z).1;have M:l.pre.holds [] { args:=args }=true:=(pre_splitW z).2;obtain⟨d,r,rfl,h1,h2⟩:=hasAllW_cons L;obtain rfl:=hasAllW_nil h2;obtain⟨xs,rfl,h3⟩:=hasW_list h1;obtain⟨ns,rfl⟩:=items_int h3;have hlen:ns.length<=n:=by
  unfold OpenLaw.pre at M;have h4:(WTm.not (.lt (.lit (.int (n:Int))) (.len (.arg 0)))).holds [] { args:=[.list (ns.map .int)] }=true:=by
   have h4:=(holds_andW M).1;rw[U]at h4;exact h4
  have h5:=condW_of h4 (w_not (w_lt w_lit (w_len_list (w_arg rfl))));rw[aFB]at h5;refine Nat.le_of_not_lt λq=>?_;have Y:(n:Int)<((ns.length:Nat):Int):=by omega
  first
   | (rw[aFX Y]at h5;exact absurd h5 (by decide))
   | (simp at h5;omega)
 cases J with
 | cons w1 w2 =>
  cases w2;cases w1 with
  | list ho G=>exact⟨_,_,ns,rfl,rfl,ho,qX ns _ G,hlen⟩
def Z9 (l:OpenLaw) (args:List WData):l.row.toRowW.claim.post args (.bool true) args=true :=
 postW_of (r:=l.row.toRowW) (X:=(true == true))
  (show WShape.has [] (.bool true) .bool=true by first | rfl | decide | simp[WShape.has,WShape.arms,WShape.armsAll])
  (show (WTm.eq .res (.lit (.bool true))).value [] { args:=args,res:=some (.bool true),after:=args }=some (.bool (true == true)) from w_eq_bool (w_res rfl) w_lit) rfl
def attach_call {l:OpenLaw} {n:Nat} {q:Program} {loose:List Str} {XP:(Str->Option Value)->Heap->Prop} {YP:World->Heap->Prop} {d:DefRec}
 (hn:l.most=some n) (aw:d.params.defaults=[])
 (call:∀ (w:World) (J z:Shared) (mg mb:Str->Option Value) (M:Addr) (o:Obj) (pm cd L:Value) (a:Addr) (vs:List Value) (ns:List Int),
  Ground q loose [] XP w J mg mb z.heap->YP w z.heap ->
  z.heap.get? M=some o->o.data=.func (docDef d.name d.params d.body d.scope pm cd L)->z.heap.CodeRec cd d.name->mg d.name=some (.ref M) ->
  z.heap.get? a=some { cls:=.type "list",data:=.seq vs.toArray }->IntsAre vs ns->ns.length<=n->z.gens=#[] ->
  codeAny (model l.prog w) callerA (.call (.ref M) ⟨[.ref a],[]⟩) (λr s'=>r=.ok (.ret (.bool true))/\OldK z.heap s'.heap/\s'.os=z.os/\AllBare s'.gens) z) :
 WalkO q loose XP YP l.row.toRowW d [] (λf vs=>PySem.call f vs):=by
 intro w J z mg mb G Y M o pm cd L dV kV ho hd a_ hD ba hg args vals as U bc bf bb bg;obtain rfl:dV=.none:=Dflts.none hD aw;obtain rfl:kV=.none:=Dflts.noKw hD;obtain⟨a,vs,ns,rfl,rfl,av,hints,hlen⟩:=Z8 hn U bb;refine enter_call (mi (call w J z mg mb M o pm cd L a vs ns G Y ho (fd_plain hd) a_ ba av hints hlen hg) λr s' hq=>?_);obtain⟨rfl,h2,h3,h4⟩:=hq;exact⟨.inl ⟨.bool true,.bool true,[],rfl,λ_=>rfl,.bool true,Z9 l _,λ_=>⟨List.Pairwise.nil,λ_ hm=>(nomatch hm)⟩⟩,h2,h3,h4⟩
end Att
namespace L2
open PySem PySem.Spec PyProof.Rows
def pG:∀ {vs:List Value} {ns:List Int},IntsAre vs ns->Vals (ns.map V.int) vs
 | _,_,.nil=>.nil
 | _,_,.cons n t h=>.cons ⟨t,rfl⟩ (pG h)
def rG (s:Stmt) (j:Nat):Stmt:=match s with
 | .ClassDef _ _ _ body _ _ _ _ _ _ _=>body.getD j (.Pass ⟨0,0,0,0⟩)
 | _=>.Pass ⟨0,0,0,0⟩
def bS (s:Stmt):Arguments:=match s with
 | .FunctionDef _ a _ _ _ _ _ _ _ _=>a
 | _=>{ posonlyargs:=[],args:=[],vararg:=none,kwonlyargs:=[],kw_defaults:=[],kwarg:=none,defaults:=[] }
def bH (s:Stmt):List Stmt:=match s with
 | .FunctionDef _ _ b _ _ _ _ _ _ _=>b
 | _=>[]
def aH (s:Stmt):Scope:=match s with
 | .FunctionDef _ _ _ _ _ _ z _ _ _=>z
 | _=>{ kind:=.function,names:=[],isGenerator:=false,isCoroutine:=false }
abbrev CX0:CXT:=λ_ _ _ _ _ _=>False
abbrev E0:XK:=λ_ _ _=>False
def T8 {X:Cx}:iV CX0 X E0:=λ_ _ _ _ _ _ _ h=>h.elim
structure Fun (K:PySem.W.Frag) (x qual:Str) (st:Stmt) (f:Addr) (fd:FuncData):Prop where
 ex:∃ (oc:Value) (od:Option Addr) (kV doc pm:Value) (an:Option Addr) (cdv ct:Value) (osl:Array (Option Value)),
  fd=PySem.W.fnOf x qual (bS st) (bH st) (aH st) .none kV doc pm an cdv ct/\K.lookup f=some ⟨oc,od,.func fd,osl⟩/\PySem.W.codeIn K cdv qual=true
 kp:PySem.W.keepIn K (.ref f)=true
section
variable {P:Program} {w:World} {K:PySem.W.Frag} {mg:Str->Option Value} {base:Heap}
def Fun.ok {x qual:Str} {st:Stmt} {f:Addr} {fd:FuncData} {N ps:List Str} {k:Nat} {sp:Sp} (F:Fun K x qual st f fd) (S:FnScope N ps (aH st)) (len:∀ vs H Q E,sp vs H Q E->vs.length=ps.length)
 (G:∀ (z:Value) (A:Around) (outer:List Env) (s:Shared) (H:Hp) (vs:List V) (Q:VK) (E:XK),Room k (A.deeper (envOfC qual (aH st) s.heap.objs.size f z))->sp vs H Q E ->
  ∃ t,PSs (gK CX0 P w K mg base N qual (aH st) f z A outer s H E).nox (bH st) t/\t { nx:=λ_ H'=>Q .non H',rt:=Q } (eL N vs) H):FnOk P w K mg base CX0 (k+1) f fd ps sp:=by
 obtain⟨oc,od,kV,M,pm,an,z,ct,U,rfl,lk,J⟩:=F.ex;refine y9 lk J S len λA outer s H vs Q E Y L=>?_;obtain⟨t,h,q⟩:=G z A outer s H vs Q E Y L;exact⟨t,h.nox,q⟩
def Fun.binds {x qual:Str} {st:Stmt} {f:Addr} {fd:FuncData} {ps:List Str} (F:Fun K x qual st f fd)
 (h:∀ (kV z pm:Value) (J:Option Addr) (G ct:Value) (us:List Value),us.length=ps.length->bindArgs (PySem.W.fnOf x qual (bS st) (bH st) (aH st) .none kV z pm J G ct) ⟨us,[]⟩=pure (ps.zip us)):Binds K fd ps []:=by
 obtain⟨U,od,kV,z,pm,J,G,ct,L,rfl,lk,M⟩:=F.ex;exact .all (h kV z pm J G ct)
def z8 {x qual:Str} {st:Stmt} {f:Addr} {M:Value} {od L:Option Addr} {J:Array (Option Value)} {kV G pm z ct:Value} (l:K.lookup f=some ⟨M,od,.func (PySem.W.fnOf x qual (bS st) (bH st) (aH st) .none kV G pm L z ct),J⟩)
 (c:PySem.W.codeIn K z qual=true) (k:PySem.W.keepIn K (.ref f)=true):Fun K x qual st f (PySem.W.fnOf x qual (bS st) (bH st) (aH st) .none kV G pm L z ct):=⟨⟨M,od,kV,G,pm,L,z,ct,J,rfl,l,c⟩,k⟩
end
def nV {A:Around} {k:Nat} (z:Room k A):A.units+1<cLine:=tu (Nat.add_le_add_left (by decide:1<=64) _) z.units
section
variable {X:Cx}
def pv (i:Nat) {x:Str} {pos:Pos} (G:X.N[i]?=some x:=by rfl) (J:Vis X.env.scope x:=by first | exact Or.inl rfl | exact Or.inr (Or.inl rfl) | exact Or.inr (Or.inr rfl)) (hd:(x == ("__debug__":Str))=false:=by decide)
 (z:(x == ("__classdict__":Str))=false:=by decide):PE X (.Name x pos) (aCn i):=w6 G J hd z
end
def aEi {A B:Prop} (h:B):if false=true then A else B:=by
 rw[bB aFO];exact h
def zO {c A B:Prop} [Decidable c] (z:c) (h:B):if (!decide c)=true then A else B:=by
 rw[aFX z];exact aEi h
def Same (H H':Hp):Prop:=∀ b o,H b=some o->H' b=some o
def Same.refl (H:Hp):Same H H:=λ_ _ h=>h
def Same.trans {H H1 H2:Hp} (a:Same H H1) (b:Same H1 H2):Same H H2:=λc o h=>b c o (a c o h)
def Same.free {H H':Hp} (e:Same H H') {l:Addr} (h:H' l=Option.none):H l=Option.none:=by
 cases q:H l with
 | none=>rfl
 | some o =>
  rw[e l o q]at h;cases h
def Same.seq {K:PySem.W.Frag} {H H':Hp} {a:Addr} {xs:List V} (e:Same H H') (h:SqL K H a xs):SqL K H' a xs:=by
 rcases h with (h | ⟨o,h⟩) | h
 .exact .inl (.inl (e _ _ h))
 .exact .inl (.inr ⟨o,e _ _ h⟩)
 .exact .inr h
def DK {z:Type}:Sem z->Prop
 | .pure _=>True
 | .raise _=>True
 | .unsupported _=>True
 | .finish _=>True
 | .rule _ k=>∀ u,DK (k u)
 | .at _ k=>∀ u,DK (k u)
 | .load _ _ k=>∀ o,DK (k o)
 | .update _ _ f k=>(∀ o,(f o).dict=o.dict/\(f o).cls=o.cls/\(o.isFreed=false->(f o).isFreed=false))/\∀ u,DK (k u)
 | .alloc _ k=>∀ a,DK (k a)
 | .loadIfAlive _ k=>∀ o,DK (k o)
 | .point _ k=>∀ u,DK (k u)
 | .register _ _=>True
 | .fresh k=>∀ t,DK (k t)
 | .ask k=>∀ x,DK (k x)
 | .choose _ _ k=>∀ n,DK (k n)
 | .os _ _ _=>False
 | .call _ _ _ _ _=>False
 | .handled _ k=>∀ h,DK (k h)
 | .newGen _ _=>False
 | .genState _ k=>∀ g,DK (k g)
 | .resume _ _ _ _=>False
 | .yield _ _ _ _=>False
 | .stack k=>∀ l,DK (k l)
 | .fork _ _=>False
 | .thread k=>∀ n,DK (k n)
 | .await _ _ _ _ _=>False
def DK.bind {L M:Type} {f:L->Sem M}:∀ {t:Sem L},DK t->(∀ a,DK (f a))->DK (t.bind f):=by
 intro t
 induction t with
 | pure a=>intro _ G;exact G a
 | raise e=>intro _ _;trivial
 | unsupported w=>intro _ _;trivial
 | finish e=>intro _ _;trivial
 | rule U k z=>intro h G u;exact z u (h u) G
 | «at» pos k z=>intro h G u;exact z u (h u) G
 | load a part k z=>intro h G o;exact z o (h o) G
 | update a part g k z=>intro h G;exact⟨h.1,λu=>z u (h.2 u) G⟩
 | alloc o k z=>intro h G a;exact z a (h a) G
 | loadIfAlive a k z=>intro h G o;exact z o (h o) G
 | point live k z=>intro h G u;exact z u (h u) G
 | register a k z=>intro _ _;trivial
 | fresh k z=>intro h G t;exact z t (h t) G
 | ask k z=>intro h G x;exact z x (h x) G
 | choose src n k z=>intro h G x;exact z x (h x) G
 | os Y live k z=>intro h _;exact h.elim
 | call c hd gd live k z=>intro h _;exact h.elim
 | handled own k z=>intro h G x;exact z x (h x) G
 | newGen c k z=>intro h _;exact h.elim
 | genState g k z=>intro h G x;exact z x (h x) G
 | resume g r live k z=>intro h _;exact h.elim
 | yield v gd live k z=>intro h _;exact h.elim
 | stack k z=>intro h G x;exact z x (h x) G
 | fork c k z=>intro h _;exact h.elim
 | thread k z=>intro h G x;exact z x (h x) G
 | await a take J live k z=>intro h _;exact h.elim
def HD (h0 h:Heap):Prop:=∀ b o,h0.get? b=some o->∃ o',h.get? b=some o'/\o'.dict=o.dict/\o'.cls=o.cls
def HD.refl (h:Heap):HD h h:=λb o e=>⟨o,e,rfl,rfl⟩
def HD.trans {a b c:Heap} (x:HD a b) (y:HD b c):HD a c:=λd o e=>by
 obtain⟨z,e1,d1,G⟩:=x d o e;obtain⟨J,L,d2,M⟩:=y d z e1;exact⟨J,L,d2.trans d1,M.trans G⟩
def HD.kept {h h':Heap} (k:∀ b o,h.get? b=some o->h'.get? b=some o):HD h h':=λb o e=>⟨o,k b o e,rfl,rfl⟩
def N4 {h:Heap} {a:Addr} {o:Obj} (e:h.get? a=some o):o.isFreed=false:=(Heap.get?_some_iff.mp e).2
def HD.update {h:Heap} {a:Addr} {f:Obj->Obj} (z:∀ o,(f o).dict=o.dict/\(f o).cls=o.cls/\(o.isFreed=false->(f o).isFreed=false)):HD h (h.update a f):=λb o e=>by
 by_cases q:b=a
 .subst q;exact⟨f o,aFT f e ((z o).2.2 (N4 e)),(z o).1,(z o).2.1⟩
 .exact⟨o,(jx _ _ _ _ q).trans e,rfl,rfl⟩
def aDu {J:Type} {M:Model} {L:PySem.Ctx} {h0:Heap}:∀ (t:Sem J),DK t->∀ {Q:J->Pos->Shared->Prop} {E:Value->Pos->Shared->Prop} {p:Pos} {s:Shared},HD h0 s.heap->Sem.wp M L t Q E p s ->
 Sem.wp M L t (λa p s'=>Q a p s'/\HD h0 s'.heap) (λe p s'=>E e p s'/\HD h0 s'.heap) p s:=by
 intro t
 induction t with
 | pure a=>intro _ Q E p s hd h;exact⟨h,hd⟩
 | raise e=>intro _ Q E p s hd h;exact⟨h,hd⟩
 | unsupported w=>intro _ Q E p s hd h;exact h
 | finish e=>intro _ Q E p s hd h;exact h
 | rule U k z=>intro d Q E p s hd h;exact z () (d ()) hd h
 | «at» pos k z=>intro d Q E p s hd h;exact z () (d ()) hd h
 | load a part k z=>intro d Q E p s hd h;obtain⟨o,e,h⟩:=h;exact⟨o,e,z o (d o) hd h⟩
 | update a part g k z=>intro d Q E p s hd h;exact⟨h.1,z () (d.2 ()) (s:={ s with heap:=s.heap.update a g }) (hd.trans (HD.update d.1)) h.2⟩
 | alloc o k z=>intro d Q E p s hd h;exact z _ (d _) (s:={ s with heap:=s.heap.push o }) (hd.trans (HD.kept λb o e=>aFC _ e)) h
 | loadIfAlive a k z=>intro d Q E p s hd h;exact z _ (d _) hd h
 | point live k z=>intro d Q E p s hd h;exact z () (d ()) hd h
 | register a k z=>intro _ Q E p s hd h;exact h
 | fresh k z=>intro d Q E p s hd h;exact z _ (d _) (s:={ s with toks:=s.toks+1 }) hd h
 | ask k z=>intro d Q E p s hd h;exact z _ (d _) hd h
 | choose src n k z=>intro d Q E p s hd h;exact⟨h.1,z _ (d _) (s:={ s with drawn:=s.drawn.bump src }) hd h.2⟩
 | os Y live k z=>intro d;exact d.elim
 | call c hd gd live k z=>intro d;exact d.elim
 | handled own k z=>intro d Q E p s hd h;exact z _ (d _) hd h
 | newGen c k z=>intro d;exact d.elim
 | genState g k z=>intro d Q E p s hd h;obtain⟨st,e,h⟩:=h;exact⟨st,e,z _ (d _) hd h⟩
 | resume g r live k z=>intro d;exact d.elim
 | yield v gd live k z=>intro d;exact d.elim
 | stack k z=>intro d Q E p s hd h;exact z _ (d _) hd h
 | fork c k z=>intro d;exact d.elim
 | thread k z=>intro d Q E p s hd h;exact z _ (d _) hd h
 | await a take G live k z=>intro d;exact d.elim
def kK {z:Type} {M:Model} {A:Around} {t:Sem z} {Q:z->Shared->Prop} {E:Value->Shared->Prop} {s:Shared} (d:DK t) (h:wpAny M A t Q E s) :
 wpAny M A t (λa s'=>Q a s'/\HD s.heap s'.heap) (λe s'=>E e s'/\HD s.heap s'.heap) s:=λG p hΓ=>aDu t d (HD.refl _) (h G p hΓ)
def zP (v:Value):DK (fieldsOf v):=by
 unfold fieldsOf;split
 .intro o;show DK (match o.data with | .fields vs=>pure vs | _=>unsupported _);split <;> trivial
 .trivial
def nW (v:Value) (i:Nat):DK (field v i):=DK.bind (zP v) λvs=>by
 split <;> trivial
def xP (f:Array Value->Array Value) (o:Obj):(Obj.mapFields f o).dict=o.dict/\(Obj.mapFields f o).cls=o.cls/\(o.isFreed=false->(Obj.mapFields f o).isFreed=false):=by
 obtain⟨c,d,data,z⟩:=o;cases data <;> first | exact⟨rfl,rfl,λh=>h⟩ | exact⟨rfl,rfl,λ_=>rfl⟩
def kM (v:Value) (i:Nat) (x:Value):DK (setField v i x):=by
 unfold setField;split
 .unfold updateField;intro o;show DK (match o.data with | .fields vs=>if i<vs.size then update _ (Obj.mapFields (·.setIfInBounds i x))else unsupported _ | _=>unsupported _);split
  .split
   .exact⟨xP _,λ_=>trivial⟩
   .trivial
  .trivial
 .trivial
def jU (e:Value) (f:Option Addr):DK (setFlight e f):=DK.bind (nW e 1) λtb=>by
 split
 .exact kM _ _ _
 .trivial
def kN:∀ l:List Env,DK (readyFrames l)
 | []=>trivial
 | env :: outer=>by
  unfold readyFrames;split
  .intro o;show DK (if ((o.slots.getD 3 none).isSome)=true then _ else _);split
   .trivial
   .refine DK.bind ?_ λimp=>DK.bind ?_ λback=>⟨λo=>⟨rfl,rfl,λh=>(by obtain⟨c,d,z,G⟩:=o;cases z <;> first | rfl | exact h)⟩,λ_=>kN outer⟩
    .unfold behindIsImport;split
     .trivial
     .split
      .trivial
      .exact DK.bind (nW _ _) λ_=>trivial
    .cases outer with
     | nil =>
      show DK (if (env.scope.isGenerator || env.scope.isCoroutine)=true then pure Value.none else underTheClaimsCaller >>= _);split
      .trivial
      .refine DK.bind ?_ λ_=>trivial;unfold underTheClaimsCaller;intro l
       first | trivial | (dsimp only;first | trivial | (split <;> trivial))
     | cons c r=>trivial
  .trivial
def N5 (env:Env):DK (PySem.frameOf env):=by
 unfold PySem.frameOf;refine DK.bind (t:=frameEnvs) (λl=>trivial) λl=>DK.bind ?_ λf=>?_
 .generalize l.dropWhile (·.frame != env.frame)=r;cases r with
  | nil=>trivial
  | cons e r=>exact DK.bind (kN _) λ_=>trivial
 .split <;> trivial
def nX (e:Value) (env:Env):DK (noteFrame e env):=by
 unfold noteFrame;split
 .refine DK.bind (nW _ _) λhead=>?_;have fin:∀ f,DK (do setField e 1 (<- EntryCells.newEntry head (<- PySem.frameOf env) .none (rawInt f) .none (<- entryPlaceOf f (head != .none)))):=λf=>by
   refine DK.bind (N5 env) λfr=>DK.bind ?_ λpl=>DK.bind ?_ λG=>kM _ _ _
   .unfold entryPlaceOf;intro l;refine DK.bind (t:=Sem.pure l) trivial λz=>?_;split <;> trivial
   .unfold EntryCells.newEntry newFields newObj
    first | (intro a;trivial) | (split <;> (first | trivial | (intro a;trivial))) | (repeat' (first | trivial | split | intro))
  split
  .refine DK.bind (nW _ _) λx=>?_;split
   .trivial
   .exact DK.bind (kM _ _ _) λ_=>fin _
  .exact fin _
 .trivial
def sK (env:Env) (e:Value):DK (leaving env e):=DK.bind (nX e env) λ_=>jU e none
def ObjOk.there {P:Program} {w:World} {H:Hp} {h:Heap} {a:Addr} {u:HO} (x:ObjOk P w H h a u):∃ o,h.get? a=some o:=by
 cases u with
 | lst xs=>obtain⟨_,_,_,_,e⟩:=x;exact⟨_,e⟩
 | tup xs=>obtain⟨_,_,_,o,e,_⟩:=x;exact⟨_,e⟩
 | dK kvs=>obtain⟨_,_,_,_,o,_,_,e,_⟩:=x;exact⟨_,e⟩
 | dT kvs=>obtain⟨_,_,_,_,o,_,_,e,_⟩:=x;exact⟨_,e⟩
 | set S n=>obtain⟨o,_,_,_,e,_⟩:=x;exact⟨_,e⟩
 | ins C dx fs=>obtain⟨_,_,_,e,_⟩:=x;exact⟨_,e⟩
 | own y=>exact x
 | xd fs=>obtain⟨_,⟨_,_,_,e,_⟩,_⟩:=x;exact⟨_,e⟩
 | rng lo hi=>obtain⟨_,_,_,e⟩:=x;exact⟨_,e⟩
 | frz z u=>obtain⟨e,_⟩:=x;exact⟨_,e⟩
 | tbl ps=>exact⟨_,show h.get? a=some _ from x⟩
 | met f y=>exact⟨_,show h.get? a=some _ from x⟩
 | ext φ=>obtain⟨_,e,_⟩:=x;exact e
def CXR (P:Program) (w:World):CXT:=λouter H s E G s'=>∃ (e:Addr) (cls a0:Value) (H':Hp) (B:Heap) (z:Obj),G=.ref e/\s'.os=s.os/\AllBare s'.gens/\Un (frs outer) [] H H' s.heap s'.heap/\HOk P w H' s'.heap/\H' e=none /\
 s'.heap.get? e=some z/\Heap.FlyingW B outer e cls a0 s'.heap/\(∀ b u,H' b=some u->∃ o,B.get? b=some o)/\(∀ b o,s.heap.get? b=some o->b∉frs outer->∃ o',B.get? b=some o')/\E cls z.dict H'
section
variable {X:Cx} {pins:List (Addr×Obj)} {σ:St} {H:Hp} {s:Shared} {E:XK}
structure Body (X:Cx):Prop where
 ex:X.ex=[]
 stk:X.stack=X.env :: X.outer
 fr:X.env.frame=some X.env.locals
def Body.mem (b:Body X) {c:Addr}:c∈frs X.stack↔c=X.env.locals\/c∈X.fs:=by
 rw[b.stk];unfold frs;rw[qc,b.fr,aFe];rfl
def T9 (Bd:Body X) (I:Inv X pins σ H s) {B:Heap} {e:Addr} {cls a0:Value} {oe:Obj} {h':Heap} (he:s.heap.get? e=some oe) (av:H e=none) (st:B.StaysIn s.heap) (cov:∀ b u,H b=some u->∃ o,B.get? b=some o)
 (olds:∀ b o,X.s₀.heap.get? b=some o->b∉X.fs->∃ o',B.get? b=some o') (fl:Heap.FlyingW B X.outer e cls a0 h') (L:s.heap.UpToSlots h') (hd:HD s.heap h') (q:E cls oe.dict H) :
 CXR X.prog X.w X.outer X.H₀ X.s₀ E (.ref e) { s with heap:=h' }:=by
 have M:B.StaysIn h':=fl.1;have nx:∀ b,b∉X.ex:=λb z=>by rw[Bd.ex]at z;cases z
 have bc:∀ b o,X.s₀.heap.get? b=some o->b≠X.env.locals:=λb o e=>aFY (aFS (aFH e) I.ok.above);have same:∀ b o o',B.get? b=some o->s.heap.get? b=some o'->h'.get? b=some o':=λb o o' e1 J=>by
  have:=st b o e1;rw[J]at this;cases this;exact M b _ e1
 have U:∀ b∈X.fs,∀ o,s.heap.get? b=some o->∀ vs,o.data≠.fields vs:=λb G o e vs=>by
  obtain⟨_,o',Y,aw⟩:=I.funs.mem G;rw[e]at Y;cases Y;exact aw vs
 obtain⟨a_,ba,de,ce⟩:=hd e oe he;refine⟨e,cls,a0,H,B,a_,rfl,I.os,I.bare,⟨λb o e1 n G _=>?_,λb o e1 n G _=>?_,λb o e1 n _=>I.base.free b o e1 n (nx b),λb o e1 _=>?_,I.base.tups,I.base.frzs,I.base.tbls⟩,λb u e1=>?_,av,ba,fl,cov,olds,by rw[de];exact q⟩
 .obtain⟨o',eB⟩:=olds b o e1 G;exact same b o' o eB (I.base.keep b o e1 n G (nx b))
 .obtain⟨sl,J⟩:=I.base.slot b o e1 n G (nx b);obtain⟨bb,e3⟩:=L b _ J (U b G _ J);exact⟨bb,e3⟩
 .by_cases G:b∈X.fs
  .obtain⟨o',J⟩:=I.base.there b o e1 (nx b);obtain⟨sl,e3⟩:=L b o' J (U b G o' J);exact⟨_,e3⟩
  .obtain⟨o',eB⟩:=olds b o e1 G;exact⟨o',M b o' eB⟩
 .refine(I.hok b u e1).stay (λc v hc J=>?_) (λ_ z=>z) λ_ _ z=>z;have tr:∃ o,B.get? c=some o:=by
   rcases hc with z | z
   .rw[z];exact cov b u e1
   .exact cov c _ z
  obtain⟨o,eB⟩:=tr;exact same c o v eB J
def zQ (Bd:Body X) (J:X.A.frames=some (X.env :: X.outer)) (I:Inv X pins σ H s) {L:Value} {s':Shared} {E':Value->Shared->Prop} (h:CXR X.prog X.w X.stack H s E L s') :
 wpAny (model X.prog X.w) X.A (leaving X.env L) (λ_ G=>CXR X.prog X.w X.outer X.H₀ X.s₀ E L G) E' s':=by
 obtain⟨e,cls,a0,H',B,oe,rfl,os,bare,un,hok,U,he,fl,cov,olds,q⟩:=h;have I':Inv X pins σ H' s':=I.call' os un hok bare λb z=>absurd z (by simp);have Y:Heap.FlyingW B (X.env :: X.outer) e cls a0 s'.heap:=by rw[Bd.stk]at fl;exact fl
 have w1:=wpAny_leaves_onW (M:=model X.prog X.w) (A:=X.A) (E:=λ_ _=>False) (s:=s') (Q:=λ_ G=>∃ h',G={ s' with heap:=h' }/\Heap.FlyingW B X.outer e cls a0 h'/\s'.heap.UpToSlots h') J Bd.fr Y λh' f u=>⟨h',rfl,f,u⟩;refine dt (kK (sK X.env (.ref e)) w1) (λ_ G ⟨⟨h',e1,f,u⟩,hd⟩=>?_) λ_ _ z=>z.1.elim;subst e1;refine T9 Bd I' he U fl.1 cov (λb o e1 hb=>?_) f u hd q;obtain⟨o1,e2⟩:=I.base.there b o e1 (by rw[Bd.ex];simp);refine olds b o1 e2 λz=>?_;rcases Bd.mem.mp z with z | z
 .exact absurd (aFS (aFH e1) I.ok.above) (by rw[z];exact ln _)
 .exact hb z
def a6 (Bd:Body X) (av:X.A.frames=some (X.env :: X.outer)) (I:Inv X pins σ H s) {e:Addr} {J:Obj} {vs:Array Value} {a0:Value} {E':Value->Shared->Prop} (he:s.heap.get? e=some J) (L:H e=none) (hold:∀ b o,X.s₀.heap.get? b=some o->b≠e) (hd:J.data=.fields vs) (h1:vs[1]?=some .none) (h0:vs[0]?=some a0) (q:E J.cls J.dict H) :
 wpAny (model X.prog X.w) X.A (leaving X.env (.ref e)) (λ_ G=>CXR X.prog X.w X.outer X.H₀ X.s₀ E (.ref e) G) E' s:=by
 have stf:s.heap.FunFrames X.base (X.env :: X.outer):=by have:=I.stack;rw[Bd.stk]at this;exact this
 have bb:e∉frs X.stack:=λz=>by
  obtain⟨_,o,ho,aw⟩:=I.stack.mem z;rw[he]at ho;cases ho;exact aw vs hd
 have U:∀ b o,s.heap.get? b=some o->b≠e->b∉frs X.stack->(PySem.W.hideAll s.heap (e :: frs X.stack)).get? b=some o:=λb o e1 n1 n2=>wn _ e1 (by simp[n1,n2]);have a_:s.heap.FunFrames (PySem.W.hideAll s.heap (e :: frs X.stack)) (X.env :: X.outer):=by
  refine PySem.W.funFrames_hide stf λenv hm a ha=>aFE _ ?_;rw[Bd.stk];exact List.mem_filterMap.mpr ⟨env,hm,ha⟩
 have Y:(PySem.W.hideAll s.heap (e :: frs X.stack)).StaysIn s.heap:=λb o e1=>PySem.W.of_hideAll _ e1;have w1:=wpAny_leaving_firstW (M:=model X.prog X.w) (A:=X.A) (E:=λ_ _=>False) (s:=s) (base:=PySem.W.hideAll s.heap (e :: frs X.stack)) (Q:=λ_ G=>∃ h',G={ s with heap:=h' }/\Heap.LeftW (PySem.W.hideAll s.heap (e :: frs X.stack)) (X.env :: X.outer) e J.cls a0 s.heap h') av a_ Bd.fr he Y (ro _ (by simp)) hd h1 h0 λh' z=>⟨h',rfl,z⟩;refine dt (kK (sK X.env (.ref e)) w1) (λ_ G ⟨⟨h',e1,k1,⟨_,_,k2⟩,k3,k4⟩,ba⟩=>?_) λ_ _ z=>z.1.elim;subst e1;refine T9 Bd I he L Y (λb u e1=>?_) (λb o e1 hb=>?_) ⟨k1,ro _ (by simp),k2,k3⟩ k4 ba q
 .obtain⟨o,e2⟩:=(I.hok b u e1).there;refine⟨o,U b o e2 (λz=>by rw[z,L]at e1;cases e1) λz=>?_⟩;rw[I.stkFree b z]at e1;cases e1
 .obtain⟨o',e2⟩:=I.base.there b o e1 (by rw[Bd.ex];simp);have lt:=aFH e1;refine⟨o',U b o' e2 (hold b o e1) λz=>?_⟩
  .rcases Bd.mem.mp z with z | z
   .rw[z]at lt;exact absurd (aFS lt I.ok.above) (ln _)
   .exact hb z
end
def eW {P:Program} {w:World} {K:PySem.W.Frag} {mg:Str->Option Value} {base:Heap} {N:List Str} {qual:Str} {scope:Scope} {f:Addr} {G:Value} {A:Around} {outer:List Env} {s:Shared} {H:Hp} {E:XK} (z:A.frames=some outer) :
 iV (CXR P w) (gK (CXR P w) P w K mg base N qual scope f G A outer s H E) E:=λpins σ H1 J L s' I h =>
 zQ (X:=gK (CXR P w) P w K mg base N qual scope f G A outer s H E) ⟨rfl,rfl,rfl⟩ (nv z) I h
def FP (X:Cx) (v:Expr) (n:Nat) (t:TE):Prop:=∀ (pins:List (Addr×Obj)) (s:Shared) (σ:St) (H:Hp) (Q:Hp->Prop),Inv X pins σ H s->(t σ H λ_ H'=>Q H') ->
 wpAny (model X.prog X.w) X.A (eval v X.env) (λu s'=>∃ y tk H',u=.str y tk/\y.length<=n/\Inv X pins σ H' s'/\Q H') X.xe s
def FPs (X:Cx) (vs:List Expr) (n:Nat) (t:TA):Prop:=∀ (pins:List (Addr×Obj)) (s:Shared) (σ:St) (H:Hp) (Q:Hp->Prop) (out:Str),out.length+n<=sizeLine->Inv X pins σ H s->(t σ H λ_ H'=>Q H') ->
 wpAny (model X.prog X.w) X.A (joinParts out (evalEach vs X.env)) (λu s'=>∃ y tk H',u=.str y tk/\Inv X pins σ H' s'/\Q H') X.xe s
section
variable {X:Cx}
def xQ {z:Str} {j pos} (h:z.length<=1000):FP X (.Constant (.str z) j pos) 1000 (tC (.str z)):=λpins s σ H Q I q=>by
 refine thn (cV pins s σ H (λy H'=>y=.str z/\Q H') I ⟨rfl,q⟩) λu s' ⟨v,H',G,r,e,J⟩=>?_;subst e;obtain⟨t,rfl⟩:=r;exact⟨z,t,H',rfl,h,G,J⟩
def aCz (te:TE):TE:=fun σ H Q=>te σ H λx H1=>∃ i:Int,x=.int i/\i.natAbs.log2<1920/\(toString i:Str).length<=1000/\Q x H1
def z9 {v:Expr} {te:TE} {pos:Pos} (h:PE X v te):FP X (.FormattedValue v (-1) none pos) 1000 (aCz te):=λpins s σ H Q I q=>by
 refine FormattedValue_plain (thn (h pins s σ H _ I q) λu s' ⟨x,H',G,r,z⟩=>?_);obtain⟨i,rfl,hd,J,z⟩:=z;obtain⟨t,rfl⟩:=r;exact formatField_int_small hd ⟨_,_,H',rfl,J,G.tok _,z⟩
def V0:FPs X [] 0 M8:=λpins s σ H Q out hz I q=>joinParts_nil ⟨out,_,H,rfl,I.tok _,q⟩ (by omega)
def jE {v:Expr} {vs:List Expr} {n m:Nat} {te:TE} {t:TA} (h1:FP X v n te) (h2:FPs X vs m t) (he:evalEach (v :: vs) X.env=eval v X.env :: evalEach vs X.env:=by rfl):FPs X (v :: vs) (n+m) (nQ te t):=λpins s σ H Q out hz I q=>by
 rw[he];refine joinParts_cons (thn (h1 pins s σ H _ I q) λu s' ⟨y,tk,H',e,L,G,J⟩=>?_);subst e;have z:(out++y).length=out.length+y.length:=strLen_append _ _;exact⟨by rw[z];omega,h2 pins s' σ H' Q (out++y) (by rw[z];omega) G J⟩
def aDv (t:TA):TE:=fun σ H Q=>t σ H λ_ H'=>∀ z,Q (.str z) H'
def V1 {v w:Expr} {vs:List Expr} {n:Nat} {t:TA} {pos:Pos} (h:FPs X (v :: w :: vs) n t) (L:n<=100000:=by decide) (he:evalEach (v :: w :: vs) X.env=eval v X.env :: eval w X.env :: evalEach vs X.env:=by rfl):PE X (.JoinedStr (v :: w :: vs) pos) (aDv t):=λpins s σ H Q I q=>by
 refine JoinedStr_many ?_;rw[<- he];refine thn (h pins s σ H (λH'=>∀ z,Q (.str z) H') Str.empty (by
  have:Str.empty.length=0:=rfl;rw[this];exact jf (by omega) (show 100000<=sizeLine by decide)) I q) λu s' ⟨y,tk,H',e,G,J⟩=>?_
 subst e;exact⟨.str y,H',G,⟨_,rfl⟩,J y⟩
end
abbrev bmV:List Value:=[.type "ValueError",.type "Exception",.type "BaseException",.type "object"]
def N6 (X:Cx) (E:XK):Prop:=∀ (pins:List (Addr×Obj)) (σ:St) (H:Hp) (s:Shared) (e:Addr) (z:Obj) (vs:Array Value) (a0:Value),Inv X pins σ H s->s.heap.get? e=some z->H e=none->(∀ b o,X.s₀.heap.get? b=some o->b≠e)->z.data=.fields vs->vs[1]?=some .none->vs[0]?=some a0->E z.cls z.dict H->X.xe (.ref e) s
def N7 {P:Program} {w:World} {K:PySem.W.Frag} {mg:Str->Option Value} {base:Heap} {N:List Str} {qual:Str} {scope:Scope} {f:Addr} {J:Value} {A:Around} {outer:List Env} {s:Shared} {H:Hp} {E:XK} (z:A.frames=some outer) :
 N6 (gK (CXR P w) P w K mg base N qual scope f J A outer s H E) E:=λpins σ H1 L e M vs a0 I he G hold hd h1 h0 q =>
 a6 (X:=gK (CXR P w) P w K mg base N qual scope f J A outer s H E) ⟨rfl,rfl,rfl⟩ (nv z) I he G hold hd h1 h0 q
open Sem (wp)
def nY (af bm:List Value):Prop:=∀ {X:String} {b:Bool},af.contains (.type X)=b->bm.contains (.type X)=b
def N8:List Value->List Value
 | .ref _ :: r=>N8 r
 | l=>l
def zR {af:List Value}:∀ {bm:List Value},N8 bm=af->nY af bm
 | [],e=>λz=>by
  have G:([]:List Value)=af:=e;rw[G];exact z
 | v :: r,e=>λz=>by
  cases v
  case ref a =>
   have J:=zR (bm:=r) e z;rw[kj,J];rfl
  all_goals (rw[show _ :: r=af from e];exact z)
section
variable {prog:Program} {w:World} {A:Around} {E:Value->Shared->Prop} {h:Heap} {g:Array GenState} {d:Drawn} {t:Nat} {os:OsState}
variable {nm q:Str} {C N:Addr} {bs bm af:List Value} {hdct:Bool} {sn:List Str} {sub:List Value} {ab:Bool} {col:Option Bool} {dd:Option Addr} {k0 k1 k2 k3 k5:Option Value} {B newId ag:String}
def N9 {M:Model} (F:ExcBaseFacts B newId ag af) (T:nY af bm) {rest:List Value} {Q:Unit->Shared->Prop} (G:h.get? C=some (excClassObj nm q C N bs bm hdct sn sub ab col dd k0 k1 k2 k3 k5 newId))
 (J:Q () ⟨h,g,d,t,os⟩):wpAny M A (checkBuiltinCall newId ⟨.ref C :: rest,[]⟩) Q E ⟨h,g,d,t,os⟩:=by
 have z:(Value.ref C :: bm).contains (.type B)=true:=by
  rw[kj,T F.hasB];exact qz _
 have ns:=F.noStar;simp only[checkBuiltinCall,F.newRow,F.newSplit,F.newKind]
 repeat (first
  | refine lv G ?_
  | (refine oo G ?_;rw[z])
  | refine wpAny_staticBase_exc G ?_
  | refine wpAny_madeBy_exc G ?_
  | simp only[qt,oy,jv]
  | wp_step)
 exact J
def aAA {R:Result->Shared->Prop} (F:ExcBaseFacts B newId ag af) (T:nY af bm) {rest:List Value} (L:h.get? C=some (excClassObj nm q C N bs bm hdct sn sub ab col dd k0 k1 k2 k3 k5 newId))
 (M:R (.ok (.ret (.ref (h.objs.size+1)))) ⟨(h.push { cls:=.type "tuple",data:=.seq rest.toArray }).push { cls:=.ref C,data:=.fields #[.ref h.objs.size,.none,.none,.none,.bool false,.none] },g,d,t,os⟩) (hrest:rest.length<=sizeLine:=by size_fits) :
 codeAny (model prog w) A (.builtin newId ⟨.ref C :: rest,[]⟩) R ⟨h,g,d,t,os⟩:=by
 have ends:=F.ends;have z:(Value.ref C :: bm).contains (.type B)=true:=by
  rw[kj,T F.hasB];exact qz _
 have G:(Value.ref C :: bm).contains (.type "AttributeError")=false:=by
  rw[kj,T F.noAttr];rfl
 have J:(Value.ref C :: bm).contains (.type "NameError")=false:=by
  rw[kj,T F.noName];rfl
 refine codeAny_builtinAt F.entry ?_;unfold Builtin.«BaseException.__new__»;refine PySem.wpAt_bind ?_;show PySem.wpAt _ _ _ (stack >>= _) _ _ _;refine PySem.wpAt_bind (PySem.wpAt_stack λ_ _=>wo ?_)
 wp_walk
 refine wo ?_;rw[F.owner]
 repeat (first
  | with_reducible refine wpAny_madeHere_exc F.canon L ?_
  | with_reducible refine lv L ?_
  | (with_reducible refine oo L ?_;first | rw[z] | rw[G] | rw[J])
  | wp_step)
 show R _ _;rw[ka];exact M
def zS {M:Model} (F:ExcBaseFacts B newId ag af) (T:nY af bm) {e:Addr} {oe:Obj} {rest:List Value} {Q:Unit->Shared->Prop}
 (oC:h.get? C=some (excClassObj nm q C N bs bm hdct sn sub ab col dd k0 k1 k2 k3 k5 newId)) (oE:h.get? e=some oe) (ocl:oe.cls=.ref C) (kq:Q () ⟨h,g,d,t,os⟩) :
 wpAny M A (checkBuiltinCall ag ⟨.ref e :: rest,[]⟩) Q E ⟨h,g,d,t,os⟩:=by
 have hasIt:(Value.ref C :: bm).contains (.type B)=true:=by
  rw[kj,T F.hasB];exact qz _
 have ns:=F.noStar;simp only[checkBuiltinCall,F.initRow,F.initSplit,F.initKind]
 repeat (first
  | (with_reducible refine lv oE ?_;rw[ocl])
  | with_reducible refine lv oC ?_
  | (with_reducible refine oo oC ?_;rw[hasIt])
  | wp_step)
 refine wpAny_onRaise ?_;rw[show ∀ (a b:String) (n:Nat),Bind.check ⟨.positional,"*",B,.self,[⟨"args",.varPos,false⟩]⟩ a b n (List.map (λx=>x.fst) ({ pos:=Value.ref e :: rest }:Args).kw)=pure () from λa b n=>check_star_args _ _ _ _ _ _];exact aFA kq
def qY (F:ExcBaseFacts B newId ag af) (T:nY af bm) {mN:Str->Option Value} {rest:List Value} {fI:Addr} {oI:Obj} {Q:Fin->Shared->Prop}
 (M:h.get? C=some (excClassObj nm q C N bs bm hdct sn sub ab col dd k0 k1 k2 k3 k5 newId)) (hn:h.Ns N mN) (hi:mN "__init__"=some (.ref fI))
 (U:h.get? fI=some oI) (Y:oI.cls=.type "function")
 (hq:∀ h' e,Heap.MadeExcOf h h' e (.ref C) rest ->
  wpAny (model prog w) A (call (.ref fI) (.ref e :: rest)) (λr s'=>r=.none/\Q (.done (.ret (.ref e))) s') E ⟨h',g,d,t,os⟩) (hrest:rest.length<=sizeLine:=by size_fits) :
 wpAny (model prog w) A (Builtin.«type.__call__» ⟨.ref C :: rest,[]⟩) Q E ⟨h,g,d,t,os⟩:=by
 repeat (first | with_reducible refine lv M ?_ | with_reducible refine wpAny_madeBy_exc M ?_ | wp_step)
 refine codeAny_call_builtin_code (tw _ F.quiet) (N9 F T M ?_);refine aAA F T M ?_ hrest;show wpAny _ _ _ _ _ _;have k2:∀ b o,h.get? b=some o->((h.push { cls:=.type "tuple",data:=.seq rest.toArray }).push { cls:=.ref C,data:=.fields #[.ref h.objs.size,.none,.none,.none,.bool false,.none] }).get? b=some o :=
  λb o e=>aFC _ (aFC _ e)
 have z:=k2 _ _ M;have G:=k2 _ _ U;have L:=hn.keeps k2;have J:((h.push { cls:=.type "tuple",data:=.seq rest.toArray }).push
  { cls:=.ref C,data:=.fields #[.ref h.objs.size,.none,.none,.none,.bool false,.none] }).get? (h.objs.size+1)=some
  { cls:=.ref C,data:=.fields #[.ref h.objs.size,.none,.none,.none,.bool false,.none] }:=by heap_get
 have av:(Value.ref C :: bm).contains (.ref C)=true:=by simp
 unfold isInstance
 repeat (first | with_reducible refine lv J ?_ | (with_reducible refine oo z ?_;rw[av]) | wp_step)
 show wpAny _ _ (typeLookup (.ref C) _) _ _ _;rw[typeLookup_eq];refine aEz (wpAny_mroOf_exc z ?_);rw[lookupAlong_cons];refine aEz (wpAny_classOwn_exc z L ?_);rw[hi];refine aFA ?_;refine jn (aEz ?_);unfold bindSpecial;refine aEz (wpAny_typeOf (T:="function") ⟨_,G,Y⟩ ?_);rw[da (by decide)];refine aFA (aEz (dt (hq _ (h.objs.size+1) ⟨k2,px (sk _),h.objs.size,J,px (ah _),?_⟩) (λr s' hr=>?_) λ_ _ x=>x))
 .exact aFC _ (Heap.get?_push_at rfl rfl)
 .obtain⟨rfl,hQ⟩:=hr
  wp_walk
  exact hQ
def O0 (F:ExcBaseFacts B newId ag af) (T:nY af bm) {mN:Str->Option Value} {rest:List Value} {fI:Addr} {oI:Obj} {Q:Value->Shared->Prop}
 (hC:h.get? C=some (excClassObj nm q C N bs bm hdct sn sub ab col dd k0 k1 k2 k3 k5 newId)) (hn:h.Ns N mN) (hi:mN "__init__"=some (.ref fI))
 (hfI:h.get? fI=some oI) (hfc:oI.cls=.type "function")
 (hq:∀ h' e,Heap.MadeExcOf h h' e (.ref C) rest ->
  wpAny (model prog w) (A.under (.builtin "type.__call__" ⟨.ref C :: rest,[]⟩)) (call (.ref fI) (.ref e :: rest)) (λr s'=>r=.none/\Q (.ref e) s') E ⟨h',g,d,t,os⟩) (hrest:rest.length<=sizeLine:=by size_fits) :
 wpAny (model prog w) A (call (.ref C) rest) Q E ⟨h,g,d,t,os⟩:=by
 have f1:=tc_lookup;have f2:=tc_bind (.ref C);have hT:(⟨h,g,d,t,os⟩:Shared).TypeIs (.ref C) "type":=⟨_,hC,rfl⟩;refine qf (vq ?_);show wpAny _ _ (callAny (.ref C) _) _ _ _
 repeat (any_goals (first | assumption | with_reducible refine lv hC ?_ | wp_step))
 refine⟨rfl,?_⟩;refine codeAny_call_builtin_at (tw _ (by decide +kernel)) entry_typeCall (wpAny_check_type_call_sub hC (qY (hrest:=hrest) F T hC hn hi hfI hfc λh' e hm=>?_));exact hq h' e hm
def vA {M:Model} {s:Shared} {env:Env} {x:Sem Value} {Q:Flow->Shared->Prop} (G:bm.contains (.type "BaseException")=true) (Y:A.handled=none)
 (h:wpAny M A x (λv z=>∃ e od t,v=.ref e/\z.heap.get? C=some (excClassObj nm q C N bs bm hdct sn sub ab col dd k0 k1 k2 k3 k5 newId) /\
  z.heap.get? e=some { cls:=.ref C,dict:=od,data:=.fields #[.ref t,.none,.none,.none,.bool false,.none] }/\E (.ref e) z) E s) :
 wpAny M A (raiseStmt env (some x) none) Q E s:=by
 have L:(Value.ref C :: bm).contains (.type "BaseException")=true:=by rw[kj,G,qz]
 unfold raiseStmt;refine aEz (dt h (λv z J=>?_) λ_ _ x=>x);obtain⟨e,od,t,rfl,U,he,hE⟩:=J;obtain⟨hp,g,d,tk,os⟩:=z
 repeat (first | with_reducible refine lv he ?_ | with_reducible refine lv U ?_ | (with_reducible refine oo U ?_;rw[L]) | wp_step)
 exact wpAny_raiseNew_none Y hE
def zT {s:Shared} {env:Env} (F:ExcBaseFacts B newId ag af) {mN:Str->Option Value} {x:Str} {np aa pos:Pos} {args:List Expr} {fI:Addr} {oI:Obj} {Q:Flow->Shared->Prop}
 (Y:bm.contains (.type "BaseException")=true) (hh:A.handled=none) (M:(backTo aa (starEach args env)).any (·.1)=false) (hi:mN "__init__"=some (.ref fI)) (aw:oI.cls=.type "function")
 (h:wpAny (model prog w) A (eval (.Name x np) env) (λf U=>f=.ref C/\wpAny (model prog w) A (evalArgs (.ref C) true (backTo aa (starEach args env)) [])
  (λa G=>a.kw=[]/\a.pos.length<=sizeLine/\G.heap.get? C=some (excClassObj nm q C N bs bm hdct sn sub ab col dd k0 k1 k2 k3 k5 newId)/\G.heap.Ns N mN/\nY af bm/\G.heap.get? fI=some oI /\
   ∀ h' e,Heap.MadeExcOf G.heap h' e (.ref C) a.pos->wpAny (model prog w) (A.under (.builtin "type.__call__" ⟨.ref C :: a.pos,[]⟩)) (call (.ref fI) (.ref e :: a.pos)) (λr s'=>r=.none /\
    (s'.heap.get? C=some (excClassObj nm q C N bs bm hdct sn sub ab col dd k0 k1 k2 k3 k5 newId))/\(∃ od t,s'.heap.get? e=some { cls:=.ref C,dict:=od,data:=.fields #[.ref t,.none,.none,.none,.bool false,.none] })/\E (.ref e) s') E { G with heap:=h' }) E U) E s) :
 wpAny (model prog w) A (exec (.Raise (some (.Call (.Name x np) args [] aa)) none pos) env) Q E s:=by
 rw[arm_exec_Raise];simp only[evalOpt,Option.map];refine aEz (lq (vA (C:=C) (nm:=nm) (q:=q) (N:=N) (bs:=bs) (bm:=bm) (hdct:=hdct) (sn:=sn) (sub:=sub) (ab:=ab) (col:=col) (dd:=dd) (k0:=k0) (k1:=k1) (k2:=k2) (k3:=k3) (k5:=k5) (newId:=newId) Y hh (aEz (dt (wpAny_Call_ofName (dt h (λf U J=>?_) λ_ _ x=>x)) (λv bc av=>aEz (lq (aFA av))) λ_ _ x=>x))));obtain⟨rfl,J⟩:=J;unfold callWith;refine aEz (jn (dt J (λa G L=>aEz (lq ?_)) λ_ _ x=>x));obtain⟨apos,a_⟩:=a;obtain⟨ba,hlen,hC,hn,T,bb,L⟩:=L;obtain rfl:a_=[]:=ba;obtain⟨hp,g,d,tk,os⟩:=G;simp only[M];refine aEz (wpAny_keeperOf_exc hC ?_);refine aEz (O0 (hrest:=hlen) F T hC hn hi bb aw λh' e hm=>dt (L h' e hm) (λr s' ⟨hr,z1,⟨od,vs,z2⟩,z3⟩=>⟨hr,?_⟩) λ_ _ z=>z);refine aEz (jn (wpAny_point (aFA ?_)));exact⟨e,od,vs,rfl,z1,z2,z3⟩
def O1 (F:ExcBaseFacts B newId ag af) (T:nY af bm) {rest:List Value} {e t0:Addr} {od:Option Addr} {Q:Value->Shared->Prop}
 (G:h.get? C=some (excClassObj nm q C N bs bm hdct sn sub ab col dd k0 k1 k2 k3 k5 newId)) (he:h.get? e=some { cls:=.ref C,dict:=od,data:=.fields #[.ref t0,.none,.none,.none,.bool false,.none] })
 (J:∀ h' t1,(∀ b o,b≠e->h.get? b=some o->h'.get? b=some o)->h'.get? e=some { cls:=.ref C,dict:=od,data:=.fields #[.ref t1,.none,.none,.none,.bool false,.none] }->Q .none ⟨h',g,d,t,os⟩) (hrest:rest.length<=sizeLine:=by size_fits) :
 wpAny (model prog w) A (call (.builtin ag) (.ref e :: rest)) Q E ⟨h,g,d,t,os⟩:=by
 refine qf (mh F.init.plain F.initEntry (zS F T G he rfl ?_));have z:=aFC { cls:=.type "tuple",data:=.seq rest.toArray } he
 wp_walk
 refine J _ h.objs.size (λb o n L=>?_) ?_
 .rw[aFG _ _ n.symm];exact aFC _ L
 .rw[aFT _ z rfl];rfl
end
open Sem (wp)
open Builtin Builtin.ObjectAttr
structure iW (K:PySem.W.Frag) (C:Addr) (name:Str):Prop where
 cls:∃ cd bm,PySem.W.clsIn K C=some cd/\cd.mro=.ref C :: bm/\(∀ self,refuseLoop self "__setattr__" bm=pure ())/\bm.contains (.type "object")=true/\cd.hasDict=true
 set:PySem.W.findIn K (.ref C) "__setattr__"=some (some (.builtin "object.__setattr__"))
 free:PySem.W.findIn K (.ref C) name=some none
section
variable {prog:Program} {w:World} {A:Around} {E:Value->Shared->Prop} {h:Heap} {g:Array GenState} {d:Drawn} {t:Nat} {os:OsState} {K:PySem.W.Frag} {C e:Addr} {name:Str} {v:Value} {vs:Array Value}
def a7 {Q:Unit->Shared->Prop} (X:K.In h) (S:iW K C name) (hx:h.get? e=some { cls:=.ref C,dict:=none,data:=.fields vs })
 (hq:∀ h' dx tk',h.get? dx=none->(∀ b o,b≠e->h.get? b=some o->h'.get? b=some o)->h'.get? e=some { cls:=.ref C,dict:=some dx,data:=.fields vs }->h'.Ns1 dx (λy=>if y=name then some v else none)->Q () ⟨h',g,d,tk',os⟩) :
 wpAny (model prog w) A (setAttr (.ref e) name v) Q E ⟨h,g,d,t,os⟩:=by
 obtain⟨⟨cd,bm,hc,hm,href,hob,hdct⟩,hs,hfree⟩:=S;have SF:=uk;have I:PySem.W.InstAt h e { cls:=.ref C,dict:=none,data:=.fields vs } C none:=⟨hx,rfl,rfl,trivial⟩;have hmro:PySem.W.Looks (model prog w) h (mroOf (.ref C)) cd.mro:=(qe X hc).andThen .now;have hsub:PySem.W.Looks (model prog w) h (isInstance (.ref e) (.type "object")) true:=I.type.andThen (wq X (by
  unfold PySem.W.mroIn;rw[hc,Option.bind_some,hm,bB (by simp),kj,hob,qz]))
 refine PySem.W.set_plain (s:=⟨h,g,d,t,os⟩) X I hs ?_;refine mh SF.slot.plain SF.entry (@PySem.W.check_slot (model prog w) _ _ _ "object.__setattr__" "object" "__setattr__" (.ref e) [.str name t,v] [] _ SF.kind SF.split hsub (SF.args (.ref e) (.str name t) v) ?_);rw[PySem.W.osa_eq,refuse_eq];refine aEz (aEz (I.type.at (aEz (hmro.at ?_))));rw[hm,refuseLoop_ref,href];refine aFA (aEz (I.type.at (aEz ((py X hfree).at (aEz ?_)))));refine aFA ?_;dsimp only;have hx₁:(h.push { cls:=.type "dict",data:=.dict #[] }).get? e=some { cls:=.ref C,dict:=none,data:=.fields vs }:=aFC _ hx;have hxs:e≠h.objs.size:=aFY (aFH hx);refine aEz (aFA (aEz (aEz (wpAny_loadPart hx (aEz ((qe X hc).at ?_))))));rw[hdct];rw[bB (by decide)];dsimp only;rw[bB (by simp[typeHasDict])];refine aEz (wpAny_alloc' ?_);refine aEz (wpAny_update' hx₁ ?_);refine aFA ?_;dsimp only;have hgd:((h.push { cls:=.type "dict",data:=.dict #[] }).update e λo=>{ cls:=o.cls,dict:=some h.objs.size,data:=o.data,slots:=o.slots }).get? h.objs.size
  = some { cls:=.type "dict",data:=.dict #[] }:=(jx _ _ _ _ hxs.symm).trans (Heap.get?_push_at rfl rfl)
 have hnd:((h.push { cls:=.type "dict",data:=.dict #[] }).update e λo=>{ cls:=o.cls,dict:=some h.objs.size,data:=o.data,slots:=o.slots }).Ns h.objs.size (λ_=>none) :=
  ⟨_,#[],_,hgd,rfl,λe he=>absurd he (by simp),λ_=>rfl⟩
 unfold storeInDict newKeyGuard;refine aEz (aFA (aEz (wpAny_nsSet1 (Heap.Ns1.of_empty hnd) λh' hn' hs=>?_)));obtain⟨oD,esD,epD,hoD,hdD,hcD⟩:=hn'.count (Within.cons name v Within.nil);refine aEz (wpAny_lookBehind hoD (by rw[hdD];exact pastItsLine_dict (jf hcD (by rw[aF4,oi,uv];omega))) ?_)
 wp_walk
 refine hq h' h.objs.size _ (px (ah _)) (λb o n hb=>?_) ?_ hn'
 .exact(hs.2 b (aFY (aFH hb))).trans ((jx _ _ _ _ n).trans (aFC _ hb))
 .exact(hs.2 e hxs).trans (aFT _ hx₁ rfl)
end
end L2
namespace L2
open PySem PySem.Spec PyProof.Rows
def XO (C e:Addr) (od:Option Addr):HO:=.ext λh=>∃ t,h.get? e=some { cls:=.ref C,dict:=od,data:=.fields #[.ref t,.none,.none,.none,.bool false,.none] }
def XO.mk {P:Program} {w:World} {H:Hp} {h:Heap} {C e t:Addr} {od:Option Addr} (x:h.get? e=some { cls:=.ref C,dict:=od,data:=.fields #[.ref t,.none,.none,.none,.bool false,.none] }):ObjOk P w H h e (XO C e od) :=
 ⟨⟨t,x⟩,⟨_,x⟩,λh1 h2 ⟨t,z⟩ k=>⟨t,k _ z⟩⟩
def del (H:Hp) (a:Addr):Hp:=λb=>if b=a then none else H b
def jF {H:Hp} {a:Addr}:del H a a=none:=by unfold del;rw[da rfl]
def fH {H:Hp} {a b:Addr} (h:b≠a):del H a b=H b:=by unfold del;rw[bB h]
section
variable {X:Cx} {pins:List (Addr×Obj)} {σ:St} {H:Hp} {s:Shared} {h':Heap} {C e dx:Addr} {od:Option Addr} {φ:Heap->Prop}
def Inv.forget (I:Inv X pins σ H s) (he:H e=some (.ext φ)):Inv X pins σ (del H e) s:=by
 have ne:∀ b u,H b=some u->(∀ J,u≠.ext J)->b≠e:=λb u q n z=>by rw[z,he]at q;cases q;exact n _ rfl
 have un:Un X.fs [] H (del H e) s.heap s.heap:=⟨λ_ _ q _ _ _=>q,λ_ o q _ _ _=>⟨o.slots,q⟩,λb _ _ n _=>by unfold del;split <;> first | rfl | exact n,λ_ o q _=>⟨o,q⟩,
  λb xs q=>by rw[fH (ne b _ q λ_ z=>by cases z)];exact q,λb o u q=>by rw[fH (ne b _ q λ_ z=>by cases z)];exact q,λb ps q=>⟨#[],by rw[fH (ne b _ q λ_ z=>by cases z),q];simp⟩⟩
 exact I.un (t':=s.toks) un λb u q=>by
  by_cases G:b=e
  .rw[G,jF]at q;cases q
  .rw[fH G]at q;exact(I.hok b u q).stay (λ_ _ _ z=>z) (λc z=>by rw[fH (ne c _ z λ_ z=>by cases z)];exact z) λc xs z=>by rw[fH (ne c _ z λ_ z=>by cases z)];exact z
def Inv.unthere (I:Inv X pins σ H s) {a:Addr} (G:s.heap.get? a=none):H a=none:=by
 cases J:H a with
 | none=>rfl
 | some u =>
  obtain⟨o,z⟩:=(I.hok a u J).there;rw[G]at z;cases z
def Inv.newX (I:Inv X pins σ H s) {args:List Value} (G:Heap.MadeExcOf s.heap h' e (.ref C) args):Inv X pins σ (upd H e (XO C e none)) { s with heap:=h' }:=by
 have L:=I.unthere G.new;have ne:∀ b u,H b=some u->b≠e:=λb u q z=>by rw[z,L]at q;cases q
 have M:∀ b o,s.heap.get? b=some o->b≠e:=λb o q z=>by rw[z,G.new]at q;cases q
 obtain⟨t,U,_,_⟩:=G.there;have un:Un X.fs [] H (upd H e (XO C e none)) s.heap h':=⟨λb o q _ _ _=>G.keeps b o q,λb o q _ _ _=>⟨o.slots,G.keeps b o q⟩,λb o q n _=>by rw[aE (M b o q)];exact n,λb o q _=>⟨o,G.keeps b o q⟩,
  λb xs q=>by rw[aE (ne b _ q)];exact q,λb o u q=>by rw[aE (ne b _ q)];exact q,λb ps q=>⟨#[],by rw[aE (ne b _ q),q];simp⟩⟩
 exact I.un (t':=s.toks) un λb u q=>by
  by_cases J:b=e
  .subst J;rw[aD]at q;cases q;exact XO.mk U
  .rw[aE J]at q;exact(I.hok b u q).stay (λc v _ z=>G.keeps c v z) (λc z=>by rw[aE (ne c _ z)];exact z) λc xs z=>by rw[aE (ne c _ z)];exact z
def Inv.dictX (I:Inv X pins σ H s) {t':Nat} {fs:List (Str×V)} (he:H e=some (XO C e none)) (J:s.heap.get? dx=none) (k:∀ b o,b≠e->s.heap.get? b=some o->h'.get? b=some o) {t:Addr}
 (hx:h'.get? e=some { cls:=.ref C,dict:=some dx,data:=.fields #[.ref t,.none,.none,.none,.bool false,.none] }) (hd:∃ mA,h'.Ns1 dx mA/\∀ f,RelO (fs.lookup f) (mA f)) :
 Inv X pins σ (upd (upd H dx (.xd fs)) e (XO C e (some dx))) { s with heap:=h',toks:=t' }:=by
 have hn:=I.unthere J;have ne:∀ b u,H b=some u->(∀ M,u≠.ext M)->b≠e:=λb u q n z=>by rw[z,he]at q;cases q;exact n _ rfl
 have nd:∀ b u,H b=some u->b≠dx:=λb u q z=>by rw[z,hn]at q;cases q
 have U:∀ b,H b=none->b≠e:=λb q z=>by rw[z,he]at q;cases q
 have nh:∀ b o,s.heap.get? b=some o->b≠dx:=λb o q z=>by rw[z,J]at q;cases q
 have L:∀ b u,H b=some u->(∀ M,u≠.ext M)->upd (upd H dx (.xd fs)) e (XO C e (some dx)) b=some u:=λb u q n=>by rw[aE (ne b u q n),aE (nd b u q)];exact q
 have un:Un X.fs [] H (upd (upd H dx (.xd fs)) e (XO C e (some dx))) s.heap h':=⟨λb o q n _ _=>k b o (U b n) q,λb o q n _ _=>⟨o.slots,k b o (U b n) q⟩,λb o q n _=>by rw[aE (U b n),aE (nh b o q)];exact n,
  λb o q _=>by
   by_cases G:b=e
   .rw[G];exact⟨_,hx⟩
   .exact⟨o,k b o G q⟩,
  λb xs q=>L b _ q (λ_ z=>by cases z),λb o u q=>L b _ q (λ_ z=>by cases z),λb ps q=>⟨#[],by rw[L b _ q (λ_ z=>by cases z)];simp⟩⟩
 exact I.un (t':=t') un λb u q=>by
  by_cases G:b=e
  .subst G;rw[aD]at q;cases q;exact XO.mk hx
  .rw[aE G]at q
   by_cases hc:b=dx
   .subst hc;rw[aD]at q;cases q;exact hd
   .rw[aE hc]at q;refine(I.hok b u q).stay (λc v Y z=>k c v (λz'=>?_) z) (λc z=>L c _ z λ_ z=>by cases z) λc xs z=>L c _ z λ_ z=>by cases z
    subst z';rcases Y with z1 | z1
    .exact G z1.symm
    .rw[he]at z1;cases z1
end
def zU (K:PySem.W.Frag) (C:Addr) (i:Option Value):Prop:=∀ h:Heap,K.In h->∃ bm N nm q bs hdct sn sub ab col dd k0 k1 k2 k3 k5 mN,h.get? C=some (excClassObj nm q C N bs bm hdct sn sub ab col dd k0 k1 k2 k3 k5 "ValueError.__new__")/\h.Ns N mN/\mN "__init__"=i/\nY bmV bm
def sL (K:PySem.W.Frag) (C:Addr) (i:Option Value):Bool:=match K.lookup C with
 | some ⟨.type "type",_,.cls z,G⟩=>(match z.mro,G.toList with
  | .ref J :: bm,[_,_,_,_,some (.builtin n),_]=>J == C && n == "ValueError.__new__" && !z.hasDel && N8 bm == bmV && PySem.W.nsOkIn K z.ns && PySem.W.nsIn K z.ns "__init__" == some i
  | _,_=>false)
 | _=>false
def zV {K:PySem.W.Frag} {h:Heap} {N:Addr} {x:Str} {v:Value} (X:K.In h) (e:PySem.W.nsOkIn K N=true) (q:PySem.W.nsIn K N x=some (some v)):h.nsMap N x=some v:=by
 obtain⟨o,es,ep,G,hd,_,J⟩:=Heap.Ns.of_isNs (PySem.W.isNs_of_in X e);unfold PySem.W.nsIn at q;split at q
 .rename_i c d L M U z
  have:=X _ _ z;rw[G]at this;cases this;cases hd;split at q
  .rename_i Y he
   cases q;rw[<- J];unfold nsFind findBy;rw[<- Array.find?_toList,he];rfl
  .split at q <;> cases q
 .cases q
def lT {K:PySem.W.Frag} {C:Addr} {i:Option Value} (q:sL K C i=true):zU K C i:=λh kin=>by
 unfold sL at q;split at q
 .rename_i dd M U Y
  split at q
  .rename_i C' bm k0 k1 k2 k3 n k5 J L
   simp only[jl,ul,Bool.not_eq_true']at q;obtain⟨⟨⟨⟨⟨e1,e2⟩,z⟩,ht⟩,hok⟩,G⟩:=q;subst e1 e2;obtain⟨nm,bs,av,ns,qn,hd,sn,sub,ab,col,del⟩:=M;dsimp only at J z hok G;subst J z;obtain⟨l⟩:=U;dsimp only at L;subst L;refine⟨bm,ns,nm,qn,bs,hd,sn,sub,ab,col,dd,k0,k1,k2,k3,k5,_,kin _ _ Y,.of_isNs (PySem.W.isNs_of_in kin hok),?_,zR ht⟩;cases i with
   | none=>exact PySem.W.nsMap_none_of_in kin hok G
   | some v=>exact zV kin hok G
  .cases q
 .cases q
def aBf {K:PySem.W.Frag} {h:Heap} {f:Addr} (kin:K.In h) (z:PySem.W.isFn K (.ref f)=true):∃ o,h.get? f=some o/\o.cls=.type "function":=by
 unfold PySem.W.isFn at z;have e:=beq_iff_eq.mp z;unfold PySem.W.typeIn at e;cases q:K.lookup f with
 | none=>simp[q]at e
 | some o=>exact⟨o,kin _ _ q,by simpa[q]using e⟩
def aDA (K:PySem.W.Frag) (t:TA):TE:=fun σ H Q=>t σ H λvs H1=>∃ a C i od rest,vs=.ref a :: rest/\rest.length<=sizeLine/\H1 a=some (XO C a od)/\zU K C i/\Q .non H1
section
variable {X:Cx}
def aEj (K:PySem.W.Frag) (ta tv:TE) (f:Str):TS:=λD σ H=>tv σ H λy H1=>ta σ H1 λx H2=>∃ a C,x=.ref a/\H2 a=some (XO C a none)/\iW K C f /\
 ∀ dx,H2 dx=none->dx≠a->D.nx σ (upd (upd H2 dx (.xd [(f,y)])) a (XO C a (some dx)))
def aDB {o value:Expr} {f:Str} {ta tv:TE} {pos pos':Pos} (ha:PE X o ta) (hv:PE X value tv) (hs:swapsWith value (some (.Attribute o f pos')) pos.line X.env=pure false):PS X (.Assign [.Attribute o f pos'] value pos) (aEj X.K ta tv f):=by
 intro pins s σ H D I h;refine qu (thn (hv pins s σ H _ I h) λu s1 ⟨y,H1,I1,ry,q⟩=>thn (ha pins s1 σ H1 _ I1 q) λov s2 ⟨x,H2,J,rx,a,C,ex,ea,S,q2⟩=>?_) hs;subst ex;obtain rfl:ov=Value.ref a:=rx;obtain⟨⟨t0,ho⟩,_⟩:=J.hok a _ ea;refine a7 J.kIn S ho λh' dx L G k M U=>?_;have ne:dx≠a:=λz=>by rw[z,ho]at G;cases G
 refine⟨σ,_,J.dictX (t':=L) (fs:=[(f,y)]) ea G k M ⟨_,U,λg=>?_⟩,q2 dx (J.unthere G) ne⟩
 by_cases Y:g=f
 .subst Y;rw[vr,da rfl];exact ry
 .have av:(g == f)=false:=by simpa using Y
  rw[ju,av,bB Y];exact True.intro
def V2 (C:Addr) (sp:Sp) (E:XK) (t:TA):TS:=λ_ σ H=>t σ H λvs H1=>vs.length<=sizeLine/\∀ e,H1 e=none ->
 sp (.ref e :: vs) (upd H1 e (XO C e none)) (λv H2=>v=.non/\∃ od,H2 e=some (XO C e od)/\E (.ref C) od (del H2 e)) E0
def a8 {E:XK} {C fI:Addr} {fd:FuncData} {ps:List Str} {sp:Sp} {k:Nat} {x:Str} {e:Expr} {es:List Expr} {t:TA} {np aa pos:Pos} (RX:N6 X E) (hx:X.ex=[]) (M:X.calm=true) (hc:zU X.K C (some (.ref fI)))
 (hf:PySem.W.isFn X.K (.ref fI)=true) (F:FnOk X.prog X.w X.K X.mg X.base CX0 k fI fd ps sp) (hr:Room (k+1) X.A) (hb:Binds X.K fd ps [])
 (hg:Gl X x) (hm:X.mg x=some (.ref C)) (ha:PA X (e :: es) t) (hdb:(x == ("__debug__":Str))=false:=by decide)
 (he:starEach (e :: es) X.env=(false,eval e X.env) :: starEach es X.env:=by rfl) (hpl:(backTo aa (starEach es X.env)).any (·.1)=false:=by rfl):PS X (.Raise (some (.Call (.Name x np) (e :: es) [] aa)) none pos) (V2 C sp E t):=by
 intro pins s σ H D I h;obtain⟨bm,N,nm,q,bs,hdct,sn,sub,ab,col,dd,k0,k1,k2,k3,k5,mN,hC,hN,hi,T⟩:=hc X.base I.mod.kin;obtain⟨oI,ba,bb⟩:=aBf I.mod.kin hf;have L:(backTo aa (starEach (e :: es) X.env)).any (·.1)=false:=by
  rw[he];show (false || (backTo aa (starEach es X.env)).any (·.1))=false;rw[hpl];rfl
 refine zT (C:=C) (nm:=nm) (q:=q) (N:=N) (bs:=bs) (bm:=bm) (hdct:=hdct) (sn:=sn) (sub:=sub) (ab:=ab) (col:=col) (dd:=dd) (k0:=k0) (k1:=k1) (k2:=k2) (k3:=k3) (k5:=k5) (mN:=mN) (fI:=fI) (oI:=oI) ti (T PySem.F.excBase_ValueError.hasBase) (I.ok.hd M) L hi bb (nK I hg hm ⟨rfl,?_⟩ hdb);have av:=ha aa pins s σ H _ I h;rw[he]at av ⊢;refine oa (thn av λus s2 ⟨vs,H2,Y,r,hz,q2⟩=>?_);refine⟨rfl,by have:=r.length;show us.length<=_;omega,Y.bk _ _ hC,hN.keeps Y.bk,T,Y.bk _ _ ba,λh' J U=>?_⟩;have I3:=Inv.newX (C:=C) Y U;have hq:=q2 J (Y.unthere U.new);have r2:Vals (V.ref J :: (vs++[])) (Value.ref J :: (us++[])):=.cons rfl (r.append .nil);rw[jy,jy]at r2;have hl:((Value.ref J :: us)++[]).length=ps.length:=by
  rw[jy,<- r2.length];exact F.len _ _ _ _ hq
 have aw:=hb { s2 with heap:=h' } (Value.ref J :: us) I3.kIn hl;rw[jy]at aw;refine qf (mi (F.run _ X.stack _ _ ⟨Value.ref J :: us,[]⟩ (Value.ref J :: us) _ _ E0 (hr.make C us []) (I3.env0.make C us []) aw r2 hq) λrr s' G=>?_);cases rr with
 | error ev=>exact G.elim
 | ok fl =>
  cases fl with
  | ret u =>
   obtain⟨v,H',I4,rv,ev,od,ho,q3⟩:=I3.after G;subst ev;obtain⟨⟨t0,a_⟩,_⟩:=I4.hok J _ ho;refine⟨rv,I4.bk _ _ hC,⟨od,t0,a_⟩,RX pins σ (del H' J) s' J _ _ (.ref t0) (I4.forget ho) a_ jF (λb o e1 z=>?_) rfl rfl rfl q3⟩;obtain⟨o',e2⟩:=Y.base.there b o e1 (by rw[hx];simp);rw[z,U.new]at e2;cases e2
  | next=>exact False.elim G
  | brk=>exact False.elim G
  | cont=>exact False.elim G
end
section
variable {P:Program} {w:World} {l:List Env} {H:Hp} {s s':Shared} {E:XK} {e:Addr}
structure Fly (P:Program) (w:World) (l:List Env) (H:Hp) (s:Shared) (e:Addr) (cls a0:Value) (od:Option Addr) (H':Hp) (B:Heap) (s':Shared):Prop where
 os:s'.os=s.os
 bare:AllBare s'.gens
 un:Un (frs l) [] H H' s.heap s'.heap
 hok:HOk P w H' s'.heap
 no:H' e=none
 at_:∃ oe,s'.heap.get? e=some oe/\oe.dict=od
 fl:Heap.FlyingW B l e cls a0 s'.heap
 cov:∀ b u,H' b=some u->∃ o,B.get? b=some o
 olds:∀ b o,s.heap.get? b=some o->b∉frs l->∃ o',B.get? b=some o'
def CXR.fly {G:Value} (h:CXR P w l H s E G s'):∃ e cls a0 od H' B,G=.ref e/\Fly P w l H s e cls a0 od H' B s'/\E cls od H':=by
 obtain⟨e,cls,a0,H',B,J,rfl,os,bare,un,hok,z,he,fl,cov,olds,q⟩:=h;exact⟨e,cls,a0,J.dict,H',B,rfl,⟨os,bare,un,hok,z,⟨J,he,rfl⟩,fl,cov,olds⟩,q⟩
variable {cls a0:Value} {od:Option Addr} {H':Hp} {B:Heap}
def Fly.frame (f:Fly P w l H s e cls a0 od H' B s') {b:Addr} (J:b∈frs l) {o:Obj} (L:s'.heap.get? b=some o):∀ vs,o.data≠.fields vs:=by
 obtain⟨_,o',z,G⟩:=f.fl.2.2.1.mem J;rw[L]at z;cases z;exact G
def Fly.turn (f:Fly P w l H s e cls a0 od H' B s') {h':Heap} {t':Nat} (fl:Heap.FlyingW B l e cls a0 h') (L:s'.heap.UpToSlots h') (hd:HD s'.heap h'):Fly P w l H s e cls a0 od H' B { s' with heap:=h',toks:=t' }:=by
 have same:∀ b o o',B.get? b=some o->s'.heap.get? b=some o'->h'.get? b=some o':=λb o o' e1 G=>by
  have:=f.fl.1 b o e1;rw[G]at this;cases this;exact fl.1 b _ e1
 obtain⟨oe,he,hdct⟩:=f.at_;obtain⟨Y,av,de,ce⟩:=hd e oe he;refine⟨f.os,f.bare,⟨λb o e1 n J M=>?_,λb o e1 n J M=>?_,f.un.free,λb o e1 M=>?_,f.un.tups,f.un.frzs,f.un.tbls⟩,λb u e1=>?_,f.no,⟨Y,av,de.trans hdct⟩,fl,f.cov,f.olds⟩
 .obtain⟨o',U⟩:=f.olds b o e1 J;exact same b o' o U (f.un.keep b o e1 n J M)
 .obtain⟨sl,G⟩:=f.un.slot b o e1 n J M;obtain⟨aw,e3⟩:=L b _ G (f.frame J G);exact⟨aw,e3⟩
 .by_cases J:b∈frs l
  .obtain⟨o',G⟩:=f.un.there b o e1 M;obtain⟨sl,e3⟩:=L b o' G (f.frame J G);exact⟨_,e3⟩
  .obtain⟨o',U⟩:=f.olds b o e1 J;exact⟨o',fl.1 b o' U⟩
 .refine(f.hok b u e1).stay (λc v hc G=>?_) (λ_ z=>z) λ_ _ z=>z;have tr:∃ o,B.get? c=some o:=by
   rcases hc with z | z
   .rw[z];exact f.cov b u e1
   .exact f.cov c _ z
  obtain⟨o,U⟩:=tr;exact same c o v U G
def Fly.fresh (f:Fly P w l H s e cls a0 od H' B s') {b:Addr} {o:Obj} (e1:s.heap.get? b=some o):b≠e:=λz=>by
 subst z
 by_cases G:b∈frs l
 .obtain⟨o',L⟩:=f.un.there b o e1 (by simp);obtain⟨M,vs,he,_,hd,_⟩:=f.fl.first
  exact f.frame G he vs hd
 .obtain⟨o',J⟩:=f.olds b o e1 G;rw[f.fl.2.1]at J;cases J
end
def XH (e:Addr) (cls:Value) (od:Option Addr):HO:=.ext λh=>∃ o vs,h.get? e=some o/\o.cls=cls/\o.dict=od/\o.data=.fields vs
section
variable {X:Cx} {pins:List (Addr×Obj)} {σ:St} {H:Hp} {s s':Shared} {e:Addr} {cls a0:Value} {od:Option Addr} {H':Hp} {B:Heap}
def Fly.inv (I:Inv X pins σ H s) (f:Fly X.prog X.w X.stack H s e cls a0 od H' B s'):Inv X pins σ H' s':=I.call' f.os f.un f.hok f.bare λb z=>absurd z (by simp)
def Fly.held (I:Inv X pins σ H s) (f:Fly X.prog X.w X.stack H s e cls a0 od H' B s'):Inv X pins σ (upd H' e (XH e cls od)) s':=by
 have ne:∀ b u,H' b=some u->b≠e:=λb u q z=>by rw[z,f.no]at q;cases q
 obtain⟨M,vs,he,J,hd,_⟩:=f.fl.first
 obtain⟨U,G,hdct⟩:=f.at_;rw[he]at G;cases G;refine I.call' f.os ⟨f.un.keep,f.un.slot,λb o e1 n Y=>?_,f.un.there,λb xs q=>?_,λb o u q=>?_,λb ps q=>?_⟩ (λb u q=>?_) f.bare λb z=>absurd z (by simp)
 .rw[aE (f.fresh e1)];exact f.un.free b o e1 n Y
 .have:=f.un.tups b xs q;rw[aE (ne b _ this)];exact this
 .have:=f.un.frzs b o u q;rw[aE (ne b _ this)];exact this
 .obtain⟨more,this⟩:=f.un.tbls b ps q;exact⟨more,by rw[aE (ne b _ this)];exact this⟩
 .by_cases L:b=e
  .subst L;rw[aD]at q;cases q;exact⟨⟨M,vs,he,J,hdct,hd⟩,⟨_,he⟩,λh1 h2 ⟨o,vs,z,zz⟩ k=>⟨o,vs,k _ z,zz⟩⟩
  .rw[aE L]at q;exact(f.hok b u q).stay (λ_ _ _ z=>z) (λc z=>by rw[aE (ne c _ z)];exact z) λc xs z=>by rw[aE (ne c _ z)];exact z
end
def HD.trans' {a b c:Heap} (x:HD a b) (y:HD b c):HD a c:=λp o e=>by
 obtain⟨z,e1,d1,G⟩:=x p o e;obtain⟨J,L,d2,M⟩:=y p z e1;exact⟨J,L,d2.trans d1,M.trans G⟩
def Cx.inX (X:Cx) (e:Addr):Cx:={ X with A:=X.A.mark (some (.ref e)),calm:=false,xe:=λ_ _=>False }
section
variable {X:Cx} {pins:List (Addr×Obj)} {σ:St} {H:Hp} {s s':Shared} {e:Addr} {cls a0:Value} {od:Option Addr} {H':Hp} {B:Heap}
def Cx.Ok.inX (o:X.Ok):(X.inX e).Ok:=⟨o.mod,o.kind,o.glob,o.blt,o.above,o.inj,o.has,o.cab,(λz=>by cases z),o.frames,o.stk,o.exf,o.bs,o.bsz,o.noex,o.exfs,o.funs,o.frf⟩
def Inv.inX (I:Inv X pins σ H s):Inv (X.inX e) pins σ H s:=⟨I.ok.inX,I.os,I.bare,I.base,I.loc,I.cell,I.free,I.freeC,I.pin,I.hok,I.len⟩
def Inv.outX (ok:X.Ok) (I:Inv (X.inX e) pins σ H s):Inv X pins σ H s:=⟨ok,I.os,I.bare,I.base,I.loc,I.cell,I.free,I.freeC,I.pin,I.hok,I.len⟩
def aAB (Bd:Body X) (I:Inv X pins σ H s) (f:Fly X.prog X.w X.stack H s e cls a0 od H' B s') {hs:List ExceptHandler} {Q:Flow->Shared->Prop} {E:Value->Shared->Prop}
 (k:∀ G,Fly X.prog X.w X.stack H s e cls a0 od H' B G->wpAny (model X.prog X.w) X.A (handleBy (.ref e) X.env hs) Q E G) :
 wpAny (model X.prog X.w) X.A (noteFrame (.ref e) X.env) (λ_ J=>wpAny (model X.prog X.w) X.A (setFlight (.ref e) none) (λ_ L=>wpAny (model X.prog X.w) X.A (handleBy (.ref e) X.env hs) Q E L) E J) E s':=by
 have U:X.A.frames=some (X.env :: X.outer):=by rw[I.ok.frames,Bd.stk]
 have Y:Heap.FlyingW B (X.env :: X.outer) e cls a0 s'.heap:=by rw[<- Bd.stk];exact f.fl
 have w1:=wpAny_looks_onW (M:=model X.prog X.w) (A:=X.A) (E:=λ_ _=>False) (s:=s') (Q:=λ_ G=>∃ h',G={ s' with heap:=h' }/\Heap.HeldW B (X.env :: X.outer) e cls a0 X.env.locals h'/\s'.heap.UpToSlots h') U Bd.fr Y λh' a b=>⟨h',rfl,a,b⟩;refine dt (kK (nX (.ref e) X.env) w1) (λ_ s2 ⟨⟨h4,e4,held,u4⟩,av⟩=>?_) λ_ _ z=>z.1.elim;subst e4;have w2:=wpAny_landsW (M:=model X.prog X.w) (A:=X.A) (E:=λ_ _=>False) (s:={ s' with heap:=h4 }) (Q:=λ_ G=>∃ h',G={ s' with heap:=h' }/\Heap.FlyingW B (X.env :: X.outer) e cls a0 h'/\h4.UpToSlots h') held λh' a b=>⟨h',rfl,a,b⟩;refine dt (kK (jU (.ref e) none) w2) (λ_ s3 ⟨⟨h5,e5,aw,u5⟩,a_⟩=>?_) λ_ _ z=>z.1.elim;subst e5;exact k _ (f.turn (t':=s'.toks) (by rw[Bd.stk];exact aw) (u4.trans u5) (HD.trans' av a_))
def vV (f:Fly X.prog X.w X.stack H s e cls a0 od H' B s') {A:Around} {Q:Unit->Shared->Prop} {E:Value->Shared->Prop} (k:∀ G,Fly X.prog X.w X.stack H s e cls a0 od H' B G->Q () G):wpAny (model X.prog X.w) A (setFlight (.ref e) none) Q E s':=by
 have U:=lands_againW (M:=model X.prog X.w) (A:=A) (E:=λ_ _=>False) (s:=s') (Q:=λ_ G=>∃ h',G={ s' with heap:=h' }/\Heap.FlyingW B X.stack e cls a0 h'/\s'.heap.UpToSlots h') f.fl λh' a b=>⟨h',rfl,a,b⟩;refine dt (kK (jU (.ref e) none) U) (λ_ s3 ⟨⟨h5,Y,J,u5⟩,L⟩=>?_) λ_ _ z=>z.1.elim;subst Y;exact k _ (f.turn (t':=s'.toks) J u5 L)
def zW (I:Inv X pins σ H s) (f:Fly X.prog X.w X.stack H s e cls a0 od H' B s') {A:Around} {x:Str} {c:Value} {b:Bool} {np:Pos} {Q:Bool->Shared->Prop} {E L:Value->Shared->Prop} (M:Gl X x) (U:X.mg x=some c) (Y:PySem.W.exmOne X.K cls c=some b) (q:Q b s') (hd:(x == ("__debug__":Str))=false:=by decide) :
 wpAny (model X.prog X.w) A (eval (.Name x np) X.env) (λc z=>wpAny (model X.prog X.w) A (excMatches (.ref e) c) Q E z) L s':=by
 have G:=f.inv I;refine pp G.ok.kind M (uu (by rw[G.ok.glob];exact G.mod.glob.keeps G.bk) U ?_) hd;obtain⟨oe,vs,he,J,_,_⟩:=f.fl.first
 have LT:PySem.W.Looks (model X.prog X.w) s'.heap (typeOf (.ref e)) cls:=J ▸ (PySem.W.Looks.ld he).andThen .now;exact(PySem.W.exm_one G.kIn LT Y).here q
end
abbrev HR:=Value->Option Addr->Addr->nJ->St->Hp->Prop
def PH (X:Cx) (J:List ExceptHandler) (r:HR):Prop:=∀ (pins:List (Addr×Obj)) (z:Hp) (G:Shared) (σ:St) (e:Addr) (cls a0:Value) (od:Option Addr) (H':Hp) (B:Heap) (s':Shared) (D:nJ),Inv X pins σ z G ->
 Fly X.prog X.w X.stack z G e cls a0 od H' B s'->r cls od e D σ H'->wpAny (model X.prog X.w) X.A (handleBy (.ref e) X.env J) (SP X pins D) X.xe s'
def aEk (K:PySem.W.Frag) (c:Value) (ts:TS) (r:HR):HR:=λcls od e D σ H=>∃ b,PySem.W.exmOne K cls c=some b/\if b=true then ts D σ H else r cls od e D σ H
def aDC (K:PySem.W.Frag) (c:Value) (i:Nat) (ts:TS) (r:HR):HR:=λcls od e D σ H=>∃ b,PySem.W.exmOne K cls c=some b/\if b=true then
 ts { nx:=λz H2=>D.nx (z.set i none) H2,rt:=D.rt,bk:=λz H2=>D.bk (z.set i none) H2,ct:=λz H2=>D.ct (z.set i none) H2 } (σ.set i (some (.ref e))) (upd H e (XH e cls od))else r cls od e D σ H
def aEl:HR:=λ_ _ _ _ _ _=>False
section
variable {X:Cx} {x:Str} {c:Value} {np pos:Pos} {ap:Stmt} {al:List Stmt} {rest:List ExceptHandler} {ts:TS} {r:HR}
def aDD:PH X [] aEl:=λ_ _ _ _ _ _ _ _ _ _ _ _ _ _ q=>q.elim
def SP.outX {pins:List (Addr×Obj)} {D:nJ} {f:Flow} {s:Shared} {e:Addr} (ok:X.Ok) (h:SP (X.inX e) pins D f s):SP X pins D f s:=by
 cases f with
 | next=>obtain⟨z,H',I,q⟩:=h;exact⟨z,H',I.outX ok,q⟩
 | brk=>obtain⟨z,H',I,q⟩:=h;exact⟨z,H',I.outX ok,q⟩
 | cont=>obtain⟨z,H',I,q⟩:=h;exact⟨z,H',I.outX ok,q⟩
 | ret u=>obtain⟨v,z,H',I,q⟩:=h;exact⟨v,z,H',I.outX ok,q⟩
def pH (L:Gl X x) (M:X.mg x=some c) (U:∀ e,PSs (X.inX e) (ap :: al) ts) (Y:PH X rest r) (hd:(x == ("__debug__":Str))=false:=by decide) :
 PH X (.ExceptHandler (some (.Name x np)) none (ap :: al) pos :: rest) (aEk X.K c ts r):=λpins H0 s0 σ e cls a0 od H' B s' D I f q=>by
 obtain⟨b,hb,q⟩:=q;refine wpAny_handleBy_cons (vt (zW I f L M hb ?_ hd)) (by intro q;cases q);cases b with
 | false =>
  rw[bB (by decide)]at q;exact Y pins H0 s0 σ e cls a0 od H' B s' D I f q
 | true =>
  rw[da rfl]at q;refine codeAny_handlers_suite (vV f λG J=>?_);exact dt (U e pins G σ H' D (J.inv I).inX q) (λfl s3 z=>z.outX I.ok) λ_ _ z=>z.elim
end
section
variable {X:Cx} {pins:List (Addr×Obj)} {σ:St} {H:Hp} {s:Shared}
def lU {M:Model} {A:Around} {E:Value->Shared->Prop} {i:Nat} {x:Str} {pos:Pos} {Q:Unit->Shared->Prop} (I:Inv X pins σ H s) (hN:X.N.Nodup) (hi:X.N[i]?=some x) (hk:X.env.scope.names.lookup x=some .local)
 (h:∀ s',Inv X pins (σ.set i none) H s'->Q () s'):wpAny M A (do bindName X.env x .none;unbindBehindTheSuite X.env x pos) Q E s:=by
 obtain⟨m,hn,hl⟩:=id I.loc;have J:(X.env.scope.kind == .class || (X.env.scope.kind == .module && X.env.locals != X.env.globals))=false:=by rw[I.ok.kind];rfl
 have L:i<σ.length:=by rw[I.len];exact(aFd.mp hi).1
 have cne:=I.cne;refine wpAny_nameGoes_keeps hk hn J λh' v av G=>?_;have tracked:HOk X.prog X.w H h':=λb ob e=>by
  refine(I.hok b ob e).stay (λc w' hc q=>(G.2 c ?_).trans q) (λ_ q=>q) λ_ _ q=>q;rintro rfl;rcases hc with z | hc
  .rw[<- z,I.free]at e;cases e
  .rw[I.free]at hc;cases hc
 refine h _ ⟨I.ok,I.os,I.bare,⟨λb o e n hb U=>?_,λb o e n hb U=>?_,I.base.free,λb o e U=>?_,I.base.tups,I.base.frzs,I.base.tbls⟩,⟨_,av,λj y v' e1 Y e3=>?_⟩,λy c e=>?_,I.free,I.freeC,λp hp=>?_,tracked,by simpa using I.len⟩
 .exact(G.2 b (aFY (aFS (aFH e) I.ok.above))).trans (I.base.keep b o e n hb U)
 .obtain⟨sl,e1⟩:=I.base.slot b o e n hb U;exact⟨sl,(G.2 b (aFY (aFS (aFH e) I.ok.above))).trans e1⟩
 .obtain⟨o',e1⟩:=I.base.there b o e U;exact⟨o',(G.2 b (aFY (aFS (aFH e) I.ok.above))).trans e1⟩
 .by_cases hj:j=i
  .subst hj;rw[qo L]at Y;cases Y
  .rw[mf (jh hj)]at Y;obtain⟨u',r',q⟩:=hl j y v' e1 Y e3;refine⟨u',r',?_⟩;rcases q with ⟨k,e⟩ | ⟨k,c,e,z⟩
   .refine .inl ⟨k,?_⟩;have:y≠x:=λe=>hj (sC hN e1 (e ▸ hi));simp[this,e]
   .exact .inr ⟨k,c,e,z.sameBut G (cne y c e)⟩
 .obtain⟨w',z⟩:=I.cell y c e;exact⟨w',z.sameBut G (cne y c e)⟩
 .obtain⟨e,n,ne,nf,d⟩:=I.pin p hp;exact⟨(G.2 p.1 ne).trans e,n,ne,nf,d⟩
end
section
variable {X:Cx} {x n:Str} {c:Value} {np pos:Pos} {ap:Stmt} {al:List Stmt} {rest:List ExceptHandler} {ts:TS} {r:HR} {i:Nat}
def sM (hg:Gl X x) (hm:X.mg x=some c) (Y:X.N.Nodup) (hi:X.N[i]?=some n) (U:X.env.scope.names.lookup n=some .local) (hs:∀ e,PSs (X.inX e) (ap :: al) ts) (hr:PH X rest r) (hd:(x == ("__debug__":Str))=false:=by decide) :
 PH X (.ExceptHandler (some (.Name x np)) (some n) (ap :: al) pos :: rest) (aDC X.K c i ts r):=λpins H0 s0 σ e cls a0 od H' B s' D I f q=>by
 obtain⟨b,hb,q⟩:=q;refine wpAny_handleBy_cons (vt (zW I f hg hm hb ?_ hd)) (by intro q;cases q);cases b with
 | false =>
  rw[bB (by decide)]at q;exact hr pins H0 s0 σ e cls a0 od H' B s' D I f q
 | true =>
  rw[da rfl]at q;refine codeAny_handlers_suite_as (vV f λaw av=>?_);refine pB (av.held I) Y hi (.inl U) (v:=.ref e) (u:=.ref e) rfl (λs3 I3 _=>?_) (.inr U);refine dt (hs e pins s3 _ _ _ I3.inX q) (λfl s4 z=>?_) λ_ _ z=>z.elim;have z:=z.outX I.ok;cases fl with
  | next=>obtain⟨G,H2,J,L⟩:=z;exact lU J Y hi U λs5 M=>⟨_,_,M,L⟩
  | brk=>obtain⟨G,H2,J,L⟩:=z;exact lU J Y hi U λs5 M=>⟨_,_,M,L⟩
  | cont=>obtain⟨G,H2,J,L⟩:=z;exact lU J Y hi U λs5 M=>⟨_,_,M,L⟩
  | ret u=>obtain⟨v,G,H2,J,rv,L⟩:=z;exact lU J Y hi U λs5 M=>⟨v,_,_,M,rv,L⟩
abbrev TC:=St->Hp->(Hp->Prop)->XK->Prop
def aC4 (X:Cx) (st:Stmt) (t:TC):Prop:=∀ (pins:List (Addr×Obj)) (s:Shared) (σ:St) (H:Hp) (Q:Hp->Prop) (E:XK),Inv X pins σ H s->t σ H Q E ->
 wpAny (model X.prog X.w) X.A (exec st X.env) (λf z=>f=.next/\∃ H',Inv X pins σ H' z/\Q H') (λL z=>∃ G J,Inv X pins σ G J/\CXR X.prog X.w X.stack G J E L z) s
def aEm (t:TC) (r:HR):TS:=λD σ H=>t σ H (λH'=>D.nx σ H') λcls od H'=>∀ e,H' e=none->r cls od e D σ H'
def aDE {st:Stmt} {h:ExceptHandler} {M:List ExceptHandler} {t:TC} (Bd:Body X) (Y:aC4 X st t) (hh:PH X (h :: M) r):PS X (.Try [st] (h :: M) [] [] pos) (aEm t r):=by
 intro pins s σ H D I q;refine wpAny_Try_except (rf (dt (Y pins s σ H _ _ I q) (λf s1 z=>?_) λev s1 z=>?_))
 .obtain⟨rfl,H',I',G⟩:=z;exact pc (pc ⟨σ,H',I',G⟩)
 .obtain⟨H0,s0,U,z⟩:=z;obtain⟨e,cls,a0,od,H',B,rfl,f,G⟩:=z.fly;exact aAB Bd U f λJ L=>hh pins H0 s0 σ e cls a0 od H' B J D U L (G e f.no)
end
abbrev SpS:=Shared->List Env->List V->Hp->VK->XK->Prop
structure vW (P:Program) (w:World) (K:PySem.W.Frag) (mg:Str->Option Value) (base:Heap) (CX:CXT) (k:Nat) (f:Addr) (fd:FuncData) (ps:List Str) (sp:SpS):Prop where
 len:∀ s o vs H Q E,sp s o vs H Q E->vs.length=ps.length
 run:∀ (A:Around) (outer:List Env) (s:Shared) (H:Hp) (args:Args) (us:List Value) (vs:List V) (Q:VK) (E:XK),Room k A->Env0 P w K mg base A outer s H->BindsTo s fd args (ps.zip us)->Vals vs us->sp s outer vs H Q E ->
  codeAny (model P w) A (.call (.ref f) args) (CR CX outer P w H s Q E) s
def aAC {CX:CXT} {P:Program} {w:World} {K:PySem.W.Frag} {mg:Str->Option Value} {base:Heap} {k:Nat} {f:Addr} {name qual:Str} {params:Arguments} {body:List Stmt} {scope:Scope} {dV kV M pm z ct oc:Value} {an od:Option Addr}
 {av:Array (Option Value)} {N ps:List Str} {sp:SpS} (lk:K.lookup f=some ⟨oc,od,.func (PySem.W.fnOf name qual params body scope dV kV M pm an z ct),av⟩) (aw:PySem.W.codeIn K z qual=true) (S:FnScope N ps scope)
 (len:∀ s o vs H Q E,sp s o vs H Q E->vs.length=ps.length)
 (G:∀ (A:Around) (outer:List Env) (s:Shared) (H:Hp) (vs:List V) (Q:VK) (E:XK),A.frames=some outer->Room k (A.deeper (envOfC qual scope s.heap.objs.size f z))->sp s outer vs H Q E ->
  ∃ t,PSs (gK CX P w K mg base N qual scope f z A outer s H E) body t/\t { nx:=λ_ H'=>Q .non H',rt:=Q } (eL N vs) H) :
 vW P w K mg base CX (k+1) f (PySem.W.fnOf name qual params body scope dV kV M pm an z ct) ps sp:=by
 refine⟨len,λA outer s H args us vs Q E hr U hb r Y=>?_⟩;have kp:∀ b o,base.get? b=some o->s.heap.get? b=some o:=λb o e=>(U.bs b o e).1;have KX:K.In s.heap:=U.mod.kin.keeps kp;refine vn hr.depth (KX _ _ lk) rfl S.co S.gen rfl (PySem.W.codeRec_of KX aw) (hb _ _ _ _ (pw S.kind (λ⟨n,v⟩ hy=>?_) λenv he s1 x=>?_))
 .exact(S.par n (si hy).1).imp (λq=>q) λq=>⟨q,ou _ _ _ (.inl q)⟩
 .subst he;obtain⟨t,ht,hq⟩:=G A outer s H vs Q E U.frames (hr.deeper _) Y;have I:Inv (gK CX P w K mg base N qual scope f z A outer s H E) [] (eL N vs) H s1:=pE S hr.hd U (len _ _ _ _ _ _ Y) r x;refine⟨(U.mod.nolimit.keeps kp).keeps x.toInCall.keep,codeAny_func (dt (ht [] s1 (eL N vs) H _ I hq) (λfl s' L=>?_) λ_ _ L=>L)⟩;cases fl with
  | ret u=>obtain⟨v,a_,H',J,rv,q⟩:=L;exact⟨v,H',J.os,J.bare,J.base,J.hok,rv,q⟩
  | next=>obtain⟨a_,H',J,q⟩:=L;exact⟨.non,H',J.os,J.bare,J.base,J.hok,rfl,q⟩
  | brk=>obtain⟨_,_,_,q⟩:=L;exact q.elim
  | cont=>obtain⟨_,_,_,q⟩:=L;exact q.elim
def zX (D:List (Addr×Obj)) (H:Hp) (h:Heap) (fr:List Addr):Prop:=∀ p∈D,h.get? p.1=some p.2/\H p.1=none/\p.1∉fr
def sN (P:Program) (w:World) (K:PySem.W.Frag) (mg:Str->Option Value) (base:Heap) (CX:CXT) (k:Nat) (f:Addr) (D:List (Addr×Obj)) (sp:Hp->VK->XK->Prop):Prop :=
 ∀ (A:Around) (outer:List Env) (s:Shared) (H:Hp) (Q:VK) (E:XK),Room k A->Env0 P w K mg base A outer s H->zX D H s.heap (frs outer)->sp H Q E ->
  codeAny (model P w) A (.call (.ref f) ⟨[],[]⟩) (CR CX outer P w H s Q E) s
def qM (CX:CXT) (P:Program) (w:World) (K:PySem.W.Frag) (mg:Str->Option Value) (base:Heap) (N:List Str) (qual:Str) (scope:Scope) (f:Addr) (cd:Value) (clos:List (Str×Addr)) (A:Around) (outer:List Env) (s:Shared) (H:Hp) (E:XK):Cx where
 prog:=P
 w:=w
 K:=K
 mg:=mg
 base:=base
 A:=A.deeper (PySem.W.envX qual scope s.heap.objs.size f cd clos)
 N:=N
 s₀:=s
 H₀:=H
 env:=PySem.W.envX qual scope s.heap.objs.size f cd clos
 outer:=outer
 stack:=PySem.W.envX qual scope s.heap.objs.size f cd clos :: outer
 ex:=[]
 calm:=true
 fn:=λ_=>false
 pn:=[]
 xe:=λe s'=>wpAny (model P w) (A.deeper (PySem.W.envX qual scope s.heap.objs.size f cd clos)) (leaving (PySem.W.envX qual scope s.heap.objs.size f cd clos) e) (λ_ s''=>CX outer H s E e s'') (λe' s''=>CX outer H s E e' s'') s'
structure zY (N:List Str) (scope:Scope) (clos:List (Str×Addr)) (D:List (Addr×Obj)) (σ:St):Prop where
 kind:scope.kind=.function
 co:scope.isCoroutine=false
 gen:scope.isGenerator=false
 nocell:∀ x∈scope.names,x.2≠.cell
 inj:∀ x y c,clos.lookup x=some c->clos.lookup y=some c->x=y
 has:∀ x,scope.names.lookup x=some .free->∃ c,clos.lookup x=some c
 cells:∀ x c,clos.lookup x=some c->∃ o u,(c,o)∈D/\o.data=.cell u
 vals:∀ (i:Nat) (x:Str) (v:V),N[i]?=some x->σ[i]?=some (some v)->scope.names.lookup x=some .free/\∃ c o u,clos.lookup x=some c/\(c,o)∈D/\o.data=.cell (some u)/\RelV v u
 len:σ.length=N.length
def aDF {CX:CXT} {P:Program} {w:World} {K:PySem.W.Frag} {mg:Str->Option Value} {base:Heap} {k:Nat} {f c':Addr} {name qual:Str} {params:Arguments} {body:Expr} {scope:Scope} {clos:List (Str×Addr)} {pm ctv:Value} {D:List (Addr×Obj)} {N:List Str} {σ:St} {sp:Hp->VK->XK->Prop}
 (hf:(f,PySem.W.kla_obj name qual params body scope clos pm c' ctv)∈D) (hc:∃ oc vs t,(c',oc)∈D/\oc.data=.fields vs/\vs[1]?=some (.str qual t)) (S:zY N scope clos D σ)
 (hb:bindArgs (PySem.W.kla_fn name qual params body scope clos pm (.ref c') ctv) ⟨[],[]⟩=pure [])
 (Y:∀ (A:Around) (outer:List Env) (s:Shared) (H:Hp) (Q:VK) (E:XK),A.frames=some outer->Room k (A.deeper (PySem.W.envX qual scope s.heap.objs.size f (.ref c') clos))->sp H Q E ->
  ∃ te,PE (qM CX P w K mg base N qual scope f (.ref c') clos A outer s H E) body te/\te σ H Q) :
 sN P w K mg base CX (k+1) f D sp:=λA outer s H Q E hr M hD ba=>by
 have kp:∀ b o,base.get? b=some o->s.heap.get? b=some o:=λb o e=>(M.bs b o e).1;obtain⟨oc,vs,t,bb,hd,hv⟩:=hc;refine we hr.depth (hD _ hf).1 rfl S.co S.gen rfl ⟨c',oc,vs,t,rfl,(hD _ bb).1,hd,hv⟩ ?_;rw[hb];refine aFA (rp S.nocell (λx z=>absurd z (by simp)) (λU bc a_=>⟨((M.mod.nolimit).keeps kp).fresh _ a_,?_⟩) S.kind);show codeAny _ _ (.expr body (PySem.W.envX qual scope s.heap.objs.size f (.ref c') clos)) _ _;have G:∀ b o,s.heap.get? b=some o->U.get? b=some o:=λb o e=>a_.extBut b o (aFY (aFH e)) (aFC _ e);obtain⟨te,ht,hq⟩:=Y A outer s H Q E M.frames (hr.deeper _) ba;have av:∀ b:Addr,b∉(qM CX P w K mg base N qual scope f (.ref c') clos A outer s H E).ex:=λb z=>absurd (show b∈([]:List Addr) from z) (by simp);have I:Inv (qM CX P w K mg base N qual scope f (.ref c') clos A outer s H E) [] σ H { s with heap:=U,toks:=s.toks+([]:List (Str×Value)).length }:=by
  refine⟨⟨M.mod,S.kind,rfl,rfl,ah _,S.inj,λy hy=>?_,(λy c z=>by cases z),λ_=>hr.hd,nv M.frames,.inr ⟨rfl,rfl⟩,λb z=>absurd z (av b),M.bs,M.bsz,λb _ _=>av b,λb z=>absurd z (av b),M.funs,M.frf⟩,
   rfl,M.bare,Un.kept G,⟨_,bc,λi y v h1 h2 h3=>?_⟩,λy c h=>?_,M.hok.fresh (ah _),λy c h=>?_,λp hp=>absurd (show p∈([]:List (Addr×Obj)) from hp) (by simp),M.hok.kept G,S.len⟩
  .have hy:scope.names.lookup y=some .cell\/scope.names.lookup y=some .free:=hy;rcases hy with hy | hy
   .exact absurd rfl (S.nocell _ (kr hy))
   .exact S.has y hy
  .obtain⟨aw,c,o,u,bf,ho,L,rv⟩:=S.vals i y v h1 h2;exact⟨u,rv,.inr ⟨.inr aw,c,bf,o,G _ _ (hD _ ho).1,L⟩⟩
  .obtain⟨o,u,ho,L⟩:=S.cells y c h;exact⟨u,o,G _ _ (hD _ ho).1,L⟩
  .obtain⟨o,u,ho,L⟩:=S.cells y c h;exact(hD _ ho).2.1
 refine wf (dt (ht [] _ σ H _ I hq) (λu s' hs=>?_) λ_ _ hs=>hs);obtain⟨v,H',J,rv,q⟩:=hs;exact⟨v,H',J.os,J.bare,J.base,J.hok,rv,q⟩
def iH {P:Program} {w:World} {K:PySem.W.Frag} {mg:Str->Option Value} {base:Heap} {N:List Str} {qual:Str} {scope:Scope} {f:Addr} {G:Value} {clos:List (Str×Addr)} {A:Around} {outer:List Env} {s:Shared} {H:Hp} {E:XK} (z:A.frames=some outer) :
 iV (CXR P w) (qM (CXR P w) P w K mg base N qual scope f G clos A outer s H E) E:=λpins σ H1 J L s' I h =>
 zQ (X:=qM (CXR P w) P w K mg base N qual scope f G clos A outer s H E) ⟨rfl,rfl,rfl⟩ (nv z) I h
def aDw {P:Program} {w:World} {X:Cx}:iV (CXR P w) X E0:=λ_ _ _ _ _ _ _ h=>by
 obtain⟨_,_,_,_,_,_,_,_,_,_,_,_,_,_,_,_,q⟩:=h;exact q.elim
def cN (P:Program) (w:World) (K:PySem.W.Frag) (mg:Str->Option Value) (base:Heap) (x:Str) (k:Nat) (ps:List Str) (sp:Sp):Prop :=
 ∃ f fd,FnOk P w K mg base (CXR P w) k f fd ps sp/\mg x=some (.ref f)/\PySem.W.keepIn K (.ref f)=true/\Binds K fd ps []
section
variable {X:Cx} {x:Str} {j k:Nat} {ps:List Str} {sp:Sp} {t:TA} {e:Expr} {es:List Expr} {p pos:Pos}
def bN {E:XK} (F:cN X.prog X.w X.K X.mg X.base x j ps sp) (z:Room k X.A) (J:Gl X x) (L:iV (CXR X.prog X.w) X E) (M:PA X (e :: es) t) (hj:j<=k:=by decide) (hdb:(x == ("__debug__":Str))=false:=by decide)
 (he:starEach (e :: es) X.env=(false,eval e X.env) :: starEach es X.env:=by rfl) (hpl:(backTo pos (starEach es X.env)).any (·.1)=false:=by rfl) :
 PE X (.Call (.Name x p) (e :: es) [] pos) (qL sp [] E t):=by
 obtain⟨f,fd,G,U,Y,hb⟩:=F;exact T6 (hdb:=hdb) (he:=he) (hpl:=hpl) G (z.mono hj) J U Y hb .nil L M
end
def Cx.withE (X:Cx) (E:Value->Shared->Prop):Cx:={ X with xe:=E }
def Inv.withE {X:Cx} {pins:List (Addr×Obj)} {σ:St} {H:Hp} {s:Shared} {E:Value->Shared->Prop} (I:Inv X pins σ H s):Inv (X.withE E) pins σ H s :=
 ⟨⟨I.ok.mod,I.ok.kind,I.ok.glob,I.ok.blt,I.ok.above,I.ok.inj,I.ok.has,I.ok.cab,I.ok.hd,I.ok.frames,I.ok.stk,I.ok.exf,I.ok.bs,I.ok.bsz,I.ok.noex,I.ok.exfs,I.ok.funs,I.ok.frf⟩,I.os,I.bare,I.base,I.loc,I.cell,I.free,I.freeC,I.pin,I.hok,I.len⟩
def Inv.noE {X:Cx} {pins:List (Addr×Obj)} {σ:St} {H:Hp} {s:Shared} {E:Value->Shared->Prop} (ok:X.Ok) (I:Inv (X.withE E) pins σ H s):Inv X pins σ H s :=
 ⟨ok,I.os,I.bare,I.base,I.loc,I.cell,I.free,I.freeC,I.pin,I.hok,I.len⟩
def aEn (X:Cx) (k i:Nat):TC:=fun σ H Q E=>∃ f D z,σ[i]?=some (some (.ref f))/\sN X.prog X.w X.K X.mg X.base (CXR X.prog X.w) k f D z/\(∃ G od fd J,(f,(⟨G,od,.func fd,J⟩:Obj))∈D)/\zX D X.H₀ X.s₀.heap X.fs/\z H (λ_ H'=>Q H') E
def aDG {X:Cx} {k i:Nat} {x:Str} {np aa pos:Pos} (Bd:Body X) (hr:Room k X.A) (hN:X.N[i]?=some x) (hv:Vis X.env.scope x) (hd:(x == ("__debug__":Str))=false:=by decide) (Y:(x == ("__classdict__":Str))=false:=by decide)
 (hs:swapsWith (.Call (.Name x np) [] [] aa) none pos.line X.env=pure false:=by rfl):aC4 X (.Expr (.Call (.Name x np) [] [] aa) pos) (aEn X k i):=by
 intro pins s σ H Q E I h;obtain⟨f,D,a_,av,L,⟨oc,od,fd,sl,aw⟩,hD,q⟩:=h;refine wpAny_Expr_any ?_ I.quiet hs;refine ki ?_;have v:=w6 (X:=X.withE λev G=>∃ H0 s0,Inv X pins σ H0 s0/\CXR X.prog X.w X.stack H0 s0 E ev G) (pos:=np) hN hv hd Y pins s σ H (λu H'=>u=.ref f/\H'=H) I.withE ⟨_,av,rfl,rfl⟩;refine thn v λu G ⟨y,H1,I1,r1,ey,eH⟩=>?_;subst ey eH;obtain rfl:u=Value.ref f:=r1;have J:=I1.noE I.ok;have M:zX D H1 G.heap (frs X.stack):=λp hp=>by
  obtain⟨a1,a2,a3⟩:=hD p hp;refine⟨J.base.keep p.1 p.2 a1 a2 a3 (by rw[Bd.ex];simp),J.base.free p.1 p.2 a1 a2 (by rw[Bd.ex];simp),λz=>?_⟩;rcases Bd.mem.mp z with z | z
  .exact absurd (aFS (aFH a1) J.ok.above) (by rw[z];exact ln _)
  .exact a3 z
 refine PySem.W.callWith_F0 (first:=[]) ⟨oc,od,fd,sl,(M _ aw).1⟩ ?_;refine qf (mi (L X.A X.stack G H1 _ E hr J.env0 M q) λr s' U=>?_);cases r with
 | error ev=>exact⟨H1,G,J,U⟩
 | ok fl =>
  cases fl with
  | ret u =>
   obtain⟨v,H',I',rv,q'⟩:=J.after U;exact⟨rfl,H',I',q'⟩
  | next=>exact U.elim
  | brk=>exact U.elim
  | cont=>exact U.elim
def jG (mg:Str->Option Value) (h:Heap):Prop:=∃ bm z,mg "__builtins__"=some (.ref bm)/\bm≠builtinsNs/\h.get? bm=some z/\z.cls=.type "module"/\z.dict=some builtinsNs/\z.data=.plain
def O2 (z:List Nat) (σ:St):St:=z.map λi=>(σ[i]?).join
structure aAD (X:Cx) (scope:Scope) (clos:List (Str×Addr)) (NL:List Str) (ix:List Nat):Prop where
 kind:scope.kind=.function
 co:scope.isCoroutine=false
 gen:scope.isGenerator=false
 nocell:∀ x∈scope.names,x.2≠.cell
 cl:closureFor scope X.env=pure clos
 sub:∀ q∈clos,X.env.cells.lookup q.1=some q.2/\X.fn q.1=true
 has:∀ x,scope.names.lookup x=some .free->∃ c,clos.lookup x=some c
 ixs:∀ (j:Nat) (x:Str),NL[j]?=some x->∃ i,ix[j]?=some i/\X.N[i]?=some x/\Vis X.env.scope x/\X.env.kindOf x≠some .local/\scope.names.lookup x=some .free
 len:ix.length=NL.length
section
variable {X:Cx}
def fQ {x:Str} {c:Addr} {clos:List (Str×Addr)} (h:clos.lookup x=some c):(x,c)∈clos:=kr h
end
section
variable {prog:Program} {w:World} {A:Around} {E:Value->Shared->Prop} {s:Shared} {K:PySem.W.Frag} {x C:Addr} {ox:Obj} {od:Option Obj} {name:Str} {expr:Bool} {Q:Value->Shared->Prop}
def aBg {v:Value} (X:K.In s.heap) (I:PySem.W.InstAt s.heap x ox C od) (hga:PySem.W.findIn K (.ref C) "__getattribute__"=some (some (.builtin "BaseException.__getattribute__"))) (hk:PySem.W.findIn K (.ref C) "__getattr__"=some none)
 (hs:PySem.W.subIn K (.ref C) (.type "BaseException")=some true) (hf:PySem.W.findObj K C od name=some (.value v)) (hh:PySem.W.handedIn v=true) (h:Q v { s with toks:=s.toks+1 }):wpAny (model prog w) A (getAttr (.ref x) name expr) Q E s:=by
 have FB:=PySem.F.attrBase_ValueError;have L0:=I.type (M:=model prog w);have L1:=PySem.W.looks_find (M:=model prog w) X I hf;have ht:PySem.W.Looks (model prog w) s.heap (isInstance (.ref x) (.type "BaseException")) true:=L0.andThen (PySem.W.looks_subIn X hs);have hook:PySem.W.Looks (model prog w) s.heap (hookBefore (.ref C)) none:=PySem.W.looks_hook X (by rw[da (show onTheHeap (Value.ref C)=true from rfl)];exact hk);obtain⟨hh',g,d,t,os⟩:=s;refine aEz (wpAny_mkText (jn (aEz (L0.at (aEz ((py X hga).at ?_))))));dsimp only;rw[show (onTheHeap (Value.ref C) && Value.builtin "BaseException.__getattribute__" == Value.builtin "object.__getattribute__")=false from by rw[show (Value.builtin "BaseException.__getattribute__" == Value.builtin "object.__getattribute__")=false from by decide +kernel,wk],bB (by decide)];refine aEz (hook.at (aEz (uy (jn ?_))));unfold callGetattribute;rw[show (expr && onTheHeap (Value.builtin "BaseException.__getattribute__"))=false from wk _,bB (by decide)];unfold boundAndCalled;rw[FB.ga.bind];refine aEz (aFA ?_);show wpAny _ _ (call (.builtin "BaseException.__getattribute__") [.ref x,.str name t]) _ _ _;refine qf ?_;refine mh FB.ga.plain PySem.F.entry_bexc_ga ?_;refine @PySem.W.check_slot (model prog w) _ _ ⟨hh',g,d,t+1,os⟩ "BaseException.__getattribute__" "BaseException" "__getattribute__" (.ref x) [.str name t] [] _ (by decide +kernel) (by decide +kernel) ht (PySem.F.args_bexc_ga (.ref x) (.str name t)) ?_;refine aEz (aFA (aEz (aFA (aEz (L0.at (aEz (L1.at ?_)))))));refine aFA ?_;show wpAny _ _ (handedOut v) _ _ _;rw[wg hh];exact aFA h
end
structure aC5 (K:PySem.W.Frag) (C:Addr) (f:Str):Prop where
 ga:PySem.W.findIn K (.ref C) "__getattribute__"=some (some (.builtin "BaseException.__getattribute__"))
 hook:PySem.W.findIn K (.ref C) "__getattr__"=some none
 sub:PySem.W.subIn K (.ref C) (.type "BaseException")=some true
 hd:PySem.W.hasDictIn K C=true
 free:PySem.W.findIn K (.ref C) f=some none
def aC6 (K:PySem.W.Frag) (ta:TE) (f:Str):TE:=fun σ H Q=>ta σ H λx H1=>∃ a C dx fs v,x=.ref a/\H1 a=some (XH a (.ref C) (some dx))/\H1 dx=some (.xd fs)/\aC5 K C f/\fs.lookup f=some v/\Q v H1
def aBh {X:Cx} {e:Expr} {ta:TE} {f:Str} {pos:Pos} (he:PE X e ta) (hb:attributeBase e f X.env (eval e X.env)=eval e X.env):PE X (.Attribute e f pos) (aC6 X.K ta f):=by
 intro pins s σ H Q I h;refine aB8 hb (thn (he pins s σ H _ I h) λu s1 ⟨x,H1,L,rx,a,C,dx,fs,v,ex,ea,ed,G,l,q⟩=>?_);subst ex;obtain rfl:u=Value.ref a:=rx;obtain⟨⟨o,vs,ho,M,hdct,z⟩,_⟩:=L.hok a _ ea;obtain⟨mA,U,Y⟩:=L.hok dx _ ed;obtain⟨od,av,hl⟩:=vO U;obtain⟨u,hu,ru⟩:=RelO.some_of (v:=v) (o:=mA f) (by rw[<- l];exact Y f);have J:PySem.W.InstAt s1.heap a o C (some od):=⟨ho,M,by unfold PySem.W.notCls;rw[z],by rw[hdct];exact av⟩;exact aBg L.kIn J G.ga G.hook G.sub (PySem.W.findObj_own G.hd G.free rfl (by rw[hl,hu])) (Z6 ru) ⟨v,H1,L.tok _,ru,q⟩
section
variable {P:Program} {w:World} {K:PySem.W.Frag} {mg:Str->Option Value} {base:Heap}
def Fun.okS {x qual:Str} {st:Stmt} {f:Addr} {fd:FuncData} {N ps:List Str} {k:Nat} {sp:SpS} (F:Fun K x qual st f fd) (S:FnScope N ps (aH st)) (len:∀ s o vs H Q E,sp s o vs H Q E->vs.length=ps.length)
 (G:∀ (z:Value) (A:Around) (outer:List Env) (s:Shared) (H:Hp) (vs:List V) (Q:VK) (E:XK),A.frames=some outer->Room k (A.deeper (envOfC qual (aH st) s.heap.objs.size f z))->sp s outer vs H Q E ->
  ∃ t,PSs (gK (CXR P w) P w K mg base N qual (aH st) f z A outer s H E) (bH st) t/\t { nx:=λ_ H'=>Q .non H',rt:=Q } (eL N vs) H):vW P w K mg base (CXR P w) (k+1) f fd ps sp:=by
 obtain⟨oc,od,kV,U,pm,an,z,ct,Y,rfl,lk,J⟩:=F.ex;exact aAC lk J S len λA outer s H vs Q E L hr M=>G z A outer s H vs Q E L hr M
def Fun.okX {x qual:Str} {st:Stmt} {f:Addr} {fd:FuncData} {N ps:List Str} {k:Nat} {sp:Sp} (F:Fun K x qual st f fd) (S:FnScope N ps (aH st)) (len:∀ vs H Q E,sp vs H Q E->vs.length=ps.length)
 (J:∀ (z:Value) (A:Around) (outer:List Env) (s:Shared) (H:Hp) (vs:List V) (Q:VK) (E:XK),A.frames=some outer->Room k (A.deeper (envOfC qual (aH st) s.heap.objs.size f z))->sp vs H Q E ->
  ∃ t,PSs (gK (CXR P w) P w K mg base N qual (aH st) f z A outer s H E) (bH st) t/\t { nx:=λ_ H'=>Q .non H',rt:=Q } (eL N vs) H):FnOk P w K mg base (CXR P w) (k+1) f fd ps sp:=by
 obtain⟨oc,od,kV,Y,pm,an,z,ct,av,rfl,lk,L⟩:=F.ex;have G:=aAC (CX:=CXR P w) (P:=P) (w:=w) (mg:=mg) (base:=base) (k:=k) (sp:=λ_ _ vs H Q E=>sp vs H Q E) lk L S (λ_ _ vs H Q E h=>len vs H Q E h) λA outer s H vs Q E M hr U=>J z A outer s H vs Q E M hr U;exact⟨len,G.run⟩
def aAE {CX:CXT} {N:List Str} {qual:Str} {scope:Scope} {f:Addr} {G:Value} {A:Around} {outer:List Env} {s:Shared} {H:Hp} {E:XK} :
 PassesOwn (model P w) (gK CX P w K mg base N qual scope f G A outer s H E).A (gK CX P w K mg base N qual scope f G A outer s H E).env (gK CX P w K mg base N qual scope f G A outer s H E).xe :=
 PassesOwn.leaving (Q₁:=λe z=>CX outer H s E e z) (E₁:=λe z=>CX outer H s E e z)
end
open Sem (wp)
open Builtin Builtin.ObjectAttr
section
variable {prog:Program} {w:World} {A:Around} {E:Value->Shared->Prop} {h:Heap} {g:Array GenState} {d:Drawn} {t:Nat} {os:OsState} {K:PySem.W.Frag} {C e:Addr} {name:Str} {v:Value} {vs:Array Value}
def O3 {Q:Unit->Shared->Prop} {dx:Addr} {mA:Str->Option Value} {ns:List Str} (X:K.In h) (S:iW K C name) (hx:h.get? e=some { cls:=.ref C,dict:=some dx,data:=.fields vs }) (hn:h.Ns1 dx mA) (ne:e≠dx)
 (hw:Within mA ns) (hsz:ns.length<=1000)
 (hq:∀ h' tk',Heap.SameBut dx h h'->h'.Ns1 dx (λy=>if y=name then some v else mA y)->Q () ⟨h',g,d,tk',os⟩) :
 wpAny (model prog w) A (setAttr (.ref e) name v) Q E ⟨h,g,d,t,os⟩:=by
 obtain⟨⟨cd,bm,hc,hm,href,hob,hdct⟩,hs,hfree⟩:=S;have SF:=uk;obtain⟨oD0,esD0,epD0,hoD0,hdD0,hcD0⟩:=hn.count hw;have I:PySem.W.InstAt h e { cls:=.ref C,dict:=some dx,data:=.fields vs } C (some oD0):=⟨hx,rfl,rfl,hoD0⟩;have hmro:PySem.W.Looks (model prog w) h (mroOf (.ref C)) cd.mro:=(qe X hc).andThen .now;have hsub:PySem.W.Looks (model prog w) h (isInstance (.ref e) (.type "object")) true:=I.type.andThen (wq X (by
  unfold PySem.W.mroIn;rw[hc,Option.bind_some,hm,bB (by simp),kj,hob,qz]))
 refine PySem.W.set_plain (s:=⟨h,g,d,t,os⟩) X I hs ?_;refine mh SF.slot.plain SF.entry (@PySem.W.check_slot (model prog w) _ _ _ "object.__setattr__" "object" "__setattr__" (.ref e) [.str name t,v] [] _ SF.kind SF.split hsub (SF.args (.ref e) (.str name t) v) ?_);rw[PySem.W.osa_eq,refuse_eq];refine aEz (aEz (I.type.at (aEz (hmro.at ?_))));rw[hm,refuseLoop_ref,href];refine aFA (aEz (I.type.at (aEz ((py X hfree).at (aEz ?_)))));refine aFA ?_;dsimp only;refine aEz (aFA (aEz (aEz (wpAny_loadPart hx (aEz ((qe X hc).at ?_))))));rw[hdct];refine aFA (a:=some dx) (aEz (aFA (aEz ?_)));refine wpAny_nsSet1 hn λh' hn' hs=>?_;obtain⟨oD,esD,epD,hoD,hdD,hcD⟩:=hn'.count (Within.cons name v hw);refine aEz (wpAny_lookBehind hoD (by rw[hdD];exact pastItsLine_dict (jf hcD (by rw[aF4,uv];omega))) ?_);exact aFA (hq h' _ hs hn')
end
section
variable {X:Cx} {pins:List (Addr×Obj)} {σ:St} {H:Hp} {s:Shared} {h':Heap} {dx:Addr}
def Inv.xdPut (I:Inv X pins σ H s) {t':Nat} {fs fs':List (Str×V)} (L:H dx=some (.xd fs)) (k:∀ b o,b≠dx->s.heap.get? b=some o->h'.get? b=some o) (hd:∃ M,h'.Ns1 dx M/\∀ f,RelO (fs'.lookup f) (M f)) :
 Inv X pins σ (upd H dx (.xd fs')) { s with heap:=h',toks:=t' }:=by
 have ne:∀ b u,H b=some u->(∀ U,u≠.xd U)->b≠dx:=λb u q n z=>by rw[z,L]at q;cases q;exact n _ rfl
 have Y:∀ b,H b=none->b≠dx:=λb q z=>by rw[z,L]at q;cases q
 have J:∀ b u,H b=some u->(∀ U,u≠.xd U)->upd H dx (.xd fs') b=some u:=λb u q n=>by rw[aE (ne b u q n)];exact q
 have th:∃ u,h'.get? dx=some u:=by
  obtain⟨M,⟨o,es,ep,e,_⟩,_⟩:=hd;exact⟨o,e⟩
 have un:Un X.fs [] H (upd H dx (.xd fs')) s.heap h':=⟨λb o q n _ _=>k b o (Y b n) q,λb o q n _ _=>⟨o.slots,k b o (Y b n) q⟩,λb o q n _=>by rw[aE (Y b n)];exact n,
  λb o q _=>by
   by_cases G:b=dx
   .rw[G];exact th
   .exact⟨o,k b o G q⟩,
  λb xs q=>J b _ q (λ_ z=>by cases z),λb o u q=>J b _ q (λ_ z=>by cases z),λb ps q=>⟨#[],by rw[J b _ q (λ_ z=>by cases z)];simp⟩⟩
 exact I.un (t':=t') un λb u q=>by
  by_cases G:b=dx
  .subst G;rw[aD]at q;cases q;exact hd
  .rw[aE G]at q;refine(I.hok b u q).stay (λc v av z=>k c v (λz'=>?_) z) (λc z=>J c _ z λ_ z=>by cases z) λc xs z=>J c _ z λ_ z=>by cases z
   subst z';rcases av with z1 | z1
   .exact G z1.symm
   .rw[L]at z1;cases z1
def a9 {z:Str->Option Value}:∀ {fs:List (Str×V)},(∀ f,RelO (fs.lookup f) (z f))->Within z (fs.map (·.1)):=by
 intro fs r y G;have:=r y;cases q:fs.lookup y with
 | none=>rw[q]at this;exact absurd this.none_of G
 | some v =>
  clear this r G
  induction fs with
  | nil=>cases q
  | cons p r J =>
   obtain⟨a,b⟩:=p;rw[ju]at q
   by_cases h:(y == a)=true
   .rw[ul]at h;subst h;simp
   .rw[Bool.not_eq_true]at h;rw[h]at q;exact aFE _ (J q)
end
section
variable {X:Cx}
def aDx (K:PySem.W.Frag) (ta tv:TE) (f:Str):TS:=λD σ H=>tv σ H λy H1=>ta σ H1 λx H2=>∃ a C dx fs,x=.ref a/\H2 a=some (XO C a (some dx))/\H2 dx=some (.xd fs)/\fs.length<=1000/\iW K C f /\
 D.nx σ (upd H2 dx (.xd ((f,y) :: fs)))
def aBi {o value:Expr} {f:Str} {ta tv:TE} {pos pos':Pos} (ha:PE X o ta) (hv:PE X value tv) (hs:swapsWith value (some (.Attribute o f pos')) pos.line X.env=pure false):PS X (.Assign [.Attribute o f pos'] value pos) (aDx X.K ta tv f):=by
 intro pins s σ H D I h;refine qu (thn (hv pins s σ H _ I h) λu s1 ⟨y,H1,I1,ry,q⟩=>thn (ha pins s1 σ H1 _ I1 q) λov s2 ⟨x,H2,L,rx,a,C,dx,fs,ex,M,U,hl,S,q2⟩=>?_) hs;subst ex;obtain rfl:ov=Value.ref a:=rx;obtain⟨⟨t0,ho⟩,_⟩:=L.hok a _ M;obtain⟨mA,Y,G⟩:=L.hok dx _ U;have ne:a≠dx:=λz=>by rw[z,U]at M;cases M
 refine O3 L.kIn S ho Y ne (a9 G) (by rw[aFB];exact hl) λh' av sb J=>?_;refine⟨σ,_,L.xdPut (t':=av) (fs':=(f,y) :: fs) U (λb o n z=>(sb.2 b n).trans z) ⟨_,J,λg=>?_⟩,q2⟩
 by_cases hg:g=f
 .subst hg;rw[vr,da rfl];exact ry
 .have aw:(g == f)=false:=by simpa using hg
  rw[ju,aw,bB hg];exact G g
structure zZ (K:PySem.W.Frag) (D fB:Addr):Prop where
 ga:PySem.W.specialIn K (.ref D) "__getattribute__"=some (some (.builtin "type.__getattribute__"))
 reads:PySem.W.readsIn K D (.type "type")=true
 find:PySem.W.findCls K (.ref D) (.type "type") "__init__"=some (.val (.ref fB))
 keep:PySem.W.keepIn K (.ref fB)=true
def sO {CX:CXT} {k:Nat} {D G:Addr} {fd:FuncData} {ps:List Str} {sp:Sp} {E:XK} {x:Str} {e:Expr} {es:List Expr} {t:TA} {np apos pos:Pos} {pl:Sem Bool} (B:zZ X.K D G) (F:FnOk X.prog X.w X.K X.mg X.base CX k G fd ps sp) (M:Room k X.A) (U:Binds X.K fd ps []) (Y:iV CX X E)
 (hg:Gl X x) (hm:X.mg x=some (.ref D)) (ha:PA X (e :: es) t) (hdb:(x == ("__debug__":Str))=false:=by decide)
 (z:starEach (e :: es) X.env=(false,eval e X.env) :: starEach es X.env:=by rfl) (hpl:(backTo pos (starEach es X.env)).any (·.1)=false:=by rfl)
 (ht:eval (.Call (.Attribute (.Name x np) "__init__" apos) (e :: es) [] pos) X.env=(do
  let J <- eval (.Name x np) X.env
  standAt apos.atName
  let (f,first) <- holding [J] (getMethod J "__init__" pl)
  callWith pos f first (backTo pos (starEach (e :: es) X.env)) (backToKw pos (keywordEach [] X.env))):=by rfl) :
 PE X (.Call (.Attribute (.Name x np) "__init__" apos) (e :: es) [] pos) (qL sp [] E t):=by
 intro pins s σ H Q I h;refine vu (pl:=pl) (nK I hg hm ?_ hdb) ht;refine PySem.W.method_cls I.kIn B.ga (PySem.W.cls_value I.kIn B.reads B.find rfl ?_);refine tq (h₀:=X.base) I.ok.mod.kin B.keep (thn (ha pos pins { s with toks:=s.toks+1 } σ H _ (I.tok _) h) λus s1 ⟨vs,H1,L,r,q⟩=>⟨L.kIn,?_⟩) z hpl;exact y8 F M U .nil Y L r q
def aBj (K:PySem.W.Frag):PySem.W.findCls K (.type "ValueError") (.type "type") "__init__"=some (.val (.builtin "ValueError.__init__")):=by kernel_rfl
def xR {prog:Program} {w:World} {A:Around} {E:Value->Shared->Prop} {s:Shared} {K:PySem.W.Frag} {name:Str} {v:Value} {T:String} {pl:Sem Bool} {Q:Value×List Value->Shared->Prop} (X:K.In s.heap) (M:typeOf (.type T)=pure (.type "type")) (U:Manifest.isStub T=false)
 (e:PySem.W.findCls K (.type T) (.type "type") name=some (.val v)) (Y:PySem.W.handedIn v=true) (h:Q (v,[]) { s with toks:=s.toks+1 }):wpAny (model prog w) A (getMethod (.type T) name pl) Q E s:=by
 have G:opaqueClassAbove (.type T)=pure none:=by unfold opaqueClassAbove;dsimp only;rw[U];rfl
 have J:PySem.W.Looks (model prog w) s.heap (typeOf (.type T)) (.type "type"):=vv M;have L:PySem.W.findIn K (.type "type") "__getattribute__"=some (some (.builtin "type.__getattribute__")):=PySem.W.type_tga;unfold getMethod specialOf;refine aEz (aEz (J.here ((py X L).here ?_)));dsimp only;rw[da PySem.W.canon_tga];refine aEz (dt (Q:=λv=>Q (v,[])) (E:=E) ?_ (λ_ _ z=>aFA z) λ_ _ z=>z);have LO:PySem.W.Looks (model prog w) s.heap (opaqueClassAbove (.type T)) none:=vv G;refine PySem.W.cls_open X LO J L (PySem.W.looks_hook X (r:=none) (by rfl)) (by show PySem.W.subIn K _ _=_;rfl) e
  (aFA (by show wpAny _ _ (handedOut v) _ _ _;rw[wg Y];exact aFA h))
def aAF {e:Expr} {es:List Expr} {t:TA} {np apos pos:Pos} {pl:Sem Bool} (hg:Gl X "ValueError") (hm:X.mg "ValueError"=none) (ha:PA X (e :: es) t)
 (G:starEach (e :: es) X.env=(false,eval e X.env) :: starEach es X.env:=by rfl) (hpl:(backTo pos (starEach es X.env)).any (·.1)=false:=by rfl)
 (ht:eval (.Call (.Attribute (.Name "ValueError" np) "__init__" apos) (e :: es) [] pos) X.env=(do
  let U <- eval (.Name "ValueError" np) X.env
  standAt apos.atName
  let (f,first) <- holding [U] (getMethod U "__init__" pl)
  callWith pos f first (backTo pos (starEach (e :: es) X.env)) (backToKw pos (keywordEach [] X.env))):=by rfl) :
 PE X (.Call (.Attribute (.Name "ValueError" np) "__init__" apos) (e :: es) [] pos) (aDA X.K t):=by
 intro pins s σ H Q I h;refine vu (pl:=pl) (fA I hg hm (u:=.type "ValueError") (by kernel_rfl) ?_) ht;refine xR I.kIn (by kernel_rfl) (by decide +kernel) (aBj X.K) (by decide +kernel) ?_;have z:(backTo pos (starEach (e :: es) X.env)).any (·.1)=false:=by
  rw[G];show (false || (backTo pos (starEach es X.env)).any (·.1))=false;rw[hpl];rfl
 refine kz z ?_;have sp:=ha pos pins { s with toks:=s.toks+1 } σ H _ (I.tok _) h;rw[G]at sp ⊢;refine oa (thn sp λus Y ⟨vs,H2,L,r,a,C,i,od,rest,ev,hz,hx,hC,q⟩=>?_);subst ev;cases r with
 | cons r0 rr =>
  rename_i u us _
  obtain rfl:u=Value.ref a:=r0;obtain⟨bm,N,nm,qn,bs,hdct,sn,sub,ab,col,dd,k0,k1,k2,k3,k5,mN,M,hN,av,T⟩:=hC Y.heap L.kIn;obtain⟨⟨t0,ho⟩,_⟩:=L.hok a _ hx;refine O1 (hrest:=by have:=rr.length;show us.length<=_;omega) ti T M ho λh' t1 k J=>?_;refine⟨.non,H2,?_,rfl,q⟩;have:=L.write (x:=a) (e:=a) (o:=XO C a od) (t':=Y.toks) (by rw[hx];exact True.intro) (.inl rfl) k ⟨_,J⟩ (XO.mk J)
  rwa [show upd H2 a (XO C a od)=H2 from by funext b;unfold upd;split <;> simp_all]at this
end
structure FunD (K:PySem.W.Frag) (x qual:Str) (st:Stmt) (f:Addr) (fd:FuncData):Prop where
 ex:∃ (oc:Value) (od:Option Addr) (dV kV doc pm:Value) (an:Option Addr) (cdv ct:Value) (osl:Array (Option Value)),
  fd=PySem.W.fnOf x qual (bS st) (bH st) (aH st) dV kV doc pm an cdv ct/\K.lookup f=some ⟨oc,od,.func fd,osl⟩/\PySem.W.codeIn K cdv qual=true
 kp:PySem.W.keepIn K (.ref f)=true
section
variable {P:Program} {w:World} {K:PySem.W.Frag} {mg:Str->Option Value} {base:Heap}
def FunD.ok {x qual:Str} {st:Stmt} {f:Addr} {fd:FuncData} {N ps:List Str} {k:Nat} {sp:Sp} (F:FunD K x qual st f fd) (S:FnScope N ps (aH st)) (len:∀ vs H Q E,sp vs H Q E->vs.length=ps.length)
 (G:∀ (z:Value) (A:Around) (outer:List Env) (s:Shared) (H:Hp) (vs:List V) (Q:VK) (E:XK),Room k (A.deeper (envOfC qual (aH st) s.heap.objs.size f z))->sp vs H Q E ->
  ∃ t,PSs (gK CX0 P w K mg base N qual (aH st) f z A outer s H E).nox (bH st) t/\t { nx:=λ_ H'=>Q .non H',rt:=Q } (eL N vs) H):FnOk P w K mg base CX0 (k+1) f fd ps sp:=by
 obtain⟨oc,od,dV,kV,M,pm,an,z,ct,U,rfl,lk,J⟩:=F.ex;refine y9 lk J S len λA outer s H vs Q E Y L=>?_;obtain⟨t,h,q⟩:=G z A outer s H vs Q E Y L;exact⟨t,h.nox,q⟩
def xS {x qual:Str} {st:Stmt} {f:Addr} {U:Value} {od L:Option Addr} {J:Array (Option Value)} {M kV G pm z ct:Value} (l:K.lookup f=some ⟨U,od,.func (PySem.W.fnOf x qual (bS st) (bH st) (aH st) M kV G pm L z ct),J⟩)
 (c:PySem.W.codeIn K z qual=true) (k:PySem.W.keepIn K (.ref f)=true):FunD K x qual st f (PySem.W.fnOf x qual (bS st) (bH st) (aH st) M kV G pm L z ct):=⟨⟨U,od,M,kV,G,pm,L,z,ct,J,rfl,l,c⟩,k⟩
end
end L2
namespace L2
open PySem PySem.Spec PyProof.Rows
open PySem.W PySem.Calls
end L2
namespace L2
open PySem PySem.Spec PyProof.Rows
def kO (scope:Scope) (env:Env):List (Str×Addr) :=
 scope.names.foldl (λz y=>if y.2 == .free then (match env.cells.lookup y.1 with | some c=>(y.1,c) :: z | none=>z)else z) []
def qN {env:Env}:∀ (names:List (Str×NameKind)) (z:List (Str×Addr)),(∀ y∈names,y.2=.free->∃ c,env.cells.lookup y.1=some c) ->
 (forIn names z λ(y:Str×NameKind) (r:List (Str×Addr))=>(match y with | (name,kind)=>if (kind == NameKind.free)=true then (do let a <- cellOf env name;pure (ForInStep.yield ((name,a) :: r)))else pure (ForInStep.yield r):Sem (ForInStep (List (Str×Addr))))) =
  pure (names.foldl (λz y=>if y.2 == .free then (match env.cells.lookup y.1 with | some c=>(y.1,c) :: z | none=>z)else z) z)
 | [],z,_=>rfl
 | (n,k) :: r,z,h=>by
  rw[List.forIn_cons,aF2];have G:=λz=>qN (env:=env) r z λy L=>h y (aFE _ L)
  by_cases J:k=.free
  .subst J;obtain⟨c,e⟩:=h (n,.free) aFD rfl;have M:env.cells.lookup n=some c:=e;simp only[cellOf,M,beq_self_eq_true,ud];exact G _
  .have U:(k == NameKind.free)=false:=by simpa using J
   simp only[U,jv,oy];exact G _
def xT {scope:Scope} {env:Env} (h:∀ y∈scope.names,y.2=.free->∃ c,env.cells.lookup y.1=some c):closureFor scope env=pure (kO scope env):=by
 have e:=qN (env:=env) scope.names [] h;unfold closureFor kO;rw[<- e]
 first | rfl | simp
def vX {env:Env} {x:Str} {c:Addr}:∀ (names:List (Str×NameKind)) (G:List (Str×Addr)),(∀ z d,G.lookup z=some d->env.cells.lookup z=some d) ->
 (names.foldl (λG y=>if y.2 == .free then (match env.cells.lookup y.1 with | some c=>(y.1,c) :: G | none=>G)else G) G).lookup x=some c->env.cells.lookup x=some c
 | [],G,h,e=>h x c e
 | (n,k) :: r,G,h,e=>by
  rw[aF2]at e;refine vX r _ ?_ e;intro z d q
  by_cases M:(k == NameKind.free)=true
  .simp only[M,ud]at q;cases J:env.cells.lookup n with
   | none=>simp only[J]at q;exact h z d q
   | some a =>
    simp only[J,ju]at q
    by_cases hz:(z == n)=true
    .simp only[hz]at q;have:z=n:=by simpa using hz
     subst this;rw[J];exact q
    .have L:(z == n)=false:=by simpa using hz
     simp only[L]at q;exact h z d q
  .simp only[M,oy]at q;exact h z d q
def gU {scope:Scope} {env:Env} {x:Str} {c:Addr} (e:(kO scope env).lookup x=some c):env.cells.lookup x=some c:=vX _ _ (λ_ _ q=>by simp at q) e
def mP {env:Env} {x:Str}:∀ (names:List (Str×NameKind)) (z:List (Str×Addr)),(∀ y∈names,y.2=.free->∃ c,env.cells.lookup y.1=some c)->((x,NameKind.free)∈names\/(z.lookup x).isSome=true) ->
 ((names.foldl (λz y=>if y.2 == .free then (match env.cells.lookup y.1 with | some c=>(y.1,c) :: z | none=>z)else z) z).lookup x).isSome=true
 | [],z,_,h=>by
  rcases h with h | h
  .cases h
  .exact h
 | (n,k) :: r,z,J,h=>by
  rw[aF2];refine mP r _ (λy M=>J y (aFE _ M)) ?_;rcases h with h | h
  .rcases aFe.mp h with h | h
   .cases h;obtain⟨c,e⟩:=J (x,.free) aFD rfl;have U:env.cells.lookup x=some c:=e;right
    simp[U,ju]
   .exact .inl h
  .right
   by_cases L:(k == NameKind.free)=true
   .simp only[L,ud];cases Y:env.cells.lookup n with
    | none=>exact h
    | some a =>
     simp only[ju]
     by_cases hz:(x == n)=true
     .simp[hz]
     .have G:(x == n)=false:=by simpa using hz
      simp only[G];exact h
   .simp only[L];exact h
def vY {scope:Scope} {env:Env} {x:Str} (z:∀ y∈scope.names,y.2=.free->∃ c,env.cells.lookup y.1=some c) (h:(x,NameKind.free)∈scope.names):∃ c,(kO scope env).lookup x=some c :=
 Option.isSome_iff_exists.mp (mP _ _ z (.inl h))
def dM (sc inn:Scope) (N:List Str) (js:List Nat) (cs:List Str):Bool :=
 (inn.kind == .function) && inn.names.all (λy=>y.2 != .cell && (y.2 != .local || inn.names.lookup y.1 == some .local) && (y.2 != .free || (sc.names.lookup y.1 == some .cell || sc.names.lookup y.1 == some .free))) &&
 (js.map λj=>N[j]?) == cs.map some && cs.all (λx=>inn.names.lookup x == some .free)
structure CompOk (sc inn:Scope) (N:List Str) (js:List Nat) (cs:List Str):Prop where
 kind:inn.kind=.function
 nocell:∀ y∈inn.names,y.2≠.cell
 names:∀ y∈inn.names,y.2=.local->inn.names.lookup y.1=some .local
 frees:∀ y∈inn.names,y.2=.free->sc.names.lookup y.1=some .cell\/sc.names.lookup y.1=some .free
 slots:(js.map λj=>N[j]?)=cs.map some
 caps:∀ x∈cs,inn.names.lookup x=some .free
def CompOk.of {G inn:Scope} {N:List Str} {js:List Nat} {cs:List Str} (h:dM G inn N js cs=true):CompOk G inn N js cs:=by
 unfold dM at h;simp only[jl]at h;obtain⟨⟨⟨h1,h2⟩,h3⟩,h4⟩:=h;rw[List.all_eq_true]at h2 h4;refine⟨by simpa using h1,λy z=>?_,λy z e=>?_,λy z e=>?_,by simpa using h3,λx J=>by simpa using h4 x J⟩
 .have:=h2 y z;simp only[jl]at this;simpa using this.1.1
 .have:=h2 y z;simp only[jl,e]at this;simpa using this.1.2
 .have:=h2 y z;simp only[jl,e]at this;simpa using this.2
def sIn (nt:Nat) (js:List Nat) (σ:St):St:=List.replicate nt none++js.map λj=>(σ[j]?).join
def gC (X:Cx) (inn:Scope) (N':List Str) (s₀:Shared) (H₀:Hp) (ex:List Addr):Cx where
 prog:=X.prog
 w:=X.w
 K:=X.K
 mg:=X.mg
 base:=X.base
 A:=X.A
 N:=N'
 s₀:=s₀
 H₀:=H₀
 env:=compEnvC inn (kO inn X.env) s₀.heap.objs.size X.env
 outer:=X.stack
 stack:=X.stack
 ex:=ex
 fn:=λ_=>false
 calm:=X.calm
 pn:=[]
 xe:=λ_ _=>False
def PIf (X:Cx) (ifs:List Expr) (t:TT):Prop :=
 ∀ (pins:List (Addr×Obj)) (s:Shared) (σ:St) (H:Hp) (Q:Bool->Hp->Prop),Inv X pins σ H s->t σ H Q ->
  wpAny (model X.prog X.w) X.A (forIn ifs true λc r=>if r=true then do let ok <- isTrue c X.env (eval c X.env);pure (ForInStep.yield ok)else pure (ForInStep.yield r)) (TP X pins σ Q) X.xe s
def aEo:TT:=λ_ H Q=>Q true H
def dW {X:Cx}:PIf X [] aEo:=λ_ _ _ H _ I h=>wpAny_tests_nil ⟨H,I,h⟩
def rH {X:Cx} {c:Expr} {t:TT} (h:PT X c t):PIf X [c] t:=λpins s σ H Q I hw=>wpAny_tests_one (h pins s σ H Q I hw)
def sP (J:It) (L:St) (g:TG) (tt:TT) (te:TE) (Q:VK) (H1:Hp):Prop:=∃ W:Nat->Nat->List V->Hp->Prop,(∃ m,W 0 m [] H1)/\∀ i m ys H,W i m ys H ->
 ys.length<sizeLine/\((J.stop i H/\∀ D,H D=none->Q (.ref D) (upd H D (.lst ys))) \/
  (J.go i H/\∃ N:List V->Hp->Prop,(∀ z H',N z H'->∃ M,M<m/\W (i+1) M z H')/\∀ x H',J.yld i H x H'->g x L H' λG H2=>tt G H2 λb U =>
   if b=true then te G U λy Y=>N (ys++[y]) Y else N ys U))
def aC7 (wi:TI) (nt:Nat) (js:List Nat) (g:TG) (tt:TT) (te:TE):TE:=fun σ H Q=>wi σ H λJ H1=>sP J (sIn nt js σ) g tt te Q H1
def gJ {env:Env}:∀ {names:List (Str×NameKind)} {x:Str},names.lookup x=some .free ->
 (names.map λ(n,k)=>if (k == NameKind.free && env.scope.kind == .function && env.kindOf n == some .cell)then (n,NameKind.cell)else (n,k)).lookup x=some .cell \/
 (names.map λ(n,k)=>if (k == NameKind.free && env.scope.kind == .function && env.kindOf n == some .cell)then (n,NameKind.cell)else (n,k)).lookup x=some .free
 | [],_,h=>by simp at h
 | (n,k) :: r,x,h=>by
  have J:=@gJ env r x;show List.lookup x ((if (k == NameKind.free && env.scope.kind == .function && env.kindOf n == some .cell)=true then (n,NameKind.cell)else (n,k)) :: _)=_\/List.lookup x ((if (k == NameKind.free && env.scope.kind == .function && env.kindOf n == some .cell)=true then (n,NameKind.cell)else (n,k)) :: _)=_;cases z:x == n with
  | true =>
   simp only[ju,z]at h;cases h
   by_cases G:(NameKind.free == NameKind.free && env.scope.kind == .function && env.kindOf n == some .cell)=true
   .left;rw[da G];simp[ju,z]
   .right;rw[bB G];simp[ju,z]
  | false =>
   simp only[ju,z]at h
   by_cases G:(k == NameKind.free && env.scope.kind == .function && env.kindOf n == some .cell)=true
   .rw[da G];simp only[ju,z];exact J h
   .rw[bB G];simp only[ju,z];exact J h
def kP {env:Env}:∀ {names:List (Str×NameKind)} {x:Str},(∀ y∈names,y.2≠NameKind.cell) ->
 ((names.map λ(n,k)=>if (k == NameKind.free && env.scope.kind == .function && env.kindOf n == some .cell)then (n,NameKind.cell)else (n,k)).lookup x=some .cell \/
 (names.map λ(n,k)=>if (k == NameKind.free && env.scope.kind == .function && env.kindOf n == some .cell)then (n,NameKind.cell)else (n,k)).lookup x=some .free)->(x,NameKind.free)∈names
 | [],_,_,h=>by simp at h
 | (n,k) :: r,x,J,h=>by
  have L:=@kP env r x (λy M=>J y (aFE _ M));have U:=J (n,k) aFD;rw[aF0]at h;cases G:x == n with
  | true =>
   have e:x=n:=by simpa using G
   subst e
   by_cases z:(k == NameKind.free && env.scope.kind == .function && env.kindOf x == some .cell)=true
   .have:k=.free:=by simp only[jl]at z;simpa using z.1.1
    subst this;exact aFD
   .simp only[bB z,ju,G]at h;rcases h with h | h
    .cases h;exact absurd rfl U
    .cases h;exact aFD
  | false =>
   refine aFE _ (L ?_)
   by_cases z:(k == NameKind.free && env.scope.kind == .function && env.kindOf n == some .cell)=true
   .simp only[da z,ju,G]at h;exact h
   .simp only[bB z,ju,G]at h;exact h
section
variable {X:Cx} {pins:List (Addr×Obj)} {σ:St} {H H':Hp} {s:Shared} {inn:Scope} {js:List Nat} {cs ts:List Str} {nt:Nat}
def rJ {i:Nat} {v:V} (h:(sIn nt js σ)[i]?=some (some v)):nt<=i/\∃ j,js[i - nt]?=some j/\σ[j]?=some (some v):=by
 unfold sIn at h
 by_cases hi:i<nt
 .rw[uc (by simpa using hi),uw]at h;split at h <;> cases h
 .rw[pq (by simpa using hi),aFV,aFZ]at h;refine⟨by omega,?_⟩;cases e:js[i - nt]? with
  | none=>rw[e]at h;cases h
  | some j =>
   rw[e]at h;have h':(σ[j]?).join=some v:=jk h;refine⟨j,rfl,?_⟩;cases q:σ[j]? with
   | none=>rw[q]at h';cases h'
   | some o =>
    rw[q]at h';have z:o=some v:=h';rw[z]
def aDy {ex:List Addr} (I:Inv X pins σ H s) (O:CompOk X.env.scope inn X.N js cs) (hex:∀ b∈ex,b<s.heap.objs.size/\b≠X.env.locals/\b∉X.fs/\(∀ x c,X.env.cells.lookup x=some c->c≠b)/\∀ o,X.base.get? b≠some o) :
 (gC X inn (ts++cs) s H ex).Ok where
 mod:=I.ok.mod
 kind:=O.kind
 glob:=I.ok.glob
 blt:=I.ok.blt
 above:=ah _
 inj:=λx y c h1 h2=>I.ok.inj x y c (gU h1) (gU h2)
 has:=λx hx=>by
  have hm:(x,NameKind.free)∈inn.names:=kP O.nocell hx;exact vY (λy hy e=>I.ok.has y.1 (O.frees y hy e)) hm
 cab:=λ_ _ h=>absurd h (by show ¬ (false=true);decide)
 hd:=I.ok.hd
 frames:=I.ok.frames
 stk:=.inl rfl
 exf:=λb hb=>⟨aFY (hex b hb).1,λx c e=>(hex b hb).2.2.2.1 x c (gU e)⟩
 bs:=I.bs
 bsz:=jf I.ok.bsz I.sz
 noex:=λb o e hb=>(hex b hb).2.2.2.2 o e
 exfs:=λb hb hs=>by
  rcases aFe.mp (I.stkSub b hs)with e | e
  .exact(hex b hb).2.1 e
  .exact(hex b hb).2.2.1 e
 funs:=I.stack
 frf:=I.stkFree
def aAG {ex:List Addr} {h':Heap} {tk:Nat} (U:ts.length=nt) (I:Inv X pins σ H s) (O:CompOk X.env.scope inn X.N js cs) (hex:∀ b∈ex,b<s.heap.objs.size/\b≠X.env.locals/\b∉X.fs/\(∀ x c,X.env.cells.lookup x=some c->c≠b)/\∀ o,X.base.get? b≠some o)
 (hn:∃ m,h'.Ns s.heap.objs.size m) (hk:∀ b o,s.heap.get? b=some o->h'.get? b=some o) :
 Inv (gC X inn (ts++cs) s H ex) [] (sIn nt js σ) H { s with heap:=h',toks:=tk }:=by
 have ok:(gC X inn (ts++cs) s H ex).Ok:=aDy I O hex;obtain⟨m,hn⟩:=hn;have cellK:∀ c v,s.heap.IsCell c v->h'.IsCell c v:=λc v ⟨o,ho,hd⟩=>⟨o,hk c o ho,hd⟩;have hlen:js.length=cs.length:=by have:=congrArg List.length O.slots;simpa using this
 refine⟨ok,rfl,I.bare,Un.kept hk,⟨m,hn,λi x v e1 e2 e3=>?_⟩,λx c e=>?_,I.hok.fresh (ah _),λx c e=>I.freeC x c (gU e),λp hp=>?_,I.hok.kept hk,?_⟩
 .obtain⟨hi,j,hj,hv⟩:=rJ e2;have M:(ts++cs)[i]?=some x:=e1;rw[pq (by omega),U]at M;have hN:X.N[j]?=some x:=by
   have q:(js.map λj=>X.N[j]?)[i - nt]?=(cs.map some)[i - nt]?:=by rw[O.slots]
   rw[aFZ,aFZ,hj,M]at q;exact jk q
  have G:=O.caps x (aFM M);have J:(x,NameKind.free)∈inn.names:=kr G;have L:=O.frees _ J rfl;obtain⟨mo,aw,hl⟩:=I.loc;obtain⟨u,r,l⟩:=hl j x v hN hv (.inr L);refine⟨u,r,.inr ?_⟩;rcases l with ⟨l1,_⟩ | ⟨k,c,ec,z⟩
  .have Y:X.env.scope.names.lookup x=some .local:=l1;rcases L with q | q <;> (rw[q]at Y;cases Y)
  .refine⟨?_,?_⟩
   .exact gJ (env:=X.env) G
   .obtain⟨c',av⟩:=vY (env:=X.env) (λy hy e=>I.ok.has y.1 (O.frees y hy e)) J;have:=gU av;rw[ec]at this;cases this;exact⟨c,av,cellK _ _ z⟩
 .obtain⟨v,z⟩:=I.cell x c (gU e);exact⟨v,cellK _ _ z⟩
 .exact absurd (show p∈([]:List (Addr×Obj)) from hp) (by simp)
 .show (sIn nt js σ).length=(ts++cs).length;unfold sIn;simp[U,hlen]
def Inv.track {a:Addr} {o:HO} (I:Inv X pins σ H s) (M:H a=none) (h0:X.s₀.heap.objs.size<=a) (U:a≠X.env.locals) (Y:∀ x c,X.env.cells.lookup x=some c->c≠a) (hp:∀ p∈X.pn++pins,p.1≠a)
 (new:ObjOk X.prog X.w (upd H a o) s.heap a o):Inv X pins σ (upd H a o) s:=by
 have J:∀ b z,X.s₀.heap.get? b=some z->b≠a:=λb z e=>aFY (aFS (aFH e) h0);have neT:∀ b u,H b=some u->b≠a:=λb u e=>aU e M;refine⟨I.ok,I.os,I.bare,⟨I.base.keep,I.base.slot,λb z e n hx=>?_,I.base.there,λb xs e=>?_,λb z u e=>?_,λb ps e=>?_⟩,I.loc,I.cell,?_,λx c e=>?_,λp G=>?_,λb u e=>?_,I.len⟩
 .rw[aE (J b z e)];exact I.base.free b z e n hx
 .have q:=I.base.tups b xs e;rw[aE (neT b _ q)];exact q
 .have q:=I.base.frzs b z u e;rw[aE (neT b _ q)];exact q
 .obtain⟨more,q⟩:=I.base.tbls b ps e;exact⟨more,by rw[aE (neT b _ q)];exact q⟩
 .rw[aE (jh U)];exact I.free
 .rw[aE (Y x c e)];exact I.freeC x c e
 .obtain⟨q1,q2,q3,q4,q5⟩:=I.pin p G;exact⟨q1,by rw[aE (hp p G)];exact q2,q3,q4,q5⟩
 .by_cases L:b=a
  .subst L;rw[aD]at e;cases e;exact new
  .rw[aE L]at e;exact(I.hok b u e).stay (λ_ _ _ q=>q) (λc q=>by rw[aE (neT c _ q)];exact q) λc xs q=>by rw[aE (neT c _ q)];exact q
end
def GK (nt:Nat) (g:TG):Prop:=∀ v σ H Q,g v σ H Q->g v σ H λz H'=>((∀ i,nt<=i->z[i]?=σ[i]?)/\z.length=σ.length)/\Q z H'
def GKs (nt:Nat) (g:TGs):Prop:=∀ vs σ H Q,g vs σ H Q->g vs σ H λz H'=>((∀ i,nt<=i->z[i]?=σ[i]?)/\z.length=σ.length)/\Q z H'
def fJ {nt i:Nat} (h:i<nt):GK nt (qK i):=λv σ H Q q=>⟨⟨λj hj=>by rw[mf (by omega)],by simp⟩,q⟩
def lV {nt:Nat}:GKs nt aDj:=λvs σ H Q ⟨e,q⟩=>⟨e,⟨λ_ _=>rfl,rfl⟩,q⟩
def dQ {nt i:Nat} {u:TGs} (h:i<nt) (G:GKs nt u):GKs nt (aC1 (qK i) u):=λvs σ H Q q=>by
 obtain⟨v,r,e,q⟩:=q;refine⟨v,r,e,?_⟩;have J:u r (σ.set i (some v)) H Q:=q;have w:=G r (σ.set i (some v)) H Q J;have e1:∀ j,nt<=j->(σ.set i (some v))[j]?=σ[j]?:=λj hj=>by rw[mf (by omega)]
 have:(λ(z:St) (H':Hp)=>((∀ j,nt<=j->z[j]?=(σ.set i (some v))[j]?)/\z.length=(σ.set i (some v)).length)/\Q z H')=λz H'=>((∀ j,nt<=j->z[j]?=σ[j]?)/\z.length=σ.length)/\Q z H':=by
  funext z H'
  apply propext
  constructor
  .rintro ⟨⟨a,b⟩,c⟩;exact⟨⟨λj hj=>(a j hj).trans (e1 j hj),by simpa using b⟩,c⟩
  .rintro ⟨⟨a,b⟩,c⟩;exact⟨⟨λj hj=>(a j hj).trans (e1 j hj).symm,by simpa using b⟩,c⟩
 rw[this]at w;exact w
def pI {K:PySem.W.Frag} {nt n:Nat} {t:TGs} (h:GKs nt t):GK nt (aCq K n t):=λv σ H Q ⟨a,xs,e,z,G,q⟩=>⟨a,xs,e,z,G,h xs σ H Q q⟩
section
variable {X:Cx} {pins:List (Addr×Obj)} {σ:St} {inn:Scope} {js:List Nat} {cs ts:List Str} {nt:Nat} {elt tg iter:Expr} {ifs:List Expr} {pos:Pos} {g:TG} {tt:TT} {te:TE}
def vZ {J:It} {fp:List Addr} {it:Addr} {tn:Nat->Heap->Prop} {H2:Hp} {s2:Shared} {E:Value->Shared->Prop} {Q:VK} {RR:Value->Addr->Result->Shared->Prop}
 (bt:X.calm=true) (O:CompOk X.env.scope inn X.N js cs) (cx:ts.length=nt)
 (hg:∀ av aw ex,PG (gC X inn (ts++cs) av aw ex) tg g) (hk:GK nt g) (ht:∀ av aw ex,PIf (gC X inn (ts++cs) av aw ex) ifs tt) (he:∀ av aw ex,PE (gC X inn (ts++cs) av aw ex) elt te)
 (I2:Inv X pins σ H2 s2) (T:sE X.prog X.w X.K tg J fp it tn) (bu:tn 0 s2.heap) (f2:∀ b∈fp,kG X pins H2 b)
 (R:sP J (sIn nt js σ) g tt te Q H2)
 (cy:∀ D C s' H',Inv X pins σ H' s'->(∃ m,s'.heap.Ns C m)->H' C=none->C≠X.env.locals->X.s₀.heap.objs.size<=C->(∀ x c,X.env.cells.lookup x=some c->c≠C)->(∀ p∈X.pn++pins,p.1≠C)->Q (.ref D) H'->RR (.ref D) C (.ok .next) s') :
 wpAny (model X.prog X.w) X.A (newList []) (λcf cg=>wpAny (model X.prog X.w) X.A (newFunctionEnv inn X.env.globals (kO inn X.env) [] X.env.qual none .none (some X.env)) (λbo ci =>
  codeAny (model X.prog X.w) X.A (.compStart (.ListComp elt [⟨tg,iter,ifs,0⟩] inn pos) 0 (.ref it) cf { bo with scope:=relabel inn X.env }) (RR cf bo.locals) ci) E cg) E s2:=by
 refine pj (rp O.nocell (by intro y hy;simp at hy) (λa_ U Y=>?_) O.kind);dsimp only at U Y ⊢;generalize hD:s2.heap.objs.size=D;have I3:Inv X pins σ H2 { s2 with heap:=s2.heap.push { cls:=.type "list",dict:=none,data:=.seq ([]:List Value).toArray } }:=I2.kept (t':=s2.toks) λb o e=>aFC _ e;generalize cj:({ s2 with heap:=s2.heap.push { cls:=.type "list",dict:=none,data:=.seq ([]:List Value).toArray } }:Shared)=M at I3;have e3:M.heap=s2.heap.push { cls:=.type "list",dict:=none,data:=.seq ([]:List Value).toArray }:=by rw[<- cj]
 have cz:M.heap.get? D=some { cls:=.type "list",dict:=none,data:=.seq ([]:List Value).toArray }:=by rw[e3,<- hD];exact aFI _ rfl
 have bb:M.heap.objs.size=D+1:=by rw[e3,ka,hD]
 have c_:(s2.heap.push { cls:=.type "list",dict:=none,data:=.seq ([]:List Value).toArray })=M.heap:=e3.symm;rw[c_]at U Y ⊢;have bq:H2 D=none:=I2.hok.fresh (by rw[hD];exact ah _);have up:∀ b o,M.heap.get? b=some o->a_.get? b=some o:=λb o e=>Y.extBut b o (aFY (aFH e)) (aFC _ e);have bv:∀ b∈fp,b<M.heap.objs.size/\b≠D:=λb hb=>by
  obtain⟨o,eo,_⟩:=T.obj 0 _ bu b hb;have h1:=aFH eo;rw[hD]at h1;exact⟨by rw[bb];exact ly h1,aFY h1⟩
 have nb:∀ b,X.s₀.heap.objs.size<=b->∀ o,X.base.get? b≠some o:=λb hb o e=>absurd (aFS (aFH e) (jf I2.ok.bsz hb)) (ln _);have bg:s2.heap.objs.size<=D:=by rw[hD];exact ah _
 have fD:kG X pins H2 D:=I2.fpOk bg bq;have hex:∀ b∈D :: fp,b<M.heap.objs.size/\b≠X.env.locals/\b∉X.fs/\(∀ x c,X.env.cells.lookup x=some c->c≠b)/\∀ o,X.base.get? b≠some o:=λb hb=>by
  rcases aFe.mp hb with rfl | hb
  .exact⟨by rw[bb];exact lu _,fD.2.1,fD.2.2.1,fD.2.2.2.2.1,nb _ (jf I2.sz bg)⟩
  .obtain⟨f0,f1,ck,f3,f4,f5⟩:=f2 b hb;refine⟨(bv b hb).1,f1,ck,f4,λo e=>?_⟩;rcases f3 with z | z
   .exact I2.ok.noex b o e z
   .exact nb b z o e
 have hC:M.heap.objs.size=M.heap.objs.size:=rfl;generalize L:gC X inn (ts++cs) M H2 (D :: fp)=G;have I4:Inv G [] (sIn nt js σ) H2 { M with heap:=a_,toks:=M.toks }:=by
  rw[<- L];exact aAG cx I3 O hex ⟨_,U⟩ up
 have xp:G.prog=X.prog:=by rw[<- L];rfl
 have xw:G.w=X.w:=by rw[<- L];rfl
 have xK:G.K=X.K:=by rw[<- L];rfl
 have xA:G.A=X.A:=by rw[<- L];rfl
 have xc:G.calm=true:=by rw[<- L];exact bt
 have xe:G.env=compEnvC inn (kO inn X.env) M.heap.objs.size X.env:=by rw[<- L];rfl
 have xx:G.xe=λ_ _=>False:=by rw[<- L];rfl
 have bw:G.ex=D :: fp:=by rw[<- L];rfl
 have b_:G.pn=[]:=by rw[<- L];rfl
 have cm:G.s₀=M:=by rw[<- L];rfl
 have dc:G.H₀=H2:=by rw[<- L];rfl
 have df:G.fs=frs X.stack:=by rw[<- L];rfl
 have dh:PG G tg g:=by rw[<- L];exact hg _ _ _
 have di:PIf G ifs tt:=by rw[<- L];exact ht _ _ _
 have dk:PE G elt te:=by rw[<- L];exact he _ _ _
 have okX:=I4.ok;have xl:G.env.locals=M.heap.objs.size:=by rw[xe];rfl
 have Dl:D≠G.env.locals:=by rw[xl,bb];exact aFY (lu _)
 have bc:∀ {H':Hp} {pl:List (Addr×Obj)},(∀ b∈fp,H' b=none)->(∀ p∈pl,p.1=D)->∀ b∈fp,kG G pl H' b:=λ{H' pl} hn hpl b hb=>by
  have bh:b∈G.ex:=by rw[bw];exact aFE _ hb
  refine⟨hn b hb,(okX.exf b bh).1,λz=>okX.exfs b bh z,.inl bh,(okX.exf b bh).2,λp hp=>?_⟩;rw[b_,lj]at hp;rw[hpl p hp];exact jh (bv b hb).2
 have DX:D∈G.ex:=by rw[bw];exact aFD
 obtain⟨W,⟨m0,w0⟩,turn⟩:=R;have loop:codeAny (model X.prog X.w) X.A (.compLoop (.ListComp elt [⟨tg,iter,ifs,0⟩] inn pos) 0 (.ref it) (.ref D) G.env) (RR (.ref D) M.heap.objs.size) { M with heap:=a_,toks:=M.toks }:=by
  refine xf rfl (λn s'=>∃ i ys H',Inv G [] (sIn nt js σ) H' s'/\tn i s'.heap/\(∀ b∈fp,H' b=none)/\H' D=none/\(∃ (its:List Value) (c:Nat),Vals ys its/\s'.heap.get? D=some { cls:=.type "list",data:=.seq its.toArray c })/\W i n ys H') ?_ m0
   ⟨0,[],H2,I4,?_,λb hb=>(f2 b hb).1,bq,⟨[],0,.nil,up D _ cz⟩,w0⟩
  .rintro n s5 ⟨i,ys,H5,I5,cn,cp,ca,⟨its,c,rv,eD⟩,w5⟩;show wpAny _ X.A ((compTurn (.ListComp elt [⟨tg,iter,ifs,0⟩] inn pos) 0 (.ref it) (.ref D) G.env).onRaise (λx=>do noteFrame x G.env;theTreesLotGoes x)) _ _ s5;refine wpAny_noted ?_;rw[compTurn_list];refine aEz (lq (aEz ?_));have br:Inv G (cW [D] s5.heap) (sIn nt js σ) H5 s5:=by
    have q:=I5.pinned (fp:=[D]) (λb hb=>?_) (λb hb=>?_)
    .simpa using q
    .have e:b=D:=by simpa using hb
     subst e;refine⟨ca,Dl,λz=>okX.exfs b DX z,.inl DX,(okX.exf b DX).2,λp hp=>?_⟩;rw[b_,lj]at hp;cases hp
    .have e:b=D:=by simpa using hb
     subst e;exact⟨_,eD,λv z=>by cases z⟩
   have cb:∀ p∈cW [D] s5.heap,p.1=D:=λp hp=>by simpa using (jD hp).1
   have memD:(D,({ cls:=.type "list",data:=.seq its.toArray c }:Obj))∈cW [D] s5.heap:=cK (by simp) eD;obtain⟨hz,dm⟩:=turn i n ys H5 w5;rcases dm with ⟨stop,fin⟩ | ⟨go,N,hN,step⟩
   .have q:=T.done G xp xw xK xc i _ s5 _ H5 (notedBy (model X.prog X.w) X.A G.env λe s'=>RR (.ref D) M.heap.objs.size (.error e) s') br (bc cp cb) cn stop;rw[xA]at q;refine dt q (λr s6 ⟨hr,I6⟩=>?_) λ_ _ z=>z;subst hr;refine aFA ?_;have dn:=(I6.pin (D,_) (aFF _ memD)).1;have un:Un (frs X.stack) (D :: fp) H2 H5 M.heap s6.heap:=by
     have z:=I6.base;rw[df,bw,dc,cm]at z;exact z
    have dq:s6.os=M.os:=by have z:=I6.os;rw[cm]at z;exact z
    have cq:HOk X.prog X.w H5 s6.heap:=by have z:=I6.hok;rw[xp,xw]at z;exact z
    have I7:Inv X pins σ H5 s6:=I3.call' dq un cq I6.bare λb hb=>by
     rcases aFe.mp hb with e | hb
     .rw[e];exact⟨.inr (jf I2.sz bg),fD.2.1,fD.2.2.2.2.1,fD.2.2.2.2.2⟩
     .obtain⟨f0,f1,ck,f3,f4,f5⟩:=f2 b hb;exact⟨f3,f1,f4,f5⟩
    have I8:Inv X pins σ (upd H5 D (.lst ys)) s6:=I7.track ca (jf I2.sz bg) fD.2.1 fD.2.2.2.2.1 fD.2.2.2.2.2 ⟨km hz,its,c,rv,dn⟩;have cr:M.heap.objs.size<=M.heap.objs.size:=ah _;have fC:kG X pins (upd H5 D (.lst ys)) M.heap.objs.size:=I3.fpOk cr (by
     rw[aE (by rw[<- xl];exact jh Dl)];have z:=I6.free;rw[xl]at z;exact z)
    obtain⟨mm,cu,_⟩:=I6.loc;rw[xl]at cu;exact cy D _ s6 _ I8 ⟨mm,cu⟩ fC.1 fC.2.1 (jf I3.sz cr) fC.2.2.2.2.1 fC.2.2.2.2.2 (fin D ca)
   .have q:=T.item G xp xw xK xc i _ s5 _ H5 (notedBy (model X.prog X.w) X.A G.env λe s'=>RR (.ref D) M.heap.objs.size (.error e) s') br (bc cp cb) cn go;rw[xA]at q;refine dt q (λr s6 ⟨u,hr,h6⟩=>?_) λ_ _ z=>z;subst hr;refine aEz (dt h6 (λ_ s7 ⟨x,H7,I7,r7,y7,cc,dr⟩=>?_) λ_ _ z=>z);have du:=I7.pinned (fp:=fp) (λb hb=>bc dr cb b hb) (T.obj _ _ cc);have q8:=dh _ s7 _ H7 x u _ du r7 (hk x _ H7 _ (step x H7 y7));rw[xp,xw,xA,xx]at q8;refine aEz (dt q8 (λ_ s8 ⟨ba,H8,I8,⟨k8,l8⟩,q8⟩=>?_) λ_ _ z=>z.elim);have q9:=di _ s8 ba H8 _ I8 q8;rw[xp,xw,xA,xx]at q9;refine aEz (dt q9 (λok s9 ⟨H9,I9,q9⟩=>?_) λ_ _ z=>z.elim);have bi:∀ (j:Nat) v,(sIn nt js σ)[j]?=some (some v)->ba[j]?=some (some v):=λj v e=>by
     have hj:=(rJ e).1;rw[k8 j hj];exact e
    have ends:∀ {H9:Hp} {s9:Shared} {bf:List V},Inv G (cW [D] s5.heap++cW fp s7.heap) ba H9 s9->∀ {h':Heap} {its':List Value} {c':Nat},(∀ b o,b≠D->s9.heap.get? b=some o->h'.get? b=some o)->Vals bf its'->h'.get? D=some { cls:=.type "list",data:=.seq its'.toArray c' }->N bf H9 ->
     ∀ tk,∃ m,m<n/\∃ i ys H',Inv G [] (sIn nt js σ) H' { s9 with heap:=h',toks:=tk }/\tn i h'/\(∀ b∈fp,H' b=none)/\H' D=none/\(∃ (its:List Value) (c:Nat),Vals ys its/\h'.get? D=some { cls:=.type "list",data:=.seq its.toArray c })/\W i m ys H':=λ{H9 s9 bf} I9 {h' its' c'} kp dv dw n9 tk=>by
     obtain⟨m',hm,w9⟩:=hN bf H9 n9;have cv:H9 D=none:=(I9.pin (D,_) (aFF _ (aFU _ memD))).2.1;have dy:∀ b∈fp,H9 b=none:=λb hb=>by
      obtain⟨o,e,d⟩:=T.obj _ _ cc b hb;exact(I9.pin (b,o) (aFF _ (aFF _ (cK hb e)))).2.1
     have bj:Inv G [] ba H9 s9:=I9.pins_of λp hp=>by cases hp
     have dz:Inv G [] ba H9 { s9 with heap:=h',toks:=tk }:=bj.turned (it:=D) kp cv Dl (.inl DX) (okX.exf D DX).2 (λp hp=>by rw[b_]at hp;cases hp);refine⟨m',hm,i+1,bf,H9,dz.weak l8.symm bi,T.keep _ _ _ cc λb hb o e=>kp b o (bv b hb).2 (I9.pin (b,o) (aFF _ (aFF _ (cK hb e)))).1,dy,cv,⟨its',c',dv,dw⟩,w9⟩
    cases ok with
    | false =>
     rw[bB aFO]at q9;have d_:=(I9.pin (D,_) (aFF _ (aFU _ memD))).1;exact aFA ⟨rfl,ends I9 (h':=s9.heap) (λ_ _ _ e=>e) rv d_ q9 s9.toks⟩
    | true =>
     rw[da rfl]at q9;have bn:=dk _ s9 ba H9 _ I9 q9;rw[xp,xw,xA,xx]at bn;refine aEz (aEz (dt bn (λv eh ⟨y,fc,bj,e_,bn⟩=>?_) λ_ _ z=>z.elim));have cw:=(bj.pin (D,_) (aFF _ (aFU _ memD))).1;have hlen:=rv.length;refine aEz (uz (items:=its.toArray) ⟨c,cw⟩ (λh' hl hs=>aFA (aFA ⟨rfl,?_⟩)) (by rw[aFJ];omega));obtain⟨c',e'⟩:=hl;have fb:h'.get? D=some { cls:=.type "list",data:=.seq (its++[v]).toArray c' }:=by rw[e'];simp
     exact ends bj (h':=h') (λb o hb e=>hs.extBut b o hb e) (rv.append (.cons e_ .nil)) fb bn eh.toks
  .exact T.keep 0 _ _ bu λb hb o e=>up b o (by rw[e3];exact aFC _ e)
 have e4:({ s2 with heap:=a_,toks:=s2.toks+([]:List (Str×Value)).length }:Shared)={ M with heap:=a_,toks:=M.toks }:=by rw[<- cj];rfl
 rw[e4];show codeAny _ _ (.compStart (.ListComp elt [⟨tg,iter,ifs,0⟩] inn pos) 0 (.ref it) (.ref D) (compEnvC inn (kO inn X.env) M.heap.objs.size X.env)) (RR (.ref D) M.heap.objs.size) _;rw[<- xe];refine vk loop ?_;refine T.self X.A 0 _ _ _ ?_ loop;exact T.keep 0 _ _ bu λb hb o e=>up b o (by rw[e3];exact aFC _ e)
end
section
variable {X:Cx} {inn:Scope} {js:List Nat} {cs ts:List Str} {nt:Nat} {elt tg iter:Expr} {ifs:List Expr} {pos:Pos} {g:TG} {tt:TT} {te:TE} {wi:TI}
def eR (ts cs:List Str) (js:List Nat) (L:X.calm=true) (O:CompOk X.env.scope inn X.N js cs) (hi:PI X tg iter wi)
 (hg:∀ z G ex,PG (gC X inn (ts++cs) z G ex) tg g) (hk:GK ts.length g) (ht:∀ z G ex,PIf (gC X inn (ts++cs) z G ex) ifs tt) (he:∀ z G ex,PE (gC X inn (ts++cs) z G ex) elt te)
 (hs:∀ x,foldedSetIterable iter X.env x=pure x:=by intro _;rfl):PE X (.ListComp elt [⟨tg,iter,ifs,0⟩] inn pos) (aC7 wi ts.length js g tt te):=by
 intro pins s σ H Q I h;rw[eval_ListComp];refine qg (use:=none) rfl hs (xT λy hy e=>I.ok.has y.1 (O.frees y hy e)) O.kind O.names (thn (hi pins s σ H _ I h) λxv s1 h1=>thn h1 λav s2 h2=>?_);obtain⟨it,fp,tn,J,H2,e,I2,T,M,f2,R⟩:=h2;subst e;refine vZ (Q:=Q) (RR:=λU C=>compPost (model X.prog X.w) X.A X.xe none (EP X pins σ Q) U C) L O rfl hg hk ht he I2 T M f2 R ?_;intro D C s' H' I' ⟨m,hm⟩ c1 c2 c3 c4 c5 q;refine⟨m,hm,λh' Y=>?_⟩;exact⟨.ref D,H',I'.turned (it:=C) (t':=s'.toks) (λb o hb e=>Y.extBut b o hb e) c1 c2 (.inr c3) c4 c5,rfl,q⟩
def rK {i:Nat} {x:Str} {pos' M:Pos} (ts cs:List Str) (js:List Nat) (U:X.calm=true) (hN:X.N.Nodup) (av:X.N[i]?=some x) (hx:X.env.scope.names.lookup x=some .local) (O:CompOk X.env.scope inn X.N js cs) (hi:PI X tg iter wi)
 (hg:∀ G L ex,PG (gC X inn (ts++cs) G L ex) tg g) (hk:GK ts.length g) (ht:∀ G L ex,PIf (gC X inn (ts++cs) G L ex) ifs tt) (he:∀ G L ex,PE (gC X inn (ts++cs) G L ex) elt te)
 (aw:swapsWith (.ListComp elt [⟨tg,iter,ifs,0⟩] inn pos) (some (.Name x pos')) M.line X.env=pure true) (hs:∀ x,foldedSetIterable iter X.env x=pure x:=by intro _;rfl) :
 PS X (.Assign [.Name x pos'] (.ListComp elt [⟨tg,iter,ifs,0⟩] inn pos) M) (aB6 (aC7 wi ts.length js g tt te) (qK i)):=by
 intro pins s σ H D I h;rw[exec_Assign_Name_used _ _ _ _ aw];refine aEz (lq (aEz ?_));show wpAny _ X.A (do let _ <- comprehension (.ListComp elt [⟨tg,iter,ifs,0⟩] inn pos) inn X.env _ (newList []) false (eval iter X.env) (some (assign (.Name x pos') X.env))) _ _ s;refine aEz (dt (qg (use:=some (assign (.Name x pos') X.env)) (Q:=λ_ s'=>SP X pins D .next s') rfl hs (xT λy hy e=>I.ok.has y.1 (O.frees y hy e)) O.kind O.names
  (thn (hi pins s σ H _ I h) λxv s1 h1=>thn h1 λbf s2 h2=>?_)) (λ_ s' hq=>aFA (aFA hq)) λ_ _ e=>e)
 obtain⟨it,fp,tn,J,H2,e,I2,T,a_,f2,R⟩:=h2;subst e;refine vZ (Q:=λv H'=>D.nx (σ.set i (some v)) H') (RR:=λba C=>compPost (model X.prog X.w) X.A X.xe (some (assign (.Name x pos') X.env)) (λ_ s'=>SP X pins D .next s') ba C) U O rfl hg hk ht he I2 T a_ f2 R ?_;intro D' C s' H' I' ⟨m,hm⟩ c1 c2 c3 c4 c5 q;show wpAny _ X.A (assign (.Name x pos') X.env (.ref D')) _ _ _;refine wpAny_assign_Name (pB (v:=.ref D') I' hN av (.inl hx) rfl (λs2 I2 ⟨a,bb,ha⟩=>?_) (.inr hx));have bc:C≠a:=by
  rcases ha with e | e
  .rw[e];exact c2
  .exact λz=>c4 _ _ e z.symm
 refine⟨m,hm.sameBut bb bc,λh' Y=>?_⟩;exact⟨_,H',I2.turned (it:=C) (t':=s2.toks) (λb o hb e=>Y.extBut b o hb e) c1 c2 (.inr c3) c4 c5,q⟩
end
def gW {K:PySem.W.Frag} {a:Addr} {xs:List V} {z:St} {g:TG} {tt:TT} {te:TE} {H:Hp} {Q:VK} (Pv:Nat->List V->Hp->Prop) (h0:Pv 0 [] H) (M:∀ i ys H,i<=xs.length->Pv i ys H->SqL K H a xs/\ys.length<sizeLine)
 (U:∀ i x ys H,xs[i]?=some x->Pv i ys H->g x z H λG H2=>tt G H2 λb L=>if b=true then te G L λy Y=>Pv (i+1) (ys++[y]) Y else Pv (i+1) ys L) (hd:∀ ys H,Pv xs.length ys H->∀ D,H D=none->Q (.ref D) (upd H D (.lst ys))) :
 sP (Itl K a) z g tt te Q H:=by
 refine⟨λi m ys H=>m=xs.length - i/\i<=xs.length/\Pv i ys H,⟨xs.length,by simp,jr _,h0⟩,?_⟩;rintro i m ys H ⟨rfl,hi,p⟩;obtain⟨q,hz⟩:=M i ys H hi p;refine⟨hz,?_⟩
 by_cases J:i<xs.length
 .refine .inr ⟨⟨xs,xs[i],q,by simp[J]⟩,Pv (i+1),λav H' p'=>⟨xs.length - (i+1),by omega,rfl,J,p'⟩,λx H' y=>?_⟩;obtain⟨e,y⟩:=y;subst e;exact U i x ys _ (y xs q) p
 .have e:i=xs.length:=by omega
  subst e;exact .inl ⟨⟨xs,q,ah _⟩,hd ys H p⟩
def gZ {lo:Int} {n:Nat} {G:St} {g:TG} {tt:TT} {te:TE} {H:Hp} {Q:VK} (Pv:Nat->List V->Hp->Prop) (h0:Pv 0 [] H) (M:∀ i ys H,i<=n->Pv i ys H->ys.length<sizeLine)
 (U:∀ i ys H,i<n->Pv i ys H->g (.int (lo+i)) G H λJ H2=>tt J H2 λb L=>if b=true then te J L λy Y=>Pv (i+1) (ys++[y]) Y else Pv (i+1) ys L) (hd:∀ ys H,Pv n ys H->∀ D,H D=none->Q (.ref D) (upd H D (.lst ys))) :
 sP (Itr lo n) G g tt te Q H:=by
 refine⟨λi m ys H=>m=n - i/\i<=n/\Pv i ys H,⟨n,by simp,jr _,h0⟩,?_⟩;rintro i m ys H ⟨rfl,hi,p⟩;refine⟨M i ys H hi p,?_⟩
 by_cases z:i<n
 .refine .inr ⟨z,Pv (i+1),λav H' p'=>⟨n - (i+1),by omega,rfl,z,p'⟩,λx H' y=>?_⟩;obtain⟨e,y⟩:=y;subst e y;exact U i ys _ z p
 .have e:i=n:=by omega
  subst e;exact .inl ⟨ah _,hd ys H p⟩
mutual
inductive Den (H:Hp):V->PyData->Prop
 | non:Den H .non .none
 | bl (b:Bool):Den H (.bl b) (.bool b)
 | int (i:Int):Den H (.int i) (.int i)
 | str (x:Str):Den H (.str x) (.str x)
 | lst {a:Addr} {vs:List V} {ds:List PyData}:H a=some (.lst vs)->Dens H vs ds->Den H (.ref a) (.list ds)
 | tup {a:Addr} {vs:List V} {ds:List PyData}:H a=some (.tup vs)->Dens H vs ds->Den H (.ref a) (.tuple ds)
inductive Dens (H:Hp):List V->List PyData->Prop
 | nil:Dens H [] []
 | cons {v:V} {d:PyData} {vs:List V} {ds:List PyData}:Den H v d->Dens H vs ds->Dens H (v :: vs) (d :: ds)
end
def Dens.length:∀ {H:Hp} {vs:List V} {ds:List PyData},Dens H vs ds->vs.length=ds.length
 | _,_,_,.nil=>rfl
 | _,_,_,.cons _ t=>congrArg Nat.succ (Dens.length t)
def Dens.get:∀ {H:Hp} {vs:List V} {ds:List PyData} {i:Nat} {d:PyData},Dens H vs ds->ds[i]?=some d->∃ v,vs[i]?=some v/\Den H v d
 | _,_,_,_,_,.nil,e=>by simp at e
 | _,_,_,0,_,.cons r _,e=>by simp at e;subst e;exact⟨_,rfl,r⟩
 | _,_,_,i+1,d,.cons _ t,e=>by
  obtain⟨v,h1,h2⟩:=Dens.get (i:=i) (d:=d) t (by simpa using e);exact⟨v,by simpa using h1,h2⟩
mutual
def Den.mono {H H':Hp} (e:Same H H'):∀ {v:V} {d:PyData},Den H v d->Den H' v d
 | _,_,.non=>.non
 | _,_,.bl b=>.bl b
 | _,_,.int i=>.int i
 | _,_,.str x=>.str x
 | _,_,.lst h t=>.lst (e _ _ h) (Dens.mono e t)
 | _,_,.tup h t=>.tup (e _ _ h) (Dens.mono e t)
def Dens.mono {H H':Hp} (e:Same H H'):∀ {vs:List V} {ds:List PyData},Dens H vs ds->Dens H' vs ds
 | _,_,.nil=>.nil
 | _,_,.cons r t=>.cons (Den.mono e r) (Dens.mono e t)
end
def Dens.ints {H:Hp}:∀ ns:List Int,Dens H (ns.map V.int) (ns.map PyData.int)
 | []=>.nil
 | n :: r=>.cons (.int n) (Dens.ints r)
def Den.ints {H:Hp} {a:Addr} {ns:List Int} (h:H a=some (.lst (ns.map V.int))):Den H (.ref a) (.list (ns.map PyData.int)):=.lst h (Dens.ints ns)
def Same.upd {H:Hp} {a:Addr} {o:HO} (h:H a=none):Same H (upd H a o):=λb u e=>by rw[aE (aU e h)];exact e
def Same.upd' {H z:Hp} {a:Addr} {o:HO} (h:z a=none) (s:Same z H):Same z (L2.upd H a o):=λb u e=>by rw[aE (aU e h)];exact s b u e
section
variable {P:Program} {w:World} {H:Hp} {h:Heap}
mutual
def Den.reads (ok:HOk P w H h):∀ {v:V} {d:PyData} {u:Value},Den H v d->RelV v u->∃ as,Reads h u d as
 | _,_,_,.non,r=>by cases r;exact⟨_,.none⟩
 | _,_,_,.bl b,r=>by cases r;exact⟨_,.bool b⟩
 | _,_,_,.int i,r=>by obtain⟨t,rfl⟩:=r;exact⟨_,.int i t⟩
 | _,_,_,.str x,r=>by obtain⟨t,rfl⟩:=r;exact⟨_,.str x t⟩
 | _,_,_,.lst (a:=a) e t,r=>by
  cases r;obtain⟨_,its,n,z,G⟩:=ok a _ e;obtain⟨as,q⟩:=Dens.reads ok t z;exact⟨_,.list G rfl rfl (by simpa using q)⟩
 | _,_,_,.tup (a:=a) e t,r=>by
  cases r;obtain⟨_,its,z,o,G,J,n,hd⟩:=ok a _ e;obtain⟨as,q⟩:=Dens.reads ok t z;exact⟨_,.tuple G J hd (by simpa using q)⟩
def Dens.reads (ok:HOk P w H h):∀ {vs:List V} {ds:List PyData} {us:List Value},Dens H vs ds->Vals vs us->∃ as,ReadsAll h us ds as
 | _,_,_,.nil,.nil=>⟨_,.nil⟩
 | _,_,_,.cons r t,.cons q s=>by
  obtain⟨a,x⟩:=Den.reads ok r q;obtain⟨b,y⟩:=Dens.reads ok t s;exact⟨_,.cons x y⟩
end
end
def aEp:R2:=λx y H Q=>∃ d e,Den H x d/\Den H y e/\SeqAt.shaped d=true/\SeqAt.shaped e=true/\Q (.bl (PyData.eqv d e)) H
def aEq:R2:=λx y H Q=>∃ d e,Den H x d/\Den H y e/\SeqAt.shaped d=true/\SeqAt.shaped e=true/\Q (.bl (!PyData.eqv d e)) H
section
variable {X:Cx}
def aAH (z:X.A.units+64<cLine):OpR X (compareOp .Eq) aEp:=by
 intro pins s σ H x y v u Q I G J h;obtain⟨d,e,hd,he,L,M,q⟩:=h;obtain⟨as,U⟩:=hd.reads I.hok G;obtain⟨bs,Y⟩:=he.reads I.hok J;exact eq_dataH U Y L M z ⟨.bl _,H,I,rfl,q⟩
def xU (z:X.A.units+64<cLine):OpR X (compareOp .NotEq) aEq:=by
 intro pins s σ H x y v u Q I G J h;obtain⟨d,e,hd,he,L,M,q⟩:=h;obtain⟨as,U⟩:=hd.reads I.hok G;obtain⟨bs,Y⟩:=he.reads I.hok J;exact ne_dataH U Y L M z ⟨.bl _,H,I,rfl,q⟩
def tyD:PyData->String
 | .none=>"NoneType" | .bool _=>"bool" | .int _=>"int" | .str _=>"str" | .list _=>"list" | .tuple _=>"tuple" | .dict _=>"dict"
def Den.ty {K:PySem.W.Frag} {H:Hp} {v:V} {d:PyData} (h:Den H v d):pD K H v (.type (tyD d)):=by
 cases h with
 | non=>exact .non
 | bl b=>exact .bl b
 | int i=>exact .int i
 | str x=>exact .str x
 | lst e _=>exact .lst e
 | tup e _=>exact .tup e
def eO:gY X (.builtin "isinstance") (λxs H Q=>∃ x T d b,xs=[x,.ty T]/\Den H x d/\PySem.W.kitOne X.K (.type (tyD d)) (.type T)=some b/\Q (.bl b) H):=by
 intro pins s σ H xs us Q I r h;obtain⟨x,T,d,b,rfl,hd,e,q⟩:=h;obtain⟨u,v,rfl,z,G⟩:=r.two;cases G;exact Z7 I z (hd.ty (K:=X.K)) e λtk=>⟨.bl b,H,I.tok tk,rfl,q⟩
def aDH {P:Program} {w:World} {H:Hp} {s:Shared} {K:PySem.W.Frag} {x:V} {u:Value} {d:PyData} {A:Around} {E:Value->Shared->Prop} {Y:Addr} {its:List Value} {n:Nat} {b:Bool} {Q:Value->Shared->Prop} (ok:HOk P w H s.heap) (kin:K.In s.heap) (G:RelV x u) (hd:Den H x d)
 (M:∃ o,s.heap.get? Y=some o/\o.cls=.type "tuple"/\o.data=.seq its.toArray n) (e:PySem.W.kitAny K (.type (tyD d)) its=some b) (h:∀ tk,Q (.bool b) { s with toks:=tk }):wpAny (model P w) A (call (.builtin "isinstance") [u,.ref Y]) Q E s:=by
 obtain⟨⟨cls,dd,data,sl⟩,J,hc,L⟩:=M;simp only at hc L;subst hc L;cases hd with
 | non=>cases G;exact pd PySem.W.kitx_none kin True.intro J e (λz=>nomatch z) h
 | bl y=>cases G;exact pd PySem.W.kitx_bool kin True.intro J e (λz=>nomatch z) h
 | int i=>obtain⟨t,rfl⟩:=G;exact pd PySem.W.kitx_int kin True.intro J e (λz=>nomatch z) h
 | str y=>obtain⟨t,rfl⟩:=G;exact pd PySem.W.kitx_str kin True.intro J e (λz=>nomatch z) h
 | @lst a vs ds U _ =>
  cases G;obtain⟨_,_,n,_,h1⟩:=(show ObjOk P w H s.heap a (.lst vs) from ok a _ U);exact pd ui kin ⟨_,h1,rfl⟩ J e (λz=>nomatch z) h
 | @tup a vs ds U _ =>
  cases G;obtain⟨_,_,_,p⟩:=(show ObjOk P w H s.heap a (.tup vs) from ok a _ U);obtain⟨o,h1,h2,_⟩:=p;exact pd PySem.W.kitx_tuple kin ⟨o,h1,h2⟩ J e (λz=>nomatch z) h
def V3:∀ {z:List String} {us:List Value},Vals (z.map V.ty) us->us=z.map Value.type
 | [],_,.nil=>rfl
 | T :: r,_,.cons q t=>by
  have e:_=Value.type T:=q;rw[aF0,e,V3 t]
def b0:gY X (.builtin "isinstance") (λxs H Q=>∃ (x:V) (z:Addr) (G:List String) (d:PyData) (b:Bool),xs=[x,.ref z]/\H z=some (.tup (G.map V.ty))/\Den H x d/\PySem.W.kitAny X.K (.type (tyD d)) (G.map Value.type)=some b/\Q (.bl b) H):=by
 intro pins s σ H xs us Q I r h;obtain⟨x,z,G,d,b,rfl,L,hd,e,q⟩:=h;obtain⟨u,v,rfl,M,U⟩:=r.two;cases U;obtain⟨_,its,Y,o,ho,hc,n,J⟩:=(show ObjOk X.prog X.w H s.heap z (.tup (G.map V.ty)) from I.hok z _ L);have e2:=V3 Y;subst e2;exact aDH I.hok I.kIn M hd ⟨o,ho,hc,J⟩ e λtk=>⟨.bl b,H,I.tok tk,rfl,q⟩
def aAI (Y:X.calm=true):gY X (.builtin "all") (λxs H Q=>∃ (p:Addr) (bs:List Bool),xs=[.ref p]/\H p=some (.lst (bs.map V.bl))/\Q (.bl (bs.all id)) H):=by
 intro pins s σ H xs us Q I r h;obtain⟨p,bs,rfl,hp,q⟩:=h;obtain⟨u,rfl,rx⟩:=kJ r;cases rx;obtain⟨its,L,pl,hz⟩:=I.list (SqL.of hp);have G:=pl.isList;have J:p<s.heap.objs.size:=by obtain⟨_,e,_⟩:=G;exact aFH e
 have hlen:bs.length=its.length:=by have:=L.length;simpa using this
 refine call_all_walk (oh G ?_);refine⟨s.heap.objs.size,[s.heap.objs.size,p],[s.heap.objs.size],its.toArray.size,_,_,λi=>(bs[i]?).getD true,rfl,Walks.list (A:=X.A.in1) (I.ok.hd Y) _ p (aFY J) its.toArray,
  ⟨⟨_,aFI _ rfl,rfl,rfl⟩,G.push _⟩,λi v s' Q' E' hP hQ=>?_,λh' tk hk=>?_⟩
 .have M:its[i]?=some v:=by simpa using hP
  have hi:i<its.length:=(aFd.mp M).1;have hb:(bs.map V.bl)[i]?=some (V.bl (bs[i]'(by omega))):=by simp[hlen,hi]
  obtain⟨u,U,ru⟩:=L.get hb;rw[M]at U;cases U;cases ru;have e:(bs[i]?).getD true=bs[i]'(by omega):=by simp[show i<bs.length by omega]
  have z:Q' ((bs[i]?).getD true) s':=hQ;rw[e]at z;exact me z
 .have e:((List.range its.toArray.size).all λi=>(bs[i]?).getD true)=bs.all id:=by
   rw[aFJ,<- hlen];exact LSm.range_all bs
  rw[e];have kp:∀ b x,s.heap.get? b=some x->h'.get? b=some x:=LSm.kept_iter hk;exact⟨.bl _,H,I.kept kp,rfl,q⟩
def Itv (K:PySem.W.Frag) (a:Addr) (n:Nat):It :=
 ⟨λi H=>i<n/\∃ xs,SqL K H a xs/\xs.length=n,λi H x H'=>H'=H/\∀ xs,SqL K H a xs->xs.length=n->xs[n - 1 - i]?=some x,λi H=>n<=i⟩
def aAJ {P:Program} {w:World} {K:PySem.W.Frag} {tg:Expr} (a it:Addr) (n:Nat):sE P w K tg (Itv K a n) [it] it (λi h=>i<=n/\h.IsRevIter it a ((n:Int) - 1 - (i:Int))) where
 mem:=by simp
 obj:=λi h st b hb=>by
  have e:b=it:=by simpa using hb
  subst e;obtain⟨_,o,e,c,d⟩:=st;exact⟨o,e,λv z=>by rw[d]at z;cases z⟩
 keep:=λi h h' st k=>⟨st.1,st.2.at λo e=>k it (by simp) o e⟩
 item:=by
  intro X hP hw hK hc i pins s σ H E I hf st hg;subst hP hw hK;obtain⟨hi,xs,hq,hn⟩:=hg;obtain⟨its,rv,p,hz⟩:=I.list hq;have hlen:=rv.length;obtain⟨f0,f1,f2,f3,f4,f5⟩:=hf it (by simp);have hx:xs[n - 1 - i]?=some (xs[n - 1 - i]'(by omega)):=by simp[show n - 1 - i<xs.length by omega]
  obtain⟨u,hu,ru⟩:=rv.get hx;have e:(n:Int) - 1 - (i:Int)=((n - 1 - i:Nat):Int):=by omega
  have hit:=st.2;rw[e]at hit;refine wpAny_pyNext_rev_item hit p.isList (x:=u) (by simpa using hu) λh' st' sb=>?_;have I1:Inv X pins σ H { s with heap:=h' }:=I.turned (t':=s.toks) (λb o hb e=>(sb.2 b hb).trans e) f0 f1 f3 f4 f5;have e2:((n - 1 - i:Nat):Int) - 1=(n:Int) - 1 - ((i+1:Nat):Int):=by omega
  rw[e2]at st';obtain⟨o,eo,c,d⟩:=id st';exact⟨u,rfl,S9 (s:={ s with heap:=h' }) eo c d (by decide) ⟨_,H,I1,ru,⟨rfl,λys hy _=>by rw[I.list_inj hy hq];exact hx⟩,⟨hi,st'⟩,λb hb=>(hf b hb).1⟩⟩
 done:=by
  intro X hP hw hK hc i pins s σ H E I hf st hg;subst hP hw hK;obtain⟨f0,f1,f2,f3,f4,f5⟩:=hf it (by simp);have hit:=st.2;have hg':n<=i:=hg;have e:(n:Int) - 1 - (i:Int)=-1:=by have:=st.1;omega
  rw[e]at hit;exact wpAny_pyNext_rev_end (I.ok.hd hc) hit λh' eb=>⟨rfl,I.turned (t':=s.toks) (λb o hb e=>eb b o hb e) f0 f1 f3 f4 f5⟩
 self:=λ_ _ _ _ _ st h=>wpAny_pyIter_revIter st.2 h
def aEr (K:PySem.W.Frag) (ta:TA):TI:=fun σ H R=>ta σ H λvs H1=>∃ a xs,vs=[.ref a]/\SqL K H1 a xs/\R (Itv K a xs.length) H1
def aDI {tg a:Expr} {ta:TA} {p pos:Pos} (J:Gl X "reversed") (L:X.mg "reversed"=none) (M:PA X [a] ta) (U:starEach [a] X.env=[(false,eval a X.env)]:=by rfl):PI X tg (.Call (.Name "reversed" p) [a] [] pos) (aEr X.K ta):=by
 intro pins s σ H R I h;refine Call_ (fA I J L PyProof.Rows.boot_reversed (kn (thn (M pos pins s σ H _ I h) λus z ⟨vs,H1,G,Y,q1⟩=>?_) U rfl));obtain⟨a,xs,e,hq,q⟩:=q1;subst e;obtain⟨u,rfl,rx⟩:=kJ Y;cases rx;obtain⟨its,rv,pl,hz⟩:=G.list hq;have hlen:=rv.length;refine call_reversed_list pl.isList ?_;have es:((its.toArray.size:Nat):Int) - 1=(xs.length:Int) - 1:=by rw[hlen];simp
 rw[es];have I2:Inv X pins σ H1 { z with heap:=z.heap.push (revObj a ((xs.length:Int) - 1)) }:=G.kept (t':=z.toks) λb o e=>aFC _ e;have st:({ z with heap:=z.heap.push (revObj a ((xs.length:Int) - 1)) }:Shared).heap.IsRevIter z.heap.objs.size a ((xs.length:Int) - 1):=⟨_,aFI _ rfl,rfl,rfl⟩;refine wpAny_pyIter_revIter st ?_;refine⟨z.heap.objs.size,[z.heap.objs.size],_,_,H1,rfl,I2,aAJ a _ xs.length,⟨jr _,by simpa using st⟩,λb hb=>?_,q⟩;have e:b=z.heap.objs.size:=by simpa using hb
 subst e;exact G.fpOk (ah _) (G.hok.fresh (ah _))
end
def aAK {K:PySem.W.Frag} {a:Addr} {xs:List V} {G:St} {g:TG} {tt:TT} {te:TE} {H:Hp} {Q:VK} (Pv:Nat->List V->Hp->Prop) (h0:Pv 0 [] H) (M:∀ i ys H,i<=xs.length->Pv i ys H->SqL K H a xs/\ys.length<sizeLine)
 (U:∀ i x ys H,xs.reverse[i]?=some x->Pv i ys H->g x G H λJ H2=>tt J H2 λb L=>if b=true then te J L λy Y=>Pv (i+1) (ys++[y]) Y else Pv (i+1) ys L) (hd:∀ ys H,Pv xs.length ys H->∀ D,H D=none->Q (.ref D) (upd H D (.lst ys))) :
 sP (Itv K a xs.length) G g tt te Q H:=by
 refine⟨λi m ys H=>m=xs.length - i/\i<=xs.length/\Pv i ys H,⟨xs.length,by simp,jr _,h0⟩,?_⟩;rintro i m ys H ⟨rfl,hi,p⟩;obtain⟨q,hz⟩:=M i ys H hi p;refine⟨hz,?_⟩
 by_cases z:i<xs.length
 .refine .inr ⟨⟨z,xs,q,rfl⟩,Pv (i+1),λav H' p'=>⟨xs.length - (i+1),by omega,rfl,z,p'⟩,λx H' y=>?_⟩;obtain⟨e,y⟩:=y;subst e;refine U i x ys _ ?_ p;rw[List.getElem?_reverse z];exact y xs q rfl
 .have e:i=xs.length:=by omega
  subst e;exact .inl ⟨ah _,hd ys H p⟩
def fR:bootBuiltins "list"=some (.type "list"):=by decide +kernel
def eU:bootBuiltins "tuple"=some (.type "tuple"):=by decide +kernel
def wA:bootBuiltins "bool"=some (.type "bool"):=by decide +kernel
def A0:bootBuiltins "str"=some (.type "str"):=by decide +kernel
def B0:bootBuiltins "int"=some (.type "int"):=by decide +kernel
def bG:bootBuiltins "isinstance"=some (.builtin "isinstance"):=by decide +kernel
def aAL:bootBuiltins "all"=some (.builtin "all"):=by decide +kernel
def eA:bootBuiltins "sorted"=some (.builtin "sorted"):=by decide +kernel
def sQ:bootBuiltins "max"=some (.builtin "max"):=by decide +kernel
def sR:bootBuiltins "min"=some (.builtin "min"):=by decide +kernel
structure Bt (mg:Str->Option Value):Prop where
 len:mg "len"=none
 range:mg "range"=none
 list:mg "list"=none
 tuple:mg "tuple"=none
 bool:mg "bool"=none
 str:mg "str"=none
 int:mg "int"=none
 isinstance:mg "isinstance"=none
 all:mg "all"=none
 sorted:mg "sorted"=none
 max:mg "max"=none
 min:mg "min"=none
 set:mg "set"=none
 reversed:mg "reversed"=none
 sum:mg "sum"=none
 enumerate:mg "enumerate"=none
 zip:mg "zip"=none
 any:mg "any"=none
 abs:mg "abs"=none
def dG (P:Program) (w:World) (K:PySem.W.Frag) (mg:Str->Option Value) (base:Heap) (x:Str) (k:Nat) (ps:List Str) (sp:Sp):Prop :=
 ∃ f fd,FnOk P w K mg base CX0 k f fd ps sp/\mg x=some (.ref f)/\PySem.W.keepIn K (.ref f)=true/\Binds K fd ps []
section
variable {X:Cx} {x:Str} {j k:Nat} {ps:List Str} {sp:Sp} {t:TA} {e:Expr} {es:List Expr} {p pos:Pos}
def bE (F:dG X.prog X.w X.K X.mg X.base x j ps sp) (z:Room k X.A) (J:Gl X x) (L:PA X (e :: es) t) (hj:j<=k:=by decide) (hdb:(x == ("__debug__":Str))=false:=by decide)
 (he:starEach (e :: es) X.env=(false,eval e X.env) :: starEach es X.env:=by rfl) (hpl:(backTo pos (starEach es X.env)).any (·.1)=false:=by rfl) :
 PE X (.Call (.Name x p) (e :: es) [] pos) (qL sp [] E0 t):=by
 obtain⟨f,fd,G,M,U,Y⟩:=F;exact T6 (hdb:=hdb) (he:=he) (hpl:=hpl) G (z.mono hj) J M U Y .nil T8 L
def mZ:OpR X (compareOp .Eq) (rI0 λi j=>.bl (decide (i=j))):=x9 λi j _ _ _ _ _ q=>eq_int (by
 have e:(i == j)=decide (i=j):=by rw[ko];simp
 rw[e];exact q)
def aAM:OpR X (compareOp .NotEq) (rI0 λi j=>.bl (!decide (i=j))):=x9 λi j _ _ _ _ _ q=>ne_int (by
 have e:(i != j)=!decide (i=j):=by rw[bne];congr 1
 rw[e];exact q)
end
def aEs (t u:TS):TS:=λD σ H=>∃ M:St->Hp->Prop,t { D with nx:=M } σ H/\∀ z H',M z H'->u D z H'
def rL {X:Cx} {st:Stmt} {rest:List Stmt} {t u:TS} (h1:PS X st t) (h2:PSs X rest u):PSs X (st :: rest) (aEs t u):=by
 intro pins s σ H D I h;obtain⟨M,h,G⟩:=h;refine rf (thn (h1 pins s σ H { D with nx:=M } I h) λf J q=>?_);cases f with
 | next =>
  obtain⟨z,H',L,q⟩:=q;exact h2 pins J z H' D L (G z H' q)
 | ret v=>exact q
 | brk=>exact q
 | cont=>exact q
def aDz (t:TE):TE:=fun σ H Q=>∃ R:VK,t σ H R/\∀ v H',R v H'->Q v H'
def sS {X:Cx} {e:Expr} {t:TE} (h:PE X e t):PE X e (aDz t):=by
 intro pins s σ H Q I hw;obtain⟨R,hw,z⟩:=hw;exact thn (h pins s σ H R I hw) λu M ⟨v,H1,G,J,L⟩=>⟨v,H1,G,J,z v H1 L⟩
def iG {c:Prop} [Decidable c] {A B:Prop} (h1:c->A) (h2:¬ c->B):if decide c=true then A else B:=by
 by_cases h:c
 .rw[aFX h,da rfl];exact h1 h
 .rw[aFW h,bB aFO];exact h2 h
def qO {c:Prop} [Decidable c] {A B:Prop} (z:c) (h1:A):if decide c=true then A else B:=by
 rw[aFX z,da rfl];exact h1
def jH {c:Prop} [Decidable c] {A B:Prop} (z:¬ c) (h1:B):if decide c=true then A else B:=by
 rw[aFW z,bB aFO];exact h1
section
variable {X:Cx} (K:PySem.W.Frag)
def bW (h:X.K=K):IxR X (aBb K):=h ▸ aW
def aBk (h:X.K=K):IxR X (aCu K):=h ▸ mY
def V4 (h:X.K=K):IxR X (rIx K):=h ▸ aCw
def mQ (h:X.K=K):OpR X (compareOp .NotIn) (rIn K true):=h ▸ xO
def iX (h:X.K=K):gY X (.builtin "len") (λxs H Q=>∃ p ys,xs=[.ref p]/\(SqL K H p ys\/SqT K H p ys)/\Q (.int ys.length) H):=h ▸ aL
def lW {es:List Expr} {k:Nat} {t:TGs} {n:Nat} {pos:Pos} (h:X.K=K) (G:X.calm=true) (J:PGs X es t) (L:(assignEach es X.env).length=n:=by rfl) (z:(assignEach es X.env).findIdx? (·.1)=none:=by rfl):PG X (.Tuple es k pos) (aCq K n t):=h ▸ fE G J L z
end
end L2
namespace CW
def goM (c:Int):List Int->Nat->Int->List Int
 | [],h,n=>(List.range h).map (λ(k:Nat)=>n+(k:Int))
 | p :: r,h,n=>(List.range (min h (p - n).toNat)).map (λ(k:Nat)=>n+(k:Int)) ++
  (if ((h - min h (p - n).toNat:Nat):Int)<c then goM c r (h - min h (p - n).toNat+1) (p+1)else p :: goM c r (h - min h (p - n).toNat) (p+1))
def kE (row:List Int) (c:Int):List Int:=goM c row 0 0
def sT (k:Nat) (n:Int):(List.range (k+1)).map (λ(j:Nat)=>n+(j:Int))=n :: (List.range k).map (λ(j:Nat)=>(n+1)+(j:Int)):=by
 rw[vl,aF0,aF5]
 congr 1
 .simp
 .apply jp
  intro j _;simp only[Function.comp];omega
def V5 {c:Int} {p:Int} {r:List Int} {h:Nat} {n:Int} (z:h=0\/p<=n):goM c (p :: r) h n=if (h:Int)<c then goM c r (h+1) (p+1)else p :: goM c r h (p+1):=by
 have e:min h (p - n).toNat=0:=by omega
 simp only[goM,e,List.range_zero,qy,lj,xg]
def aBl {c:Int} {p:Int} {r:List Int} {h:Nat} {n:Int} (G:n<p):goM c (p :: r) (h+1) n=n :: goM c (p :: r) h (n+1):=by
 have e:min (h+1) (p - n).toNat=min h (p - (n+1)).toNat+1:=by omega
 have z:h+1 - (min h (p - (n+1)).toNat+1)=h - min h (p - (n+1)).toNat:=by omega
 rw[goM,goM,e,z,sT];simp
def xV {c:Int}:∀ (row:List Int) (h:Nat) (n:Int),(goM c row h n).length=row.length+h
 | [],h,n=>by simp[goM]
 | p :: r,h,n=>by
  rw[goM];have z:min h (p - n).toNat<=h:=Nat.min_le_left _ _;split
  .rw[aFK,aFB,jz,xV r,aF4];omega
  .rw[aFK,aFB,jz,aF4,xV r,aF4];omega
def wB (row:List Int) (c:Int):(kE row c).length=row.length:=by simp[kE,xV]
end CW
namespace CW
open PySem L2
def cX {ns:List Int} {i:Int} (h0:0<=i) (h1:i<ns.length):∃ n,n∈ns/\ns[i.toNat]?=some n/\atI (ns.map V.int) i=some (.int n):=by
 have hj:i.toNat<ns.length:=by omega
 refine⟨ns[i.toNat],rg hj,by simp[hj],?_⟩;have q:atI (ns.map V.int) ((i.toNat:Nat):Int)=some (.int ns[i.toNat]):=gL (by simp[hj]);rw[Int.toNat_of_nonneg h0]at q;exact q
def aQ {n:Nat} (h:n<=10000):n<sizeLine:=tu h (by decide)
def nZ {n:Nat} (h:n<=10000):n<=sizeLine:=km (aQ h)
def b9 (ns:List Int):Prop:=∀ n∈ns,0<=n/\n<9967
def e8 (ns:List Int) (lo hi:Option Int):∃ z:List Int,iE (ns.map V.int) lo hi=z.map V.int/\z.length<=ns.length/\∀ n∈z,n∈ns:=by
 refine⟨(ns.drop (HT.sIx ns.length 0 lo)).take (HT.sIx ns.length ns.length hi - HT.sIx ns.length 0 lo),?_,?_,?_⟩
 .unfold iE;simp only[aFB,wz,List.map_drop]
 .simp only[aFR,vg];omega
 .intro n G;exact rq (se G)
def aDJ (ns:List Int) (k:Nat) (h:k<=ns.length):iE (ns.map V.int) none (some (k:Int))=(ns.take k).map V.int:=by
 unfold iE;rw[HT.sIx_none,HT.sIx_nat,aFB,wl,xg,so h,wz]
def oA (ns:List Int) (k:Nat) (h:k<=ns.length):iE (ns.map V.int) (some (k:Int)) none=(ns.drop k).map V.int:=by
 unfold iE;rw[HT.sIx_none,HT.sIx_nat,aFB,so h,<- List.map_drop,<- wz,mr (by simp)]
def sd1 (G z:Int):Int:=(G * 40014+z % 999983+29) % 2147483563
def sd2 (z:Int) (ys:List Int):Int:=(z * z+52774 * z+13 * ((List.map V.int ys).length:Int)+7) % 2147483629
def rs1 (z:Int):Int:=z - 10 ^ (18:Int).toNat
inductive pJ (K:PySem.W.Frag) (vs:List V) (H:Hp) (Q:VK) (E_:XK):Prop
 | mk (a:Addr) (script:List Int) (m:Nat) (h0_:vs=[.ref a,.int m]) (h1_:SqL K H a (script.map V.int)) (h2_:script.length<=63) (h3_:m<=1000) (h4_:∀ (l:Addr) (ns:List Int) (H':Hp),ns.length=m->b9 ns->H l=none->Same H H'->H' l=some (.lst (ns.map V.int))->Q (.ref l) H'):pJ K vs H Q E_
def Row (r:List Int):Prop:=r.Pairwise (·<·)
def Row.lt {r:List Int} (h:Row r) {i j:Nat} {x y:Int} (z:i<j) (G:r[i]?=some x) (J:r[j]?=some y):x<y:=by
 obtain⟨h1,rfl⟩:=aFd.mp G;obtain⟨h2,rfl⟩:=aFd.mp J;exact List.pairwise_iff_getElem.mp h i j h1 h2 z
def O4 (H:Hp) (Q:VK) (ns:List Int):Prop:=∀ (l:Addr) (H':Hp),H l=none->Same H H'->H' l=some (.lst (ns.map V.int))->Q (.ref l) H'
inductive kQ (vs:List V) (H:Hp) (Q:VK) (E_:XK):Prop
 | mk (a:Addr) (row:List Int) (h0_:vs=[.ref a]) (h1_:H a=some (.lst (row.map V.int))) (h2_:Row row) (h3_:row.length<=60) (h4_:Q .non H):kQ vs H Q E_
structure Cn (mg:Str->Option Value) (tC:Tok):Prop where
 MOST_STONES:mg "MOST_STONES"=some (.int 60 tC)
def sU {l:List Int} {i:Nat} {z:Int} (f:Int->Int) (h:l[i]?=some z):((l.take i).map f).map V.int++[V.int (f z)]=((l.take (i+1)).map f).map V.int:=by
 rw[aF6,h];simp
def fS {l:List Int} {i:Nat} {x:V} (h:(l.map V.int)[i]?=some x):∃ z,x=.int z/\l[i]?=some z:=by
 rw[aFZ]at h;cases e:l[i]? with
 | none=>rw[e]at h;cases h
 | some z=>rw[e]at h;exact⟨z,(jk h).symm,rfl⟩
def B3 {z:Type} (l:List z) (i:Nat) (h:i<=60) (f:z->Int):((((l.take i).map f).map V.int)).length<sizeLine:=by
 simp only[aFB,aFR];exact aQ (by omega)
def aEt (row:List Int):List Int:=row.reverse.map (λz=>-z)
def aEu (row:List Int) (b:Int):List Int:=row.map (λz=>z+b)
inductive nA (vs:List V) (H:Hp) (Q:VK) (E_:XK):Prop
 | mk (a:Addr) (row:List Int) (h0_:vs=[.ref a]) (h1_:H a=some (.lst (row.map V.int))) (h2_:Row row) (h3_:row.length<=60) (h4_:O4 H Q (aEt row)):nA vs H Q E_
inductive xW (vs:List V) (H:Hp) (Q:VK) (E_:XK):Prop
 | mk (a:Addr) (row:List Int) (b:Int) (h0_:vs=[.ref a,.int b]) (h1_:H a=some (.lst (row.map V.int))) (h2_:Row row) (h3_:row.length<=60) (h4_:O4 H Q (aEu row b)):xW vs H Q E_
def aDK (H:Hp) (v:V) (p:Int×Int):Prop:=∃ t,v=.ref t/\H t=some (.tup [.int p.1,.int p.2])
abbrev Prs (H:Hp):List V->List (Int×Int)->Prop:=Paired (aDK H)
def TupS (H H':Hp):Prop:=∀ t xs,H t=some (.tup xs)->H' t=some (.tup xs)
def Prs.mono {H H':Hp} (h:TupS H H') {vs:List V} {ps:List (Int×Int)} (r:Prs H vs ps):Prs H' vs ps:=Paired.mapP r λ_ _ ⟨t,e,q⟩=>⟨t,e,h _ _ q⟩
def TupS.new {H:Hp} {a:Addr} {o:HO} (h:H a=none):TupS H (upd H a o):=λt xs e=>by rw[aE (aU e h)];exact e
def TupS.lst {H:Hp} {a:Addr} {xs ys:List V} (h:H a=some (.lst xs)):TupS H (upd H a (.lst ys)):=λt zs e=>by rw[aE (kC e h (by intro z;cases z))];exact e
def TupS.same {H H':Hp} (h:Same H H'):TupS H H':=λt xs e=>h _ _ e
def TupS.trans {H H1 H2:Hp} (a:TupS H H1) (b:TupS H1 H2):TupS H H2:=λt xs e=>b _ _ (a _ _ e)
def Paired.append' {J L:Type} {F:J->L->Prop}:∀ {l₁ z:List J} {l₂ G:List L},Paired F l₁ l₂->Paired F z G->Paired F (l₁++z) (l₂++G)
 | _,_,_,_,.nil,s=>s
 | _,_,_,_,.cons r t,s=>.cons r (Paired.append' t s)
def Paired.split_last {G z:Type} {F:G->z->Prop} {l₁:List G} {l₂:List z} {b:z} (h:Paired F l₁ (l₂++[b])):∃ m a,l₁=m++[a]/\Paired F m l₂/\F a b:=by
 induction l₂ generalizing l₁ with
 | nil =>
  cases h with
  | cons r t=>cases t;exact⟨[],_,rfl,.nil,r⟩
 | cons c l J =>
  cases h with
  | cons r t =>
   obtain⟨m,a,e,q,f⟩:=J t;exact⟨_ :: m,a,by rw[e];rfl,.cons r q,f⟩
def fN (ps:List (Int×Int)) (x:Int):List (Int×Int) :=
 match ps.getLast? with
 | some p=>if p.2=x - 1 then ps.dropLast++[(p.1,x)]else ps++[(x,x)]
 | none=>[(x,x)]
def bD (row:List Int):List (Int×Int):=row.foldl fN []
def e9 (x:Int):fN [] x=[(x,x)]:=rfl
def hJ (ps:List (Int×Int)) (p:Int×Int) (x:Int):fN (ps++[p]) x=if p.2=x - 1 then ps++[(p.1,x)]else (ps++[p])++[(x,x)]:=by
 unfold fN;rw[List.getLast?_concat,wh]
def aAN (ps:List (Int×Int)) (x:Int):(fN ps x).length<=ps.length+1:=by
 rcases nk ps with rfl | ⟨l,p,rfl⟩
 .exact ah _
 .simp only[nq];rw[hJ];split <;> simp
def pK {row:List Int} {i:Nat} {z:Int} (h:row[i]?=some z):fN (bD (row.take i)) z=bD (row.take (i+1)):=by
 unfold bD;rw[aF6,h];simp
def aDL (H:Hp) (Q:VK) (ps:List (Int×Int)):Prop:=∀ (l:Addr) (vs:List V) (H':Hp),H l=none->Same H H'->H' l=some (.lst vs)->Prs H' vs ps->Q (.ref l) H'
inductive cL (vs:List V) (H:Hp) (Q:VK) (E_:XK):Prop
 | mk (a:Addr) (row:List Int) (h0_:vs=[.ref a]) (h1_:H a=some (.lst (row.map V.int))) (h2_:Row row) (h3_:row.length<=60) (h4_:aDL H Q (bD row)):cL vs H Q E_
def aBm (vs:List V) (v:V):ixN (vs++[v]).length (-1)=some vs.length:=by
 unfold ixN;rw[bB (by decide),da (by simp;omega)]
 congr 1
 simp;omega
def aAO {z:Type} (vs:List z) (v u:z):(vs++[v]).set vs.length u=vs++[u]:=by
 rw[List.set_append_right _ _ (ah _)];simp
def qP (ns:List Int):PyData.canLayAll0 (ns.map PyData.int)=true:=by
 induction ns with
 | nil=>rfl
 | cons p r z=>simp[PyData.canLayAll0,PyData.canLay0,z]
def depth_ints (ns:List Int):PyData.depthAll (ns.map PyData.int)=0:=by
 induction ns with
 | nil=>simp[PyData.depthAll]
 | cons p r z=>simp[PyData.depthAll,PyData.depth,z]
def shaped_ints (ns:List Int):SeqAt.shaped (.list (ns.map PyData.int))=true:=by
 simp[SeqAt.shaped,PyData.canLay0,qP,PyData.depth,depth_ints]
inductive aAP (vs:List V) (H:Hp) (Q:VK) (E_:XK):Prop
 | mk (a:Addr) (ns:List Int) (m:Nat) (h0_:vs=[.ref a,.int m]) (h1_:H a=some (.lst (ns.map V.int))) (h2_:b9 ns) (h3_:m+3<=ns.length) (h4_:m<=60) (h5_:∀ row,Row row->row.length<=m->(∀ x∈row,-15<=x/\x<=800)->O4 H Q row):aAP vs H Q E_
def aAQ {r:List Int} {x:Int} (h:Row r) (z:∀ y∈r,y<x):Row (r++[x]):=by
 unfold Row;rw[List.pairwise_append];exact⟨h,va _ _,λa G b J=>by rw[aF7.mp J];exact z a G⟩
mutual
def sml:PyData->Bool
 | .list xs=>decide (xs.length<=5000) && pL xs
 | .tuple xs=>decide (xs.length<=5000) && pL xs
 | .dict _=>false
 | .none=>true
 | .bool _=>true
 | .int _=>true
 | .str _=>true
def pL:List PyData->Bool
 | []=>true
 | x :: xs=>sml x && pL xs
end
def V6 {ds:List PyData} {d:PyData} (h:d∈ds) (z:pL ds=true):sml d=true:=by
 induction ds with
 | nil=>cases h
 | cons x r G =>
  simp only[pL,jl]at z;rcases aFe.mp h with rfl | h
  .exact z.1
  .exact G h z.2
inductive sV (n:Nat) (vs:List V) (H:Hp) (Q:VK) (E_:XK):Prop
 | mk (x y:V) (d:PyData) (h0_:vs=[x,y]) (h1_:Den H x d) (h2_:Den H y d) (h3_:d.depth<=n) (h4_:SeqAt.shaped d=true) (h5_:sml d=true) (h6_:∀ H',Same H H'->Q (.bl true) H'):sV n vs H Q E_
def wC {ds:List PyData} {d:PyData} (h:d∈ds):d.depth<=PyData.depthAll ds:=by
 induction ds with
 | nil=>cases h
 | cons x r z =>
  simp only[PyData.depthAll];rcases aFe.mp h with rfl | h
  .omega
  .have:=z h;omega
def sW {ds:List PyData} {d:PyData} (h:d∈ds) (z:PyData.canLayAll0 ds=true):d.canLay0=true:=by
 induction ds with
 | nil=>cases h
 | cons x r G =>
  simp only[PyData.canLayAll0,jl]at z;rcases aFe.mp h with rfl | h
  .exact z.1
  .exact G h z.2
def kR {d:PyData} (h:SeqAt.shaped d=true):PyData.eqv d d=true:=SeqAt.eqv_refl d (md h)
def lX (row:List Int):(bD row).length<=row.length:=by
 have:∀ (r:List Int) (ps:List (Int×Int)),(r.foldl fN ps).length<=ps.length+r.length:=λr=>by
  induction r with
  | nil=>intro ps;simp
  | cons x r z =>
   intro ps;rw[aF2];have h1:=z (fN ps x);have h2:=aAN ps x;simp only[aF4];omega
 have:=this row [];simpa[bD]using this
inductive kT (vs:List V) (H:Hp) (Q:VK) (E_:XK):Prop
 | mk (c:Int) (h0_:vs=[.int c]) (h1_:1<=c) (h2_:Q .non H):kT vs H Q E_
inductive oB (vs:List V) (H:Hp) (Q:VK) (E_:XK):Prop
 | mk (a:Addr) (row:List Int) (c:Int) (h0_:vs=[.ref a,.int c]) (h1_:H a=some (.lst (row.map V.int))) (h2_:Row row) (h3_:row.length<=60) (h4_:1<=c) (h5_:O4 H Q (kE row c)):oB vs H Q E_
end CW
namespace CW
end CW
namespace CW
open PySem L2
def sX {z G:Type} {F:z->G->Prop}:∀ {l₁:List z} {l₂:List G} {i:Nat} {x:z},Paired F l₁ l₂->l₁[i]?=some x->∃ y,l₂[i]?=some y/\F x y
 | _,_,_,_,.nil,e=>by simp at e
 | _,_,0,_,.cons r _,e=>by simp at e;subst e;exact⟨_,rfl,r⟩
 | _,_,i+1,x,.cons _ t,e=>by
  obtain⟨y,h1,h2⟩:=sX (i:=i) (x:=x) t (by simpa using e);exact⟨y,by simpa using h1,h2⟩
end CW
namespace L2
open PySem PySem.Spec PyProof.Rows
abbrev two (b:Int) (t:Tok) (c:Nat):Obj:={ cls:=.type "list",dict:=none,data:=.seq #[.int b t,.int b t] c,slots:=#[] }
def sY:∀ {its:List Value} {ns:List Int} {i:Nat} {n:Int},IntsAre its ns->ns[i]?=some n->∃ t,its[i]?=some (.int n t)
 | _,_,_,_,.nil,e=>by simp at e
 | _,_,0,_,.cons n t _,e=>by simp at e;subst e;exact⟨t,rfl⟩
 | _,_,i+1,n,.cons _ _ r,e=>by
  obtain⟨t,h⟩:=sY (i:=i) (n:=n) r (by simpa using e);exact⟨t,by simpa using h⟩
section
variable {prog:Program} {w:World} {A:Around} {R:Result->Shared->Prop} {l it S:Addr} {its:List Value} {ns:List Int} {d:Value}
def aBn (hh:A.handled=none) (hI:IntsAre its ns) (aw:l≠it) (J:it≠S) (a_:l≠S) :
 ∀ (k i:Nat) (s:Shared) (b:Int) (t:Tok) (c:Nat),ns.length - i=k->i<=ns.length->s.heap.IsListIter it l i->s.heap.IsList l its.toArray->s.heap.get? S=some (two b t c) ->
  (∀ h' tk t',(∀ x o,x≠it->x≠S->s.heap.get? x=some o->h'.get? x=some o)->R (.ok (.ret (.int ((ns.drop i).foldl max b) t'))) { s with heap:=h',toks:=tk }) ->
  codeAny (model prog w) A (.builtin "max.loop" ⟨[.ref it,.none,.ref S],[(Str.ofString "default",d)]⟩) R s:=by
 have nm:(toString "max"++toString ".loop":String)="max.loop":=by decide
 intro k
 induction k with
 | zero =>
  intro i s b t c hk hi st hl M hR;have e:i=ns.length:=by omega
  refine ke kf (by
   rw[aFN ji _];show wpAny _ A.in1 (seqItems? (Value.ref S) >>= _) _ _ s;refine aEz (ku M rfl ?_);show wpAny _ A.in1 (tryCatch (pyNext (Value.ref it)) _ >>= _) _ _ s;refine aEz (kc (ni hh st hl (by have:=hI.length;simp;omega) λh' eb=>?_));have z:=eb S _ (jh J) M;show wpAny _ A.in1 (updateSeq S (λ_=>#[]) >>= _) _ _ { s with heap:=h' };refine aEz (kt z rfl (aEz (mD (aFA ?_))));have q:=hR (h'.update S (Obj.mapSeq λ_=>#[])) s.toks t (λx o h1 h2 e=>(aFG _ _ (jh h2)).trans (eb x o h1 e));rw[e,mu]at q;exact q)
 | succ k ih =>
  intro i s b t c hk hi st hl M hR;have G:i<ns.length:=by omega
  obtain⟨u,hu⟩:=sY (i:=i) (n:=ns[i]) hI (by simp[G]);have U:ns.drop i=ns[i] :: ns.drop (i+1):=jm G;refine ke kf (by
   rw[aFN ji _];show wpAny _ A.in1 (seqItems? (Value.ref S) >>= _) _ _ s;refine aEz (ku M rfl ?_);show wpAny _ A.in1 (tryCatch (pyNext (Value.ref it)) _ >>= _) _ _ s;refine aEz (kc (mq st hl (x:=.int ns[i] u) (by simpa using hu) λh' Y sb=>?_));have z:=sb.extBut S _ (jh J) M;have av:=hl.extBut sb.extBut aw;show wpAny _ A.in1 (tryCatch (holding [.int ns[i] u,.int ns[i] u] (richCompare .Gt (.int ns[i] u) (.int b t) >>= _)) _ >>= _) _ _ { s with heap:=h' };refine aEz (kc (jn (aEz (gt_int (s:={ s with heap:=h' }) ?_))));refine aEz (jn (me (aEz (mD (aFA ?_)))))
   by_cases hb:b<ns[i]
   .have hd:decide (b<ns[i])=true:=aFX hb;simp only[hd,ud];refine aEz (kt z rfl (aEz (mD ?_)));rw[nm];obtain⟨c',e1⟩:∃ c',(h'.update S (Obj.mapSeq λ_=>#[Value.int ns[i] u,Value.int ns[i] u])).get? S=some (two ns[i] u c'):=⟨_,aFT _ z rfl⟩;refine aFA ⟨kv ji _,ih (i+1) { s with heap:=h'.update S (Obj.mapSeq λ_=>#[Value.int ns[i] u,Value.int ns[i] u]) } ns[i] u _ (by omega) G (Y.at λo e=>(aFG _ _ (jh J)).trans e) (av.at λo e=>(aFG _ _ (jh a_)).trans e) e1 λL tk t' kp=>?_⟩;have q:=hR L tk t' (λx o h1 h2 e=>kp x o h1 h2 ((aFG _ _ (jh h2)).trans (sb.extBut x o h1 e)));rw[U,aF2,show max b ns[i]=ns[i]by omega]at q;exact q
   .have hd:decide (b<ns[i])=false:=aFW hb;simp only[hd,jv,oy];refine aEz (mD ?_);rw[nm];refine aFA ⟨kv ji _,ih (i+1) { s with heap:=h' } b t c (by omega) G Y av z λL tk t' kp=>?_⟩;have q:=hR L tk t' (λx o h1 h2 e=>kp x o h1 h2 (sb.extBut x o h1 e));rw[U,aF2,show max b ns[i]=b by omega]at q;exact q)
def aAR (hh:A.handled=none) (hI:IntsAre its ns) (G:l≠it) (z:it≠S) (J:l≠S) {s:Shared} {c:Nat} (st:s.heap.IsListIter it l 0) (M:s.heap.IsList l its.toArray)
 (U:s.heap.get? S=some { cls:=.type "list",dict:=none,data:=.seq #[] c,slots:=#[] }) (Y:V) (rx:RelV Y d)
 (hR:∀ h' tk v u,(∀ x o,x≠it->x≠S->s.heap.get? x=some o->h'.get? x=some o)->RelV v u->(v=match ns with | []=>Y | n :: r=>.int (r.foldl max n))->R (.ok (.ret u)) { s with heap:=h',toks:=tk }) :
 codeAny (model prog w) A (.builtin "max.loop" ⟨[.ref it,.none,.ref S],[(Str.ofString "default",d)]⟩) R s:=by
 have nm:(toString "max"++toString ".loop":String)="max.loop":=by decide
 cases hI with
 | nil =>
  refine ke kf (by
   rw[aFN ji _];show wpAny _ A.in1 (seqItems? (Value.ref S) >>= _) _ _ s;refine aEz (ku U rfl ?_);show wpAny _ A.in1 (tryCatch (pyNext (Value.ref it)) _ >>= _) _ _ s;refine aEz (kc (ni hh st M (by simp) λh' eb=>?_));refine aEz (qv (aFA ?_));exact hR h' s.toks Y d (λx o h1 _ e=>eb x o h1 e) rx rfl)
 | @cons n t its' av r =>
  refine ke kf (by
   rw[aFN ji _];show wpAny _ A.in1 (seqItems? (Value.ref S) >>= _) _ _ s;refine aEz (ku U rfl ?_);show wpAny _ A.in1 (tryCatch (pyNext (Value.ref it)) _ >>= _) _ _ s;refine aEz (kc (mq st M (x:=.int n t) (by simp) λh' aw sb=>?_));have L:=sb.extBut S _ (jh z) U;have a_:=M.extBut sb.extBut G;show wpAny _ A.in1 (updateSeq S (λ_=>#[Value.int n t,Value.int n t]) >>= _) _ _ { s with heap:=h' };refine aEz (kt L rfl ?_);rw[nm];obtain⟨c',e1⟩:∃ c',(h'.update S (Obj.mapSeq λ_=>#[Value.int n t,Value.int n t])).get? S=some (two n t c'):=⟨_,aFT _ L rfl⟩;refine aFA ⟨kv ji _,aBn hh (.cons n t r) G z J _ 1 { s with heap:=h'.update S (Obj.mapSeq λ_=>#[Value.int n t,Value.int n t]) } n t _ rfl (by simp) (aw.at λo e=>(aFG _ _ (jh z)).trans e) (a_.at λo e=>(aFG _ _ (jh J)).trans e) e1 λba tk t' kp=>?_⟩;exact hR ba tk (.int (av.foldl max n)) _ (λx o h1 h2 e=>kp x o h1 h2 ((aFG _ _ (jh h2)).trans (sb.extBut x o h1 e))) ⟨t',rfl⟩ rfl)
def mxD (ns:List Int) (z:V):V:=match ns with | []=>z | n :: r=>.int (r.foldl max n)
def wD (a d:Value):argsOk "max" ⟨[a],[(Str.ofString "default",d)]⟩:=by unfold argsOk;kernel_rfl
def i0 {E:Value->Shared->Prop} {s:Shared} {x0:V} {Q:Value->Shared->Prop} (hh:A.handled=none) (hI:IntsAre its ns) (hl:s.heap.IsList l its.toArray) (rx:RelV x0 d)
 (h:∀ h' tk u,(∀ x o,s.heap.get? x=some o->h'.get? x=some o)->RelV (mxD ns x0) u->Q u { s with heap:=h',toks:=tk }):wpAny (model prog w) A (call (.builtin "max") [.ref l] [(Str.ofString "default",d)]) Q E s:=by
 have nm:(toString "max"++toString ".loop":String)="max.loop":=by decide
 refine kmk_tree PySem.F.kind_max PySem.F.plain_max PySem.F.entry_max (wD _ _) (by
  show wpAny _ A.in1 (Builtin.Builtins.bindParams "max" ["key","default"] 0 ⟨[],[(Str.ofString "default",d)]⟩ >>= _) _ _ s;refine aEz (vb (show Builtin.Builtins.bindParams "max" ["key","default"] 0 ⟨[],[(Str.ofString "default",d)]⟩=pure [none,some d] from rfl) (aEz (aFA ?_)));refine aEz (oh hl ?_);refine aEz (pj ?_);rw[nm];have hlt:l<s.heap.objs.size:=by obtain⟨_,e,_⟩:=hl;exact aFH e
  refine aFA ⟨kv ji _,aAR (l:=l) (it:=s.heap.objs.size) (its:=its) hh hI (aFY hlt) (by rw[ka];exact aFY (lu _)) (by rw[ka];exact aFY (ly hlt)) ⟨_,aFC _ (aFI _ rfl),rfl,rfl⟩ ((hl.push _).push _) (aFI _ rfl) x0 rx λh' tk v u kp rv ev=>?_⟩;subst ev;refine h h' tk u (λx o e=>?_) rv;have hx:=aFH e;exact kp x o (aFY hx) (by rw[ka];exact aFY (ly hx)) (aFC _ (aFC _ e)))
def aBo (hh:A.handled=none) (hI:IntsAre its ns) (aw:l≠it) (J:it≠S) (a_:l≠S) :
 ∀ (k i:Nat) (s:Shared) (b:Int) (t:Tok) (c:Nat),ns.length - i=k->i<=ns.length->s.heap.IsListIter it l i->s.heap.IsList l its.toArray->s.heap.get? S=some (two b t c) ->
  (∀ h' tk t',(∀ x o,x≠it->x≠S->s.heap.get? x=some o->h'.get? x=some o)->R (.ok (.ret (.int ((ns.drop i).foldl min b) t'))) { s with heap:=h',toks:=tk }) ->
  codeAny (model prog w) A (.builtin "min.loop" ⟨[.ref it,.none,.ref S],[(Str.ofString "default",d)]⟩) R s:=by
 have nm:(toString "min"++toString ".loop":String)="min.loop":=by decide
 intro k
 induction k with
 | zero =>
  intro i s b t c hk hi st hl M hR;have e:i=ns.length:=by omega
  refine ke ow (by
   rw[aFN kh _];show wpAny _ A.in1 (seqItems? (Value.ref S) >>= _) _ _ s;refine aEz (ku M rfl ?_);show wpAny _ A.in1 (tryCatch (pyNext (Value.ref it)) _ >>= _) _ _ s;refine aEz (kc (ni hh st hl (by have:=hI.length;simp;omega) λh' eb=>?_));have z:=eb S _ (jh J) M;show wpAny _ A.in1 (updateSeq S (λ_=>#[]) >>= _) _ _ { s with heap:=h' };refine aEz (kt z rfl (aEz (mD (aFA ?_))));have q:=hR (h'.update S (Obj.mapSeq λ_=>#[])) s.toks t (λx o h1 h2 e=>(aFG _ _ (jh h2)).trans (eb x o h1 e));rw[e,mu]at q;exact q)
 | succ k ih =>
  intro i s b t c hk hi st hl M hR;have G:i<ns.length:=by omega
  obtain⟨u,hu⟩:=sY (i:=i) (n:=ns[i]) hI (by simp[G]);have U:ns.drop i=ns[i] :: ns.drop (i+1):=jm G;refine ke ow (by
   rw[aFN kh _];show wpAny _ A.in1 (seqItems? (Value.ref S) >>= _) _ _ s;refine aEz (ku M rfl ?_);show wpAny _ A.in1 (tryCatch (pyNext (Value.ref it)) _ >>= _) _ _ s;refine aEz (kc (mq st hl (x:=.int ns[i] u) (by simpa using hu) λh' Y sb=>?_));have z:=sb.extBut S _ (jh J) M;have av:=hl.extBut sb.extBut aw;show wpAny _ A.in1 (tryCatch (holding [.int ns[i] u,.int ns[i] u] (richCompare .Lt (.int ns[i] u) (.int b t) >>= _)) _ >>= _) _ _ { s with heap:=h' };refine aEz (kc (jn (aEz (lt_int (s:={ s with heap:=h' }) ?_))));refine aEz (jn (me (aEz (mD (aFA ?_)))))
   by_cases hb:ns[i]<b
   .have hd:decide (ns[i]<b)=true:=aFX hb;simp only[hd,ud];refine aEz (kt z rfl (aEz (mD ?_)));rw[nm];obtain⟨c',e1⟩:∃ c',(h'.update S (Obj.mapSeq λ_=>#[Value.int ns[i] u,Value.int ns[i] u])).get? S=some (two ns[i] u c'):=⟨_,aFT _ z rfl⟩;refine aFA ⟨kv kh _,ih (i+1) { s with heap:=h'.update S (Obj.mapSeq λ_=>#[Value.int ns[i] u,Value.int ns[i] u]) } ns[i] u _ (by omega) G (Y.at λo e=>(aFG _ _ (jh J)).trans e) (av.at λo e=>(aFG _ _ (jh a_)).trans e) e1 λL tk t' kp=>?_⟩;have q:=hR L tk t' (λx o h1 h2 e=>kp x o h1 h2 ((aFG _ _ (jh h2)).trans (sb.extBut x o h1 e)));rw[U,aF2,show min b ns[i]=ns[i]by omega]at q;exact q
   .have hd:decide (ns[i]<b)=false:=aFW hb;simp only[hd,jv,oy];refine aEz (mD ?_);rw[nm];refine aFA ⟨kv kh _,ih (i+1) { s with heap:=h' } b t c (by omega) G Y av z λL tk t' kp=>?_⟩;have q:=hR L tk t' (λx o h1 h2 e=>kp x o h1 h2 (sb.extBut x o h1 e));rw[U,aF2,show min b ns[i]=b by omega]at q;exact q)
def aAS (hh:A.handled=none) (hI:IntsAre its ns) (G:l≠it) (z:it≠S) (J:l≠S) {s:Shared} {c:Nat} (st:s.heap.IsListIter it l 0) (M:s.heap.IsList l its.toArray)
 (U:s.heap.get? S=some { cls:=.type "list",dict:=none,data:=.seq #[] c,slots:=#[] }) (Y:V) (rx:RelV Y d)
 (hR:∀ h' tk v u,(∀ x o,x≠it->x≠S->s.heap.get? x=some o->h'.get? x=some o)->RelV v u->(v=match ns with | []=>Y | n :: r=>.int (r.foldl min n))->R (.ok (.ret u)) { s with heap:=h',toks:=tk }) :
 codeAny (model prog w) A (.builtin "min.loop" ⟨[.ref it,.none,.ref S],[(Str.ofString "default",d)]⟩) R s:=by
 have nm:(toString "min"++toString ".loop":String)="min.loop":=by decide
 cases hI with
 | nil =>
  refine ke ow (by
   rw[aFN kh _];show wpAny _ A.in1 (seqItems? (Value.ref S) >>= _) _ _ s;refine aEz (ku U rfl ?_);show wpAny _ A.in1 (tryCatch (pyNext (Value.ref it)) _ >>= _) _ _ s;refine aEz (kc (ni hh st M (by simp) λh' eb=>?_));refine aEz (qv (aFA ?_));exact hR h' s.toks Y d (λx o h1 _ e=>eb x o h1 e) rx rfl)
 | @cons n t its' av r =>
  refine ke ow (by
   rw[aFN kh _];show wpAny _ A.in1 (seqItems? (Value.ref S) >>= _) _ _ s;refine aEz (ku U rfl ?_);show wpAny _ A.in1 (tryCatch (pyNext (Value.ref it)) _ >>= _) _ _ s;refine aEz (kc (mq st M (x:=.int n t) (by simp) λh' aw sb=>?_));have L:=sb.extBut S _ (jh z) U;have a_:=M.extBut sb.extBut G;show wpAny _ A.in1 (updateSeq S (λ_=>#[Value.int n t,Value.int n t]) >>= _) _ _ { s with heap:=h' };refine aEz (kt L rfl ?_);rw[nm];obtain⟨c',e1⟩:∃ c',(h'.update S (Obj.mapSeq λ_=>#[Value.int n t,Value.int n t])).get? S=some (two n t c'):=⟨_,aFT _ L rfl⟩;refine aFA ⟨kv kh _,aBo hh (.cons n t r) G z J _ 1 { s with heap:=h'.update S (Obj.mapSeq λ_=>#[Value.int n t,Value.int n t]) } n t _ rfl (by simp) (aw.at λo e=>(aFG _ _ (jh z)).trans e) (a_.at λo e=>(aFG _ _ (jh J)).trans e) e1 λba tk t' kp=>?_⟩;exact hR ba tk (.int (av.foldl min n)) _ (λx o h1 h2 e=>kp x o h1 h2 ((aFG _ _ (jh h2)).trans (sb.extBut x o h1 e))) ⟨t',rfl⟩ rfl)
def mnD (ns:List Int) (z:V):V:=match ns with | []=>z | n :: r=>.int (r.foldl min n)
def i6 (a d:Value):argsOk "min" ⟨[a],[(Str.ofString "default",d)]⟩:=by unfold argsOk;kernel_rfl
def i7 {E:Value->Shared->Prop} {s:Shared} {x0:V} {Q:Value->Shared->Prop} (hh:A.handled=none) (hI:IntsAre its ns) (hl:s.heap.IsList l its.toArray) (rx:RelV x0 d)
 (h:∀ h' tk u,(∀ x o,s.heap.get? x=some o->h'.get? x=some o)->RelV (mnD ns x0) u->Q u { s with heap:=h',toks:=tk }):wpAny (model prog w) A (call (.builtin "min") [.ref l] [(Str.ofString "default",d)]) Q E s:=by
 have nm:(toString "min"++toString ".loop":String)="min.loop":=by decide
 refine kmk_tree PySem.F.kind_min PySem.F.plain_min PySem.F.entry_min (i6 _ _) (by
  show wpAny _ A.in1 (Builtin.Builtins.bindParams "min" ["key","default"] 0 ⟨[],[(Str.ofString "default",d)]⟩ >>= _) _ _ s;refine aEz (vb (show Builtin.Builtins.bindParams "min" ["key","default"] 0 ⟨[],[(Str.ofString "default",d)]⟩=pure [none,some d] from rfl) (aEz (aFA ?_)));refine aEz (oh hl ?_);refine aEz (pj ?_);rw[nm];have hlt:l<s.heap.objs.size:=by obtain⟨_,e,_⟩:=hl;exact aFH e
  refine aFA ⟨kv kh _,aAS (l:=l) (it:=s.heap.objs.size) (its:=its) hh hI (aFY hlt) (by rw[ka];exact aFY (lu _)) (by rw[ka];exact aFY (ly hlt)) ⟨_,aFC _ (aFI _ rfl),rfl,rfl⟩ ((hl.push _).push _) (aFI _ rfl) x0 rx λh' tk v u kp rv ev=>?_⟩;subst ev;refine h h' tk u (λx o e=>?_) rv;have hx:=aFH e;exact kp x o (aFY hx) (by rw[ka];exact aFY (ly hx)) (aFC _ (aFC _ e)))
end
section
variable {X:Cx} {e f:Expr} {te tf:TE} {p pos kp:Pos}
def aEv (K:PySem.W.Frag) (te tf:TE):TE:=fun σ H Q=>te σ H λx H1=>tf σ H1 λy H2=>∃ a ns,x=.ref a/\SqL K H2 a (ns.map V.int)/\Q (mxD ns y) H2
def aEw (K:PySem.W.Frag) (te tf:TE):TE:=fun σ H Q=>te σ H λx H1=>tf σ H1 λy H2=>∃ a ns,x=.ref a/\SqL K H2 a (ns.map V.int)/\Q (mnD ns y) H2
def i8 (hc:X.calm=true) (hg:Gl X "max") (hm:X.mg "max"=none) (he:PE X e te) (hf:PE X f tf)
 (hs:starEach [e] X.env=(false,eval e X.env) :: starEach [] X.env:=by rfl) (G:backTo pos (starEach [e] X.env)=(false,eval e X.env) :: backTo pos (starEach [] X.env):=by rfl) (J:(backTo pos (starEach [e] X.env)).any (·.1)=false:=by rfl)
 (L:(backToKw pos (keywordEach [⟨some "default",f,kp⟩] X.env)).all (·.1.isSome)=true:=by rfl) (M:(backToKw pos (keywordEach [⟨some "default",f,kp⟩] X.env)).any (·.1.isNone)=false:=by rfl) (U:(backToKw pos (keywordEach [⟨some "default",f,kp⟩] X.env)).filterMap (·.1)=([Str.ofString "default"]:List Str):=by rfl) :
 PE X (.Call (.Name "max" p) [e] [⟨some "default",f,kp⟩] pos) (aEv X.K te tf):=by
 intro pins s σ H Q I h;refine ki (fA I hg hm sQ ?_);refine wr ?_ G J L M;refine thn ((aA he aB hs) pos pins s σ H (λvs H1=>match vs with | [x]=>tf σ H1 λy H2=>∃ a ns,x=.ref a/\SqL X.K H2 a (ns.map V.int)/\Q (mxD ns y) H2 | _=>False) I h) λus s1 ⟨vs,H1,I1,r1,Y⟩=>?_;obtain⟨x,rfl⟩:∃ x,vs=[x]:=by
  rcases vs with _ | ⟨x,_ | ⟨_,_⟩⟩
  .exact Y.elim
  .exact⟨x,rfl⟩
  .exact Y.elim
 refine thn ((nR hf sG) pos pins s1 σ H1 (λks H2=>match ks with | [y]=>∃ a ns,x=.ref a/\SqL X.K H2 a (ns.map V.int)/\Q (mxD ns y) H2 | _=>False) I1 Y) λws s2 ⟨zs,H2,I2,r2,z⟩=>?_;obtain⟨y,rfl⟩:∃ y,zs=[y]:=by
  rcases zs with _ | ⟨x,_ | ⟨_,_⟩⟩
  .exact z.elim
  .exact⟨x,rfl⟩
  .exact z.elim
 obtain⟨a,ns,rfl,hq,z⟩:=z;obtain⟨u,rfl,ru⟩:=r1.one;obtain⟨v,rfl,rv⟩:=r2.one;cases ru;rw[U];obtain⟨its,rl,pl,hz⟩:=I2.list hq;exact i0 (I.ok.hd hc) (jS rl) pl.isList rv λh' tk u kp ru=>⟨_,H2,I2.kept kp,ru,z⟩
def wE (hc:X.calm=true) (hg:Gl X "min") (hm:X.mg "min"=none) (he:PE X e te) (hf:PE X f tf)
 (hs:starEach [e] X.env=(false,eval e X.env) :: starEach [] X.env:=by rfl) (G:backTo pos (starEach [e] X.env)=(false,eval e X.env) :: backTo pos (starEach [] X.env):=by rfl) (J:(backTo pos (starEach [e] X.env)).any (·.1)=false:=by rfl)
 (L:(backToKw pos (keywordEach [⟨some "default",f,kp⟩] X.env)).all (·.1.isSome)=true:=by rfl) (M:(backToKw pos (keywordEach [⟨some "default",f,kp⟩] X.env)).any (·.1.isNone)=false:=by rfl) (U:(backToKw pos (keywordEach [⟨some "default",f,kp⟩] X.env)).filterMap (·.1)=([Str.ofString "default"]:List Str):=by rfl) :
 PE X (.Call (.Name "min" p) [e] [⟨some "default",f,kp⟩] pos) (aEw X.K te tf):=by
 intro pins s σ H Q I h;refine ki (fA I hg hm sR ?_);refine wr ?_ G J L M;refine thn ((aA he aB hs) pos pins s σ H (λvs H1=>match vs with | [x]=>tf σ H1 λy H2=>∃ a ns,x=.ref a/\SqL X.K H2 a (ns.map V.int)/\Q (mnD ns y) H2 | _=>False) I h) λus s1 ⟨vs,H1,I1,r1,Y⟩=>?_;obtain⟨x,rfl⟩:∃ x,vs=[x]:=by
  rcases vs with _ | ⟨x,_ | ⟨_,_⟩⟩
  .exact Y.elim
  .exact⟨x,rfl⟩
  .exact Y.elim
 refine thn ((nR hf sG) pos pins s1 σ H1 (λks H2=>match ks with | [y]=>∃ a ns,x=.ref a/\SqL X.K H2 a (ns.map V.int)/\Q (mnD ns y) H2 | _=>False) I1 Y) λws s2 ⟨zs,H2,I2,r2,z⟩=>?_;obtain⟨y,rfl⟩:∃ y,zs=[y]:=by
  rcases zs with _ | ⟨x,_ | ⟨_,_⟩⟩
  .exact z.elim
  .exact⟨x,rfl⟩
  .exact z.elim
 obtain⟨a,ns,rfl,hq,z⟩:=z;obtain⟨u,rfl,ru⟩:=r1.one;obtain⟨v,rfl,rv⟩:=r2.one;cases ru;rw[U];obtain⟨its,rl,pl,hz⟩:=I2.list hq;exact i7 (I.ok.hd hc) (jS rl) pl.isList rv λh' tk u kp ru=>⟨_,H2,I2.kept kp,ru,z⟩
end
section
variable {X:Cx}
def aEA (ta:TA):TE:=fun σ H Q=>ta σ H λvs H1=>∃ i j:Int,vs=[.int i,.int j]/\∀ r,H1 r=none->Q (.ref r) (upd H1 r (.rng i j))
def i9 {a b:Expr} {ta:TA} {p pos:Pos} (J:Gl X "range") (L:X.mg "range"=none) (M:PA X [a,b] ta) (U:starEach [a,b] X.env=[(false,eval a X.env),(false,eval b X.env)]:=by rfl) (z:starEach [b] X.env=[(false,eval b X.env)]:=by rfl) :
 PE X (.Call (.Name "range" p) [a,b] [] pos) (aEA ta):=by
 intro pins s σ H Q I h;refine Call_ (fA I J L boot_range (kn (thn (M pos pins s σ H _ I h) λus Y ⟨vs,H1,G,r1,q1⟩=>?_) (by rw[U,z]) (by rw[z];rfl)));obtain⟨i,j,rfl,q⟩:=q1;obtain⟨u,v,rfl,⟨t,rfl⟩,⟨t',rfl⟩⟩:=r1.two;refine call_range_2 ⟨.ref Y.heap.objs.size,_,G.laid (o:=.rng i j) (λb o e=>aFC _ e) (ah _) ?_,rfl,q _ (G.hok.fresh (ah _))⟩;exact⟨_,_,_,aFI _ rfl⟩
def kH (i:Int) (n:Nat):List Int:=(List.range n).map λ(k:Nat)=>i+(k:Int)
end
end L2
namespace CW
open PySem L2
def j0 (ns:List Int):(ns.map V.int).all nU=true:=by
 rw[List.all_eq_true];intro x G;obtain⟨z,_,rfl⟩:=aFg.mp G;rfl
def aAT (z:Int) (ns:List Int):inV (.int z) (ns.map V.int)=decide (z∈ns):=by
 unfold inV
 induction ns with
 | nil=>rfl
 | cons n r G =>
  rw[aF0,qi,G];have e:eqV (.int n) (.int z)=decide (n=z):=by
   show (n == z)=_;rw[ko];simp
  rw[e,ko];simp only[Bool.or_eq_true,oj,aFe]
  constructor
  .rintro (h | h)
   .exact .inl h.symm
   .exact .inr h
  .rintro (h | h)
   .exact .inl h.symm
   .exact .inr h
def loM (row:List Int):Int:=match row with | []=>0 | n :: r=>r.foldl min n
def aAU (row:List Int):mnD row (.int 0)=.int (loM row):=by cases row <;> rfl
end CW
def CW.fm0 {z:Type} {p:z->Prop}:∀ q∈([]:List z),p q:=λ_ h=>nomatch h
def CW.fm1 {z:Type} {p:z->Prop} {a:z} {l:List z} (h:p a) (t:∀ q∈l,p q):∀ q∈a :: l,p q:=List.forall_mem_cons.mpr ⟨h,t⟩
def CW.has_of {names:List (PySem.Str×PySem.NameKind)} {clos:List (PySem.Str×PySem.Addr)} (h:∀ q∈names,q.2=.free->(clos.lookup q.1).isSome=true):∀ x,names.lookup x=some .free->∃ c,clos.lookup x=some c:=λx e=>Option.isSome_iff_exists.mp (h (x,.free) (kr e) rfl)
def CW.ix_nil {p:Nat->PySem.Str->Prop}:∀ (j:Nat) (x:PySem.Str),([]:List PySem.Str)[j]?=some x->p j x:=λ_ _ h=>nomatch h
def CW.ix_cons {a:PySem.Str} {l:List PySem.Str} {p:Nat->PySem.Str->Prop} (h:p 0 a) (t:∀ (j:Nat) (x:PySem.Str),l[j]?=some x->p (j+1) x):∀ (j:Nat) (x:PySem.Str),(a :: l)[j]?=some x->p j x
 | 0,_,e=>by cases e;exact h
 | j+1,x,e=>t j x e
namespace CW
open PySem L2
section
variable {P:Program} {w:World} {K:PySem.W.Frag} {mg:Str->Option Value} {base:Heap}
def O5 (i:Int):Prop:=i.natAbs.log2<1920/\(toString i:Str).length<=1000
def aDM {i:Int} (h0:0<=i) (h1:i<256):O5 i:=by
 have:∀ n:Nat,n<256->((n:Int).natAbs.log2<1920/\(toString (n:Int):Str).length<=1000):=by decide +kernel
 have:=this i.toNat (by omega)
 rwa [show ((i.toNat:Nat):Int)=i from by omega]at this
def aBp (K:PySem.W.Frag):Sp:=λvs H Q E=>∃ e C i a b,vs=[.ref e,.str a,.str b]/\H e=some (XO C e none)/\zU K C i/\iW K C "word" /\
 ∀ dx,H dx=none->dx≠e->Q .non (upd (upd H dx (.xd [("word",.str b)])) e (XO C e (some dx)))
def O6 (nm:Str) (C:Addr):Sp:=λvs H Q E=>∃ e a,vs=[.ref e,.str a]/\H e=some (XO C e none) /\
 ∀ dx,H dx=none->dx≠e->Q .non (upd (upd H dx (.xd [("word",.str nm)])) e (XO C e (some dx)))
def aBq (nm:Str) (C:Addr):Sp:=λvs H Q E=>∃ e i,vs=[.ref e,.int i]/\O5 i/\H e=some (XO C e none) /\
 ∀ dx,H dx=none->dx≠e->Q .non (upd (upd H dx (.xd [("at",.int i),("word",.str nm)])) e (XO C e (some dx)))
def j7 {H:Hp} {e dx:Addr} {o z G:HO} (n:dx≠e):upd (upd (upd H dx o) e z) dx G=upd (upd H dx G) e z:=by
 funext b
 unfold upd
 by_cases h1:b=dx
 .subst h1;rw[da rfl,bB n,da rfl]
 .rw[bB h1]
  by_cases h2:b=e
  .rw[da h2,da h2]
  .rw[bB h2,bB h2,bB h1,bB h1]
def V7 {H:Hp} {e dx:Addr} {o o' z:HO} (he:H e=none) (n:dx≠e):del (upd (upd (upd H e o) dx o') e z) e=upd H dx o':=by
 funext b
 unfold del upd
 by_cases h1:b=e
 .subst h1;rw[da rfl,bB (jh n),he]
 .rw[bB h1,bB h1]
  by_cases h2:b=dx
  .rw[da h2,da h2]
  .rw[bB h2,bB h2,bB h1]
def Rf (E:XK) (C:Addr) (fs:List (Str×V)) (H:Hp):Prop:=∀ dx,H dx=none->E (.ref C) (some dx) (upd H dx (.xd fs))
def Rf0 (E:XK) (C:Addr) (nm:Str) (H:Hp):Prop:=Rf E C [("word",.str nm)] H
def RfI (E:XK) (C:Addr) (nm:Str) (i:Int) (H:Hp):Prop:=Rf E C [("at",.int i),("word",.str nm)] H
def rd0 {E:XK} {C:Addr} {nm a:Str} {H:Hp} (k:Rf0 E C nm H):[V.str a].length<=sizeLine/\∀ e,H e=none->O6 nm C (.ref e :: [V.str a]) (upd H e (XO C e none)) (λv H2=>v=.non/\∃ od,H2 e=some (XO C e od)/\E (.ref C) od (del H2 e)) E0 :=
 ⟨by show 1<=sizeLine;decide,λe he=>⟨e,a,rfl,aD,λdx h1 h2=>⟨rfl,some dx,aD,by
  rw[aE h2]at h1;rw[V7 he h2];exact k dx h1⟩⟩⟩
def rdI {E:XK} {C:Addr} {nm:Str} {i:Int} {H:Hp} (hi:O5 i) (k:RfI E C nm i H):[V.int i].length<=sizeLine/\∀ e,H e=none->aBq nm C (.ref e :: [V.int i]) (upd H e (XO C e none)) (λv H2=>v=.non/\∃ od,H2 e=some (XO C e od)/\E (.ref C) od (del H2 e)) E0 :=
 ⟨by show 1<=sizeLine;decide,λe he=>⟨e,i,rfl,hi,aD,λdx h1 h2=>⟨rfl,some dx,aD,by
  rw[aE h2]at h1;rw[V7 he h2];exact k dx h1⟩⟩⟩
structure hU (P:Program) (w:World) (K:PySem.W.Frag) (mg:Str->Option Value) (base:Heap) (x:Str) (C:Addr) (ps:List Str) (sp:Sp):Prop where
 m:mg x=some (.ref C)
 i:∃ fI fd,zU K C (some (.ref fI))/\PySem.W.isFn K (.ref fI)=true/\FnOk P w K mg base CX0 2 fI fd ps sp/\Binds K fd ps []
def pM {X:Cx} {E:XK} {C:Addr} {ps:List Str} {sp:Sp} {k:Nat} {x:Str} {e:Expr} {es:List Expr} {t:TA} {np aa pos:Pos} (G:N6 X E) (R:hU X.prog X.w X.K X.mg X.base x C ps sp) (J:X.ex=[]) (z:X.calm=true)
 (L:Room k X.A) (M:Gl X x) (U:PA X (e :: es) t) (Y:3<=k:=by decide) (hdb:(x == ("__debug__":Str))=false:=by decide)
 (he:starEach (e :: es) X.env=(false,eval e X.env) :: starEach es X.env:=by rfl) (hpl:(backTo aa (starEach es X.env)).any (·.1)=false:=by rfl):PS X (.Raise (some (.Call (.Name x np) (e :: es) [] aa)) none pos) (V2 C sp E t):=by
 obtain⟨m,fI,fd,h1,h2,h3,h4⟩:=R;exact a8 (hdb:=hdb) (he:=he) (hpl:=hpl) G J z h1 h2 h3 (L.mono Y) h4 M m U
def j8 (K:PySem.W.Frag) (C D:Addr) (name:Str):Bool:=(match PySem.W.clsIn K C with
 | some z=>z.mro == .ref C :: .ref D :: bmV && z.hasDict
 | none=>false) && PySem.W.findIn K (.ref C) "__setattr__" == some (some (.builtin "object.__setattr__")) && PySem.W.findIn K (.ref C) name == some none
def B4 (D:Addr) (self:Value):PySem.refuseLoop self "__setattr__" (.ref D :: bmV)=pure ():=by
 rw[PySem.refuseLoop_ref];rfl
def V8 {C D:Addr} {name:Str} (h:j8 K C D name=true):iW K C name:=by
 simp only[j8,jl,ul]at h;obtain⟨⟨h1,h2⟩,h3⟩:=h;split at h1
 .rename_i z G
  rw[jl,ul]at h1;exact⟨⟨z,.ref D :: bmV,G,h1.1,B4 D,by rw[kj];rfl,h1.2⟩,h2,h3⟩
 .cases h1
def B5 (K:PySem.W.Frag) (C:Addr) (f:Str):Bool:=PySem.W.findIn K (.ref C) "__getattribute__" == some (some (.builtin "BaseException.__getattribute__")) && PySem.W.findIn K (.ref C) "__getattr__" == some none &&
 PySem.W.subIn K (.ref C) (.type "BaseException") == some true && PySem.W.hasDictIn K C && PySem.W.findIn K (.ref C) f == some none
def aAV {C:Addr} {f:Str} (h:B5 K C f=true):aC5 K C f:=by
 simp only[B5,jl,ul]at h;exact⟨h.1.1.1.1,h.1.1.1.2,h.1.1.2,h.1.2,h.2⟩
structure aV (K:PySem.W.Frag) (mg:Str->Option Value) where
 row:Addr
 trains:Addr
 sizes:Addr
 many:Addr
 creel:Addr
 number:Addr
 near:Addr
 bare:Addr
 err:Addr
 m_row:mg "BadRow"=some (.ref row)
 m_trains:mg "BadTrains"=some (.ref trains)
 m_sizes:mg "BadSizes"=some (.ref sizes)
 m_many:mg "TooMany"=some (.ref many)
 m_creel:mg "BadCreel"=some (.ref creel)
 m_number:mg "BadNumber"=some (.ref number)
 m_near:mg "TooNear"=some (.ref near)
 m_bare:mg "Bare"=some (.ref bare)
 m_err:mg "CreelError"=some (.ref err)
def V9 (K:PySem.W.Frag):List Addr->Bool
 | []=>true
 | a :: l=>PySem.W.exmOne K (.ref a) (.ref a) == some true && l.all (λb=>PySem.W.exmOne K (.ref b) (.ref a) == some false) && V9 K l
structure Sees (X:aV K mg):Prop where
 met:V9 K [X.row,X.trains,X.sizes,X.many,X.creel,X.number,X.near,X.bare]=true
 g1:B5 K X.row "at"=true
 g2:B5 K X.trains "at"=true
 g3:B5 K X.sizes "at"=true
 e1:PySem.W.exmOne K (.ref X.row) (.ref X.err)=some true
 e4:PySem.W.exmOne K (.ref X.many) (.ref X.err)=some true
def Sees.all {X:aV K mg} (Z:Sees X):PySem.W.exmOne K (.ref X.row) (.ref X.row)=some true/\PySem.W.exmOne K (.ref X.trains) (.ref X.trains)=some true/\PySem.W.exmOne K (.ref X.sizes) (.ref X.sizes)=some true/\PySem.W.exmOne K (.ref X.many) (.ref X.many)=some true/\PySem.W.exmOne K (.ref X.creel) (.ref X.creel)=some true/\PySem.W.exmOne K (.ref X.number) (.ref X.number)=some true/\PySem.W.exmOne K (.ref X.near) (.ref X.near)=some true/\PySem.W.exmOne K (.ref X.bare) (.ref X.bare)=some true/\PySem.W.exmOne K (.ref X.trains) (.ref X.row)=some false/\PySem.W.exmOne K (.ref X.sizes) (.ref X.row)=some false/\PySem.W.exmOne K (.ref X.sizes) (.ref X.trains)=some false/\PySem.W.exmOne K (.ref X.many) (.ref X.row)=some false/\PySem.W.exmOne K (.ref X.many) (.ref X.trains)=some false/\PySem.W.exmOne K (.ref X.many) (.ref X.sizes)=some false/\PySem.W.exmOne K (.ref X.creel) (.ref X.row)=some false/\PySem.W.exmOne K (.ref X.creel) (.ref X.trains)=some false/\PySem.W.exmOne K (.ref X.creel) (.ref X.sizes)=some false/\PySem.W.exmOne K (.ref X.creel) (.ref X.many)=some false/\PySem.W.exmOne K (.ref X.number) (.ref X.row)=some false/\PySem.W.exmOne K (.ref X.number) (.ref X.trains)=some false/\PySem.W.exmOne K (.ref X.number) (.ref X.sizes)=some false/\PySem.W.exmOne K (.ref X.number) (.ref X.many)=some false/\PySem.W.exmOne K (.ref X.number) (.ref X.creel)=some false/\PySem.W.exmOne K (.ref X.near) (.ref X.row)=some false/\PySem.W.exmOne K (.ref X.near) (.ref X.trains)=some false/\PySem.W.exmOne K (.ref X.near) (.ref X.sizes)=some false/\PySem.W.exmOne K (.ref X.near) (.ref X.many)=some false/\PySem.W.exmOne K (.ref X.near) (.ref X.creel)=some false/\PySem.W.exmOne K (.ref X.near) (.ref X.number)=some false/\PySem.W.exmOne K (.ref X.bare) (.ref X.row)=some false/\PySem.W.exmOne K (.ref X.bare) (.ref X.trains)=some false/\PySem.W.exmOne K (.ref X.bare) (.ref X.sizes)=some false/\PySem.W.exmOne K (.ref X.bare) (.ref X.many)=some false/\PySem.W.exmOne K (.ref X.bare) (.ref X.creel)=some false/\PySem.W.exmOne K (.ref X.bare) (.ref X.number)=some false/\PySem.W.exmOne K (.ref X.bare) (.ref X.near)=some false:=by
 have h:=Z.met;simp only[V9,wy,List.all_nil,jl,Bool.and_true,ul]at h;simp only[h,and_self]
def Sees.t0 {X:aV K mg} (Z:Sees X):PySem.W.exmOne K (.ref X.row) (.ref X.row)=some true:=Z.all.1
def Sees.t1 {X:aV K mg} (Z:Sees X):PySem.W.exmOne K (.ref X.trains) (.ref X.trains)=some true:=Z.all.2.1
def Sees.t2 {X:aV K mg} (Z:Sees X):PySem.W.exmOne K (.ref X.sizes) (.ref X.sizes)=some true:=Z.all.2.2.1
def Sees.t3 {X:aV K mg} (Z:Sees X):PySem.W.exmOne K (.ref X.many) (.ref X.many)=some true:=Z.all.2.2.2.1
def Sees.t4 {X:aV K mg} (Z:Sees X):PySem.W.exmOne K (.ref X.creel) (.ref X.creel)=some true:=Z.all.2.2.2.2.1
def Sees.t5 {X:aV K mg} (Z:Sees X):PySem.W.exmOne K (.ref X.number) (.ref X.number)=some true:=Z.all.2.2.2.2.2.1
def Sees.t6 {X:aV K mg} (Z:Sees X):PySem.W.exmOne K (.ref X.near) (.ref X.near)=some true:=Z.all.2.2.2.2.2.2.1
def Sees.t7 {X:aV K mg} (Z:Sees X):PySem.W.exmOne K (.ref X.bare) (.ref X.bare)=some true:=Z.all.2.2.2.2.2.2.2.1
def Sees.f10 {X:aV K mg} (Z:Sees X):PySem.W.exmOne K (.ref X.trains) (.ref X.row)=some false:=Z.all.2.2.2.2.2.2.2.2.1
def Sees.f20 {X:aV K mg} (Z:Sees X):PySem.W.exmOne K (.ref X.sizes) (.ref X.row)=some false:=Z.all.2.2.2.2.2.2.2.2.2.1
def Sees.f21 {X:aV K mg} (Z:Sees X):PySem.W.exmOne K (.ref X.sizes) (.ref X.trains)=some false:=Z.all.2.2.2.2.2.2.2.2.2.2.1
def Sees.f30 {X:aV K mg} (Z:Sees X):PySem.W.exmOne K (.ref X.many) (.ref X.row)=some false:=Z.all.2.2.2.2.2.2.2.2.2.2.2.1
def Sees.f31 {X:aV K mg} (Z:Sees X):PySem.W.exmOne K (.ref X.many) (.ref X.trains)=some false:=Z.all.2.2.2.2.2.2.2.2.2.2.2.2.1
def Sees.f32 {X:aV K mg} (Z:Sees X):PySem.W.exmOne K (.ref X.many) (.ref X.sizes)=some false:=Z.all.2.2.2.2.2.2.2.2.2.2.2.2.2.1
def Sees.f40 {X:aV K mg} (Z:Sees X):PySem.W.exmOne K (.ref X.creel) (.ref X.row)=some false:=Z.all.2.2.2.2.2.2.2.2.2.2.2.2.2.2.1
def Sees.f41 {X:aV K mg} (Z:Sees X):PySem.W.exmOne K (.ref X.creel) (.ref X.trains)=some false:=Z.all.2.2.2.2.2.2.2.2.2.2.2.2.2.2.2.1
def Sees.f42 {X:aV K mg} (Z:Sees X):PySem.W.exmOne K (.ref X.creel) (.ref X.sizes)=some false:=Z.all.2.2.2.2.2.2.2.2.2.2.2.2.2.2.2.2.1
def Sees.f43 {X:aV K mg} (Z:Sees X):PySem.W.exmOne K (.ref X.creel) (.ref X.many)=some false:=Z.all.2.2.2.2.2.2.2.2.2.2.2.2.2.2.2.2.2.1
def Sees.f50 {X:aV K mg} (Z:Sees X):PySem.W.exmOne K (.ref X.number) (.ref X.row)=some false:=Z.all.2.2.2.2.2.2.2.2.2.2.2.2.2.2.2.2.2.2.1
def Sees.f51 {X:aV K mg} (Z:Sees X):PySem.W.exmOne K (.ref X.number) (.ref X.trains)=some false:=Z.all.2.2.2.2.2.2.2.2.2.2.2.2.2.2.2.2.2.2.2.1
def Sees.f52 {X:aV K mg} (Z:Sees X):PySem.W.exmOne K (.ref X.number) (.ref X.sizes)=some false:=Z.all.2.2.2.2.2.2.2.2.2.2.2.2.2.2.2.2.2.2.2.2.1
def Sees.f53 {X:aV K mg} (Z:Sees X):PySem.W.exmOne K (.ref X.number) (.ref X.many)=some false:=Z.all.2.2.2.2.2.2.2.2.2.2.2.2.2.2.2.2.2.2.2.2.2.1
def Sees.f54 {X:aV K mg} (Z:Sees X):PySem.W.exmOne K (.ref X.number) (.ref X.creel)=some false:=Z.all.2.2.2.2.2.2.2.2.2.2.2.2.2.2.2.2.2.2.2.2.2.2.1
def Sees.f60 {X:aV K mg} (Z:Sees X):PySem.W.exmOne K (.ref X.near) (.ref X.row)=some false:=Z.all.2.2.2.2.2.2.2.2.2.2.2.2.2.2.2.2.2.2.2.2.2.2.2.1
def Sees.f61 {X:aV K mg} (Z:Sees X):PySem.W.exmOne K (.ref X.near) (.ref X.trains)=some false:=Z.all.2.2.2.2.2.2.2.2.2.2.2.2.2.2.2.2.2.2.2.2.2.2.2.2.1
def Sees.f62 {X:aV K mg} (Z:Sees X):PySem.W.exmOne K (.ref X.near) (.ref X.sizes)=some false:=Z.all.2.2.2.2.2.2.2.2.2.2.2.2.2.2.2.2.2.2.2.2.2.2.2.2.2.1
def Sees.f63 {X:aV K mg} (Z:Sees X):PySem.W.exmOne K (.ref X.near) (.ref X.many)=some false:=Z.all.2.2.2.2.2.2.2.2.2.2.2.2.2.2.2.2.2.2.2.2.2.2.2.2.2.2.1
def Sees.f64 {X:aV K mg} (Z:Sees X):PySem.W.exmOne K (.ref X.near) (.ref X.creel)=some false:=Z.all.2.2.2.2.2.2.2.2.2.2.2.2.2.2.2.2.2.2.2.2.2.2.2.2.2.2.2.1
def Sees.f65 {X:aV K mg} (Z:Sees X):PySem.W.exmOne K (.ref X.near) (.ref X.number)=some false:=Z.all.2.2.2.2.2.2.2.2.2.2.2.2.2.2.2.2.2.2.2.2.2.2.2.2.2.2.2.2.1
def Sees.f70 {X:aV K mg} (Z:Sees X):PySem.W.exmOne K (.ref X.bare) (.ref X.row)=some false:=Z.all.2.2.2.2.2.2.2.2.2.2.2.2.2.2.2.2.2.2.2.2.2.2.2.2.2.2.2.2.2.1
def Sees.f71 {X:aV K mg} (Z:Sees X):PySem.W.exmOne K (.ref X.bare) (.ref X.trains)=some false:=Z.all.2.2.2.2.2.2.2.2.2.2.2.2.2.2.2.2.2.2.2.2.2.2.2.2.2.2.2.2.2.2.1
def Sees.f72 {X:aV K mg} (Z:Sees X):PySem.W.exmOne K (.ref X.bare) (.ref X.sizes)=some false:=Z.all.2.2.2.2.2.2.2.2.2.2.2.2.2.2.2.2.2.2.2.2.2.2.2.2.2.2.2.2.2.2.2.1
def Sees.f73 {X:aV K mg} (Z:Sees X):PySem.W.exmOne K (.ref X.bare) (.ref X.many)=some false:=Z.all.2.2.2.2.2.2.2.2.2.2.2.2.2.2.2.2.2.2.2.2.2.2.2.2.2.2.2.2.2.2.2.2.1
def Sees.f74 {X:aV K mg} (Z:Sees X):PySem.W.exmOne K (.ref X.bare) (.ref X.creel)=some false:=Z.all.2.2.2.2.2.2.2.2.2.2.2.2.2.2.2.2.2.2.2.2.2.2.2.2.2.2.2.2.2.2.2.2.2.1
def Sees.f75 {X:aV K mg} (Z:Sees X):PySem.W.exmOne K (.ref X.bare) (.ref X.number)=some false:=Z.all.2.2.2.2.2.2.2.2.2.2.2.2.2.2.2.2.2.2.2.2.2.2.2.2.2.2.2.2.2.2.2.2.2.2.1
def Sees.f76 {X:aV K mg} (Z:Sees X):PySem.W.exmOne K (.ref X.bare) (.ref X.near)=some false:=Z.all.2.2.2.2.2.2.2.2.2.2.2.2.2.2.2.2.2.2.2.2.2.2.2.2.2.2.2.2.2.2.2.2.2.2.2
inductive Why (X:aV K mg):Value->Option Addr->Hp->Str->Int->Prop where
 | row {H:Hp} {dx:Addr} {fs:List (Str×V)} {i:Int}:H dx=some (.xd fs)->fs.lookup ("at":Str)=some (V.int i)->Why X (.ref X.row) (some dx) H "BadRow" i
 | trains {H:Hp} {dx:Addr} {fs:List (Str×V)} {i:Int}:H dx=some (.xd fs)->fs.lookup ("at":Str)=some (V.int i)->Why X (.ref X.trains) (some dx) H "BadTrains" i
 | sizes {H:Hp} {dx:Addr} {fs:List (Str×V)} {i:Int}:H dx=some (.xd fs)->fs.lookup ("at":Str)=some (V.int i)->Why X (.ref X.sizes) (some dx) H "BadSizes" i
 | many {H:Hp} {od:Option Addr}:Why X (.ref X.many) od H "TooMany" 0
 | creel {H:Hp} {od:Option Addr}:Why X (.ref X.creel) od H "BadCreel" 0
 | number {H:Hp} {od:Option Addr}:Why X (.ref X.number) od H "BadNumber" 0
 | near {H:Hp} {od:Option Addr}:Why X (.ref X.near) od H "TooNear" 0
 | bare {H:Hp} {od:Option Addr}:Why X (.ref X.bare) od H "Bare" 0
def aBr (sp:Hp->VK->XK->Prop):Prop:=∀ H Q z E G,(∀ v H',Q v H'->z v H')->(∀ c o H',E c o H'->G c o H')->sp H Q E->sp H z G
def W0 (P:Program) (w:World) (base:Heap) (X:aV K mg) (J:Nat):SpS:=λs outer vs H Q E=>∃ f D z,vs=[.ref f]/\sN P w K mg base (CXR P w) J f D z/\aBr z/\(∃ L od fd M,(f,(⟨L,od,.func fd,M⟩:Obj))∈D)/\zX D H s.heap (frs outer) /\
 ∀ t,H t=none->z (upd H t (.tup [.str "",.int 0])) (λ_ H'=>Q (.ref t) H') λcls od H'=>∃ nm i,Why X cls od H' nm i/\∀ G t',(∀ b u,H' b=some u->G b=some u)->G t'=some (.tup [.str nm,.int i])->Q (.ref t') G
def aDN {H:Hp} {e t:Addr} {o o':HO} (he:H e=none) (G:upd H e o t=none):∀ b u,H b=some u->upd (upd H e o) t o' b=some u:=λb u q=>by
 have J:b≠e:=λz=>by rw[z,he]at q;cases q
 have L:b≠t:=λz=>by subst z;rw[aE J,q]at G;cases G
 rw[aE L,aE J];exact q
def aAW {H:Hp} {t:Addr} {o':HO} (G:H t=none):∀ b u,H b=some u->upd H t o' b=some u:=λb u q=>by
 rw[aE (λz=>by rw[z,G]at q;cases q)];exact q
def xX (K:PySem.W.Frag) {X:Cx} {e:Expr} {ta:TE} {f:Str} {pos:Pos} (z:X.K=K) (he:PE X e ta) (G:attributeBase e f X.env (eval e X.env)=eval e X.env):PE X (.Attribute e f pos) (aC6 K ta f):=by
 subst z;exact aBh he G
def vB (row:List Int):Prop:=∀ j,1<=j->j<row.length->row.getD (j - 1) 0<row.getD j 0
def mR (row:List Int) (i:Nat):Prop:=1<=i/\i<row.length/\row.getD i 0<=row.getD (i - 1) 0/\∀ j,1<=j->j<i->row.getD (j - 1) 0<row.getD j 0
def aC8 (X:aV K mg) (row:List Int) (H:Hp) (Q:Prop) (E:XK):Prop :=
 (60<row.length->Rf0 E X.many "TooMany" H)/\(row.length<=60->(vB row->Q)/\∀ i:Nat,mR row i->RfI E X.row "BadRow" i H)
def jV (X:aV K mg):Sp:=λvs H Q E=>∃ (a:Addr) (row:List Int),vs=[.ref a]/\H a=some (.lst (row.map V.int))/\row.length<=200/\aC8 X row H (Q .non H) E
def xY {ns:List Int} {i:Int} (h0:-(ns.length:Int)<=i) (h1:i<ns.length):∃ n,atI (ns.map V.int) i=some (.int n):=by
 unfold atI ixN;rw[aFB]
 by_cases h:0<=i
 .rw[da h,da h1];have hj:i.toNat<ns.length:=by omega
  exact⟨ns[i.toNat],by simp[hj]⟩
 .rw[bB h,da h0];have hj:(i+ns.length).toNat<ns.length:=by omega
  exact⟨ns[(i+ns.length).toNat],by simp[hj]⟩
inductive WhyRow (row:List Int):Str->Int->Prop where
 | many:60<row.length->WhyRow row "TooMany" 0
 | good:row.length<=60->vB row->WhyRow row "" 0
 | bad {i:Nat}:row.length<=60->mR row i->WhyRow row "BadRow" i
def W1 (row:List Int):∀ n,(∀ j,1<=j->j<n->j<row.length->row.getD (j - 1) 0<row.getD j 0)\/∃ i,mR row i
 | 0=>.inl λj h1 h2=>by omega
 | n+1=>by
  rcases W1 row n with h | h
  .by_cases z:1<=n/\n<row.length
   .by_cases G:row.getD n 0<=row.getD (n - 1) 0
    .exact .inr ⟨n,z.1,z.2,G,λj h1 h2=>h j h1 h2 (by omega)⟩
    .refine .inl λj h1 h2 h3=>?_
     by_cases hj:j<n
     .exact h j h1 hj h3
     .obtain rfl:j=n:=by omega
      omega
   .refine .inl λj h1 h2 h3=>?_
    by_cases hj:j<n
    .exact h j h1 hj h3
    .exact absurd ⟨by omega,by omega⟩ z
  .exact .inr h
def oF {row:List Int} {i:Nat} (b:mR row i) (g:vB row):False:=by
 have:=g i b.1 b.2.1;have:=b.2.2.1;omega
def B6 {row:List Int} {i j:Nat} (a:mR row i) (b:mR row j):i=j:=by
 rcases Nat.lt_trichotomy i j with h | h | h
 .have:=b.2.2.2 i a.1 h;have:=a.2.2.1;omega
 .exact h
 .have:=a.2.2.2 j b.1 h;have:=b.2.2.1;omega
def WhyRow.row_of {row:List Int} {nm:Str} {i:Int} (W:WhyRow row nm i) (h:nm=""):row.length<=60/\vB row:=by
 cases W with
 | many _=>exact absurd h (by decide)
 | good a b=>exact⟨a,b⟩
 | bad _ _=>exact absurd h (by decide)
def B7:Sp:=λvs H Q E=>∃ (a:Addr) (row:List Int),vs=[.ref a]/\H a=some (.lst (row.map V.int))/\row.length<=200/\∀ nm i,WhyRow row nm i->∀ t,H t=none->Q (.ref t) (upd H t (.tup [.str nm,.int i]))
def B8:Sp:=λvs H Q E=>∃ (a b:Addr) (row ds:List Int),vs=[.ref a,.ref b]/\H a=some (.lst (row.map V.int))/\row.length<=60/\H b=some (.lst (ds.map V.int))/\6<=ds.length/\∀ z:List Int,z.length<=200->O4 H Q z
def aAX (P:Program) (w:World) (K:PySem.W.Frag) (mg:Str->Option Value) (base:Heap) (X:aV K mg) (z:Nat):Prop :=
 ∃ f fd,vW P w K mg base (CXR P w) (z+1) f fd ["_law_ask"] (W0 P w base X z)/\mg "_law_why"=some (.ref f)/\PySem.W.keepIn K (.ref f)=true/\Binds K fd ["_law_ask"] []
structure FunC (K:PySem.W.Frag) (x qual:Str) (st:Stmt) (f:Addr) (fd:FuncData) (c:Addr):Prop where
 ex:∃ (oc:Value) (od:Option Addr) (kV doc pm:Value) (an:Option Addr) (ct:Value) (osl:Array (Option Value)),
  fd=PySem.W.fnOf x qual (bS st) (bH st) (aH st) .none kV doc pm an (.ref c) ct/\K.lookup f=some ⟨oc,od,.func fd,osl⟩/\PySem.W.codeIn K (.ref c) qual=true
def FunC.ok {x qual:Str} {st:Stmt} {f c:Addr} {fd:FuncData} {N ps:List Str} {k:Nat} {sp:Sp} (F:FunC K x qual st f fd c) (S:FnScope N ps (aH st)) (len:∀ vs H Q E,sp vs H Q E->vs.length=ps.length)
 (z:∀ (A:Around) (outer:List Env) (s:Shared) (H:Hp) (vs:List V) (Q:VK) (E:XK),Room k (A.deeper (PyProof.Rows.envOfC qual (aH st) s.heap.objs.size f (.ref c)))->sp vs H Q E ->
  ∃ t,PSs (gK CX0 P w K mg base N qual (aH st) f (.ref c) A outer s H E).nox (bH st) t/\t { nx:=λ_ H'=>Q .non H',rt:=Q } (eL N vs) H):FnOk P w K mg base CX0 (k+1) f fd ps sp:=by
 obtain⟨Y,od,kV,L,pm,an,ct,M,rfl,lk,G⟩:=F.ex;refine y9 lk G S len λA outer s H vs Q E U J=>?_;obtain⟨t,h,q⟩:=z A outer s H vs Q E U J;exact⟨t,h.nox,q⟩
def SameP (P:Addr) (H H':Hp):Prop:=∀ b o,b≠P->H b=some o->H' b=some o
def _root_.L2.Same.toP {P:Addr} {H H':Hp} (h:Same H H'):SameP P H H':=λb o _ e=>h b o e
def SameP.trans {P:Addr} {H H1 H2:Hp} (a:SameP P H H1) (b:SameP P H1 H2):SameP P H H2:=λc o n h=>b c o n (a c o n h)
def SameP.tbl {P:Addr} {H:Hp} {o:HO}:SameP P H (upd H P o):=λb o n h=>by rw[aE n];exact h
def pN {H:Hp} {P b:Addr} {ps:Array Value} {o:HO} (h:H P=some (.tbl ps)) (e:H b=some o) (n:∀ G,o≠.tbl G):b≠P:=λz=>by rw[z,h]at e;cases e;exact n _ rfl
def xZ (sp:Sp):Prop:=∀ vs H Q z E G,(∀ v H',Q v H'->z v H')->(∀ c o H',E c o H'->G c o H')->sp vs H Q E->sp vs H z G
def qZ (Z:aV K mg) (Q:VK):XK:=λcls od H2=>∃ nm i,Why Z cls od H2 nm i/\∀ z t',Same H2 z->z t'=some (.tup [.str nm,.int i])->Q (.ref t') z
def j9 {Z:aV K mg} {Q:VK} {H:Hp} (k:∀ tv z,Same H z->z tv=some (.tup [.str "TooMany",.int 0])->Q (.ref tv) z):Rf0 (qZ Z Q) Z.many "TooMany" H:=λdx G=>⟨_,_,.many,λz t' g3 h3=>k t' z ((Same.upd G).trans g3) h3⟩
def O7 {Z:aV K mg} {Q:VK} {H:Hp} (k:∀ tv z,Same H z->z tv=some (.tup [.str "BadCreel",.int 0])->Q (.ref tv) z):Rf0 (qZ Z Q) Z.creel "BadCreel" H:=λdx G=>⟨_,_,.creel,λz t' g3 h3=>k t' z ((Same.upd G).trans g3) h3⟩
def B9 {Z:aV K mg} {Q:VK} {H:Hp} (k:∀ tv z,Same H z->z tv=some (.tup [.str "BadNumber",.int 0])->Q (.ref tv) z):Rf0 (qZ Z Q) Z.number "BadNumber" H:=λdx G=>⟨_,_,.number,λz t' g3 h3=>k t' z ((Same.upd G).trans g3) h3⟩
def k7 {Z:aV K mg} {Q:VK} {H:Hp} (k:∀ tv z,Same H z->z tv=some (.tup [.str "TooNear",.int 0])->Q (.ref tv) z):Rf0 (qZ Z Q) Z.near "TooNear" H:=λdx G=>⟨_,_,.near,λz t' g3 h3=>k t' z ((Same.upd G).trans g3) h3⟩
def k9 {Z:aV K mg} {Q:VK} {H:Hp} (k:∀ tv z,Same H z->z tv=some (.tup [.str "Bare",.int 0])->Q (.ref tv) z):Rf0 (qZ Z Q) Z.bare "Bare" H:=λdx G=>⟨_,_,.bare,λz t' g3 h3=>k t' z ((Same.upd G).trans g3) h3⟩
def aAY {Z:aV K mg} {Q:VK} {H:Hp} {i:Int} (k:∀ tv z,Same H z->z tv=some (.tup [.str "BadRow",.int i])->Q (.ref tv) z):RfI (qZ Z Q) Z.row "BadRow" i H:=λdx G=>⟨_,_,.row aD rfl,λz t' g3 h3=>k t' z ((Same.upd G).trans g3) h3⟩
def C0 {Z:aV K mg} {Q:VK} {H:Hp} {i:Int} (k:∀ tv z,Same H z->z tv=some (.tup [.str "BadTrains",.int i])->Q (.ref tv) z):RfI (qZ Z Q) Z.trains "BadTrains" i H:=λdx G=>⟨_,_,.trains aD rfl,λz t' g3 h3=>k t' z ((Same.upd G).trans g3) h3⟩
def O8 {Z:aV K mg} {Q:VK} {H:Hp} {i:Int} (k:∀ tv z,Same H z->z tv=some (.tup [.str "BadSizes",.int i])->Q (.ref tv) z):RfI (qZ Z Q) Z.sizes "BadSizes" i H:=λdx G=>⟨_,_,.sizes aD rfl,λz t' g3 h3=>k t' z ((Same.upd G).trans g3) h3⟩
def nB {nm:Str} (i:Int) (h:PyData.strOk nm=true):SeqAt.shaped (.tuple [.str nm,.int i])=true:=by
 simp[SeqAt.shaped,PyData.canLay0,PyData.canLayAll0,PyData.depth,PyData.depthAll,h]
def pO (nm:Str) (i:Int):(PyData.tuple [.str nm,.int i]).depth<=3:=by
 simp[PyData.depth,PyData.depthAll]
def yA (nm:Str) (i:Int):sml (.tuple [.str nm,.int i])=true:=by
 simp[sml,pL]
end
end CW
namespace L2
open PySem PySem.Spec PyProof.Rows
def kU:bootBuiltins "sum"=some (.builtin "sum"):=by decide +kernel
def sZ:bootBuiltins "enumerate"=some (.type "enumerate"):=by decide +kernel
def aAZ:bootBuiltins "zip"=some (.type "zip"):=by decide +kernel
def C1:∀ {ns:List Int} {us:List Value},Vals (ns.map V.int) us->IntsAre us ns
 | [],_,.nil=>.nil
 | _ :: _,_,.cons ⟨_,e⟩ t=>by subst e;exact .cons _ _ (C1 t)
section
variable {X:Cx}
def kX (J:X.calm=true):gY X (.builtin "sum") (λxs H Q=>∃ (p:Addr) (ns:List Int),xs=[.ref p]/\H p=some (.lst (ns.map V.int))/\Q (.int ns.sum) H):=by
 intro pins s σ H xs us Q I r h;obtain⟨p,ns,rfl,L,q⟩:=h;obtain⟨u,rfl,M⟩:=kJ r;cases M;obtain⟨its,U,pl,hz⟩:=I.list (SqL.of L);have Y:=pl.isList;have hi:=C1 U;obtain⟨xs,G⟩:=hi.allInts.items;have z:s.heap.IsList p (intItems xs):=G ▸ Y;refine sum_intListG (I.ok.hd J) z λh' tk t' hk=>?_;have e1:ns=xs.toList.map (·.1):=by
  rw[<- nums_intItems,<- G];exact(show numsOf its.toArray.toList=ns from hi.numsOf).symm
 have e2:preSum (numAt xs) xs.size=ns.sum:=by
  rw[preSum_eq,mr (by simp),e1]
 rw[e2];exact⟨.int _,H,I.kept hk,⟨_,rfl⟩,q⟩
def Inv.turnedF {h':Heap} {pins:List (Addr×Obj)} {σ:St} {H:Hp} {s:Shared} {t':Nat} {fp:List Addr} (I:Inv X pins σ H s) (k:∀ b o,b∉fp->s.heap.get? b=some o->h'.get? b=some o) (L:∀ b∈fp,kG X pins H b):Inv X pins σ H { s with heap:=h',toks:=t' }:=by
 have J:∀ b u,H b=some u->b∉fp:=λb u e z=>by rw[(L b z).1]at e;cases e
 refine I.step (g':=s.gens) (d':=s.drawn) (ch:=fp) (λb M=>?_) (λb o _ _ G e _=>k b o G e) (λb o _ _ G e _=>⟨o.slots,k b o G e⟩) (λ_ _ _ _ n=>n)
  (λb o G e=>⟨o,k b o G e⟩) (λ_ _ e=>e) (λ_ _ _ e=>e) (λb ps e=>⟨#[],by rw[e];simp⟩) (λm U=>?_) (λb u e=>?_) I.bare
 .obtain⟨_,h1,_,h3,h4,h5⟩:=L b M;exact⟨h3,h1,h4,h5⟩
 .obtain⟨o,es,ep,Y,r⟩:=U;exact⟨o,es,ep,k _ o (λz=>(L _ z).2.1 rfl) Y,r⟩
 .refine(I.hok b u e).stay (λc v G q=>k c v ?_ q) (λ_ q=>q) λ_ _ q=>q;rcases G with z | z
  .rw[z];exact J b u e
  .exact J c _ z
def Inv.turnLaid {h':Heap} {pins:List (Addr×Obj)} {σ:St} {H:Hp} {s:Shared} {t':Nat} {fp:List Addr} {a:Addr} {o:HO} (I:Inv X pins σ H s) (k:∀ b o,b∉fp->s.heap.get? b=some o->h'.get? b=some o) (M:∀ b∈fp,kG X pins H b) (U:s.heap.objs.size<=a) (new:ObjOk X.prog X.w (upd H a o) h' a o) :
 Inv X pins σ (upd H a o) { s with heap:=h',toks:=t' }:=by
 have Y:H a=none:=I.hok.fresh U;have J:∀ b u,H b=some u->b∉fp:=λb u e z=>by rw[(M b z).1]at e;cases e
 have ne:∀ b u,H b=some u->b≠a:=λb u e=>aU e Y;refine I.step (g':=s.gens) (d':=s.drawn) (ch:=fp) (λb L=>?_) (λb o _ _ G e _=>k b o G e) (λb o _ _ G e _=>⟨o.slots,k b o G e⟩) (λb ob _ e n=>?_)
  (λb o G e=>⟨o,k b o G e⟩) (λb _ e=>by rw[aE (ne b _ e)];exact e) (λb _ _ e=>by rw[aE (ne b _ e)];exact e) (λb ps e=>⟨#[],by rw[aE (ne b _ e),e];simp⟩) (λm hm=>?_) (λb u e=>?_) I.bare
 .obtain⟨_,h1,_,h3,h4,h5⟩:=M b L;exact⟨h3,h1,h4,h5⟩
 .have:b≠a:=aFY (aFS (aFH e) U);rw[aE this];exact n
 .obtain⟨o,es,ep,ho,r⟩:=hm;exact⟨o,es,ep,k _ o (λz=>(M _ z).2.1 rfl) ho,r⟩
 .by_cases L:b=a
  .subst L;rw[aD]at e;cases e;exact new
  .rw[aE L]at e;refine(I.hok b u e).stay (λc v G q=>k c v ?_ q) (λc q=>by rw[aE (ne c _ q)];exact q) λc _ q=>by rw[aE (ne c _ q)];exact q
   rcases G with z | z
   .rw[z];exact J b u e
   .exact J c _ z
end
def Itz (K:PySem.W.Frag) (a b:Addr):It :=
 ⟨λi H=>∃ xs ys x y,SqL K H a xs/\SqL K H b ys/\xs[i]?=some x/\ys[i]?=some y,λi H v H'=>∃ t x y,v=.ref t/\H t=none/\(∀ xs,SqL K H a xs->xs[i]?=some x)/\(∀ ys,SqL K H b ys->ys[i]?=some y)/\H'=upd H t (.tup [x,y]),
  λi H=>∃ xs ys,SqL K H a xs/\SqL K H b ys/\(xs.length<=i\/ys.length<=i)⟩
def aA0 {P:Program} {w:World} {K:PySem.W.Frag} {elts:List Expr} {x1} {pos:Pos} (a b z TI TO i1 i2:Addr) (D:ZipApart z TI TO i1 i2 a b):sE P w K (.Tuple elts x1 pos) (Itz K a b) [z,TO,i1,i2,TI] z
 (λi h=>IsZip h z TI TO .none/\IsPair h TI (.ref i1) (.ref i2)/\(∃ u v,IsPair h TO u v)/\h.IsListIter i1 a i/\h.IsListIter i2 b i) where
 mem:=by simp
 obj:=λi h st c hc=>by
  obtain⟨hz,hTI,⟨u,v,hTO⟩,⟨o1,ho1,c1,d1⟩,o2,ho2,c2,d2⟩:=st;simp only[aFe,qa,or_false]at hc;rcases hc with q | q | q | q | q
  .subst q;exact⟨_,hz,λv z=>by have z':Data.fields _=Data.cell v:=z;cases z'⟩
  .subst q;exact⟨_,hTO,λv z=>by have z':Data.seq _ _=Data.cell v:=z;cases z'⟩
  .subst q;exact⟨o1,ho1,λv z=>by rw[d1]at z;cases z⟩
  .subst q;exact⟨o2,ho2,λv z=>by rw[d2]at z;cases z⟩
  .subst q;exact⟨_,hTI,λv z=>by have z':Data.seq _ _=Data.cell v:=z;cases z'⟩
 keep:=λi h h' st k=>by
  obtain⟨hz,hTI,⟨u,v,hTO⟩,h1,h2⟩:=st;exact⟨k z (by simp) _ hz,k TI (by simp) _ hTI,⟨u,v,k TO (by simp) _ hTO⟩,h1.at λo e=>k i1 (by simp) o e,h2.at λo e=>k i2 (by simp) o e⟩
 item:=by
  intro X hP hw hK hc i pins s σ H E I hf st hg;subst hP hw hK;obtain⟨xs,ys,x,y,hq,hq2,hx,hy⟩:=hg;obtain⟨its,rv,p,_⟩:=I.list hq;obtain⟨its2,rv2,p2,_⟩:=I.list hq2;obtain⟨u,hu,ru⟩:=rv.get hx;obtain⟨v,hv,rv'⟩:=rv2.get hy;obtain⟨hz,hTI,⟨u0,v0,hTO⟩,h1,h2⟩:=st;have lz:z<s.heap.objs.size:=aFH hz;refine wpAny_pyNext_zip_item D hz hTI hTO h1 h2 p.isList p2.isList (x:=u) (y:=v) (by simpa using hu) (by simpa using hv) λh' e1 e2 e3 e4 e5 e6 kp=>?_;refine⟨_,rfl,?_⟩;have hn:H s.heap.objs.size=none:=I.hok.fresh (ah _);have k1:∀ c o,c∉[z,TO,i1,i2,TI]->s.heap.get? c=some o->h'.get? c=some o:=λc o hb q=>kp c o (λz=>hb (by simp[z])) (λz=>hb (by simp[z])) (λz=>hb (by simp[z])) (λz=>hb (by simp[z])) q;refine wpAny_letOwnedTupleGo_zip e1 λh2' f1 sb=>?_;have k2:∀ c o,c∉[z,TO,i1,i2,TI]->s.heap.get? c=some o->h2'.get? c=some o:=λc o hb q=>sb.extBut c o (λz=>hb (by simp[z])) (k1 c o hb q);have n1:s.heap.objs.size≠z:=aF1 lz;refine⟨.ref s.heap.objs.size,_,I.turnLaid (t':=s.toks) (h':=h2') (o:=.tup [x,y]) k2 hf (ah _) ⟨by show 2<=sizeLine;decide,[u,v],.cons ru (.cons rv' .nil),_,sb.extBut _ _ n1 e5,rfl,_,rfl⟩,rfl,
   ⟨_,x,y,rfl,hn,λzs h=>by rw[I.list_inj h hq];exact hx,λzs h=>by rw[I.list_inj h hq2];exact hy,rfl⟩,⟨f1,sb.extBut _ _ D.TIz (kp TI _ D.TIz D.TITO D.TIi1 D.TIi2 hTI),⟨_,_,sb.extBut _ _ D.TOz e2⟩,e3.extBut sb.extBut D.i1z,e4.extBut sb.extBut D.i2z⟩,λc hb=>?_⟩
  have hb':c≠s.heap.objs.size:=by
   have lc:c<s.heap.objs.size:=by
    simp only[aFe,qa,or_false]at hb;rcases hb with q | q | q | q | q
    .subst q;exact lz
    .subst q;exact aFH hTO
    .subst q;obtain⟨_,z,_⟩:=h1;exact aFH z
    .subst q;obtain⟨_,z,_⟩:=h2;exact aFH z
    .subst q;exact aFH hTI
   exact aFY lc
  rw[aE hb'];exact(hf c hb).1
 done:=by
  intro X hP hw hK hc i pins s σ H E I hf st hg;subst hP hw hK;obtain⟨xs,ys,hq,hq2,hx⟩:=hg;obtain⟨its,rv,p,_⟩:=I.list hq;obtain⟨its2,rv2,p2,_⟩:=I.list hq2;have hl:=rv.length;have hl2:=rv2.length;obtain⟨hz,hTI,⟨u0,v0,hTO⟩,h1,h2⟩:=st;exact wpAny_pyNext_zip_end (I.ok.hd hc) D hz hTI hTO h1 h2 p.isList p2.isList (by rcases hx with q | q;(left;simp;omega);(right;simp;omega)) λh' kp=>⟨rfl,I.turnedF (fp:=[z,TO,i1,i2,TI]) (t':=s.toks) (λc o hb e=>kp c o (λz=>hb (by simp[z])) (λz=>hb (by simp[z])) (λz=>hb (by simp[z])) (λz=>hb (by simp[z])) e) hf⟩
 self:=λ_ _ _ _ _ st h=>wpAny_pyIter_zip st.1 h
def aEx (K:PySem.W.Frag) (ta:TA):TI:=fun σ H R=>ta σ H λvs H1=>∃ a b xs ys,vs=[.ref a,.ref b]/\SqL K H1 a xs/\SqL K H1 b ys/\R (Itz K a b) H1
def aA1 {X:Cx} {elts:List Expr} {x1} {ak:Pos} {a b:Expr} {ta:TA} {p pos:Pos} (hg:Gl X "zip") (hm:X.mg "zip"=none) (ha:PA X [a,b] ta) (hs:starEach [a,b] X.env=[(false,eval a X.env),(false,eval b X.env)]:=by rfl) (J:starEach [b] X.env=[(false,eval b X.env)]:=by rfl):PI X (.Tuple elts x1 ak) (.Call (.Name "zip" p) [a,b] [] pos) (aEx X.K ta):=by
 intro pins s σ H R I h;refine Call_ (fA I hg hm aAZ (kn (thn (ha pos pins s σ H _ I h) λus G ⟨vs,H1,L,r1,q1⟩=>?_) (by rw[hs,J]) (by rw[J];rfl)));obtain⟨a,b,xs,ys,rfl,hq,av,q⟩:=q1;obtain⟨u,v,rfl,rx,ry⟩:=r1.two;cases rx;cases ry;obtain⟨its,rv,pl,_⟩:=L.list hq;obtain⟨aw,a_,M,_⟩:=L.list av;have la:a<G.heap.objs.size:=by obtain⟨_,_,z,_⟩:=pl;exact aFH z
 have lb:b<G.heap.objs.size:=by obtain⟨_,_,z,_⟩:=M;exact aFH z
 generalize hn:G.heap.objs.size=n at la lb;refine call_zip_2 pl.isList M.isList λh' g1 g2 g3 g4 g5 g6 kp=>?_;rw[hn]at g1 g2 g3 g4 g5 g6;have I2:Inv X pins σ H1 { G with heap:=h' }:=L.kept (t':=G.toks) kp;rw[hn];refine wpAny_pyIter_zip g1 ?_;have ne:∀ i j:Nat,i≠j->(n+i:Nat)≠n+j:=λi j h z=>h (Nat.add_left_cancel z);have U:∀ i:Nat,a≠n+i:=λi=>aFY (aFS la (ng _ _));have Y:∀ i:Nat,b≠n+i:=λi=>aFY (aFS lb (ng _ _));have D:ZipApart (n+4) (n+2) (n+3) n (n+1) a b :=
  ⟨ne 2 4 (by decide),ne 3 4 (by decide),ne 0 4 (by decide),ne 1 4 (by decide),ne 2 3 (by decide),ne 2 0 (by decide),ne 2 1 (by decide),ne 3 0 (by decide),ne 3 1 (by decide),ne 0 1 (by decide),U 4,U 3,U 0,U 1,Y 4,Y 3,Y 0,Y 1⟩
 refine⟨n+4,[n+4,n+3,n,n+1,n+2],_,_,H1,rfl,I2,aA0 a b _ _ _ _ _ D,⟨g1,g2,⟨_,_,g3⟩,g4,g5⟩,λc hb=>?_,q⟩;have e:G.heap.objs.size<=c:=by
  rw[hn];simp only[aFe,qa,or_false]at hb;rcases hb with z | z | z | z | z <;> rw[z]
  .exact ng _ _
  .exact ng _ _
  .exact ah _
  .exact ng _ _
  .exact ng _ _
 exact L.fpOk e (L.hok.fresh e)
def W2 {K:PySem.W.Frag} {a b:Addr} {xs ys:List V} {g:TG} {tb:TS} {D:nJ} {σ:St} {H:Hp} (n:Nat) (hn:n=min xs.length ys.length) (Pv:Nat->St->Hp->Prop) (h0:Pv 0 σ H) (hl:∀ i σ H,i<=n->Pv i σ H->SqL K H a xs/\SqL K H b ys)
 (hs:∀ i x y σ H t,xs[i]?=some x->ys[i]?=some y->Pv i σ H->H t=none->g (.ref t) σ (upd H t (.tup [x,y])) λz H2=>tb { D with nx:=Pv (i+1),ct:=Pv (i+1),bk:=D.nx } z H2) (hd:∀ σ H,Pv n σ H->D.nx σ H) :
 ∃ W:Nat->Nat->St->Hp->Prop,(∃ m,W 0 m σ H)/\∀ i m σ H,W i m σ H ->
  ((Itz K a b).stop i H/\D.nx σ H)\/((Itz K a b).go i H/\∃ N:St->Hp->Prop,(∀ G H',N G H'->∃ Y,Y<m/\W (i+1) Y G H')/\∀ x H',(Itz K a b).yld i H x H'->g x σ H' λz H2=>tb { D with nx:=N,ct:=N,bk:=D.nx } z H2):=by
 refine⟨λi m σ H=>m=n - i/\i<=n/\Pv i σ H,⟨n,by simp,jr _,h0⟩,?_⟩;rintro i m σ H ⟨rfl,hi,p⟩;obtain⟨J,L⟩:=hl i σ H hi p
 by_cases M:i<n
 .have l1:i<xs.length:=by omega
  have l2:i<ys.length:=by omega
  refine .inr ⟨⟨xs,ys,xs[i],ys[i],J,L,by simp[l1],by simp[l2]⟩,Pv (i+1),λG H' p'=>⟨n - (i+1),by omega,rfl,M,p'⟩,λx H' y=>?_⟩;obtain⟨t,x,y,rfl,U,y1,y2,rfl⟩:=y;exact hs i x y σ _ t (y1 xs J) (y2 ys L) p U
 .have e:i=n:=by omega
  refine .inl ⟨⟨xs,ys,J,L,by omega⟩,hd σ H (e ▸ p)⟩
end L2
namespace CW
open PySem L2
def LP (H:Hp) (a:Addr) (ps:List (Int×Int)):Prop:=∃ us,H a=some (.lst us)/\Prs H us ps
def LP.mono {H H':Hp} (h:Same H H') {a:Addr} {ps:List (Int×Int)} (r:LP H a ps):LP H' a ps:=let ⟨us,e,p⟩:=r;⟨us,h _ _ e,p.mono (TupS.same h)⟩
def Prs.len {H:Hp} {us:List V} {ps:List (Int×Int)} (h:Prs H us ps):us.length=ps.length:=ol h
def szs (ps:List (Int×Int)):List Int:=ps.map (·.1)
structure Trn (ps:List (Int×Int)):Prop where
 pos:∀ p∈ps,1<=p.1
 few:(szs ps).sum<=60
def jW:∀ {ps:List (Int×Int)},(∀ p∈ps,1<=p.1)->(ps.length:Int)<=(szs ps).sum
 | [],_=>by simp[szs]
 | p :: r,h=>by
  have h1:=h p (aFD);have h2:=jW (ps:=r) λq z=>h q (aFE _ z);simp only[szs,aF0,aF3,aF4]at h2 ⊢;omega
def dR {H:Hp} {us:List V} {ps:List (Int×Int)} (h:Prs H us ps) {i:Nat} {x:V} (e:us[i]?=some x):∃ p t,ps[i]?=some p/\x=.ref t/\H t=some (.tup [.int p.1,.int p.2]):=by
 obtain⟨p,z,t,e1,G⟩:=sX h e;exact⟨p,t,z,e1,G⟩
def tE {ps:List (Int×Int)} {i:Nat} {p:Int×Int} (f:Int×Int->Int) (h:ps[i]?=some p):((ps.take i).map f).map V.int++[V.int (f p)]=((ps.take (i+1)).map f).map V.int:=by
 rw[aF6,h];simp
def rkP (p q:Int×Int):Prop:=p.2 - p.1<=q.2 - q.1/\p.2 - p.1+1<=q.1 - p.2 - 1
def Rnk (ps:List (Int×Int)):Prop:=∀ (j:Nat) (p q:Int×Int),ps[j]?=some p->ps[j+1]?=some q->rkP p q
inductive tF (vs:List V) (H:Hp) (Q:VK) (E_:XK):Prop
 | mk (a:Addr) (row:List Int) (h0_:vs=[.ref a]) (h1_:H a=some (.lst (row.map V.int))) (h2_:Row row) (h3_:row.length<=60) (h4_:∀ (b:Bool) (H':Hp),(b=true↔Rnk (bD row))->Same H H'->Q (.bl b) H'):tF vs H Q E_
def pP (us:List V) (k:Nat):iE us (some (k:Int)) none=us.drop k:=by
 unfold iE;rw[HT.sIx_none,HT.sIx_nat]
 by_cases h:k<=us.length
 .rw[so h,mr (by simp)]
 .rw[Nat.min_eq_right (by omega),Nat.sub_self,List.take_zero,List.drop_eq_nil_of_le (by omega)]
def aBs (us:List V) (k:Nat):iE us none (some (k:Int))=us.take k:=by
 unfold iE;rw[HT.sIx_none,HT.sIx_nat,wl,xg]
 by_cases h:k<=us.length
 .rw[so h]
 .rw[Nat.min_eq_right (by omega),mr (by omega),mr (by omega)]
def yB (r s:List Int):bD (r++s)=s.foldl fN (bD r):=by unfold bD;rw[um]
def seg (p:Int) (n:Nat):List Int:=(List.range n).map λ(k:Nat)=>p+(k:Int)
def aA2 (p:Int) (n:Nat):seg p (n+1)=seg p n++[p+n]:=by unfold seg;rw[pe,aFQ];rfl
def aBt (p:Int) (n:Nat):(seg p n).length=n:=by simp[seg]
end CW
namespace L2
open PySem PySem.Spec PyProof.Rows
end L2
namespace CW
open PySem L2
def aEB (row:List Int) (c:Int):Nat:=((kE row c).filter λx=>decide (x∉row)).length
inductive lY (vs:List V) (H:Hp) (Q:VK) (E_:XK):Prop
 | mk (a:Addr) (row:List Int) (c:Int) (h0_:vs=[.ref a,.int c]) (h1_:H a=some (.lst (row.map V.int))) (h2_:Row row) (h3_:row.length<=60) (h4_:1<=c) (h5_:∀ H',Same H H'->Q (.int (aEB row c)) H'):lY vs H Q E_
def C2 {l:List Int} {i:Nat} {z:Int} (p:Int->Bool) (h:l[i]?=some z):((l.take (i+1)).filter p).map V.int=((l.take i).filter p).map V.int++(if p z=true then [V.int z]else []):=by
 rw[aF6,h,tz];simp only[Option.toList_some,ot,List.filter_nil]
 by_cases q:p z=true
 .rw[da q,da q];simp
 .rw[bB q,bB q];simp
inductive Ref where
 | ok | many | row (i:Int) | trains (i:Int) | sizes (i:Int) | creel | number | near | bare
def Ref.nm:Ref->Str
 | .ok=>"" | .many=>"TooMany" | .row _=>"BadRow" | .trains _=>"BadTrains" | .sizes _=>"BadSizes" | .creel=>"BadCreel" | .number=>"BadNumber" | .near=>"TooNear" | .bare=>"Bare"
def Ref.at:Ref->Int
 | .row i=>i | .trains i=>i | .sizes i=>i | _=>0
def Ref.strOk (r:Ref):PyData.strOk r.nm=true:=by cases r <;> simp only[Ref.nm] <;> decide +kernel
def Ref.nm_ok {r:Ref}:r.nm=""↔r=.ok:=by cases r <;> simp[Ref.nm] <;> decide
section
variable {P:Program} {w:World} {K:PySem.W.Frag} {mg:Str->Option Value} {base:Heap}
def Ref.go (X:aV K mg) (E:XK) (H:Hp):Ref->Prop
 | .ok=>False
 | .many=>Rf0 E X.many "TooMany" H
 | .row i=>RfI E X.row "BadRow" i H
 | .trains i=>RfI E X.trains "BadTrains" i H
 | .sizes i=>RfI E X.sizes "BadSizes" i H
 | .creel=>Rf0 E X.creel "BadCreel" H
 | .number=>Rf0 E X.number "BadNumber" H
 | .near=>Rf0 E X.near "TooNear" H
 | .bare=>Rf0 E X.bare "Bare" H
def yC {Z:aV K mg} {Q:VK} {H:Hp} {r:Ref} (h:r≠.ok) (k:∀ tv z,Same H z->z tv=some (.tup [.str r.nm,.int r.at])->Q (.ref tv) z):r.go Z (qZ Z Q) H:=by
 cases r with
 | ok=>exact h rfl
 | many=>exact j9 k
 | row i=>exact aAY k
 | trains i=>exact C0 k
 | sizes i=>exact O8 k
 | creel=>exact O7 k
 | number=>exact B9 k
 | near=>exact k7 k
 | bare=>exact k9 k
def rM {Z:aV K mg} {E z:XK} {H:Hp} {r:Ref} (G:∀ c o H',E c o H'->z c o H') (h:r.go Z E H):r.go Z z H:=by
 cases r <;> first | exact h | exact λdx hd=>G _ _ _ (h dx hd)
open Classical in
noncomputable def aO (row:List Int):Ref:=if 60<row.length then .many else if h:∃ i,mR row i then .row ((Classical.choose h:Nat):Int)else .ok
def fT (row:List Int):WhyRow row (aO row).nm (aO row).at:=by
 unfold aO
 by_cases h:60<row.length
 .rw[da h];exact .many h
 .rw[bB h]
  by_cases z:∃ i,mR row i
  .rw[dif_pos z];exact .bad (by omega) (vw z)
  .rw[dif_neg z];rcases W1 row row.length with g | g
   .exact .good (by omega) λj h1 h2=>g j h1 h2 h2
   .exact absurd g z
def gE {row:List Int} {nm z:Str} {i G:Int} (a:WhyRow row nm i) (b:WhyRow row z G):nm=z/\i=G:=by
 cases a with
 | many h=>cases b with
  | many _=>exact⟨rfl,rfl⟩
  | good h' _=>omega
  | bad h' _=>omega
 | good h g=>cases b with
  | many h'=>omega
  | good _ _=>exact⟨rfl,rfl⟩
  | bad _ b=>exact(oF b g).elim
 | bad h g=>cases b with
  | many h'=>omega
  | good _ g'=>exact(oF g g').elim
  | bad _ b=>rw[B6 g b];exact⟨rfl,rfl⟩
def wF {row:List Int}:aO row=.ok↔row.length<=60/\vB row:=by
 constructor
 .intro h;have:=fT row;rw[h]at this;exact this.row_of rfl
 .intro ⟨h1,h2⟩;exact Ref.nm_ok.mp (gE (fT row) (.good h1 h2)).1
def l7 {x:Int} {r:List Int} (h:vB (x :: r)):vB r:=λj h1 h2=>by
 have:=h (j+1) (by omega) (by rw[aF4];omega);obtain⟨z,rfl⟩:∃ z,j=z+1:=⟨j - 1,by omega⟩;simpa using this
def C3:∀ {row:List Int},vB row->Row row
 | [],_=>List.Pairwise.nil
 | [x],_=>va _ _
 | x :: y :: r,h=>by
  have J:=C3 (l7 h);have G:x<y:=by simpa using h 1 (by omega) (by simp)
  refine List.Pairwise.cons (λz hz=>?_) J;rcases aFe.mp hz with rfl | hz
  .exact G
  .exact Int.lt_trans G (List.rel_of_pairwise_cons J hz)
def aA3 {row:List Int} (h:Row row):vB row:=λj h1 h2=>by
 have:=List.pairwise_iff_getElem.mp h (j - 1) j (by omega) h2 (by omega);rw[fy,fy,aFL (by omega:j - 1<row.length),aFL h2];exact this
def cP {row:List Int}:aO row=.ok↔Row row/\row.length<=60:=by
 rw[wF];exact⟨λ⟨a,b⟩=>⟨C3 b,a⟩,λ⟨a,b⟩=>⟨b,aA3 a⟩⟩
def jI {X:aV K mg} {row:List Int} {H:Hp} {Q:Prop} {E:XK} (q:aO row=.ok->Q) (k:aO row≠.ok->(aO row).go X E H):aC8 X row H Q E:=by
 refine⟨λz=>?_,λz=>⟨λg=>q (wF.mpr ⟨z,g⟩),λi b=>?_⟩⟩
 .have e:aO row=.many:=by unfold aO;rw[da z]
  have:=k (by rw[e];exact λh=>(nomatch h))
  rwa [e]at this
 .have e:aO row=.row i:=by
   unfold aO;have G:∃ i,mR row i:=⟨i,b⟩;rw[bB (by omega),dif_pos G,B6 (vw G) b]
  have:=k (by rw[e];exact λh=>(nomatch h))
  rwa [e]at this
def kY (a b:Sp):Sp:=λvs H Q E=>a vs H Q E\/b vs H Q E
def gF {j k:Nat} {f:Addr} {fd:FuncData} {ps:List Str} {a b:Sp} (F:FnOk P w K mg base CX0 j f fd ps a) (G:FnOk P w K mg base (CXR P w) k f fd ps b) (h:j<=k:=by decide):FnOk P w K mg base (CXR P w) k f fd ps (kY a b) where
 len:=λvs H Q E h=>h.elim (F.len _ _ _ _) (G.len _ _ _ _)
 run:=λA outer s H args us vs Q E hr e0 hb r hsp=>by
  rcases hsp with q | q
  .refine mi (F.run A outer s H args us vs Q E (hr.mono h) e0 hb r q) λr s' z=>?_;cases r with
   | error e=>exact z.elim
   | ok fl=>cases fl <;> exact z
  .exact G.run A outer s H args us vs Q E hr e0 hb r q
def jJ (c:Int):Ref:=if c<1 then .creel else .ok
noncomputable def lZ (row:List Int) (c:Int):Ref:=match aO row with
 | .ok=>jJ c
 | r=>r
def kZ {row:List Int} {c:Int} (h:aO row≠.ok):lZ row c=aO row:=by
 unfold lZ;split
 .rename_i e;exact absurd e h
 .rfl
def yD {row:List Int} {c:Int} (h:aO row=.ok):lZ row c=jJ c:=by
 unfold lZ;rw[h]
def C4 {c:Int}:jJ c=.ok↔1<=c:=by
 unfold jJ
 by_cases h:c<1
 .rw[da h];exact⟨λz=>(nomatch z),λz=>by omega⟩
 .rw[bB h];exact⟨λ_=>by omega,λ_=>rfl⟩
def oG (X:aV K mg):Sp:=λvs H Q E=>∃ c:Int,vs=[.int c]/\(1<=c->Q .non H)/\(c<1->Rf0 E X.creel "BadCreel" H)
def mB (X:aV K mg):Sp:=λvs H Q E=>∃ (a:Addr) (row:List Int) (c:Int),vs=[.ref a,.int c]/\H a=some (.lst (row.map V.int))/\row.length<=200/\lZ row c≠.ok/\(lZ row c).go X E H
def yE {ps ps':Array Value} {a b:Int} {c:Value} (h:TriplesOk ps.toList) (e:ps'.toList=ps.toList++[rawInt a,rawInt b,c]):TriplesOk ps'.toList:=by
 rw[e];generalize ps.toList=l at h;clear e ps ps'
 match l,h with
 | [],_=>exact True.intro
 | .int _ _ :: .int _ _ :: _ :: rest,h=>exact triples_app rest h
where triples_app {a b:Int} {c:Value}:∀ (l:List Value),TriplesOk l->TriplesOk (l++[rawInt a,rawInt b,c])
 | [],_=>True.intro
 | .int _ _ :: .int _ _ :: _ :: rest,h=>triples_app rest h
end
end CW
namespace L2
open PySem PySem.W PySem.Spec PyProof.Rows
section
variable {O:KeyOrd} {key:Nat->O.α} {n:Nat} {ae:Nat->Nat->(Bool->Shared->Prop)->Shared->Prop} {s:Shared}
def Ans (O:KeyOrd) (key:Nat->O.α) (n:Nat) (ae:Nat->Nat->(Bool->Shared->Prop)->Shared->Prop) (s:Shared):Prop:=∀ i j C,i<n->j<n->C (O.blt (key i) (key j)) s->ae i j C s
def KP (O:KeyOrd) (key:Nat->O.α) (p:Array Nat) (i:Nat):O.α:=key (p.getD i 0)
structure InR (n:Nat) (p:Array Nat):Prop where
 pos:0<n
 size:p.size=n
 mem:∀ x∈p,x<n
def InR.at {p:Array Nat} (h:InR n p) (i:Nat):p.getD i 0<n:=by
 unfold Array.getD;split
 .exact h.mem _ (Array.getElem_mem _)
 .exact h.pos
def InR.perm {p q:Array Nat} (h:InR n p) (e:q.Perm p):InR n q:=⟨h.pos,e.size_eq.trans h.size,λx z=>h.mem x (e.mem_iff.mp z)⟩
def oH {p q:Array Nat} {i j:Nat} (h:p[i]?=q[j]?):p.getD i 0=q.getD j 0:=by
 rw[sr,sr,h]
def O9 {p:Array Nat} {i j:Nat} (hj:j<=p.size) (k:Nat):KP O key (kas_rev p i j) k=if i<=k/\k<j then KP O key p (i+j - 1 - k)else KP O key p k:=by
 have e:=getElem?_mirror_all (i:=i) hj k;unfold KP kas_rev
 by_cases h:i<=k/\k<j
 .rw[da h]at e ⊢;exact congrArg key (oH e)
 .rw[bB h]at e ⊢;exact congrArg key (oH e)
def aDO {p:Array Nat} {k d:Nat} (z:k<p.size) (hd:d<=k) (x:Nat):KP O key (bubble p k d) x=if x=k - d then KP O key p k else if k - d<x/\x<=k then KP O key p (x - 1)else KP O key p x:=by
 have e:=getElem?_bubble z d hd x;unfold KP
 by_cases h1:x=k - d
 .rw[da h1]at e ⊢;exact congrArg key (oH e)
 .rw[bB h1]at e ⊢
  by_cases h2:k - d<x/\x<=k
  .rw[da h2]at e ⊢;exact congrArg key (oH e)
  .rw[bB h2]at e ⊢;exact congrArg key (oH e)
def Up (O:KeyOrd) (key:Nat->O.α) (p:Array Nat) (m:Nat):Prop:=∀ i j,i<=j->j<m->O.kle (KP O key p i) (KP O key p j)
def Dn (O:KeyOrd) (key:Nat->O.α) (p:Array Nat) (m:Nat):Prop:=∀ i j,i<=j->j<m->O.kle (KP O key p j) (KP O key p i)
def Up.more {p:Array Nat} {m:Nat} (h:Up O key p m) (J:1<=m) (G:O.kle (KP O key p (m - 1)) (KP O key p m)):Up O key p (m+1):=λi j z hj=>by
 by_cases q:j<m
 .exact h i j z q
 .have:j=m:=by omega
  subst this
  by_cases r:i=j
  .subst r;exact ml _
  .exact qb (h i (j - 1) (by omega) (by omega)) G
def Dn.more {p:Array Nat} {m:Nat} (h:Dn O key p m) (J:1<=m) (G:O.kle (KP O key p m) (KP O key p (m - 1))):Dn O key p (m+1):=λi j z hj=>by
 by_cases q:j<m
 .exact h i j z q
 .have:j=m:=by omega
  subst this
  by_cases r:i=j
  .subst r;exact ml _
  .exact qb G (h i (j - 1) (by omega) (by omega))
def P1 (A:Ans O key n ae s) {p:Array Nat} (M:InR n p):∀ (f m:Nat) (Q:Nat->Shared->Prop),1<=m->Up O key p m ->
 (∀ G,m<=G->G<=m+f->Up O key p G->(G<m+f->O.klt (KP O key p G) (KP O key p (G - 1)))->Q G s)->(kas_asc p f m).kasWp ae Q s
 | 0,m,Q,U,J,L=>L m (ah _) (ah _) J λz=>absurd z (ln _)
 | f+1,m,Q,U,J,L=>by
  show ae _ _ _ s;refine A _ _ _ (M.at _) (M.at _) ?_;cases Y:O.blt (key (p.getD m 0)) (key (p.getD (m - 1) 0))with
  | true =>
   show KasT.kasWp ae (if true=true then _ else _) Q s;rw[da rfl];exact L m (ah _) (ng _ _) J λ_=>Y
  | false =>
   show KasT.kasWp ae (if false=true then _ else _) Q s;rw[bB aFO];exact P1 A M f (m+1) Q (by omega) (J.more U Y) λG h1 h2 h3 h4=>L G (by omega) (by omega) h3 λz=>h4 (by omega)
def aA4 (O:KeyOrd) (key:Nat->O.α) (p:Array Nat) (m q:Nat):Prop:=∀ k,m - (q+1)<=k->k<m->KP O key p k=KP O key p (m - 1)
def tG {p:Array Nat} {i j:Nat} (hj:j<=p.size) (h:∀ k,i<=k->k<j->KP O key p k=KP O key p (j - 1)) (k:Nat):KP O key (kas_rev p i j) k=KP O key p k:=by
 rw[O9 hj]
 by_cases q:i<=k/\k<j
 .rw[da q,h _ (by omega) (by omega),h k q.1 q.2]
 .rw[bB q]
def Dn.same {p q:Array Nat} {m:Nat} (h:Dn O key p m) (e:∀ k,KP O key q k=KP O key p k):Dn O key q m:=λi j h1 h2=>by rw[e,e];exact h i j h1 h2
def gG (p:Array Nat) (i j:Nat):(kas_rev p i j).Perm p:=mirror_perm _ _ _ _
def rN (A:Ans O key n ae s):∀ (f:Nat) (p:Array Nat) (m q:Nat) (Q:Array Nat×Nat×Nat->Shared->Prop),InR n p->m+f<=n->1<=m->q+1<=m->Dn O key p m->aA4 O key p m q ->
 (∀ J G L,J.Perm p->m<=G->G<=n->L+1<=G->Dn O key J G->aA4 O key J G L->Q (J,G,L) s)->(kas_desc f p m q).kasWp ae Q s
 | 0,p,m,q,Q,M,hf,Y,hq,hd,he,U=>U p m q (pf _) (ah _) (by omega) hq hd he
 | f+1,p,m,q,Q,M,hf,Y,hq,hd,he,U=>by
  show ae _ _ _ s;refine A _ _ _ (M.at _) (M.at _) ?_;have one:∀ p:Array Nat,aA4 O key p (m+1) 0:=λp k h1 h2=>by rw[show k=m+1 - 1 by omega]
  cases hb:O.blt (key (p.getD m 0)) (key (p.getD (m - 1) 0))with
  | true =>
   show KasT.kasWp ae (if true=true then _ else _) Q s;rw[da rfl];have hl:O.kle (KP O key p m) (KP O key p (m - 1)):=qw hb
   by_cases q0:q > 0
   .rw[da q0];have sm:=tG (O:=O) (key:=key) (p:=p) (i:=m - (q+1)) (j:=m) (by rw[M.size];omega) he;refine rN A f _ (m+1) 0 Q (M.perm (gG ..)) (by omega) (by omega) (by omega) (Dn.same (hd.more Y hl) sm) (one _) λJ G L e h1 h2 h3 h4 h5=>U J G L (e.trans (gG ..)) (by omega) h2 h3 h4 h5
   .rw[bB q0];exact rN A f p (m+1) 0 Q M (by omega) (by omega) (by omega) (hd.more Y hl) (one _) λJ G L e h1 h2 h3 h4 h5=>U J G L e (by omega) h2 h3 h4 h5
  | false =>
   show KasT.kasWp ae (if false=true then _ else _) Q s;rw[bB aFO];show ae _ _ _ s;refine A _ _ _ (M.at _) (M.at _) ?_;cases hc:O.blt (key (p.getD (m - 1) 0)) (key (p.getD m 0))with
   | true =>
    show KasT.kasWp ae (if true=true then _ else _) Q s;rw[da rfl];exact U p m q (pf _) (ah _) (by omega) hq hd he
   | false =>
    show KasT.kasWp ae (if false=true then _ else _) Q s;rw[bB aFO];have eq:KP O key p m=KP O key p (m - 1):=O.total _ _ hb hc;refine rN A f p (m+1) (q+1) Q M (by omega) (by omega) (by omega) (hd.more Y hc) (λk h1 h2=>?_) λJ G L e h1 h2 h3 h4 h5=>U J G L e (by omega) h2 h3 h4 h5;show KP O key p k=KP O key p m
    by_cases z:k=m
    .rw[z]
    .rw[eq];exact he k (by omega) (by omega)
def W3 (A:Ans O key n ae s) {p:Array Nat} {m:Nat} {Q:Nat×Array Nat->Shared->Prop} (G:InR n p) (M:1<=m) (L:m<=n) (hd:Dn O key p m)
 (U:∀ z J,J.Perm p->1<=z->z<=n->Up O key J z->Q (z,J) s):(kas_tail3 m n p).kasWp ae Q s:=by
 unfold kas_tail3;rw[qk];have Y:Up O key (kas_rev p 0 m) m:=λi j h1 h2=>by
  rw[O9 (by rw[G.size];exact L),O9 (by rw[G.size];exact L),da (by omega),da (by omega)];exact hd _ _ (by omega) (by omega)
 exact P1 A (G.perm (gG ..)) _ _ _ M Y λz h1 h2 h3 _=>U z _ (gG ..) (by omega) (by omega) h3
def W4 (A:Ans O key n ae s) {p:Array Nat} {m:Nat} {Q:Nat×Array Nat->Shared->Prop} (L:InR n p) (hn:m+1<=n) (hd:Dn O key p (m+1))
 (hQ:∀ z G,G.Perm p->1<=z->z<=n->Up O key G z->Q (z,G) s):(kas_descPart m n p).kasWp ae Q s:=by
 unfold kas_descPart;rw[qk];refine rN A _ p (m+1) 0 _ L (by omega) (by omega) (by omega) hd (λk h1 h2=>by rw[show k=m+1 - 1 by omega]) λG z M e h1 h2 h3 h4 h5=>?_;show KasT.kasWp ae (if M > 0 then _ else _) Q s
 by_cases q0:M > 0
 .rw[da q0];have J:=L.perm e;have sm:=tG (O:=O) (key:=key) (p:=G) (i:=z - (M+1)) (j:=z) (by rw[J.size];exact h2) h5;exact W3 A (J.perm (gG ..)) (show 1<=z by omega) h2 (Dn.same h4 sm) λU p2 Y a b c=>hQ U p2 ((Y.trans (gG ..)).trans e) a b c
 .rw[bB q0];exact W3 A (L.perm e) (show 1<=z by omega) h2 h4 λU p2 Y a b c=>hQ U p2 (Y.trans e) a b c
def aA5 (A:Ans O key n ae s) {p:Array Nat} {Q:Nat×Array Nat->Shared->Prop} (z:InR n p)
 (G:∀ J U,U.Perm p->1<=J->J<=n->Up O key U J->Q (J,U) s):(kas_count n p).kasWp ae Q s:=by
 have Y:=z.pos;unfold kas_count;rw[qk];refine P1 A z _ 1 _ (ah _) (λi j h1 h2=>by rw[show i=j by omega];exact ml _) λm h1 h2 L M=>?_;show KasT.kasWp ae (if (m == n)=true then _ else _) Q s
 by_cases e:m=n
 .rw[da (by simpa using e)];exact G m p (pf _) h1 (by omega) L
 .rw[bB (by simpa using e)];have M:=M (by omega)
  by_cases g:m > 1
  .rw[da g];show ae _ _ _ s;refine A _ _ _ (z.at _) (z.at _) ?_;cases hb:O.blt (key (p.getD 0 0)) (key (p.getD (m - 1) 0))with
   | true =>
    show KasT.kasWp ae (if true=true then _ else _) Q s;rw[da rfl];exact G m p (pf _) h1 (by omega) L
   | false =>
    show KasT.kasWp ae (if false=true then _ else _) Q s;rw[bB aFO];have all:∀ k,0<=k->k<m->KP O key p k=KP O key p (m - 1):=λk _ hk =>
     KeyOrd.kle_antisymm (L k (m - 1) (by omega) (by omega)) (qb (show O.kle (KP O key p (m - 1)) (KP O key p 0) from hb) (L 0 k (by omega) hk))
    have sm:=tG (O:=O) (key:=key) (p:=p) (i:=0) (j:=m) (by rw[z.size];omega) all;refine W4 A (z.perm (gG ..)) (by omega) (Dn.same (Dn.more (λi j h1 h2=>?_) h1 (qw M)) sm) λm2 p2 e2 a b c=>G m2 p2 (e2.trans (gG ..)) a b c;rw[all i (by omega) (by omega),all j (by omega) h2];exact ml _
  .rw[bB g];refine W4 A z (by omega) (Dn.more (λi j h1 h2=>?_) h1 (qw M)) G;rw[show i=j by omega];exact ml _
def tH (A:Ans O key n ae s) {p:Array Nat} (J:InR n p) {k:Nat}:∀ (f l r:Nat) (Q:Nat->Shared->Prop),Up O key p k->l<=r->r<=k->r - l<=f->(∀ i,i<l->O.kle (KP O key p i) (KP O key p k))->(∀ i,r<=i->i<k->O.kle (KP O key p k) (KP O key p i)) ->
 (∀ L,L<=k->(∀ i,i<L->O.kle (KP O key p i) (KP O key p k))->(∀ i,L<=i->i<k->O.kle (KP O key p k) (KP O key p i))->Q L s)->(kas_place p k f l r).kasWp ae Q s
 | 0,l,r,Q,z,h1,h2,h3,h4,h5,G=>G l (by omega) h4 λi a b=>h5 i (by omega) b
 | f+1,l,r,Q,z,h1,h2,h3,h4,h5,G=>by
  unfold kas_place
  by_cases e:l≥r
  .rw[da e];exact G l (by omega) h4 λi a b=>h5 i (by omega) b
  .rw[bB e];show ae _ _ _ s;refine A _ _ _ (J.at _) (J.at _) ?_;have U:l<=(l+r) / 2:=by omega
   have Y:(l+r) / 2<r:=by omega
   cases M:O.blt (key (p.getD k 0)) (key (p.getD ((l+r) / 2) 0))with
   | true =>
    show KasT.kasWp ae (if true=true then _ else _) Q s;rw[da rfl];refine tH A J f l ((l+r) / 2) Q z U (by omega) (by omega) h4 (λi a b=>?_) G;exact qb (qw (show O.klt (KP O key p k) (KP O key p ((l+r) / 2)) from M)) (z _ i a b)
   | false =>
    show KasT.kasWp ae (if false=true then _ else _) Q s;rw[bB aFO];refine tH A J f ((l+r) / 2+1) r Q z (by omega) h2 (by omega) (λi a=>?_) h5 G;exact qb (z i ((l+r) / 2) (by omega) (by omega)) (show O.kle (KP O key p ((l+r) / 2)) (KP O key p k) from M)
def aA6 (A:Ans O key n ae s):∀ (f:Nat) (p:Array Nat) (k:Nat) (Q:Array Nat->Shared->Prop),InR n p->1<=k->k+f=n->Up O key p k->(∀ G,G.Perm p->Up O key G n->Q G s)->(kas_bin f p k).kasWp ae Q s
 | 0,p,k,Q,L,hk,Y,z,M=>M p (pf _) (by rw[<- Y];exact z)
 | f+1,p,k,Q,L,hk,Y,z,M=>by
  unfold kas_bin;rw[qk];refine tH A L k 0 k _ z (jr _) (ah _) (by omega) (λi a=>absurd a (ss _)) (λi a b=>by omega) λl hl h1 h2=>?_;have bp:(bubble p k (k - l)).Perm p:=bubble_perm _ _ _;refine aA6 A f _ (k+1) Q (L.perm bp) (by omega) (by omega) (λi j U hj=>?_) λG e u=>M G (e.trans bp) u;have kb:=λx=>aDO (O:=O) (key:=key) (p:=p) (k:=k) (d:=k - l) (by rw[L.size];omega) (by omega) x;rw[kb i,kb j,show k - (k - l)=l by omega]
  by_cases i1:i=l
  .rw[da i1]
   by_cases J:j=l
   .rw[da J];exact ml _
   .rw[bB J,da (by omega)];exact h2 (j - 1) (by omega) (by omega)
  .rw[bB i1]
   by_cases i2:l<i/\i<=k
   .rw[da i2,bB (show ¬ j=l by omega),da (by omega)];exact z (i - 1) (j - 1) (by omega) (by omega)
   .rw[bB i2]
    by_cases J:j=l
    .rw[da J];exact h1 i (by omega)
    .rw[bB J]
     by_cases j2:l<j/\j<=k
     .rw[da j2];exact z i (j - 1) (by omega) (by omega)
     .rw[bB j2];exact z i j U (by omega)
def W5 (A:Ans O key n ae s) (L:0<n) {Q:Array Nat->Shared->Prop} (z:∀ p,p.Perm (List.range n).toArray->Up O key p n->Q p s):(kas_sort n).kasWp ae Q s:=by
 unfold kas_sort;rw[qk];have G:InR n (List.range n).toArray:=⟨L,by simp,λx M=>by simpa using M⟩;refine aA5 A G λm p e h1 h2 J=>?_;show KasT.kasWp ae (if m<n then _ else _) Q s
 by_cases q:m<n
 .rw[da q];have em:max m 1=m:=by omega
  show KasT.kasWp ae (kas_bin (n - max m 1) p (max m 1)) Q s;rw[em];exact aA6 A _ p m Q (G.perm e) h1 (by omega) J λU Y u=>z U (Y.trans e) u
 .rw[bB q];have:m=n:=by omega
  subst this;exact z p e J
end
def plt (a b:Int×Int):Bool:=decide (a.1<b.1) || (decide (a.1=b.1) && decide (a.2<b.2))
def mC {a b:Int×Int}:plt a b=true↔a.1<b.1\/(a.1=b.1/\a.2<b.2):=by simp[plt]
def rO {a b:Int×Int}:plt a b=false↔¬ (a.1<b.1\/(a.1=b.1/\a.2<b.2)):=by rw[<- mC];simp
def lA:KeyOrd where
 α:=Int×Int
 blt:=plt
 irrefl a:=by rw[rO];omega
 trans a b c h1 h2:=by rw[mC]at *;omega
 negTrans a b c h:=by rw[mC]at *;rw[mC];omega
 total a b h1 h2:=by
  rw[rO]at h1 h2;exact Prod.ext (by omega) (by omega)
def oJ (h:Heap) (v:Value) (p:Int×Int):Prop:=∃ t o n k1 k2,v=.ref t/\h.get? t=some o/\o.cls=.type "tuple"/\o.data=.seq #[.int p.1 k1,.int p.2 k2] n
def cI {z G:Type} {F:z->G->Prop} {x:z} {y:G}:∀ {l:List z} {m:List G} {i:Nat},Paired F l m->i<l.length->F (l.getD i x) (m.getD i y)
 | _,_,0,.cons r _,_=>r
 | _,_,i+1,.cons _ t,h=>by
  simp only[List.getD_cons_succ];exact cI t (by simpa using h)
 | _,_,_,.nil,h=>absurd h (ss _)
section
variable {prog:Program} {w:World} {A:Around} {E:Value->Shared->Prop} {s:Shared}
def aA7 {x y:Value} {p q:Int×Int} {Q:Bool->Shared->Prop} (z:oJ s.heap x p) (G:oJ s.heap y q) (h:Q (plt p q) s):wpAny (model prog w) A (keyLt' (tuples' true) x y) Q E s:=by
 obtain⟨t,o,n,k1,k2,rfl,e1,U,d1⟩:=z;obtain⟨t',o',Y,J,L,rfl,M,c2,d2⟩:=G;refine kat_lt e1 d1 M d2 ?_;refine kat_cons (re ?_)
 by_cases g1:p.1=q.1
 .rw[show (p.1 == q.1)=true by simpa using g1];refine kat_yes (kat_cons (re ?_))
  by_cases g2:p.2=q.2
  .rw[show (p.2 == q.2)=true by simpa using g2];refine kat_yes (kat_nil ?_);have e:plt p q=false:=by rw[rO];omega
   rw[e]at h;exact h
  .rw[show (p.2 == q.2)=false by simpa using g2];refine kat_no (kat_one _ _ (lt_int ?_));have e:plt p q=decide (p.2<q.2):=by
    rw[ko,mC];simp;omega
   rw[e]at h;exact h
 .rw[show (p.1 == q.1)=false by simpa using g1];refine kat_no (oneLt_int ?_);have e:plt p q=decide (p.1<q.1):=by
   rw[ko,mC];simp;omega
  rw[e]at h;exact h
def wG {h:Heap}:∀ {vs:List Value} {ps:List (Int×Int)},Paired (oJ h) vs ps->∃ fs:List Value,KatTups h vs fs/\fs.length=vs.length/\∀ v∈fs,∃ i t,v=Value.int i t
 | _,_,.nil=>⟨[],.nil,rfl,λv G=>(by cases G)⟩
 | _,_,.cons ⟨t,o,n,k1,k2,e,J,L,hd⟩ r=>by
  subst e;obtain⟨fs,a,b,c⟩:=wG r;refine⟨.int _ k1 :: fs,.cons J L hd rfl a,by simp[b],λv G=>?_⟩;rcases aFe.mp G with z | z
  .exact⟨_,_,z⟩
  .exact c v z
abbrev lB (vs:List Value) (p:Array Nat):List Value:=p.toList.map λi=>vs.getD i Value.none
def wH {vs:List Value} (z:vs.length<2):lB vs (List.range vs.length).toArray=vs:=by
 cases vs with
 | nil=>rfl
 | cons v t =>
  cases t with
  | nil=>rfl
  | cons w r=>exact absurd z (by show ¬ r.length+1+1<2;omega)
def P3 {a:Addr} {vs:List Value} {ps:List (Int×Int)} {n:Nat} {P:Fin->Shared->Prop} (Y:s.heap.get? a=some (seqObj "list" vs.toArray n)) (hv:Paired (oJ s.heap) vs ps) (av:vs.length<64)
 (h:∀ p:Array Nat,p.Perm (List.range vs.length).toArray->Up lA (λi=>ps.getD i (0,0)) p vs.length->P (.done (.ret .none)) { s with heap:=sortedHeap s.heap a vs (lB vs p).toArray }) :
 wpAny (model prog w) A (Builtin.«list.sort» ⟨[.ref a],[]⟩) P E s:=by
 have ha:a<s.heap.objs.size:=aFH Y;have U:vs.length<=sizeLine:=jf (km av) (by decide);rw[list_sort_plain];refine aEz (listItems_at Y rfl (aEz (pk Y rfl ?_ (by rw[aFJ];omega) (jr _))));obtain⟨e1,aw⟩:∃ e1,(s.heap.update a (Obj.mapSeq λ_=>(#[]:Array Value))).get? a=some (seqObj "list" #[] e1):=⟨_,qm Y _⟩;refine aEz (vc aw rfl (aEz (wm (aEz (sf (jn ?_) (jr _))) (by show vs.length<=_;exact U))));have k6:∀ b o,b≠a->s.heap.get? b=some o->(((s.heap.update a (Obj.mapSeq λ_=>(#[]:Array Value))).push (seqObj "tuple" vs.toArray 0)).push (seqObj "list" #[] 0)).get? b=some o:=λb o hb q =>
  aFC _ (aFC _ ((jx _ _ _ _ hb).trans q))
 have J:(((s.heap.update a (Obj.mapSeq λ_=>(#[]:Array Value))).push (seqObj "tuple" vs.toArray 0)).push (seqObj "list" #[] 0)).get? a=some (seqObj "list" #[] e1):=aFC _ (aFC _ aw);have L:Paired (oJ (((s.heap.update a (Obj.mapSeq λ_=>(#[]:Array Value))).push (seqObj "tuple" vs.toArray 0)).push (seqObj "list" #[] 0))) vs ps:=Paired.mapP hv λv p ⟨t,o,n,k1,k2,e,q,c,d⟩ =>
  ⟨t,o,n,k1,k2,e,k6 t o (λz=>by subst z;rw[Y]at q;cases q;exact absurd c (by simp[seqObj])) q,c,d⟩
 show wpAny (model prog w) A _ P E { s with heap:=((s.heap.update a (Obj.mapSeq λ_=>(#[]:Array Value))).push (seqObj "tuple" vs.toArray 0)).push (seqObj "list" #[] 0) };have fin:∀ p:Array Nat,p.Perm (List.range vs.length).toArray->Up lA (λi=>ps.getD i (0,0)) p vs.length->P (.done (.ret .none)) { s with heap:=sortedHeap s.heap a vs (lB vs p).toArray }:=h;clear h;unfold sortedHeap at fin;generalize ((s.heap.update a (Obj.mapSeq λ_=>(#[]:Array Value))).push (seqObj "tuple" vs.toArray 0)).push (seqObj "list" #[] 0)=h6 at J L fin;dsimp only
 by_cases h2:vs.toArray.size<2
 .rw[da h2,da h2];refine aEz (aFA ?_);rw[StateT.run_pure];refine aEz (aFA ?_);dsimp only;have eo:lB vs (List.range vs.length).toArray=vs:=wH (by simpa using h2);have ea:(arrOf (SortSt.mk' general' (vs.toArray.zip vs.toArray) #[] 7 none)).map (·.2)=vs.toArray:=by
   show (vs.toArray.zip vs.toArray).map (·.2)=vs.toArray;apply Array.toList_inj.mp
   simp;exact List.map_snd_zip (ah _)
  rw[ea];refine aEz (vc J rfl (aEz (pk J rfl ?_ (jr _) (by rw[aFJ];omega))));simp only[qt,jv,oy];have f:=fin (List.range vs.length).toArray (pf _) λi j bb hj=>by
   have:i=j:=by simp at h2;omega
   subst this;exact ml _
  rw[eo]at f;exact aFA f
 .rw[bB h2,bB h2];have a_:2<=vs.length:=by simp at h2;omega
  obtain⟨fs,t6,lf,hf⟩:=wG L;refine aEz (kat_kind (s:={ s with heap:=h6 }) (T:=.type "int") t6 (by omega) (λv hv=>?_) rfl ?_)
  .obtain⟨i,t,rfl⟩:=hf v hv;exact Looks.now
  have A2:Ans lA (λi=>ps.getD i (0,0)) vs.length (kas_ask prog w A (tuples' true) vs) { s with heap:=h6 }:=λi j C hi hj hC=>by
   unfold kas_ask;exact aA7 (s:={ s with heap:=h6 }) (cI L hi) (cI L hj) hC
  refine aEz (dt (kat_run (s:={ s with heap:=h6 }) (κ:=tuples' true) (ks:=vs) (vs:=vs) (Q:=λM s'=>s'={ s with heap:=h6 }/\failedOf M=none/\∃ p:Array Nat,p.Perm (List.range vs.length).toArray/\Up lA (λi=>ps.getD i (0,0)) p vs.length/\(arrOf M).map (·.2)=(lB vs p).toArray)
   (G:=λp s'=>s'={ s with heap:=h6 }/\p.Perm (List.range vs.length).toArray/\Up lA (λi=>ps.getD i (0,0)) p vs.length) rfl a_ av (λp M s' g1 g2 g3 ⟨g4,g5,g6⟩=>⟨g4,g3,p,g5,g6,kat_snds rfl g2⟩) (W5 A2 (by omega) λp e u=>⟨rfl,e,u⟩)) ?_ λ_ _ e=>e)
  rintro ⟨⟨⟩,M⟩ s' ⟨rfl,ba,p,e,u,ea⟩;dsimp only;rw[ea,ba];have hsz:(lB vs p).toArray.size<=sizeLine:=by
   have:=e.size_eq;simp only[aFJ,jz]at this;rw[aFJ,aFB,qd,this];exact U
  refine aEz (vc J rfl (aEz (pk J rfl ?_ (jr _) (by omega))));simp only[qt,jv,oy];exact aFA (fin p e u)
def aBu {l:Addr} {vs:List Value} {ps:List (Int×Int)} {Q:Value->Shared->Prop} (U:s.heap.IsList l vs.toArray) (Y:Paired (oJ s.heap) vs ps) (G:vs.length<64)
 (h:∀ p:Array Nat,p.Perm (List.range vs.length).toArray->Up lA (λi=>ps.getD i (0,0)) p vs.length->Q (.ref (s.heap.objs.size+1)) { s with heap:=sortedAll s.heap vs (lB vs p).toArray }) :
 wpAny (model prog w) A (call (.builtin "sorted") [.ref l]) Q E s:=by
 have z:vs.length<=sizeLine:=jf (km G) (by decide);refine ue kind_sorted plain_sorted entry_sorted (args_sorted1 _) ?_;unfold Builtin.«sorted»;refine aEz (m:=checkCount "sorted" 1 1 _) (aFA (aEz (collect_list U (aEz (sf ?_ z)) z)));unfold sortedAll at h;have M:((s.heap.push (seqObj "list" #[] 0)).update s.heap.objs.size (Obj.mapSeq (·++vs.toArray))).objs.size=s.heap.objs.size+1:=by rw[Heap.size_update,size_push']
 have J:(((s.heap.push (seqObj "list" #[] 0)).update s.heap.objs.size (Obj.mapSeq (·++vs.toArray))).push (seqObj "list" vs.toArray 0)).get? (s.heap.objs.size+1)=some (seqObj "list" vs.toArray 0):=M ▸ aFI _ rfl;have kp:∀ b o,s.heap.get? b=some o->(((s.heap.push (seqObj "list" #[] 0)).update s.heap.objs.size (Obj.mapSeq (·++vs.toArray))).push (seqObj "list" vs.toArray 0)).get? b=some o:=λb o q =>
  aFC _ ((jx _ _ _ _ (aFY (aFH q))).trans (aFC _ q))
 show wpAny _ _ _ _ _ { s with heap:=((s.heap.push (seqObj "list" #[] 0)).update s.heap.objs.size (Obj.mapSeq (·++vs.toArray))).push (seqObj "list" vs.toArray 0) };rw[M];generalize ((s.heap.push (seqObj "list" #[] 0)).update s.heap.objs.size (Obj.mapSeq (·++vs.toArray))).push (seqObj "list" vs.toArray 0)=h2 at J kp h;have L:Paired (oJ h2) vs ps:=Paired.mapP Y λv p ⟨t,o,n,k1,k2,e,q,c,d⟩=>⟨t,o,n,k1,k2,e,kp t o q,c,d⟩;refine aEz (jn (rh slot_list_sort ⟨_,J,rfl⟩ vx (P3 (s:={ s with heap:=h2 }) J L G λp e u=>⟨_,rfl,?_⟩) (args_list_sort _)));exact aFA ⟨_,rfl,h p e u⟩
end
def ple (a b:Int×Int):Prop:=a.1<b.1\/(a.1=b.1/\a.2<=b.2)
def vC {z:Type} (d:z) (l:List z) {p:List Nat} (h:p.Perm (List.range l.length)):(p.map λi=>l.getD i d).Perm l:=by
 have e:(List.range l.length).map (λi=>l.getD i d)=l:=by
  apply List.ext_getElem
  .simp
  .intro i h1 h2;simp[h2]
 have:=h.map λi=>l.getD i d
 rwa [e]at this
section
variable {X:Cx}
def oK:gY X (.builtin "sorted") (λxs H Q=>∃ (a:Addr) (us:List V) (ps:List (Int×Int)),xs=[.ref a]/\H a=some (.lst us)/\CW.Prs H us ps/\ps.length<64 /\
 ∀ (l:Addr) (L:List V) (U:List (Int×Int)),H l=none->CW.Prs H L U->U.Perm ps->U.Pairwise ple->Q (.ref l) (upd H l (.lst L))):=by
 intro pins s σ H xs us Q I r h;obtain⟨a,G,ps,rfl,ha,Y,bb,q⟩:=h;obtain⟨u,rfl,rx⟩:=kJ r;cases rx;obtain⟨its,rv,pl,hz⟩:=I.list (SqL.of ha);have l1:G.length=ps.length:=ol Y;have l2:G.length=its.length:=rv.length;have hv:Paired (oJ s.heap) its ps:=by
  have go:∀ (G:List V) (its:List Value) (ps:List (Int×Int)),Vals G its->CW.Prs H G ps->Paired (oJ s.heap) its ps:=by
   intro G
   induction G with
   | nil=>intro its ps r p;cases r;cases p;exact .nil
   | cons x xs ih =>
    intro its ps r p;cases r with
    | cons r1 r2 =>
     cases p with
     | cons p1 p2 =>
      refine .cons ?_ (ih _ _ r2 p2);obtain⟨t,e,et⟩:=p1;subst e;cases r1;obtain⟨_,its',av,o,ho,hc,n,hd⟩:=(show ObjOk X.prog X.w H s.heap t (.tup [.int _,.int _]) from I.hok t _ et);obtain⟨u1,u2,rfl,⟨k1,rfl⟩,⟨k2,rfl⟩⟩:=av.two;exact⟨t,o,n,k1,k2,rfl,ho,hc,hd⟩
  exact go G its ps rv Y
 refine aBu pl.isList hv (by omega) λp e u=>?_;have J:p.toList.Perm (List.range its.length):=by
  have:=e.toList;simpa using this
 have M:∀ i∈p.toList,i<its.length:=λi hi=>by
  have:=J.mem_iff.mp hi;simpa using this
 have aw:p.toList.length=its.length:=by rw[J.length_eq,jz]
 have key:∀ (q:List Nat),(∀ i∈q,i<its.length)->Vals (q.map λi=>G.getD i V.non) (q.map λi=>its.getD i Value.none)/\CW.Prs H (q.map λi=>G.getD i V.non) (q.map λi=>ps.getD i (0,0)):=by
  intro q
  induction q with
  | nil=>intro _;exact⟨.nil,.nil⟩
  | cons i q ih =>
   intro hq;have hi:=hq i aFD;obtain⟨a1,a2⟩:=ih λj hj=>hq j (aFE _ hj);exact⟨.cons (cI rv (by omega)) a1,.cons (cI Y (by omega)) a2⟩
 obtain⟨k1,k2⟩:=key p.toList M;obtain⟨e0,a_⟩:=sortedAll_at s.heap its (lB its p).toArray;have hn:H (s.heap.objs.size+1)=none:=I.hok.fresh (sk _);refine⟨.ref (s.heap.objs.size+1),_,I.laid (t':=s.toks) (o:=.lst (p.toList.map λi=>G.getD i V.non)) (λb o e=>sortedAll_old e) (sk _) ⟨?_,lB its p,e0,k1,a_⟩,rfl,q _ _ (p.toList.map λi=>ps.getD i (0,0)) hn k2 ?_ ?_⟩
 .rw[aFB,aw];exact jf (show its.length<=64 by omega) (by decide)
 .exact vC (0,0) ps (by rw[<- l1,l2];exact J)
 .rw[uf];intro i j hi hj ba;simp only[aFB]at hi hj;have z:=u i j (km ba) (by omega);have gd:∀ (k:Nat) (hk:k<p.toList.length),(p.toList.map λi=>ps.getD i (0,0))[k]'(by simpa using hk)=KP lA (λi=>ps.getD i (0,0)) p k:=λk hk=>by
   unfold KP;rw[vh]
   congr 1
   rw[Array.getElem_toList,Array.getD,dif_pos (by simpa using hk)];rfl
  rw[gd i hi,gd j hj];have z':plt (KP lA (λi=>ps.getD i (0,0)) p j) (KP lA (λi=>ps.getD i (0,0)) p i)=false:=z;generalize KP lA (λi=>ps.getD i (0,0)) p j=x at z';generalize KP lA (λi=>ps.getD i (0,0)) p i=y at z';have z2:=rO.mp z';show (y:Int×Int).1<(x:Int×Int).1\/((y:Int×Int).1=(x:Int×Int).1/\(y:Int×Int).2<=(x:Int×Int).2);have z3:¬ ((x:Int×Int).1<(y:Int×Int).1\/((x:Int×Int).1=(y:Int×Int).1/\(x:Int×Int).2<(y:Int×Int).2)):=z2;omega
end
end L2
namespace CW
open PySem L2
end CW
namespace L2
open PySem PySem.Spec PyProof.Rows
def CodeX (c:Addr) (qual:Str):HO:=.ext λh=>∃ z vs t,h.get? c=some z/\z.data=.fields vs/\vs[1]?=some (.str qual t)
def CodeX.mk {P:Program} {w:World} {H:Hp} {h:Heap} {c:Addr} {qual:Str} {z:Obj} {vs:Array Value} {t:Tok} (h1:h.get? c=some z) (h2:z.data=.fields vs) (h3:vs[1]?=some (.str qual t)):ObjOk P w H h c (CodeX c qual) :=
 ⟨⟨z,vs,t,h1,h2,h3⟩,⟨_,h1⟩,λg1 g2 ⟨z,vs,t,a,b,d⟩ k=>⟨z,vs,t,k _ a,b,d⟩⟩
section
variable {X:Cx} {pins:List (Addr×Obj)} {σ:St} {H:Hp} {s:Shared}
def Inv.trackX {a:Addr} {φ:Heap->Prop} (I:Inv X pins σ H s) (L:H a=none) (M:ObjOk X.prog X.w (upd H a (.ext φ)) s.heap a (.ext φ)) (U:∀ o,X.s₀.heap.get? a=some o->X.H₀ a=none->a∉X.ex->False)
 (Y:a≠X.env.locals) (hc:∀ x c,X.env.cells.lookup x=some c->c≠a) (hp:∀ p∈X.pn++pins,p.1≠a):Inv X pins σ (upd H a (.ext φ)) s:=by
 have G:∀ b u,H b=some u->upd H a (.ext φ) b=some u:=λb u q=>by rw[aE (λz=>by rw[z,L]at q;cases q)];exact q
 refine⟨I.ok,I.os,I.bare,⟨I.base.keep,I.base.slot,λb o q n x=>?_,I.base.there,λb xs q=>G b _ (I.base.tups b xs q),λb o u q=>G b _ (I.base.frzs b o u q),λb ps q=>?_⟩,I.loc,I.cell,by rw[aE (jh Y)];exact I.free,λx c q=>by rw[aE (hc x c q)];exact I.freeC x c q,λp q=>?_,λb u q=>?_,I.len⟩
 .by_cases J:b=a
  .subst J;exact(U o q n x).elim
  .rw[aE J];exact I.base.free b o q n x
 .obtain⟨more,e⟩:=I.base.tbls b ps q;exact⟨more,G b _ e⟩
 .obtain⟨e,n,ne,nf,d⟩:=I.pin p q;exact⟨e,by rw[aE (hp p q)];exact n,ne,nf,d⟩
 .by_cases J:b=a
  .subst J;rw[aD]at q;cases q;exact M
  .rw[aE J]at q;exact(I.hok b u q).stay (λ_ _ _ z=>z) (λc z=>G c _ z) λc xs z=>G c _ z
end
section
variable {X:Cx}
def l9 {xp:Str} {params:Arguments} {body:Expr} {scope:Scope} {c' fL f:Addr} {fd:FuncData} {k kW:Nat} {clos:List (Str×Addr)} {NL:List Str} {ix:List Nat} {av:St->Hp->VK->XK->Prop} {bf:SpS} {E:XK} {ctv pm:Value}
 {pins:List (Addr×Obj)} {σ:St} {H:Hp} {s:Shared} {Q:VK} {oc:Obj} {vs:Array Value} {t:Tok}
 (Bd:Body X) (F:vW X.prog X.w X.K X.mg X.base (CXR X.prog X.w) kW f fd [xp] bf) (hr:Room kW X.A) (hb:Binds X.K fd [xp] []) (hx:iV (CXR X.prog X.w) X E) (S:aAD X scope clos NL ix)
 (aw:∀ pm c' ctv,bindArgs (PySem.W.kla_fn "<lambda>" (X.env.qual++"<lambda>") params body scope clos pm (.ref c') ctv) ⟨[],[]⟩=pure [])
 (bg:∀ (f' c':Addr) (bh:St) (A:Around) (outer:List Env) (s:Shared) (H:Hp) (Q:VK) (E:XK),A.frames=some outer->Room k (A.deeper (PySem.W.envX (X.env.qual++"<lambda>") scope s.heap.objs.size f' (.ref c') clos))->av bh H Q E ->
  ∃ te,PE (qM (CXR X.prog X.w) X.prog X.w X.K X.mg X.base NL (X.env.qual++"<lambda>") scope f' (.ref c') clos A outer s H E) body te/\te bh H Q)
 (I:Inv X pins σ H s) (hf:s.heap.get? fL=some (PySem.W.kla_obj "<lambda>" (X.env.qual++"<lambda>") params body scope clos pm c' ctv)) (a_:H fL=none/\fL∉frs X.stack)
 (bn:s.heap.get? c'=some oc) (bo:H c'=none/\c'∉frs X.stack) (bi:oc.data=.fields vs) (bj:vs[1]?=some (.str (X.env.qual++"<lambda>") t))
 (h:∀ D,sN X.prog X.w X.K X.mg X.base (CXR X.prog X.w) (k+1) fL D (av (O2 ix σ))->(∃ oc od fd sl,(fL,(⟨oc,od,.func fd,sl⟩:Obj))∈D)->zX D H s.heap (frs X.stack)->bf s X.stack [.ref fL] H Q E) :
 wpAny (model X.prog X.w) X.A (call (.ref f) [.ref fL]) (λu s'=>∃ v H',Inv X pins σ H' s'/\RelV v u/\Q v H'/\∀ b o,s.heap.get? b=some o->H b=none->b∉frs X.stack->H' b=none/\s'.heap.get? b=some o) X.xe s:=by
 have cellAt:∀ q∈clos,∃ o u,s.heap.get? q.2=some o/\o.data=.cell u/\H q.2=none/\q.2∉frs X.stack:=λq J=>by
  obtain⟨hl,a_⟩:=S.sub q J;obtain⟨u,o,U,G⟩:=I.cell q.1 q.2 hl;refine⟨o,u,U,G,I.freeC _ _ hl,λz=>?_⟩;rcases Bd.mem.mp z with z | z
  .exact I.cne _ _ hl z
  .obtain⟨_,o',bq,_⟩:=I.ok.funs.mem z;exact absurd (aFH bq) (Nat.not_lt.mpr (I.ok.cab _ _ a_ hl))
 let Dc:List (Addr×Obj):=clos.filterMap λq=>(s.heap.get? q.2).map λo=>(q.2,o)
 have memC:∀ q∈clos,∀ o,s.heap.get? q.2=some o->(q.2,o)∈Dc:=λq J o U=>List.mem_filterMap.mpr ⟨q,J,by rw[U];rfl⟩
 let D:List (Addr×Obj):=(fL,PySem.W.kla_obj "<lambda>" (X.env.qual++"<lambda>") params body scope clos pm c' ctv) :: (c',oc) :: Dc
 have laid:zX D H s.heap (frs X.stack):=λp hp=>by
  rcases aFe.mp hp with rfl | hp
  .exact⟨hf,a_⟩
  .rcases aFe.mp hp with rfl | hp
   .exact⟨bn,bo⟩
   .obtain⟨q,J,hp⟩:=List.mem_filterMap.mp hp;obtain⟨o,u,U,G,hn,ba⟩:=cellAt q J;rw[U]at hp;cases hp;exact⟨U,hn,ba⟩
 have LS:zY NL scope clos D (O2 ix σ):=by
  refine⟨S.kind,S.co,S.gen,S.nocell,λx y c h1 h2=>I.ok.inj x y c (S.sub _ (fQ h1)).1 (S.sub _ (fQ h2)).1,S.has,λx c h1=>?_,λj x v h1 h2=>?_,by unfold O2;rw[aFB];exact S.len⟩
  .obtain⟨o,u,U,G,_⟩:=cellAt _ (fQ h1);exact⟨o,u,aFE _ (aFE _ (memC _ (fQ h1) o U)),G⟩
  .obtain⟨i,hi,hN,hv,br,M⟩:=S.ixs j x h1;have bt:σ[i]?=some (some v):=by
    unfold O2 at h2;rw[aFZ,hi]at h2;have h2:(σ[i]?).join=some v:=jk h2;cases hs:σ[i]? with
    | none=>rw[hs]at h2;cases h2
    | some w'=>rw[hs]at h2;exact congrArg some h2
   obtain⟨m,_,hl⟩:=I.loc;obtain⟨u,ru,lk⟩:=hl i x v hN bt hv;rcases lk with ⟨kl,_⟩ | ⟨_,c2,bu,o,U,G⟩
   .exact absurd kl br
   .obtain⟨c3,bb⟩:=S.has x M;have Y:=(S.sub _ (fQ bb)).1;rw[bu]at Y;obtain rfl:c2=c3:=jk Y;exact⟨M,c2,o,u,bb,aFE _ (aFE _ (memC _ (fQ bb) o U)),G,ru⟩
 have L:sN X.prog X.w X.K X.mg X.base (CXR X.prog X.w) (k+1) fL D (av (O2 ix σ)) :=
  aDF (k:=k) (N:=NL) (σ:=O2 ix σ) (aFD ..) ⟨oc,vs,t,aFE _ (aFD ..),bi,bj⟩ LS (aw _ _ _) λA outer s H Q E ba bv bc=>bg _ _ _ A outer s H Q E ba bv bc
 have bc:=h D L ⟨_,_,_,_,aFD ..⟩ laid;have bw:=hb s [Value.ref fL] I.kIn rfl;refine qf (mi (F.run X.A X.stack _ _ ⟨[Value.ref fL],[]⟩ [Value.ref fL] [V.ref fL] Q E hr I.env0 bw (.cons rfl .nil) bc) λr s' J=>?_);cases r with
 | error ev=>exact hx pins σ _ _ ev s' I J
 | ok fl =>
  cases fl with
  | ret u =>
   obtain⟨v,H',os,bare,un,hok,rv,q⟩:=J;obtain⟨hh,g,d,tk,b_⟩:=s';obtain rfl:b_=s.os:=os;exact⟨v,H',I.call (h':=hh) (g':=g) (d':=d) (t':=tk) (ch:=[]) un hok bare (λb z=>absurd z (by simp)),rv,q,λb o e1 e2 e3=>⟨un.free _ _ e1 e2 (by simp),un.keep _ _ e1 e2 e3 (by simp)⟩⟩
  | next=>exact J.elim
  | brk=>exact J.elim
  | cont=>exact J.elim
end
end L2
namespace CW
open PySem L2
end CW
namespace L2
open PySem PySem.Spec PyProof.Rows
section
variable {κ:Type} [DecidableEq κ]
def dJ (kvs:List (κ×V)) (k:κ):Option V:=(kvs.find? λz=>decide (z.1=k)).map (·.2)
def hV (kvs:List (κ×V)) (k:κ) (v:V):List (κ×V) :=
 if (kvs.any λz=>decide (z.1=k))=true then kvs.map (λz=>if z.1=k then (z.1,v)else z)else kvs++[(k,v)]
def qQ (kvs:List (κ×V)) (k:κ):List (κ×V):=kvs.filter λz=>decide (z.1≠k)
def dH {p:κ×V} {r:List (κ×V)} {k:κ} (e:p.1=k):dJ (p :: r) k=some p.2:=by simp[dJ,lm,e]
def dI {p:κ×V} {r:List (κ×V)} {k:κ} (e:¬ p.1=k):dJ (p :: r) k=dJ r k:=by simp[dJ,lm,e]
def lC (k:κ):∀ kvs:List (κ×V),(kvs.any λz=>decide (z.1=k))=(dJ kvs k).isSome
 | []=>rfl
 | p :: r=>by
  rw[qi]
  by_cases e:p.1=k
  .simp only[dH e,aFX e,Bool.true_or,Option.isSome_some]
  .rw[dI e,aFW e,Bool.false_or];exact lC k r
def C5 (k j:κ) (y:V):∀ kvs:List (κ×V),dJ (kvs.map λG=>if G.1=k then (G.1,y)else G) j=(dJ kvs j).map λx=>if j=k then y else x
 | []=>rfl
 | p :: r=>by
  have J:=C5 k j y r;rw[aF0]
  by_cases h:p.1=k
  .rw[da h]
   by_cases e:p.1=j
   .rw[dH (p:=(p.1,y)) e,dH e,su,da (e.symm.trans h)]
   .rw[dI (p:=(p.1,y)) e,dI e,J]
  .rw[bB h]
   by_cases e:p.1=j
   .rw[dH (p:=p) e,dH e,su,bB (λz=>h (e.trans z))]
   .rw[dI (p:=p) e,dI e,J]
def wI (k j:κ) (y:V):∀ kvs:List (κ×V),dJ kvs k=none->dJ (kvs++[(k,y)]) j=if j=k then some y else dJ kvs j
 | [],_=>by
  by_cases e:k=j
  .rw[da e.symm];exact dH (p:=(k,y)) e
  .rw[bB (λz=>e z.symm)];exact dI (p:=(k,y)) e
 | p :: r,G=>by
  rw[rj];have J:¬ p.1=k:=λz=>by rw[dH z]at G;cases G
  rw[dI J]at G;have L:=wI k j y r G
  by_cases e:p.1=j
  .rw[dH e,dH e,bB (λz=>J (e.trans z))]
  .rw[dI e,dI e,L]
def C6 (kvs:List (κ×V)) (k j:κ) (y:V):dJ (hV kvs k y) j=if j=k then some y else dJ kvs j:=by
 unfold hV
 by_cases a:(kvs.any λz=>decide (z.1=k))=true
 .rw[da a,C5];rw[lC]at a
  by_cases e:j=k
  .obtain⟨x,G⟩:=Option.isSome_iff_exists.mp a;rw[da e,e,G,su,da rfl]
  .rw[bB e];cases dJ kvs j with
   | none=>rfl
   | some x=>rw[su,bB e]
 .rw[bB a];refine wI k j y kvs ?_;rw[lC]at a;cases q:dJ kvs k with
  | none=>rfl
  | some x=>rw[q]at a;exact(a rfl).elim
def iI (kvs:List (κ×V)) (k:κ) (v:V):(hV kvs k v).length<=kvs.length+1:=by
 unfold hV;split
 .rw[aFB];omega
 .rw[aFK,aF4,oi];omega
def C7 {kvs:List (κ×V)} {k:κ} (v:V) (h:dJ kvs k=none):hV kvs k v=kvs++[(k,v)]:=by
 unfold hV;rw[lC,h];exact bB (by decide)
def RelO.isSome_eq {o:Option V} {u:Option Value} (r:RelO o u):o.isSome=u.isSome:=by
 cases o with
 | none=>cases u with
  | none=>rfl
  | some _=>exact(show False from r).elim
 | some _=>cases u with
  | none=>exact(show False from r).elim
  | some _=>rfl
def RelO.getD {o:Option V} {u:Option Value} {d:V} {d':Value} (r:RelO o u) (z:RelV d d'):RelV (o.getD d) (u.getD d'):=by
 cases o with
 | none=>cases u with
  | none=>exact z
  | some _=>exact(show False from r).elim
 | some _=>cases u with
  | none=>exact(show False from r).elim
  | some _=>exact r
def KV.val {kvs:List (κ×V)} {vs:List (κ×Value)} (r:KV kvs vs) (k:κ):RelO (dJ kvs k) (valueAt vs k):=by
 unfold KV at r
 induction r with
 | nil=>exact True.intro
 | @cons p q ps G h t L =>
  obtain⟨h1,h2⟩:=h
  by_cases e:p.1=k
  .have J:q.1=k:=h1.symm.trans e;have b:valueAt (q :: G) k=some q.2:=by simp[valueAt,lm,J]
   rw[dH e,b];exact h2
  .have J:¬ q.1=k:=λz=>e (h1.trans z);have b:valueAt (q :: G) k=valueAt G k:=by simp[valueAt,lm,J]
   rw[dI e,b];exact L
def KV.any {kvs:List (κ×V)} {vs:List (κ×Value)} (r:KV kvs vs) (k:κ):(kvs.any λz=>decide (z.1=k))=vs.any λz=>decide (z.1=k):=by
 unfold KV at r
 induction r with
 | nil=>rfl
 | cons h t G=>rw[qi,qi,G,h.1]
def KV.repl {kvs:List (κ×V)} {vs:List (κ×Value)} (r:KV kvs vs) (k:κ) {y:V} {u:Value} (J:RelV y u) :
 KV (kvs.map λG=>if G.1=k then (G.1,y)else G) (vs.map λG=>if G.1=k then (G.1,u)else G):=by
 unfold KV at r ⊢
 induction r with
 | nil=>exact .nil
 | @cons p q ps M h t L =>
  rw[aF0,aF0];refine .cons ?_ L;obtain⟨h1,h2⟩:=h
  by_cases e:p.1=k
  .rw[da e,da (h1.symm.trans e)];exact⟨h1,J⟩
  .rw[bB e,bB (λz=>e (h1.trans z))];exact⟨h1,h2⟩
def KV.put {kvs:List (κ×V)} {vs:List (κ×Value)} (r:KV kvs vs) (k:κ) {y:V} {u:Value} (z:RelV y u):KV (hV kvs k y) (stored vs k u):=by
 unfold hV stored;rw[r.any k]
 by_cases e:(vs.any λG=>decide (G.1=k))=true
 .rw[da e,da e];exact r.repl k z
 .rw[bB e,bB e];exact wt r ⟨rfl,z⟩
def KV.drop {kvs:List (κ×V)} {vs:List (κ×Value)} (r:KV kvs vs) (k:κ):KV (qQ kvs k) (without vs k):=by
 unfold KV at r ⊢;unfold qQ without
 induction r with
 | nil=>exact .nil
 | @cons p q ps L h t G =>
  obtain⟨h1,h2⟩:=h;rw[ot,ot]
  by_cases e:p.1=k
  .have a:¬ decide (p.1≠k)=true:=by simp[e]
   have b:¬ decide (q.1≠k)=true:=by simp[h1.symm.trans e]
   rw[bB a,bB b];exact G
  .have J:¬ q.1=k:=λz=>e (h1.trans z);have a:decide (p.1≠k)=true:=by simp[e]
   have b:decide (q.1≠k)=true:=by simp[J]
   rw[da a,da b];exact .cons ⟨h1,h2⟩ G
def KV.length {kvs:List (κ×V)} {vs:List (κ×Value)} (r:KV kvs vs):kvs.length=vs.length:=ol r
def aA8 (kvs:List (κ×V)) (k:κ):(qQ kvs k).length<=kvs.length:=ph _ _
end
def wJ {P:Program} {w:World} {k:Key} {u:Value} (r:RelV (kV k) u):(bI P w).is k u=true:=by
 cases k with
 | inl i=>obtain⟨t,e⟩:=(show ∃ t,u=Value.int i t from r);subst e;exact zH P w i t
 | inr x=>obtain⟨t,e⟩:=(show ∃ t,u=Value.str x t from r);subst e;exact zI P w x t
def wK {P:Program} {w:World}:∀ {ks:List Key} {us:List Value},Vals (ks.map kV) us->ItemsAre (bI P w) ks us
 | [],_,r=>by rw[qy]at r;cases r;exact .nil
 | k :: ks,_,r=>by
  rw[aF0]at r;cases r with
  | cons h t=>exact .cons (wJ h) (wK t)
abbrev KT (H:Hp):List (List Key×V)->List (List Key×Addr×Value)->Prop:=Paired λp q=>p.1=q.1/\H q.2.1=some (.tup (p.1.map kV))/\RelV p.2 q.2.2
def KT.val {H:Hp} {kvs:List (List Key×V)} {xs:List (List Key×Addr×Value)} (r:KT H kvs xs) (k:List Key):RelO (dJ kvs k) ((atKey xs k).map (·.2)):=by
 induction r with
 | nil=>exact True.intro
 | @cons p q ps G h t L =>
  obtain⟨h1,_,h2⟩:=h
  by_cases e:p.1=k
  .have J:q.1=k:=h1.symm.trans e;have b:atKey (q :: G) k=some q.2:=by simp[atKey,lm,J]
   rw[dH e,b];exact h2
  .have J:¬ q.1=k:=λz=>e (h1.trans z);have b:atKey (q :: G) k=atKey G k:=by simp[atKey,lm,J]
   rw[dI e,b];exact L
def KT.repl {H:Hp} {kvs:List (List Key×V)} {xs:List (List Key×Addr×Value)} (r:KT H kvs xs) (k:List Key) {y:V} {u:Value} (J:RelV y u) :
 KT H (kvs.map λG=>if G.1=k then (G.1,y)else G) (xs.map (putAt k u)):=by
 induction r with
 | nil=>exact .nil
 | @cons p q ps M h t L =>
  rw[aF0,aF0];refine .cons ?_ L;obtain⟨h1,h2,h3⟩:=h;unfold putAt
  by_cases e:p.1=k
  .rw[da e,da (h1.symm.trans e)];exact⟨h1,h2,J⟩
  .rw[bB e,bB (λz=>e (h1.trans z))];exact⟨h1,h2,h3⟩
def KT.put {H:Hp} {kvs:List (List Key×V)} {xs:List (List Key×Addr×Value)} (r:KT H kvs xs) (k:List Key) {b:Addr} {y:V} {u:Value} (G:H b=some (.tup (k.map kV))) (z:RelV y u) :
 KT H (hV kvs k y) (storedH xs k b u):=by
 have e:(kvs.any λJ=>decide (J.1=k))=(atKey xs k).isSome:=by
  rw[lC,(r.val k).isSome_eq,Option.isSome_map]
 unfold hV storedH;rw[e]
 by_cases q:(atKey xs k).isSome=true
 .rw[da q,da q];exact r.repl k z
 .rw[bB q,bB q];exact wt r ⟨rfl,G,z⟩
def KT.keeps {H H':Hp} {kvs:List (List Key×V)} {xs:List (List Key×Addr×Value)} (r:KT H kvs xs) (G:∀ b ys,H b=some (.tup ys)->H' b=some (.tup ys)):KT H' kvs xs :=
 Paired.mapP r λ_ _ z=>⟨z.1,G _ _ z.2.1,z.2.2⟩
section
variable {P:Program} {w:World} {H:Hp} {h:Heap} {a:Addr}
def aC9 {u:HO} (ok:HOk P w H h) (e:Rd H a u):ObjOk P w H h a u:=e.ok ok
def C8 {kvs:List (Key×V)} (ok:HOk P w H h) (e:Rd H a (.dK kvs)):kvs.length<=sizeLine/\(a == sysModules)=false/\∃ vs,KV kvs vs/\h.DictOf (bI P w) a vs :=
 show ObjOk P w H h a (.dK kvs) from aC9 ok e
def qR {kvs:List (Key×V)} (ok:HOk P w H h) (e:H a=some (.dK kvs)):kvs.length<=sizeLine/\(a == sysModules)=false/\∃ vs,KV kvs vs/\h.DictOf (bI P w) a vs:=C8 ok (.inl e)
def yF {ks:List Key} (ok:HOk P w H h) (e:H a=some (.tup (ks.map kV))):(tupleKind (bI P w)).is h ks a:=by
 obtain⟨_,its,r,o,h1,h2,n,h3⟩:=(show ObjOk P w H h a (.tup (ks.map kV)) from ok a _ e);exact⟨o,its.toArray,n,h1,h2,h3,by simpa using wK r⟩
def C9 {kvs:List (List Key×V)} (ok:HOk P w H h) (e:Rd H a (.dT kvs)):kvs.length<=sizeLine/\(a == sysModules)=false /\
 ∃ xs,KT H kvs xs/\h.DictOfH (tupleKind (bI P w)) a xs:=by
 obtain⟨z,y,xs,r,o,es,ep,h1,h2,h3,h4,h5⟩:=(show ObjOk P w H h a (.dT kvs) from aC9 ok e);refine⟨z,y,xs,r,o,es,ep,h1,h2,h3,h4,λx hx=>?_,h5⟩;have all:∀ {l:List (List Key×V)} {m:List (List Key×Addr×Value)},KT H l m->∀ x∈m,(tupleKind (bI P w)).is h x.1 x.2.1:=by
  intro l m q
  induction q with
  | nil=>intro x hx;exact nomatch hx
  | @cons p q ps L G t J =>
   intro x hx;rcases aFe.mp hx with e | hx
   .subst e;exact yF ok (by rw[<- G.1];exact G.2.1)
   .exact J x hx
 exact all r x hx
def aEC {kvs:List (List Key×V)} (ok:HOk P w H h) (e:H a=some (.dT kvs)):kvs.length<=sizeLine/\(a == sysModules)=false /\
 ∃ xs,KT H kvs xs/\h.DictOfH (tupleKind (bI P w)) a xs:=C9 ok (.inl e)
end
def DGet (H:Hp) (a:Addr) (y:V) (r:Option V):Prop :=
 (∃ kvs k,Rd H a (.dK kvs)/\y=kV k/\r=dJ kvs k)\/∃ kvs k b,Rd H a (.dT kvs)/\y=.ref b/\H b=some (.tup (k.map kV))/\r=dJ kvs k
def DPut (H:Hp) (a:Addr) (y v:V) (H':Hp):Prop :=
 (∃ kvs k,H a=some (.dK kvs)/\y=kV k/\kvs.length<sizeLine/\H'=upd H a (.dK (hV kvs k v))) \/
 ∃ kvs k b,H a=some (.dT kvs)/\y=.ref b/\H b=some (.tup (k.map kV))/\kvs.length<sizeLine/\H'=upd H a (.dT (hV kvs k v))
def DGet.k {H:Hp} {a:Addr} {kvs:List (Key×V)} {k:Key} (e:H a=some (.dK kvs)):DGet H a (kV k) (dJ kvs k):=.inl ⟨kvs,k,.inl e,rfl,rfl⟩
def DPut.k {H:Hp} {a:Addr} {kvs:List (Key×V)} {k:Key} {v:V} (e:H a=some (.dK kvs)) (z:kvs.length<sizeLine):DPut H a (kV k) v (upd H a (.dK (hV kvs k v))):=.inl ⟨kvs,k,e,rfl,z,rfl⟩
section
variable {X:Cx} {pins:List (Addr×Obj)} {σ:St} {H:Hp} {s:Shared} {a:Addr} {y v:V} {u r:Value} {o:Option V} {A:Around} {E:Value->Shared->Prop}
def Inv.big (I:Inv X pins σ H s):sysModules<s.heap.objs.size:=by
 have h:mainGlobals<s.heap.objs.size:=(I.mod.glob.keeps I.bk).lt;exact Nat.lt_trans (by decide) h
def m3 {Q:Value->Shared->Prop} (hu:A.units+1<cLine) (I:Inv X pins σ H s) (g:DGet H a y (some v)) (Y:RelV y u) (h:∀ L s',Inv X pins σ H s'->RelV v L->Q L s') :
 wpAny (model X.prog X.w) A (getItem (.ref a) u) Q E s:=by
 rcases g with ⟨kvs,k,e,M,l⟩ | ⟨kvs,k,b,e,M,eb,l⟩
 .subst M;obtain⟨z,hd,vs,G,dd⟩:=C8 I.hok e;obtain⟨L,hw,J⟩:=RelO.some_of (v:=v) (o:=valueAt vs k) (by rw[l];exact G.val k);exact wpAny_getItem_of (wJ Y) dd.mapOf hw (h L _ (I.tok _) J)
 .subst M;cases (show u=Value.ref b from Y);obtain⟨z,hd,xs,G,dd⟩:=C9 I.hok e;obtain⟨L,hw,J⟩:=RelO.some_of (v:=v) (o:=(atKey xs k).map (·.2)) (by rw[l];exact G.val k);obtain⟨p,hp,U⟩:=aFc.mp hw;refine wpAny_getItem_heap (ua hu) (yF I.hok eb) dd hp ?_;rw[U];exact h L _ (I.tok _) J
def rP {h':Heap} {t':Nat} {G:HO} (I:Inv X pins σ H s) (J:Mut (H a)) (L:Heap.SameBut a s.heap h') (he:∃ q,h'.get? a=some q) (new:ObjOk X.prog X.w (upd H a G) h' a G) :
 Inv X pins σ (upd H a G) { s with heap:=h',toks:=t' } :=
 I.write (x:=a) (e:=a) J (.inl rfl) (λb q M z=>(L.2 b M).trans z) he new
def P4 {P:Program} {w:World} {H':Hp} {h':Heap} {kvs:List (Key×V)} {vs:List (Key×Value)} (z:kvs.length<=sizeLine) (hd:(a == sysModules)=false) (G:KV kvs vs) (dd:h'.DictOf (bI P w) a vs) :
 ObjOk P w H' h' a (.dK kvs):=⟨z,hd,vs,G,dd⟩
def m4 {H':Hp} {Q:Unit->Shared->Prop} (hu:A.units+1<cLine) (I:Inv X pins σ H s) (g:DPut H a y v H') (ry:RelV y u) (rv:RelV v r) (h:∀ s',Inv X pins σ H' s'->Q () s') :
 wpAny (model X.prog X.w) A (setItem (.ref a) u r) Q E s:=by
 rcases g with ⟨kvs,k,e,M,l,U⟩ | ⟨kvs,k,b,e,M,eb,l,U⟩
 .subst M U;obtain⟨z,hd,vs,G,dd⟩:=qR I.hok e;have hz:vs.length<=sizeLine:=by rw[<- G.length];exact z
  have Y:(hV kvs k v).length<=sizeLine:=by have:=iI kvs k v;omega
  refine wpAny_setItem_pairs (hsz:=hz) (wJ ry) dd λh' J hs=>h _ ?_;have he:∃ q,h'.get? a=some q:=let ⟨q,_,_,L,_⟩:=J;⟨q,L⟩;exact rP I (by rw[e];exact True.intro) hs he (P4 Y hd (G.put k rv) J)
 .subst M U;cases (show u=Value.ref b from ry);obtain⟨z,hd,xs,G,dd⟩:=aEC I.hok e;have hz:xs.length<=sizeLine:=by rw[<- ol G];exact z
  have Y:(hV kvs k v).length<=sizeLine:=by have:=iI kvs k v;omega
  refine wpAny_setItem_heap (hsz:=hz) (ua hu) (yF I.hok eb) dd λh' J hs=>h _ ?_;obtain⟨q,es,ep,L,h2,h3,h4,_,h5⟩:=J;refine rP I (by rw[e];exact True.intro) hs ⟨q,L⟩ ⟨Y,hd,_,(G.put k eb rv).keeps λc ys ec=>?_,q,es,ep,L,h2,h3,h4,h5⟩;rw[aE (kC ec e (λz=>nomatch z))];exact ec
end
section
variable {X:Cx} {pins:List (Addr×Obj)} {σ:St} {H:Hp} {s:Shared} {a:Addr} {kvs:List (Key×V)} {k:Key} {u:Value} {A:Around} {E:Value->Shared->Prop}
def m5 {Q:Unit->Shared->Prop} (I:Inv X pins σ H s) (e:H a=some (.dK kvs)) (L:RelV (kV k) u) (l:(dJ kvs k).isSome=true) (h:∀ s',Inv X pins σ (upd H a (.dK (qQ kvs k))) s'->Q () s') :
 wpAny (model X.prog X.w) A (delItem (.ref a) u) Q E s:=by
 obtain⟨z,hd,vs,G,dd⟩:=qR I.hok e;refine wpAny_delItem_slot dd.typeIs (by decide) ug
  (r4 ug dd.typeIs PySem.F.entry_dict_delitem (PySem.F.args_dict_delitem_2 _ _) (meets_dict_delitem_pairs (bI X.prog X.w) a (wJ L)) ⟨vs,dd,by rw[<- G.length];exact z,by rw[<- (G.val k).isSome_eq];exact l,λh' J M=>h _ ?_⟩)
 have he:∃ q,h'.get? a=some q:=let ⟨q,_,_,U,_⟩:=J;⟨q,U⟩;exact rP I (by rw[e];exact True.intro) M he (P4 (jf (aA8 kvs k) z) hd (G.drop k) J)
end
def aED (i:Expr):Prop:=∀ z G,subscripted i false z G=operate [z,G] (getItem z G)
def aBv {prog:Program} {w:World} {A:Around} {E:Value->Shared->Prop} {s:Shared} {env:Env} {value slice:Expr} {pos:Pos} {T id:String} {Q:Value->Shared->Prop}
 (hl:typeLookup (.type T) "__getitem__"=pure (some (.builtin id))) (hs:aED slice)
 (h:wpAny (model prog w) A (eval value env) (λo J=>wpAny (model prog w) A (eval slice env) (λi z=>z.TypeIs o T/\wpAny (model prog w) A (getItem o i) Q E z) E J) E s) :
 wpAny (model prog w) A (eval (.Subscript value slice pos) env) Q E s:=by
 refine Subscript_ (dt h (λo J M=>dt M (λi z G=>?_) λ_ _ x=>x) λ_ _ x=>x);obtain⟨Y,G⟩:=G;unfold subscriptTail;refine aEz ?_;rw[getitemInPython_of_ne Y.not_modules];refine aEz (wpAny_specialOf Y hl ?_);have fin:wpAny (model prog w) A (subscripted slice false o i) (λr L=>wpAny (model prog w) A (letTemporaryGo value o r >>= λ_=>pure r) Q E L) E z:=by
  rw[hs o i];exact wpAny_operating (dt G (λr L U=>aEz (wpAny_letTemporaryGo (aFA U))) λ_ _ x=>x)
 first
  | exact aFA (aEz fin)
  | exact aEz (aFA (aEz fin))
  | exact aEz fin
def D0 {X:Cx} {pins:List (Addr×Obj)} {σ:St} {H:Hp} {s:Shared} {a:Addr} {y:V} {o:Option V} (I:Inv X pins σ H s) (g:DGet H a y o):s.TypeIs (.ref a) "dict":=by
 rcases g with ⟨kvs,k,e,_,_⟩ | ⟨kvs,k,b,e,_,_,_⟩
 .obtain⟨_,_,vs,_,dd⟩:=C8 I.hok e;exact dd.typeIs
 .obtain⟨_,_,xs,_,dd⟩:=C9 I.hok e;exact dd.typeIs
def aEE (td ty:TE):TE:=fun σ H Q=>td σ H λx H1=>ty σ H1 λy H2=>∃ a v,x=.ref a/\DGet H2 a y (some v)/\Q v H2
def aEF (td ty tv:TE):TS:=λD σ H=>tv σ H λv H1=>td σ H1 λx H2=>ty σ H2 λy G=>∃ a z,x=.ref a/\DPut G a y v z/\D.nx σ z
def aEG (td ty:TE):TS:=λD σ H=>td σ H λx H1=>ty σ H1 λy H2=>∃ a kvs k,x=.ref a/\H2 a=some (.dK kvs)/\y=kV k/\(dJ kvs k).isSome=true/\D.nx σ (upd H2 a (.dK (qQ kvs k)))
section
variable {X:Cx} {o i e value:Expr} {pos pos' ak:Pos} {td ty tv:TE}
def iJ (J:X.A.units+1<cLine) (L:PE X o td) (hi:PE X i ty) (M:aED i):PE X (.Subscript o i pos) (aEE td ty):=by
 intro pins s σ H Q I h;refine aBv PySem.F.slot_dict_getitem.lookup M (thn (L pins s σ H _ I h) λu U ⟨x,H1,Y,rx,q1⟩=>thn (hi pins U σ H1 _ Y q1) λiv s2 ⟨y,H2,G,ry,a,v,ex,g,q2⟩=>?_);subst ex;obtain rfl:u=Value.ref a:=rx;exact⟨D0 G g,m3 J G g ry λw' s3 I3 z=>⟨v,H2,I3,z,q2⟩⟩
def W6 (z:X.A.units+1<cLine) (G:PE X o td) (hi:PE X i ty) (J:PE X value tv) (L:swapsWith value (some (.Subscript o i pos')) pos.line X.env=pure false) :
 PS X (.Assign [.Subscript o i pos'] value pos) (aEF td ty tv):=by
 intro pins s σ H D I h;refine wpAny_Assign_Subscript (thn (J pins s σ H _ I h) λr M ⟨v,H1,U,Y,q1⟩=>thn (G pins M σ H1 _ U q1) λu s2 ⟨x,H2,I2,rx,q2⟩=>thn (hi pins s2 σ H2 _ I2 q2) λiv s3 ⟨y,H3,I3,ry,a,H4,ex,g,q3⟩=>?_) L;subst ex;obtain rfl:u=Value.ref a:=rx;exact m4 z I3 g ry Y λs4 I4=>⟨σ,H4,I4,q3⟩
def aBw (z:PE X o td) (hi:PE X i ty):PS X (.Delete [.Subscript o i ak] pos) (aEG td ty):=by
 intro pins s σ H D I h;refine wpAny_Delete (wpAny_deleteEach_cons (wpAny_delete_Subscript (thn (z pins s σ H _ I h) λu G ⟨x,H1,J,L,M⟩=>thn (hi pins G σ H1 _ J M) λiv s2 ⟨y,H2,U,Y,a,kvs,k,ex,e,ey,l,q2⟩=>?_)));subst ex ey;obtain rfl:u=Value.ref a:=L;exact m5 U e Y l λs3 I3=>wpAny_deleteEach_nil ⟨σ,_,I3,q2⟩
end
def aA9 {P:Program} {w:World} {H:Hp} (h:Heap) (z:sysModules<h.objs.size):ObjOk P w H (h.push { cls:=.type "dict",data:=.dict #[] }) h.objs.size (.dK []) :=
 ⟨jr _,beq_eq_false_iff_ne.mpr (jh (aFY z)),[],.nil,Heap.DictOf.new h⟩
def aDP:TE:=λ_ H Q=>∀ p,H p=none->Q (.ref p) (upd H p (.dK []))
section
variable {X:Cx} {pos:Pos}
def oM:PE X (.Dict [] [] pos) aDP:=λpins s σ H Q I h =>
 wpAny_Dict_empty ⟨.ref s.heap.objs.size,_,I.laid (a:=s.heap.objs.size) (o:=.dK []) (t':=s.toks) (λ_ _ q=>aFC _ q) (ah _) (aA9 s.heap I.big),rfl,h _ (I.hok.fresh (ah _))⟩
end
structure M2 (X:Cx) (o:Expr) (m:Str) (apos:Pos) (e f:Expr) (aa:Pos):Prop where
 base:attributeBase o m X.env (eval o X.env)=eval o X.env
 few:((backTo aa (starEach [e,f] X.env)).all (λx=>!x.1) && (backToKw aa (keywordEach [] X.env)).all (λx=>x.1.isSome)
  && decide (([e,f]:List Expr).length+([]:List Keyword).length+(if ([]:List Keyword).isEmpty then 0 else 1)<30))=true
 line:(apos.endLine == aa.line)=true
 trees:backTo aa (starEach [e,f] X.env)=[(false,eval e X.env),(false,eval f X.env)]
def IsD (H:Hp) (a:Addr):Prop:=(∃ kvs,Rd H a (.dK kvs))\/∃ kvs,Rd H a (.dT kvs)
def yG {X:Cx} {pins:List (Addr×Obj)} {σ:St} {H:Hp} {s:Shared} {a:Addr} (I:Inv X pins σ H s) (d:IsD H a) :
 s.TypeIs (.ref a) "dict"/\(∀ b,Value.ref a=.ref b->∃ z,s.heap.get? b=some z/\z.dict=none)/\(a == sysModules)=false:=by
 rcases d with ⟨kvs,e⟩ | ⟨kvs,e⟩
 .obtain⟨_,hd,vs,_,dd⟩:=C8 I.hok e;refine⟨dd.typeIs,λb q=>?_,hd⟩;cases q;obtain⟨z,_,_,h1,h2,_⟩:=dd;exact⟨z,h1,h2.2.1⟩
 .obtain⟨_,hd,xs,_,dd⟩:=C9 I.hok e;refine⟨dd.typeIs,λb q=>?_,hd⟩;cases q;obtain⟨z,_,_,h1,h2,_⟩:=dd;exact⟨z,h1,h2.2.1⟩
section
variable {X:Cx} {pins:List (Addr×Obj)} {σ:St} {H:Hp} {s:Shared} {a:Addr} {y d:V} {u r:Value} {o:Option V} {A:Around} {E:Value->Shared->Prop}
def aDQ {Q:Value->Shared->Prop} (Y:A.units+1<cLine) (I:Inv X pins σ H s) (g:DGet H a y o) (L:RelV y u) (M:RelV d r) (h:∀ U s',Inv X pins σ H s'->RelV (o.getD d) U->Q U s') :
 wpAny (model X.prog X.w) A (call (.builtin "dict.get") [.ref a,u,r]) Q E s:=by
 rcases g with ⟨kvs,k,e,J,l⟩ | ⟨kvs,k,b,e,J,eb,l⟩
 .subst J;obtain⟨z,hd,vs,G,dd⟩:=C8 I.hok e;refine r4 ra dd.typeIs vm (vd _ _ _) (meets_dict_get_default (bI X.prog X.w) a (wJ L) hd r) ⟨_,dd.mapOf,h _ _ (I.tok _) ?_⟩;rw[l];exact(G.val k).getD M
 .subst J;cases (show u=Value.ref b from L);obtain⟨z,hd,xs,G,dd⟩:=C9 I.hok e;refine r4 ra dd.typeIs vm (vd _ _ _) (meetsH_dict_get_default (tupleKind (bI X.prog X.w)) a b hd r) ⟨ua Y,k,xs,yF I.hok eb,dd,h _ _ (I.tok _) ?_⟩;rw[l];exact(G.val k).getD M
end
def aDR (td ty tx:TE):TE:=fun σ H Q=>td σ H λx H1=>∃ a,x=.ref a/\IsD H1 a/\ty σ H1 λy H2=>tx σ H2 λz G=>∃ o,DGet G a y o/\Q (o.getD z) G
section
variable {X:Cx} {o e f:Expr} {apos aa:Pos} {td ty tx:TE}
def tJ (L:X.A.units+1<cLine) (M:PE X o td) (he:PE X e ty) (U:PE X f tx) (m:M2 X o "get" apos e f aa):PE X (.Call (.Attribute o "get" apos) [e,f] [] aa) (aDR td ty tx):=by
 intro pins s σ H Q I h;refine wpAny_Call_method m.base m.few m.line oq ra PySem.F.type_dict_get (thn (M pins s σ H _ I h) λu Y ⟨x,H1,J,rx,a,ex,d,q1⟩=>?_);subst ex;obtain rfl:u=Value.ref a:=rx;obtain⟨t1,t2,_⟩:=yG J d;refine⟨t1,t2,?_⟩;rw[m.trees];refine kz rfl (oa (nj (thn (he pins Y σ H1 _ J q1) λiv s2 ⟨y,H2,I2,ry,q2⟩ =>
  nj (thn (U pins s2 σ H2 _ I2 q2) λfv s3 ⟨z,H3,I3,rz,ov,g,q3⟩=>qq ?_))))
 exact aDQ L I3 g ry rz λw' s4 I4 G=>⟨_,H3,I4,G,q3⟩
end
section
variable {X:Cx} {pins:List (Addr×Obj)} {σ:St} {H:Hp} {s:Shared} {d:Addr} {kvs:List (Key×V)}
def Inv.freezeD (I:Inv X pins σ H s) (e:H d=some (.dK kvs)):∃ od,s.heap.get? d=some od/\Inv X pins σ (upd H d (.frz od (.dK kvs))) s:=by
 obtain⟨z,hd,vs,J,dd⟩:=qR I.hok e;obtain⟨ep,L⟩:=dd.dictAt;obtain⟨od,es,M,_⟩:=id L;refine⟨od,M,?_⟩;have ne:∀ b u,H b=some u->(∀ ks,u≠.dK ks)->b≠d:=λb u q n z=>by rw[z,e]at q;cases q;exact n _ rfl
 have Y:∀ b,H b=none->b≠d:=λb q z=>by rw[z,e]at q;cases q
 have G:∀ b u,H b=some u->(∀ ks,u≠.dK ks)->upd H d (.frz od (.dK kvs)) b=some u:=λb u q n=>by rw[aE (ne b u q n)];exact q
 have un:Un X.fs [] H (upd H d (.frz od (.dK kvs))) s.heap s.heap:=⟨λ_ _ q _ _ _=>q,λ_ o q _ _ _=>⟨o.slots,q⟩,λb _ _ n _=>by rw[aE (Y b n)];exact n,λ_ o q _=>⟨o,q⟩,
  λb xs q=>G b _ q (λ_ z=>by cases z),λb o u q=>G b _ q (λ_ z=>by cases z),λb ps q=>⟨#[],by rw[G b _ q (λ_ z=>by cases z)];simp⟩⟩
 exact I.un (t':=s.toks) un λb u q=>by
  by_cases U:b=d
  .subst U;rw[aD]at q;cases q;exact⟨M,z,hd,vs,J,dd⟩
  .rw[aE U]at q;exact(I.hok b u q).stay (λ_ _ _ z=>z) (λc z=>G c _ z λ_ z=>by cases z) λc xs z=>G c _ z λ_ z=>by cases z
end
def Itd (d:Addr) (od:Obj) (kvs:List (Key×V)):It :=
 ⟨λi H=>H d=some (.frz od (.dK kvs))/\i<kvs.length,λi H v H'=>∃ t k x,v=.ref t/\H t=none/\kvs[i]?=some (k,x)/\H'=upd H t (.tup [kV k,x]),λi H=>H d=some (.frz od (.dK kvs))/\kvs.length<=i⟩
def W7 {kvs:List (Key×V)} {vs:List (Key×Value)} (r:KV kvs vs) {i:Nat} {k:Key} {x:V} (e:kvs[i]?=some (k,x)):∃ u,vs[i]?=some (k,u)/\RelV x u:=by
 induction r generalizing i with
 | nil=>simp at e
 | cons h _ z =>
  cases i with
  | zero =>
   rename_i p q _ _ _
   obtain⟨p1,p2⟩:=p;obtain⟨G,J⟩:=q;simp only[List.getElem?_cons_zero,Option.some.injEq,Prod.mk.injEq]at e;obtain⟨rfl,rfl⟩:=e;obtain⟨h1,h2⟩:=h;simp only at h1 h2;subst h1;exact⟨_,rfl,h2⟩
  | succ i=>exact z e
def aDS {P:Program} {w:World} {k:Key} {u:Value} (h:(bI P w).is k u=true):RelV (kV k) u:=by
 rw[mW]at h;rcases cH h with ⟨i,t,rfl,rfl⟩ | ⟨x,t,rfl,rfl⟩
 .exact⟨_,rfl⟩
 .exact⟨_,rfl⟩
def P5 {P:Program} {w:World} {K:PySem.W.Frag} {elts:List Expr} {x1} {pos:Pos} (d it:Addr) (od:Obj) (kvs:List (Key×V)) (vs:List (Key×Value)) (ep:Nat) (rel:KV kvs vs) (hat:∀ h:Heap,h.get? d=some od->h.DictAt (bI P w) d vs ep) (hne:d≠it) :
 sE P w K (.Tuple elts x1 pos) (Itd d od kvs) [it] it (λi h=>∃ ok ov,IsItemIter h it d i vs.length ep ok ov) where
 mem:=by simp
 obj:=λi h st b hb=>by
  obtain⟨ok,ov,he⟩:=st;have z:b=it:=by simpa using hb
  subst z;exact⟨_,he,λv z=>by have z':Data.fields _=Data.cell v:=z;cases z'⟩
 keep:=λi h h' st k=>let ⟨ok,ov,he⟩:=st;⟨ok,ov,k it (by simp) _ he⟩
 item:=by
  intro X hP hw hK hc i pins s σ H E I hf st hg;subst hP hw hK;obtain⟨hd,hi⟩:=hg;obtain⟨⟨k,x⟩,hx⟩:∃ p,kvs[i]?=some p:=⟨kvs[i],by simp[hi]⟩;obtain⟨u,hu,ru⟩:=W7 rel hx;obtain⟨ok,ov,he⟩:=st;have hod:s.heap.get? d=some od:=(I.hok d _ hd).1;have li:it<s.heap.objs.size:=aFH he;refine wpAny_pyNext_items_item he (hat _ hod) hu λkey h' hkey ho hT hsz kp=>?_;refine⟨_,rfl,?_⟩;have hn:H s.heap.objs.size=none:=I.hok.fresh (ah _);have tupOk:∀ h2:Heap,h2.get? s.heap.objs.size=some { cls:=.type "tuple",data:=.seq #[key,u] }->ObjOk X.prog X.w (upd H s.heap.objs.size (.tup [kV k,x])) h2 s.heap.objs.size (.tup [kV k,x]):=λh2 q =>
   ⟨by show 2<=sizeLine;decide,[key,u],.cons (aDS hkey) (.cons ru .nil),_,q,rfl,_,rfl⟩
  refine wpAny_letOwnedTupleGo_items ho λh2 f1 sb=>?_;have k2:∀ b o,b∉[it]->s.heap.get? b=some o->h2.get? b=some o:=λb o hb q=>sb.extBut b o (λz=>hb (by simp[z])) (kp b o (λz=>hb (by simp[z])) q);have n1:s.heap.objs.size≠it:=aF1 li;refine⟨.ref s.heap.objs.size,_,I.turnLaid (t':=s.toks) (h':=h2) (o:=.tup [kV k,x]) k2 hf (ah _) (tupOk _ (sb.extBut _ _ n1 hT)),rfl,⟨_,k,x,rfl,hn,hx,rfl⟩,⟨_,_,f1⟩,λb hb=>?_⟩;have hb':b≠s.heap.objs.size:=by
   have z:b=it:=by simpa using hb
   subst z;exact aFY li
  rw[aE hb'];exact(hf b hb).1
 done:=by
  intro X hP hw hK hc i pins s σ H E I hf st hg;subst hP hw hK;obtain⟨hd,hi⟩:=hg;obtain⟨ok,ov,he⟩:=st;have hod:s.heap.get? d=some od:=(I.hok d _ hd).1;have hl:=rel.length;exact wpAny_pyNext_items_end (I.ok.hd hc) he (hat _ hod) (by simp;omega) λh' eb=>⟨rfl,I.turnedF (fp:=[it]) (t':=s.toks) (λb o hb e=>eb b o (λz=>hb (by simp[z])) e) hf⟩
 self:=λ_ _ _ _ _ st h=>let ⟨_,_,he⟩:=st;PySem.W.kcp_self he h
def aDT (td:TE):TI:=fun σ H R=>td σ H λx H1=>∃ d kvs,x=.ref d/\H1 d=some (.dK kvs)/\∀ od,R (Itd d od kvs) (upd H1 d (.frz od (.dK kvs)))
def tK {X:Cx} {elts:List Expr} {x1} {ak:Pos} {o:Expr} {td:TE} {apos pos:Pos} (ho:PE X o td) (L:attributeBase o "items" X.env (eval o X.env)=eval o X.env:=by rfl) (M:(apos.endLine == pos.line)=true:=by rfl) :
 PI X (.Tuple elts x1 ak) (.Call (.Attribute o "items" apos) [] [] pos) (aDT td):=by
 intro pins s σ H R I h;refine qj L M (thn (ho pins s σ H _ I h) λu G ⟨x,H1,I1,rx,d,kvs,ex,hd,q⟩=>?_);subst ex;obtain rfl:u=Value.ref d:=rx;obtain⟨z,av,vs,aw,dd⟩:=qR I1.hok hd;obtain⟨ep,a_⟩:=id dd.dictAt;obtain⟨od,U,I2⟩:=I1.freezeD hd;obtain⟨t1,t2,_⟩:=yG I1 (.inl ⟨kvs,.inl hd⟩);refine⟨"dict","dict.items",oq,ve,PySem.F.type_dict_items,t1,t2,kz rfl (sj ?_)⟩;refine r4 ve dd.typeIs PySem.F.entry_dict_items (PySem.F.args_dict_items_1 _) (meets_dict_items (bI X.prog X.w) d av) ⟨⟨vs,dd⟩,?_⟩;have hv:(G.heap.push { cls:=.type "dict_items",data:=.fields #[.ref d] }).IsItemsView G.heap.objs.size d:=⟨_,aFI _ rfl,rfl,rfl⟩;have h1:(G.heap.push { cls:=.type "dict_items",data:=.fields #[.ref d] }).get? d=some od:=aFC _ U;have J:∀ h:Heap,h.get? d=some od->h.DictAt (bI X.prog X.w) d vs ep:=λh e=>a_.at λo q=>by rw[U]at q;cases q;exact e
 refine wpAny_pyIter_items hv (J _ h1) ?_;generalize ba:({ cls:=.type "dict_itemiterator",data:=.fields #[.none,.bool false,.ref d,.int 0 0,.int vs.length 0,.int ep 0,.none,.none] }:Obj)=ob;have kp:∀ b o,G.heap.get? b=some o->((G.heap.push { cls:=.type "dict_items",data:=.fields #[.ref d] }).push ob).get? b=some o:=λb o e=>aFC _ (aFC _ e);have hsz:(G.heap.push { cls:=.type "dict_items",data:=.fields #[.ref d] }).objs.size=G.heap.objs.size+1:=ka ..;have I3:=I2.kept (t':=G.toks) kp;have Y:G.heap.objs.size<=(G.heap.push { cls:=.type "dict_items",data:=.fields #[.ref d] }).objs.size:=by rw[hsz];exact sk _
 have bb:d≠(G.heap.push { cls:=.type "dict_items",data:=.fields #[.ref d] }).objs.size:=λz=>by
  have:=aFH U;rw[z]at this;exact absurd this (Nat.not_lt.mpr Y)
 refine⟨_,[_],_,_,_,rfl,I3,P5 d _ od kvs vs ep aw J bb,⟨.none,.none,?_⟩,λb hb=>?_,q od⟩
 .rw[<- ba];exact aFI _ rfl
 .have z:b=(G.heap.push { cls:=.type "dict_items",data:=.fields #[.ref d] }).objs.size:=by simpa using hb
  rw[z];exact I2.fpOk Y (I2.hok.fresh Y)
def tL {d:Addr} {od:Obj} {kvs:List (Key×V)} {z:St} {g:TG} {tt:TT} {te:TE} {H:Hp} {Q:VK} (Pv:Nat->List V->Hp->Prop) (h0:Pv 0 [] H) (M:∀ i ys H,i<=kvs.length->Pv i ys H->H d=some (.frz od (.dK kvs))/\ys.length<sizeLine)
 (U:∀ i k x ys H t,kvs[i]?=some (k,x)->Pv i ys H->H t=none->g (.ref t) z (upd H t (.tup [kV k,x])) λG H2=>tt G H2 λb L=>if b=true then te G L λy Y=>Pv (i+1) (ys++[y]) Y else Pv (i+1) ys L) (hd:∀ ys H,Pv kvs.length ys H->∀ D,H D=none->Q (.ref D) (upd H D (.lst ys))) :
 sP (Itd d od kvs) z g tt te Q H:=by
 refine⟨λi m ys H=>m=kvs.length - i/\i<=kvs.length/\Pv i ys H,⟨kvs.length,by simp,jr _,h0⟩,?_⟩;rintro i m ys H ⟨rfl,hi,p⟩;obtain⟨q,hz⟩:=M i ys H hi p;refine⟨hz,?_⟩
 by_cases J:i<kvs.length
 .refine .inr ⟨⟨q,J⟩,Pv (i+1),λav H' p'=>⟨kvs.length - (i+1),by omega,rfl,J,p'⟩,λx H' y=>?_⟩;obtain⟨t,k,v,rfl,hn,hx,rfl⟩:=y;exact U i k v ys _ t hx p hn
 .have e:i=kvs.length:=by omega
  subst e;exact .inl ⟨⟨q,ah _⟩,hd ys H p⟩
def aEH (td ty tx:TE):TE:=fun σ H Q=>td σ H λx H1=>∃ a,x=.ref a/\IsD H1 a/\ty σ H1 λy H2=>tx σ H2 λz G=>∃ kvs k,G a=some (.dK kvs)/\y=kV k/\kvs.length<sizeLine /\
 (∀ v,dJ kvs k=some v->Q v G)/\(dJ kvs k=none->Q z (upd G a (.dK (hV kvs k z))))
section
variable {X:Cx} {o e f:Expr} {apos aa:Pos} {td ty tx:TE}
def W8 (U:PE X o td) (he:PE X e ty) (hf:PE X f tx) (m:M2 X o "setdefault" apos e f aa):PE X (.Call (.Attribute o "setdefault" apos) [e,f] [] aa) (aEH td ty tx):=by
 intro pins s σ H Q I h;refine wpAny_Call_method m.base m.few m.line oq sg PySem.F.type_dict_setdefault (thn (U pins s σ H _ I h) λu s1 ⟨x,H1,I1,rx,a,ex,d,q1⟩=>?_);subst ex;obtain rfl:u=Value.ref a:=rx;obtain⟨t1,t2,_⟩:=yG I1 d;refine⟨t1,t2,?_⟩;rw[m.trees];refine kz rfl (oa (nj (thn (he pins s1 σ H1 _ I1 q1) λiv s2 ⟨y,H2,I2,ry,q2⟩ =>
  nj (thn (hf pins s2 σ H2 _ I2 q2) λfv s3 ⟨z,H3,Y,rz,kvs,k,ea,ey,hl,q3,q4⟩=>qq ?_))))
 subst ey;obtain⟨hz,J,vs,G,dd⟩:=qR Y.hok ea;refine r4 sg dd.typeIs PySem.F.entry_dict_setdefault (PySem.F.args_dict_setdefault_3 _ _ _) (kt_meets_setdefault (bI X.prog X.w) a (wJ ry) J fv) ⟨vs,dd,by rw[<- G.length];exact hz,λv hv=>?_,λhn h' M hs=>?_⟩
 .have r:=G.val k;rw[hv]at r;cases L:dJ kvs k with
  | none=>rw[L]at r;exact r.elim
  | some v'=>rw[L]at r;exact⟨v',H3,Y.tok _,r,q3 v' L⟩
 .have r:=G.val k;rw[hn]at r;have L:dJ kvs k=none:=by
   cases L:dJ kvs k with
   | none=>rfl
   | some v'=>rw[L]at r;exact r.elim
  refine⟨z,_,rP (t':=_) Y (by rw[ea];exact True.intro) hs ?_ (P4 ?_ J (G.put k rz) M),rz,q4 L⟩
  .obtain⟨_,av⟩:=M.dictAt;obtain⟨o,es,U,_⟩:=id av;exact⟨o,U⟩
  .have:=iI kvs k z;omega
end
end L2
namespace CW
open PySem L2
def cO {G U:Type} {f:G->U}:∀ {l:List G},(l.map f).Nodup->∀ {x y:G},x∈l->y∈l->f x=f y->x=y
 | [],_,_,_,J,_,_=>by cases J
 | z :: r,h,x,y,J,M,e=>by
  rw[aF0,List.nodup_cons]at h;rcases aFe.mp J with ex | hx'
  .rcases aFe.mp M with L | hy'
   .rw[ex,L]
   .exact absurd (aFg.mpr ⟨y,hy',by rw[<- e,ex]⟩) h.1
  .rcases aFe.mp M with L | hy'
   .exact absurd (aFg.mpr ⟨x,hx',by rw[e,L]⟩) h.1
   .exact cO h.2 hx' hy' e
abbrev Grp:=Int×Addr×List Int
def kvG (gs:List Grp):List (Key×V):=gs.map λg=>((Sum.inl g.1:Key),V.ref g.2.1)
structure DG (H:Hp) (d:Addr) (gs:List Grp):Prop where
 at_:H d=some (.dK (kvG gs))
 lst:∀ g∈gs,H g.2.1=some (.lst (g.2.2.map V.int))
 adr:(gs.map (·.2.1)).Nodup
 key:(gs.map (·.1)).Nodup
def aAa (d:Addr) (H H':Hp):Prop:=∀ b o,b≠d->H b=some o->H' b=some o
def wgt (f:Int->Int) (gs:List Grp):Int:=(gs.map λg=>f g.1 * (g.2.2.length:Int)).sum
def tot (f:Int->Int) (ps:List (Int×Int)):Int:=(ps.map λp=>f p.1).sum
def eC (k:Int):∀ gs:List Grp,dJ (kvG gs) (Sum.inl k:Key)=(gs.find? λg=>decide (g.1=k)).map λg=>V.ref g.2.1
 | []=>rfl
 | g :: r=>by
  by_cases h:g.1=k
  .have:dJ (kvG (g :: r)) (Sum.inl k:Key)=some (V.ref g.2.1):=dH (p:=((Sum.inl g.1:Key),V.ref g.2.1)) (by rw[h]);rw[this,lm,aFX h];rfl
  .have:dJ (kvG (g :: r)) (Sum.inl k:Key)=dJ (kvG r) (Sum.inl k:Key):=dI (p:=((Sum.inl g.1:Key),V.ref g.2.1)) (λz=>h (qp z));rw[this,lm,aFW h];exact eC k r
def hW (k o:Int) (gs:List Grp):List Grp:=gs.map λg=>if g.1=k then (g.1,g.2.1,g.2.2++[o])else g
def D1 (k o:Int) (gs:List Grp):kvG (hW k o gs)=kvG gs:=by
 unfold kvG hW;rw[aF5];refine jp λg _=>?_;simp only[Function.comp];split <;> rfl
def D2 (k o:Int) (gs:List Grp):(hW k o gs).map (·.2.1)=gs.map (·.2.1):=by
 unfold hW;rw[aF5];refine jp λg _=>?_;simp only[Function.comp];split <;> rfl
def D3 (k o:Int) (gs:List Grp):(hW k o gs).map (·.1)=gs.map (·.1):=by
 unfold hW;rw[aF5];refine jp λg _=>?_;simp only[Function.comp];split <;> rfl
def aAb (k o:Int) (gs:List Grp):(hW k o gs).length=gs.length:=by simp[hW]
def wL {k o:Int}:∀ {gs:List Grp},(∀ g∈gs,g.1≠k)->hW k o gs=gs
 | [],_=>rfl
 | g :: r,h=>by
  have h1:=h g aFD;unfold hW;rw[aF0,bB h1]
  congr 1
  exact wL λx z=>h x (aFE _ z)
def gM (j k:Int):Int:=if k<j then k else j
end CW
namespace L2
open PySem PySem.Spec PyProof.Rows
def Inv.thaw {X:Cx} {pins:List (Addr×Obj)} {σ:St} {H:Hp} {s:Shared} {d:Addr} {od:Obj} {kvs:List (Key×V)} (I:Inv X pins σ H s) (e:H d=some (.frz od (.dK kvs))) (h0:∀ o u,X.H₀ d≠some (.frz o u)):Inv X pins σ (upd H d (.dK kvs)) s:=by
 obtain⟨ho,hok⟩:=I.hok d _ e;have ne:∀ b u,H b=some u->(∀ o v,u≠.frz o v)->b≠d:=λb u q n z=>by rw[z,e]at q;cases q;exact n _ _ rfl
 have G:∀ b,H b=none->b≠d:=λb q z=>by rw[z,e]at q;cases q
 have J:∀ b u,H b=some u->(∀ o v,u≠.frz o v)->upd H d (.dK kvs) b=some u:=λb u q n=>by rw[aE (ne b u q n)];exact q
 refine⟨I.ok,I.os,I.bare,⟨I.base.keep,I.base.slot,λb o q n x=>?_,I.base.there,λb xs q=>J b _ (I.base.tups b xs q) (λ_ _ z=>by cases z),λb o u q=>?_,λb ps q=>?_⟩,I.loc,I.cell,?_,λx c q=>?_,λp q=>?_,λb u q=>?_,I.len⟩
 .rw[aE (G b (I.base.free b o q n x))];exact I.base.free b o q n x
 .have L:b≠d:=λz=>by rw[z]at q;exact h0 _ _ q
  rw[aE L];exact I.base.frzs b o u q
 .obtain⟨more,M⟩:=I.base.tbls b ps q;exact⟨more,J b _ M (λ_ _ z=>by cases z)⟩
 .rw[aE (G _ I.free)];exact I.free
 .rw[aE (G _ (I.freeC x c q))];exact I.freeC x c q
 .obtain⟨M,n,U,Y,dd⟩:=I.pin p q;exact⟨M,by rw[aE (G _ n)];exact n,U,Y,dd⟩
 .by_cases L:b=d
  .subst L;rw[aD]at q;cases q;exact hok
  .rw[aE L]at q;exact(I.hok b u q).stay (λ_ _ _ z=>z) (λc z=>J c _ z λ_ _ z=>by cases z) λc xs z=>J c _ z λ_ _ z=>by cases z
def aEI (t:TE):TE:=fun σ H Q=>∃ d kvs,H d=some (.dK kvs)/\t σ H λv H'=>∃ od,H' d=some (.frz od (.dK kvs))/\Q v (upd H' d (.dK kvs))
def W9 {X:Cx} {e:Expr} {t:TE} (h:PE X e t):PE X e (aEI t):=by
 intro pins s σ H Q I q;obtain⟨d,kvs,hd,q⟩:=q;have h0:∀ o u,X.H₀ d≠some (.frz o u):=λo u z=>by
  have:=I.base.frzs d o u z;rw[hd]at this;cases this
 exact thn (h pins s σ H _ I q) λu U ⟨v,H1,G,J,od,L,M⟩=>⟨v,_,G.thaw L h0,J,M⟩
open PySem.W
def yH {P:Program} {w:World} {ks:List Int} {vs:List Value} (z:vs.length=ks.length) (h:∀ (j:Nat) (v:Value),vs[j]?=some v->∃ k,ks[j]?=some k/\(bI P w).is (Sum.inl k) v=true):IntsAre vs ks:=by
 induction vs generalizing ks with
 | nil=>cases ks with
  | nil=>exact .nil
  | cons _ _=>cases z
 | cons v r J=>cases ks with
  | nil=>cases z
  | cons k ks =>
   obtain⟨L,h1,h2⟩:=h 0 v rfl;cases h1;rw[mW]at h2;rcases cH h2 with ⟨i,t,e1,G⟩ | ⟨x,t,e1,G⟩
   .cases e1;subst G;exact .cons _ _ (J (by simpa using z) λj v e=>h (j+1) v e)
   .cases e1
def kF (kvs:List (Key×V)) (ks:List Int):Prop:=kvs.map Prod.fst=ks.map Sum.inl
section
variable {X:Cx}
def gN (hc:X.calm=true):gY X (.builtin "sorted") (λxs H Q=>∃ (a:Addr) (kvs:List (Key×V)) (ks:List Int),xs=[.ref a]/\H a=some (.dK kvs)/\kF kvs ks/\ks.length<64 /\
 ∀ (l:Addr) (ms:List Int),H l=none->ms.Perm ks->ms.Pairwise (·<=·)->Q (.ref l) (upd H l (.lst (ms.map V.int)))):=by
 intro pins s σ H xs us Q I r h;obtain⟨a,kvs,ks,rfl,ha,hk,bh,q⟩:=h;obtain⟨u,rfl,rx⟩:=kJ r;cases rx;obtain⟨z,U,vs,M,dd⟩:=qR I.hok ha;obtain⟨ep,bb⟩:=id dd.dictAt;have hlen:vs.length=ks.length:=by
  have e1:=M.length;have e2:=congrArg List.length hk;simp at e2;omega
 have Y:vs.length<=sizeLine:=jf (show vs.length<=64 by omega) (by decide);refine ue kind_sorted plain_sorted entry_sorted (args_sorted1 _) ?_;unfold Builtin.«sorted»;refine aEz (m:=checkCount "sorted" 1 1 _) (aFA ?_);refine aEz (kdu_collect (A:=X.A.in1) (kdl_dict (knd:=bI X.prog X.w) (kvs:=vs) (ep:=ep) U) (I.ok.hd hc) bb Y λh' tk G bc J=>?_);have hl:G.toList.length=vs.length:=by rw[qd];exact J.1
 have hI:IntsAre G.toList ks:=yH (P:=X.prog) (w:=X.w) (by omega) λj v e=>by
  obtain⟨k,x,h1,h2⟩:=J.2 j v (by rw[<- vp];exact e);have hj:j<vs.length:=(aFd.mp h1).1;have h3:(kvs.map Prod.fst)[j]?=some k:=by
   have av:j<kvs.length:=by rw[M.length];exact hj
   obtain⟨u,e1,e2⟩:=W7 M (i:=j) (k:=(kvs[j]).1) (x:=(kvs[j]).2) (aFL av);rw[h1]at e1;cases e1;simp[av]
  rw[hk,aFZ]at h3;obtain⟨n,h4,h5⟩:=aFc.mp h3;subst h5;exact⟨n,h4,h2⟩
 refine aEz (sf ?_ (by omega));have e0:(h'.push (seqObj "list" G.toList.toArray 0)).get? h'.objs.size=some (seqObj "list" G.toList.toArray 0):=aFI _ rfl;have kp:∀ b o,h'.get? b=some o->(h'.push (seqObj "list" G.toList.toArray 0)).get? b=some o:=λb o e=>aFC _ e;have I':=I.kept (t':=tk) bc;have aw:h'.objs.size<(h'.push (seqObj "list" G.toList.toArray 0)).objs.size:=by rw[size_push'];exact lu _
 have L:(h'.push (seqObj "list" G.toList.toArray 0)).objs.size=h'.objs.size+1:=size_push' ..;show wpAny _ _ _ _ _ { s with heap:=h'.push (seqObj "list" G.toList.toArray 0),toks:=tk };generalize h'.push (seqObj "list" G.toList.toArray 0)=h2 at e0 kp aw L;refine aEz (jn (rh slot_list_sort ⟨_,e0,rfl⟩ vx (list_sort_tree (s:={ s with heap:=h2,toks:=tk }) e0 hI (by omega) λout a_ bf hp hs=>⟨_,rfl,?_⟩) (args_list_sort _)));obtain⟨n0,bg⟩:=sortedHeap_at (out:=out) e0;have hn:H h'.objs.size=none:=I'.hok.fresh (ah _);refine aFA ⟨_,rfl,.ref h'.objs.size,_,I'.laid (t':=tk) (o:=.lst (a_.map V.int)) (λb o e=>?_) (ah _) ⟨?_,out.toList,n0,pG bf,bg⟩,rfl,q _ a_ hn hp hs⟩
 .have hb:=aFH e;have ba:b<h'.objs.size:=hb;exact(sortedHeap_old (aFY ba) (by show b<h2.objs.size;rw[L];exact ly ba)).trans (kp b o e)
 .rw[aFB,hp.length_eq];exact jf (show ks.length<=64 by omega) (by decide)
end
end L2
namespace L2
open PySem PySem.Spec PyProof.Rows
def Itw (d:Addr) (od:Obj) (kvs:List (Key×V)):It :=
 ⟨λi H=>H d=some (.frz od (.dK kvs))/\i<kvs.length,λi H v H'=>H'=H/\∃ k,kvs[i]?=some (k,v),λi H=>H d=some (.frz od (.dK kvs))/\kvs.length<=i⟩
def D4 {P:Program} {w:World} {K:PySem.W.Frag} {tg:Expr} (d it:Addr) (od:Obj) (kvs:List (Key×V)) (vs:List (Key×Value)) (ep:Nat) (rel:KV kvs vs) (hat:∀ h:Heap,h.get? d=some od->h.DictAt (bI P w) d vs ep) (hne:d≠it) :
 sE P w K tg (Itw d od kvs) [it] it (λi h=>h.IsValIter it d i vs.length ep) where
 mem:=by simp
 obj:=λi h st b hb=>by
  obtain⟨o,he,hc,hd⟩:=st;have z:b=it:=by simpa using hb
  subst z;exact⟨o,he,λv z=>by rw[hd]at z;cases z⟩
 keep:=λi h h' st k=>let ⟨o,he,r⟩:=st;⟨o,k it (by simp) _ he,r⟩
 item:=by
  intro X hP hw hK hc i pins s σ H E I hf st hg;subst hP hw hK;obtain⟨hd,hi⟩:=hg;obtain⟨⟨k,x⟩,hx⟩:∃ p,kvs[i]?=some p:=⟨kvs[i],by simp[hi]⟩;obtain⟨u,hu,ru⟩:=W7 rel hx;have hod:s.heap.get? d=some od:=(I.hok d _ hd).1;refine wpAny_pyNext_values_item st (hat _ hod) hu λh' st' sb=>?_;obtain⟨o,e,c,dd⟩:=id st';exact⟨u,rfl,S9 (s:={ s with heap:=h' }) e c dd (by decide) ⟨x,H,I.turnedF (fp:=[it]) (t':=s.toks) (λb o hb e=>sb.extBut b o (λz=>hb (by simp[z])) e) hf,ru,⟨rfl,k,hx⟩,st',λb hb=>(hf b hb).1⟩⟩
 done:=by
  intro X hP hw hK hc i pins s σ H E I hf st hg;subst hP hw hK;obtain⟨hd,hi⟩:=hg;have hod:s.heap.get? d=some od:=(I.hok d _ hd).1;have hl:=rel.length;exact wpAny_pyNext_values_end (I.ok.hd hc) st (hat _ hod) (by simp;omega) λh' eb=>⟨rfl,I.turnedF (fp:=[it]) (t':=s.toks) (λb o hb e=>eb b o (λz=>hb (by simp[z])) e) hf⟩
 self:=λ_ _ _ _ _ st h=>wpAny_pyIter_valiter st h
def aBx (td:TE):TI:=fun σ H R=>td σ H λx H1=>∃ d kvs,x=.ref d/\H1 d=some (.dK kvs)/\∀ od,R (Itw d od kvs) (upd H1 d (.frz od (.dK kvs)))
def m6 {X:Cx} {tg:Expr} {o:Expr} {td:TE} {apos pos:Pos} (ho:PE X o td) (L:attributeBase o "values" X.env (eval o X.env)=eval o X.env:=by rfl) (M:(apos.endLine == pos.line)=true:=by rfl) :
 PI X tg (.Call (.Attribute o "values" apos) [] [] pos) (aBx td):=by
 intro pins s σ H R I h;refine qj L M (thn (ho pins s σ H _ I h) λu G ⟨x,H1,I1,rx,d,kvs,ex,hd,q⟩=>?_);subst ex;obtain rfl:u=Value.ref d:=rx;obtain⟨z,av,vs,aw,dd⟩:=qR I1.hok hd;obtain⟨ep,a_⟩:=id dd.dictAt;obtain⟨od,U,I2⟩:=I1.freezeD hd;obtain⟨t1,t2,_⟩:=yG I1 (.inl ⟨kvs,.inl hd⟩);refine⟨"dict","dict.values",oq,uo,PySem.F.type_dict_values,t1,t2,kz rfl (sj ?_)⟩;refine r4 uo dd.typeIs PySem.F.entry_dict_values (PySem.F.args_dict_values_1 _) (meets_dict_values (bI X.prog X.w) d av) ⟨⟨vs,dd⟩,?_⟩;have hv:(G.heap.push { cls:=.type "dict_values",data:=.fields #[.ref d] }).IsValuesView G.heap.objs.size d:=⟨_,aFI _ rfl,rfl,rfl⟩;have h1:(G.heap.push { cls:=.type "dict_values",data:=.fields #[.ref d] }).get? d=some od:=aFC _ U;have J:∀ h:Heap,h.get? d=some od->h.DictAt (bI X.prog X.w) d vs ep:=λh e=>a_.at λo q=>by rw[U]at q;cases q;exact e
 refine wpAny_pyIter_values hv (J _ h1) ?_;generalize ba:({ cls:=.type "dict_valueiterator",data:=.fields #[.ref d,.int 0 0,.int vs.length 0,.int ep 0] }:Obj)=ob;have kp:∀ b o,G.heap.get? b=some o->((G.heap.push { cls:=.type "dict_values",data:=.fields #[.ref d] }).push ob).get? b=some o:=λb o e=>aFC _ (aFC _ e);have hsz:(G.heap.push { cls:=.type "dict_values",data:=.fields #[.ref d] }).objs.size=G.heap.objs.size+1:=ka ..;have I3:=I2.kept (t':=G.toks) kp;have Y:G.heap.objs.size<=(G.heap.push { cls:=.type "dict_values",data:=.fields #[.ref d] }).objs.size:=by rw[hsz];exact sk _
 have bb:d≠(G.heap.push { cls:=.type "dict_values",data:=.fields #[.ref d] }).objs.size:=λz=>by
  have:=aFH U;rw[z]at this;exact absurd this (Nat.not_lt.mpr Y)
 refine⟨_,[_],_,_,_,rfl,I3,D4 d _ od kvs vs ep aw J bb,?_,λb hb=>?_,q od⟩
 .rw[<- ba];exact⟨_,aFI _ rfl,rfl,rfl⟩
 .have z:b=(G.heap.push { cls:=.type "dict_values",data:=.fields #[.ref d] }).objs.size:=by simpa using hb
  rw[z];exact I2.fpOk Y (I2.hok.fresh Y)
def D5 {d:Addr} {od:Obj} {kvs:List (Key×V)} {z:St} {g:TG} {tt:TT} {te:TE} {H:Hp} {Q:VK} (Pv:Nat->List V->Hp->Prop) (h0:Pv 0 [] H) (M:∀ i ys H,i<=kvs.length->Pv i ys H->H d=some (.frz od (.dK kvs))/\ys.length<sizeLine)
 (U:∀ i k x ys H,kvs[i]?=some (k,x)->Pv i ys H->g x z H λG H2=>tt G H2 λb L=>if b=true then te G L λy Y=>Pv (i+1) (ys++[y]) Y else Pv (i+1) ys L) (hd:∀ ys H,Pv kvs.length ys H->∀ D,H D=none->Q (.ref D) (upd H D (.lst ys))) :
 sP (Itw d od kvs) z g tt te Q H:=by
 refine⟨λi m ys H=>m=kvs.length - i/\i<=kvs.length/\Pv i ys H,⟨kvs.length,by simp,jr _,h0⟩,?_⟩;rintro i m ys H ⟨rfl,hi,p⟩;obtain⟨q,hz⟩:=M i ys H hi p;refine⟨hz,?_⟩
 by_cases J:i<kvs.length
 .refine .inr ⟨⟨q,J⟩,Pv (i+1),λav H' p'=>⟨kvs.length - (i+1),by omega,rfl,J,p'⟩,λx H' y=>?_⟩;obtain⟨rfl,k,hx⟩:=y;exact U i k x ys _ hx p
 .have e:i=kvs.length:=by omega
  subst e;exact .inl ⟨⟨q,ah _⟩,hd ys H p⟩
end L2
namespace CW
open PySem L2
def aAc (d:Addr) (gs:List Grp) (H H':Hp):Prop:=∀ b o,b≠d->(∀ g∈gs,b≠g.2.1)->H b=some o->H' b=some o
def pops (k:Int) (gs:List Grp):List Grp:=gs.map λg=>if g.1=k then (g.1,g.2.1,g.2.2.dropLast)else g
def outs (k:Int) (gs:List Grp):List Grp:=gs.filter λg=>decide (g.1≠k)
def aAd (k:Int) (gs:List Grp):kvG (pops k gs)=kvG gs:=by
 unfold kvG pops;rw[aF5];refine jp λg _=>?_;simp only[Function.comp];split <;> rfl
def aAe (k:Int) (gs:List Grp):(pops k gs).map (·.2.1)=gs.map (·.2.1):=by
 unfold pops;rw[aF5];refine jp λg _=>?_;simp only[Function.comp];split <;> rfl
def lD (k:Int) (gs:List Grp):(pops k gs).map (·.1)=gs.map (·.1):=by
 unfold pops;rw[aF5];refine jp λg _=>?_;simp only[Function.comp];split <;> rfl
def oN {k:Int} {gs:List Grp} {g':Grp} (h:g'∈pops k gs):∃ g∈gs,g'.2.1=g.2.1/\g'.1=g.1/\g'.2.2=if g.1=k then g.2.2.dropLast else g.2.2:=by
 obtain⟨g,G,rfl⟩:=aFg.mp h;refine⟨g,G,?_⟩
 by_cases z:g.1=k
 .rw[da z,da z];exact⟨rfl,rfl,rfl⟩
 .rw[bB z,bB z];exact⟨rfl,rfl,rfl⟩
def DG.pops {H:Hp} {d:Addr} {gs:List Grp} (G:DG H d gs) {g:Grp} (L:g∈gs):DG (upd H g.2.1 (.lst (g.2.2.dropLast.map V.int))) d (pops g.1 gs):=by
 have M:d≠g.2.1:=kC G.at_ (G.lst g L) (by intro z;cases z);refine⟨by rw[aAd,aE M];exact G.at_,λg' U=>?_,by rw[aAe];exact G.adr,by rw[lD];exact G.key⟩;obtain⟨J,h0,e1,e2,e3⟩:=oN U;rw[e1,e3]
 by_cases Y:J.2.1=g.2.1
 .have:J=g:=cO (f:=λg:Grp=>g.2.1) G.adr h0 L Y;subst this;rw[aD,da rfl]
 .have hk:J.1≠g.1:=λe=>Y (by rw[cO (f:=λg:Grp=>g.1) G.key h0 L e]);rw[aE Y,bB hk];exact G.lst J h0
def aAf (k:Int):∀ gs:List Grp,qQ (kvG gs) (Sum.inl k:Key)=kvG (outs k gs):=by
 intro gs;unfold qQ kvG outs;rw[List.filter_map]
 congr 1
 refine List.filter_congr λg _=>?_;simp only[Function.comp,ne_eq,Sum.inl.injEq]
def DG.outs {H:Hp} {d:Addr} {gs:List Grp} (G:DG H d gs) (k:Int):DG (upd H d (.dK (qQ (kvG gs) (Sum.inl k:Key)))) d (outs k gs):=by
 refine⟨by rw[aD,aAf],λg L=>?_,?_,?_⟩
 .have J:=(aFh.mp L).1;rw[aE (kC (G.lst g J) G.at_ (by intro z;cases z))];exact G.lst g J
 .exact G.adr.sublist (List.filter_sublist.map _)
 .exact G.key.sublist (List.filter_sublist.map _)
def oO {gs:List Grp} {g:Grp} (G:(gs.map (·.1)).Nodup) (z:g∈gs):gs.find? (λx=>decide (x.1=g.1))=some g:=by
 cases h:gs.find? (λx=>decide (x.1=g.1))with
 | none=>exact absurd (List.find?_eq_none.mp h g z) (by simp)
 | some x =>
  have h1:=jt h;have h2:x.1=g.1:=by simpa using sv h
  rw[cO (f:=λg:Grp=>g.1) G h1 z h2]
def DG.get {H:Hp} {d:Addr} {gs:List Grp} (z:DG H d gs) {g:Grp} (G:g∈gs):DGet H d (.int g.1) (some (.ref g.2.1)):=by
 have h:=DGet.k (k:=(Sum.inl g.1:Key)) z.at_;rw[eC,oO z.key G]at h;exact h
def shr (k:Int) (gs:List Grp):List Grp:=if (pops k gs).any (λg=>decide (g.1=k) && g.2.2.isEmpty)then outs k (pops k gs)else pops k gs
section
variable {P:Program} {w:World} {K:PySem.W.Frag} {mg:Str->Option Value} {base:Heap}
inductive tM (vs:List V) (H:Hp) (Q:VK) (E_:XK):Prop
 | mk (d:Addr) (gs:List Grp) (j:Int) (h0_:vs=[.ref d,.int j]) (h1_:DG H d gs) (h2_:gs.length<=60) (h3_:(∀ g∈gs,g.2.2.length<=60)) (h4_:∀ H',Same H H'->Q (.int (2 * wgt (gM j) gs)) H'):tM vs H Q E_
inductive nC (vs:List V) (H:Hp) (Q:VK) (E_:XK):Prop
 | mk (d:Addr) (gs:List Grp) (g:Grp) (h0_:vs=[.ref d,.int g.1]) (h1_:DG H d gs) (h2_:g∈gs) (h3_:g.2.2≠[]) (h4_:∀ H',aAc d gs H H'->DG H' d (shr g.1 gs)->Q .non H'):nC vs H Q E_
end
def GoodG (gs:List Grp):Prop:=∀ g∈gs,1<=g.1/\g.2.2≠[]
def sto (gs:List Grp):Int:=wgt (λk=>k) gs
def cQ (f:Int->Int) (g:Grp) (r:List Grp):wgt f (g :: r)=f g.1 * (g.2.2.length:Int)+wgt f r:=by simp[wgt]
def GoodG.tail {g:Grp} {r:List Grp} (h:GoodG (g :: r)):GoodG r:=λx z=>h x (aFE _ z)
def GoodG.one {g:Grp} {r:List Grp} (h:GoodG (g :: r)):(g.2.2.length:Int)<=g.1 * (g.2.2.length:Int)/\1<=(g.2.2.length:Int):=by
 obtain⟨h1,h2⟩:=h g aFD;have h3:0<g.2.2.length:=List.length_pos_iff.mpr h2;refine⟨?_,by omega⟩;have:=Int.mul_le_mul_of_nonneg_right h1 (show (0:Int)<=(g.2.2.length:Int)by omega);omega
def GoodG.bound:∀ {gs:List Grp},GoodG gs->(gs.length:Int)<=sto gs/\∀ g∈gs,(g.2.2.length:Int)<=sto gs
 | [],_=>⟨nu _,λg z=>(nomatch z)⟩
 | g :: r,h=>by
  obtain⟨a,b⟩:=GoodG.bound h.tail;obtain⟨c,d⟩:=h.one;unfold sto at a b ⊢;rw[cQ];refine⟨by simp only[aF4];omega,λx hx=>?_⟩;rcases aFe.mp hx with e | hx
  .rw[e];omega
  .have:=b x hx;omega
def pQ {k:Int}:∀ {gs:List Grp},(∀ g∈gs,g.1≠k)->pops k gs=gs
 | [],_=>rfl
 | g :: r,h=>by
  have h1:=h g aFD;show (if g.1=k then (g.1,g.2.1,g.2.2.dropLast)else g) :: pops k r=g :: r;rw[bB h1,pQ λx z=>h x (aFE _ z)]
def tN (f:Int->Int):∀ {gs:List Grp},(gs.map (·.1)).Nodup->∀ {g:Grp},g∈gs->g.2.2≠[]->wgt f (pops g.1 gs)=wgt f gs - f g.1
 | [],_,g,J,_=>by cases J
 | x :: r,M,g,J,z=>by
  have G:=List.nodup_cons.mp M;have U:pops g.1 (x :: r)=(if x.1=g.1 then (x.1,x.2.1,x.2.2.dropLast)else x) :: pops g.1 r:=rfl;rw[U]
  by_cases h:x.1=g.1
  .have Y:x=g:=cO (f:=λg:Grp=>g.1) M aFD J h;subst Y;rw[da rfl,pQ λy hy e=>G.1 (aFg.mpr ⟨y,hy,e⟩),cQ,cQ];have h3:0<x.2.2.length:=List.length_pos_iff.mpr z;have h4:((x.2.2.dropLast.length:Nat):Int)=(x.2.2.length:Int) - 1:=by rw[wd];omega
   simp only[h4,Int.mul_sub,xi];omega
  .have L:g∈r:=by
    rcases aFe.mp J with e | e
    .exact absurd (by rw[e]) h
    .exact e
   rw[bB h,cQ,cQ,tN f G.2 L z];omega
def D6 (f:Int->Int) {k:Int}:∀ {gs:List Grp},(∀ g∈gs,g.1=k->g.2.2=[])->wgt f (outs k gs)=wgt f gs
 | [],_=>rfl
 | g :: r,h=>by
  have z:=D6 f (k:=k) (gs:=r) λx G=>h x (aFE _ G);unfold outs at z ⊢;rw[ot,cQ]
  by_cases e:g.1=k
  .have:=h g aFD e;rw[bB (by simp[e]),z,this];simp
  .rw[da (by simp[e]),cQ,z]
def aBy (f:Int->Int) {gs:List Grp} (G:(gs.map (·.1)).Nodup) {g:Grp} (L:g∈gs) (z:g.2.2≠[]):wgt f (shr g.1 gs)=wgt f gs - f g.1:=by
 unfold shr;split
 .next h =>
  obtain⟨x,M,J⟩:=List.any_eq_true.mp h;simp only[jl,oj,List.isEmpty_iff]at J;rw[D6 f λy U e=>?_,tN f G L z];have:y=x:=cO (f:=λg:Grp=>g.1) (by rw[lD];exact G) U M (e.trans J.1.symm);rw[this];exact J.2
 .exact tN f G L z
def GoodG.shr {gs:List Grp} (h:GoodG gs) (k:Int):GoodG (shr k gs):=by
 have G:∀ x∈pops k gs,1<=x.1/\(x.1≠k->x.2.2≠[]):=λx z=>by
  obtain⟨g,M,e1,J,U⟩:=oN z;obtain⟨h1,h2⟩:=h g M;refine⟨by rw[J];exact h1,λn=>?_⟩;rw[U,bB (by rw[<- J];exact n)];exact h2
 intro x z;unfold CW.shr at z;split at z
 .obtain⟨h1,h2⟩:=aFh.mp z;exact⟨(G x h1).1,(G x h1).2 (by simpa using h2)⟩
 .next Y =>
  refine⟨(G x z).1,λe=>?_⟩
  by_cases L:x.1=k
  .exact Y (List.any_eq_true.mpr ⟨x,z,by simp[L,e]⟩)
  .exact(G x z).2 L e
def aBz {gs:List Grp} {k:Int} {x:Grp} (z:x∈shr k gs):∃ g∈gs,x.2.1=g.2.1:=by
 unfold shr at z;have G:x∈pops k gs:=by
  split at z
  .exact(aFh.mp z).1
  .exact z
 obtain⟨g,J,e1,_⟩:=oN G;exact⟨g,J,e1⟩
def D7 (H:Hp) (k o:Int) (gs G:List Grp):Prop:=(∃ g∈gs,g.1=k)/\G=hW k o gs\/(∀ g∈gs,g.1≠k)/\∃ z,H z=none/\G=gs++[(k,z,[o])]
def GoodG.puts {H:Hp} {k o:Int} {gs G:List Grp} (g:GoodG gs) (L:1<=k) (h:D7 H k o gs G):GoodG G:=by
 rcases h with ⟨M,rfl⟩ | ⟨_,z,_,rfl⟩
 .intro x hx;obtain⟨J,h0,rfl⟩:=aFg.mp hx;obtain⟨h1,h2⟩:=g J h0
  by_cases e:J.1=k
  .rw[da e];exact⟨h1,by simp⟩
  .rw[bB e];exact⟨h1,h2⟩
 .intro x hx;rcases aFf.mp hx with hx | hx
  .exact g x hx
  .rw[aF7.mp hx];exact⟨L,by simp⟩
def aAg {H:Hp} {k o:Int} {gs G:List Grp} (h:D7 H k o gs G) {x:Grp} (hx:x∈G):(∃ g∈gs,x.2.1=g.2.1)\/H x.2.1=none:=by
 rcases h with ⟨L,rfl⟩ | ⟨_,z,hz,rfl⟩
 .obtain⟨J,h0,rfl⟩:=aFg.mp hx;refine .inl ⟨J,h0,?_⟩;split <;> rfl
 .rcases aFf.mp hx with hx | hx
  .exact .inl ⟨x,hx,rfl⟩
  .rw[aF7.mp hx];exact .inr hz
end CW
namespace CW
abbrev Trs:=List (Int×Int)
def les (ps:Trs) (j:Int):Int:=(ps.map λq=>min j q.1).sum
def oP (q:Int×Int) (ps:Trs) (j:Int):les (q :: ps) j=min j q.1+les ps j:=by simp[les]
def hX {ps z:Trs} (h:ps.Perm z) (j:Int):les ps j=les z j:=by
 unfold les
 induction h with
 | nil=>rfl
 | cons x _ G=>simp only[aF0,aF3];omega
 | swap x y l=>simp only[aF0,aF3];omega
 | trans _ _ h1 h2=>exact h1.trans h2
def Bd (ps:Trs) (n:Int):Prop:=∀ q∈ps,1<=q.1/\q.2+2 * les ps q.1<=n
def Bd.mono {ps:Trs} {n m:Int} (h:Bd ps n) (e:n<=m):Bd ps m:=λq z=>⟨(h q z).1,Int.le_trans (h q z).2 e⟩
def Add (ps:Trs) (p:Int) (z:Trs):Prop:=∃ (s:Int) (rest:Trs),0<=s/\(s=0/\ps.Perm rest\/1<=s/\ps.Perm ((s,p - 1 - 2 * les ps s) :: rest))/\(∀ q∈ps,s<q.1->q.2+2 * les ps q.1≠p - 1)/\z.Perm ((s+1,p - 2 * les rest (s+1) - 2 * (s+1)) :: rest)
def Add.perm {ps z J G:Trs} {p:Int} (h:Add ps p J) (e:ps.Perm z) (f:J.Perm G):Add z p G:=by
 obtain⟨s,rest,h0,h1,h2,h3⟩:=h;refine⟨s,rest,h0,?_,λq L M=>?_,f.symm.trans h3⟩
 .rcases h1 with ⟨a,b⟩ | ⟨a,b⟩
  .exact .inl ⟨a,e.symm.trans b⟩
  .refine .inr ⟨a,?_⟩;rw[<- hX e];exact e.symm.trans b
 .rw[<- hX e];exact h2 q (e.mem_iff.mpr L) M
def Add.bd {ps z:Trs} {p:Int} (h:Add ps p z) (b:Bd ps (p - 1)):Bd z p:=by
 obtain⟨s,rest,h0,h1,h2,h3⟩:=h;have L:∀ j,1<=j->les z j=les ps j+if s<j then 1 else 0:=λj hj=>by
  rw[hX h3,oP];rcases h1 with ⟨a,b⟩ | ⟨a,b⟩
  .rw[hX b];simp only;split <;> omega
  .rw[hX b,oP];simp only;split <;> omega
 intro q hq;rcases aFe.mp (h3.mem_iff.mp hq)with rfl | hq
 .refine⟨show 1<=s+1 by omega,?_⟩;have:les z (s+1)=s+1+les rest (s+1):=by
   rw[hX h3,oP];simp only;omega
  show (p - 2 * les rest (s+1) - 2 * (s+1))+2 * les z (s+1)<=p;omega
 .have G:q∈ps:=by
   rcases h1 with ⟨_,e⟩ | ⟨_,e⟩
   .exact e.mem_iff.mpr hq
   .exact e.mem_iff.mpr (aFE _ hq)
  obtain⟨J,M⟩:=b q G;refine⟨J,?_⟩;have:=h2 q G;rw[L q.1 J];split <;> omega
inductive Lst:List Int->Trs->Prop
 | nil:Lst [] []
 | snoc {r:List Int} {ps:Trs} {p:Int} {qs:Trs}:Lst r ps->(∀ x∈r,x<p)->Add ps p qs->Lst (r++[p]) qs
def Lst.perm {r:List Int} {ps z:Trs} (h:Lst r ps) (e:ps.Perm z):Lst r z:=by
 cases h with
 | nil=>rw[e.symm.eq_nil];exact .nil
 | snoc a b c=>exact .snoc a b (c.perm (.refl _) e)
def Lst.bd {r:List Int} {ps:Trs} (h:Lst r ps) {n:Int}:(∀ x∈r,x<=n)->Bd ps n:=by
 induction h generalizing n with
 | nil=>intro _ q z;cases z
 | snoc a b c G =>
  intro J
  rename_i r ps p U
  have L:p<=n:=J p (by simp);have:=G (n:=p - 1) λx M=>by have:=b x M;omega
  exact(c.bd this).mono L
def siz (ps:Trs):Int:=(ps.map (·.1)).sum
def tQ {ps z:Trs} (h:ps.Perm z):siz ps=siz z:=by
 unfold siz
 induction h with
 | nil=>rfl
 | cons x _ G=>simp only[aF0,aF3];omega
 | swap x y l=>simp only[aF0,aF3];omega
 | trans _ _ h1 h2=>exact h1.trans h2
def tR (q:Int×Int) (ps:Trs):siz (q :: ps)=q.1+siz ps:=by simp[siz]
def Add.sizx {ps z:Trs} {p:Int} (h:Add ps p z):siz z=siz ps+1:=by
 obtain⟨s,rest,h0,h1,h2,h3⟩:=h;rw[tQ h3,tR];rcases h1 with ⟨a,b⟩ | ⟨a,b⟩
 .rw[tQ b];simp only;omega
 .rw[tQ b,tR];simp only;omega
def Lst.sizx {r:List Int} {ps:Trs} (h:Lst r ps):siz ps=(r.length:Int):=by
 induction h with
 | nil=>rfl
 | snoc a b c z=>rw[c.sizx,z];simp
def Lst.pos {r:List Int} {ps:Trs} (h:Lst r ps):∀ q∈ps,1<=q.1:=by
 obtain⟨n,z⟩:∃ n:Int,∀ x∈r,x<=n:=by
  clear h
  induction r with
  | nil=>exact⟨0,λx hx=>(nomatch hx)⟩
  | cons a r G =>
   obtain⟨n,z⟩:=G;refine⟨max a n,λx hx=>?_⟩;rcases aFe.mp hx with rfl | hx
   .omega
   .have:=z x hx;omega
 exact λq J=>(h.bd z q J).1
end CW
namespace CW
open PySem L2
def bO (gs:List Grp):Trs:=gs.flatMap λg=>g.2.2.map λo=>(g.1,o)
def cZ (g:Grp) (r:List Grp):bO (g :: r)=g.2.2.map (λo=>(g.1,o))++bO r:=rfl
def D8 (a b:List Grp):bO (a++b)=bO a++bO b:=by simp[bO]
def tS {gs:List Grp} {q:Int×Int}:q∈bO gs↔∃ g∈gs,g.1=q.1/\q.2∈g.2.2:=by
 unfold bO;rw[List.mem_flatMap]
 constructor
 .rintro ⟨g,z,h⟩;obtain⟨o,G,rfl⟩:=aFg.mp h;exact⟨g,z,rfl,G⟩
 .rintro ⟨g,z,h1,h2⟩;exact⟨g,z,aFg.mpr ⟨q.2,h2,by rw[h1]⟩⟩
def P6 (f:Int->Int) (a b:Trs):tot f (a++b)=tot f a+tot f b:=by simp[tot]
def tT (f:Int->Int):∀ gs:List Grp,wgt f gs=tot f (bO gs)
 | []=>rfl
 | g :: r=>by
  rw[cQ,cZ,P6,tT f r]
  congr 1
  generalize g.2.2=l
  induction l with
  | nil=>simp[tot]
  | cons x l z =>
   have:tot f ((x :: l).map λo=>(g.1,o))=f g.1+tot f (l.map λo=>(g.1,o)):=by simp[tot]
   rw[this,<- z,aF4,show ((l.length+1:Nat):Int)=(l.length:Int)+1 by omega,xj,xi];omega
def oQ (j k:Int):gM j k=min j k:=by unfold gM;split <;> omega
def aAh (ps:Trs) (j:Int):tot (gM j) ps=les ps j:=by
 unfold tot les
 congr 1
 exact jp λq _=>oQ j q.1
def X0 (gs:List Grp) (j:Int):wgt (gM j) gs=les (bO gs) j:=by rw[tT,aAh]
def yI (gs:List Grp):sto gs=siz (bO gs):=tT _ gs
def wM {k o:Int}:∀ {gs:List Grp},(gs.map (·.1)).Nodup->(∃ g∈gs,g.1=k)->(bO (hW k o gs)).Perm ((k,o) :: bO gs)
 | [],_,⟨g,h,_⟩=>by cases h
 | g :: r,J,hex=>by
  have z:=List.nodup_cons.mp J
  by_cases h:g.1=k
  .have L:hW k o r=r:=wL λx hx e=>z.1 (aFg.mpr ⟨x,hx,e.trans h.symm⟩);have:hW k o (g :: r)=(g.1,g.2.1,g.2.2++[o]) :: r:=by
    show (if g.1=k then (g.1,g.2.1,g.2.2++[o])else g) :: hW k o r=_;rw[da h,L]
   rw[this,cZ,cZ];simp only[aFQ,aF0,qy,jq,h];exact rk
  .have G:∃ g∈r,g.1=k:=by
    obtain⟨x,hx,e⟩:=hex;rcases aFe.mp hx with rfl | hx
    .exact absurd e h
    .exact⟨x,hx,e⟩
   have M:=wM (o:=o) z.2 G;have:hW k o (g :: r)=g :: hW k o r:=by
    show (if g.1=k then (g.1,g.2.1,g.2.2++[o])else g) :: hW k o r=_;rw[bB h]
   rw[this,cZ,cZ];exact(M.append_left _).trans rk
def mE {H:Hp} {k o:Int} {gs G:List Grp} (J:(gs.map (·.1)).Nodup) (h:D7 H k o gs G):(bO G).Perm ((k,o) :: bO gs):=by
 rcases h with ⟨L,rfl⟩ | ⟨_,z,_,rfl⟩
 .exact wM J L
 .rw[D8];exact vy
def pR:∀ {gs:List Grp},(gs.map (·.1)).Nodup->∀ {g:Grp} (_:g∈gs) (z:g.2.2≠[]),(bO gs).Perm ((g.1,g.2.2.getLast z) :: bO (pops g.1 gs))
 | [],_,g,J,_=>by cases J
 | x :: r,M,g,J,z=>by
  have G:=List.nodup_cons.mp M;have U:pops g.1 (x :: r)=(if x.1=g.1 then (x.1,x.2.1,x.2.2.dropLast)else x) :: pops g.1 r:=rfl;rw[U]
  by_cases h:x.1=g.1
  .have Y:x=g:=cO (f:=λg:Grp=>g.1) M aFD J h;subst Y;rw[da rfl,pQ λy hy e=>G.1 (aFg.mpr ⟨y,hy,e⟩),cZ,cZ];have e1:x.2.2.map (λo=>(x.1,o))=x.2.2.dropLast.map (λo=>(x.1,o))++[(x.1,x.2.2.getLast z)]:=by
    conv=>lhs;rw[<- oz z]
    rw[aFQ];rfl
   rw[e1,jq];exact rk
  .have L:g∈r:=by
    rcases aFe.mp J with e | e
    .exact absurd (by rw[e]) h
    .exact e
   rw[bB h,cZ,cZ];exact((pR G.2 L z).append_left _).trans rk
def wN {k:Int}:∀ {gs:List Grp},(∀ g∈gs,g.1=k->g.2.2=[])->bO (outs k gs)=bO gs
 | [],_=>rfl
 | g :: r,h=>by
  have z:=wN (k:=k) (gs:=r) λx G=>h x (aFE _ G);unfold outs at z ⊢;rw[ot,cZ]
  by_cases e:g.1=k
  .have:=h g aFD e;rw[bB (by simp[e]),z,this];rfl
  .rw[da (by simp[e]),cZ,z]
def aAi {gs:List Grp} (G:(gs.map (·.1)).Nodup) {g:Grp} (L:g∈gs) (z:g.2.2≠[]):(bO gs).Perm ((g.1,g.2.2.getLast z) :: bO (shr g.1 gs)):=by
 unfold shr;split
 .next h =>
  obtain⟨x,M,J⟩:=List.any_eq_true.mp h;simp only[jl,oj,List.isEmpty_iff]at J;rw[wN λy U e=>?_]
  .exact pR G L z
  have:y=x:=cO (f:=λg:Grp=>g.1) (by rw[lD];exact G) U M (e.trans J.1.symm);rw[this];exact J.2
 .exact pR G L z
def Asc (gs:List Grp):Prop:=∀ g∈gs,g.2.2.Pairwise (·<=·)
def Asc.last {gs:List Grp} (h:Asc gs) {g:Grp} (L:g∈gs) (z:g.2.2≠[]) {o:Int} (G:o∈g.2.2):o<=g.2.2.getLast z:=by
 have J:=h g L;rw[<- oz z]at G J;rcases aFf.mp G with h1 | h1
 .exact(List.pairwise_append.mp J).2.2 o h1 _ (by simp)
 .rw[aF7.mp h1];exact nu _
def Asc.shr {gs:List Grp} (h:Asc gs) (k:Int):Asc (shr k gs):=by
 have G:Asc (pops k gs):=λx z=>by
  obtain⟨g,J,e1,M,L⟩:=oN z;rw[L];split
  .exact(h g J).sublist (List.dropLast_sublist _)
  .exact h g J
 intro x z;unfold CW.shr at z;split at z
 .exact G x (aFh.mp z).1
 .exact G x z
def Asc.puts {H:Hp} {k o:Int} {gs G:List Grp} (h:Asc gs) (M:D7 H k o gs G) (L:∀ q∈bO gs,q.1=k->q.2<=o):Asc G:=by
 rcases M with ⟨hg,rfl⟩ | ⟨_,z,_,rfl⟩
 .intro x hx;obtain⟨J,h0,rfl⟩:=aFg.mp hx
  by_cases e:J.1=k
  .rw[da e];refine List.pairwise_append.mpr ⟨h J h0,by simp,λa U b Y=>?_⟩;rw[aF7.mp Y];exact L (J.1,a) (tS.mpr ⟨J,h0,rfl,U⟩) e
  .rw[bB e];exact h J h0
 .intro x hx;rcases aFf.mp hx with hx | hx
  .exact h x hx
  .rw[aF7.mp hx];simp
def X1 {gs:List Grp} (k:Int) (h:(gs.map (·.1)).Nodup):((shr k gs).map (·.1)).Nodup:=by
 unfold shr;split
 .exact(show ((pops k gs).map (·.1)).Nodup by rw[lD];exact h).sublist (List.filter_sublist.map _)
 .rw[lD];exact h
def P7 {H:Hp} {gs J:List Grp} {p s:Int} (U:(gs.map (·.1)).Nodup) (gd:GoodG gs) (ac:Asc gs) (bd:Bd (bO gs) (p - 1)) {G:List Grp}
 (Y:s=0/\G=gs\/1<=s/\∃ g∈gs,∃ z:g.2.2≠[],g.1=s/\g.2.2.getLast z=p - 1 - 2 * les (bO gs) s/\G=shr s gs)
 (av:∀ g∈gs,∀ z:g.2.2≠[],s<g.1->g.2.2.getLast z≠p - 1 - 2 * les (bO gs) g.1)
 (hp:D7 H (s+1) (p - 2 * les (bO G) (s+1) - 2 * (s+1)) G J):Add (bO gs) p (bO J)/\Asc J/\GoodG J:=by
 have ha:Add (bO gs) p (bO J):=by
  refine⟨s,bO G,?_,?_,λq hq aw e=>?_,?_⟩
  .rcases Y with h | h <;> omega
  .rcases Y with ⟨h,rfl⟩ | ⟨h,g,M,z,e1,e2,rfl⟩
   .exact .inl ⟨h,.refl _⟩
   .refine .inr ⟨h,?_⟩;have:=aAi U M z;rw[e1,e2]at this;exact this
  .obtain⟨g,M,e1,e2⟩:=tS.mp hq;have z:=(gd g M).2;have h1:=ac.last M z e2;have h2:=(bd (g.1,g.2.2.getLast z) (tS.mpr ⟨g,M,rfl,List.getLast_mem z⟩)).2;simp only at h2;rw[<- e1]at e aw;exact av g M z aw (by omega)
  .have L:(G.map (·.1)).Nodup:=by
    rcases Y with ⟨h,rfl⟩ | ⟨h,g,M,z,e1,e2,rfl⟩
    .exact U
    .exact X1 s U
   exact mE L hp
 have hb:=ha.bd bd;have L:(G.map (·.1)).Nodup/\Asc G/\GoodG G:=by
  rcases Y with ⟨h,rfl⟩ | ⟨h,g,M,z,e1,e2,rfl⟩
  .exact⟨U,ac,gd⟩
  .exact⟨X1 s U,ac.shr s,gd.shr s⟩
 have a_:=mE L.1 hp;refine⟨ha,L.2.1.puts hp λq hq e=>?_,L.2.2.puts (by rcases Y with h | h <;> omega) hp⟩;have h1:=(hb q (a_.mem_iff.mpr (aFE _ hq))).2;rw[hX a_,oP,e]at h1;simp only at h1;omega
def lng (b:Int) (gs:List Grp):Int:=wgt (λk=>if b<k then 1 else 0) gs
def yJ (f h:Int->Int):∀ gs:List Grp,wgt (λk=>f k+h k) gs=wgt f gs+wgt h gs
 | []=>rfl
 | g :: r=>by
  rw[cQ,cQ,cQ,yJ f h r];have:(f g.1+h g.1) * (g.2.2.length:Int)=f g.1 * (g.2.2.length:Int)+h g.1 * (g.2.2.length:Int):=Int.add_mul ..;omega
def X2 (c:Int) (f:Int->Int):∀ gs:List Grp,wgt (λk=>c * f k) gs=c * wgt f gs
 | []=>by simp[wgt]
 | g :: r=>by rw[cQ,cQ,X2 c f r,xj,Int.mul_assoc]
def mF {f h:Int->Int} {gs:List Grp} (e:∀ g∈gs,f g.1=h g.1):wgt f gs=wgt h gs:=by
 unfold wgt
 congr 1
 exact jp λg z=>by rw[e g z]
def tV:∀ gs:List Grp,wgt (λ_=>0) gs=0
 | []=>rfl
 | g :: r=>by rw[cQ,tV r];simp
def P8 {gs:List Grp} {b m:Int} (z:b<=m) (h:∀ g∈gs,b<g.1->m<=g.1):wgt (gM m) gs=wgt (gM b) gs+(m - b) * lng b gs:=by
 unfold lng;rw[<- X2,<- yJ];refine mF λg G=>?_;rw[oQ,oQ];have:=h g G;split
 .have:=this (by assumption);omega
 .omega
def aAj {gs:List Grp} {b m:Int} (M:b<m) (h:∀ g∈gs,b<g.1->m<=g.1) (U:(gs.map (·.1)).Nodup) {g:Grp} (L:g∈gs) (Y:g.1=m):lng m gs=lng b gs - (g.2.2.length:Int):=by
 have h1:lng b gs=lng m gs+wgt (λk=>if k=m then 1 else 0) gs:=by
  unfold lng;rw[<- yJ];refine mF λx J=>?_;have:=h x J
  by_cases c:b<x.1
  .have:=this c;rw[da c]
   by_cases d:x.1=m
   .rw[bB (by omega),da d];omega
   .rw[da (by omega),bB d];omega
  .rw[bB c,bB (by omega),bB (by omega)];omega
 have h2:wgt (λk=>if k=m then 1 else 0) gs=(g.2.2.length:Int):=by
  clear h1 h
  induction gs with
  | nil=>cases L
  | cons x r ih =>
   have G:=List.nodup_cons.mp U;rw[cQ];rcases aFe.mp L with e | e
   .subst e;have:wgt (λk=>if k=m then 1 else 0) r=0:=by
     have:wgt (λk=>if k=m then 1 else 0) r=wgt (λ_=>0) r:=mF λy hy=>bB λz=>G.1 (aFg.mpr ⟨y,hy,by show y.1=g.1;omega⟩);rw[this];exact tV r
    rw[this,da Y];omega
   .have J:x.1≠m:=λz=>G.1 (aFg.mpr ⟨g,e,by show g.1=x.1;omega⟩);rw[bB J,ih G.2 e];omega
 omega
def aAk {gs:List Grp} (z:GoodG gs):lng 0 gs=(gs.map (λg:Grp=>(g.2.2.length:Int))).sum:=by
 unfold lng wgt
 congr 1
 exact jp λg G=>by show (if 0<g.1 then (1:Int)else 0) * _=_;rw[da (by have:=(z g G).1;omega)];omega
def aAl {gs:List Grp} (z:GoodG gs):wgt (gM 0) gs=0:=by
 have:wgt (gM 0) gs=wgt (λ_=>0) gs:=mF λg G=>by rw[oQ];have:=(z g G).1;omega
 rw[this];exact tV gs
end CW
namespace L2
open PySem PySem.Spec PyProof.Rows
def X3 (J:It) (L:St) (g:TG) (tt:TT) (te:TE) (M:List V) (N:List V->Hp->Prop) (H1:Hp):Prop:=∃ W:Nat->Nat->List V->Hp->Prop,(∃ m,W 0 m M H1)/\∀ i m ys H,W i m ys H ->
 ys.length<sizeLine/\((J.stop i H/\N ys H) \/
  (J.go i H/\∃ U:List V->Hp->Prop,(∀ z H',U z H'->∃ Y,Y<m/\W (i+1) Y z H')/\∀ x H',J.yld i H x H'->g x L H' λG H2=>tt G H2 λb H3 =>
   if b=true then te G H3 λy H4=>U (ys++[y]) H4 else U ys H3))
def P9 (J:It) (L:St) (g:TG) (tt:TT) (wi:TI) (g2:TG) (ai:TT) (te:TE) (Q:VK) (H1:Hp):Prop:=∃ W:Nat->Nat->List V->Hp->Prop,(∃ m,W 0 m [] H1)/\∀ i m ys H,W i m ys H ->
 ys.length<sizeLine/\((J.stop i H/\∀ D,H D=none->Q (.ref D) (upd H D (.lst ys))) \/
  (J.go i H/\∃ N:List V->Hp->Prop,(∀ G H',N G H'->∃ M,M<m/\W (i+1) M G H')/\∀ x H',J.yld i H x H'->g x L H' λz H2=>tt z H2 λb U =>
   if b=true then wi z U λY H4=>X3 Y z g2 ai te ys N H4 else N ys U))
def aDU (wi:TI) (nt:Nat) (js:List Nat) (g:TG) (tt:TT) (aq:TI) (g2:TG) (ai:TT) (te:TE):TE:=fun σ H Q=>wi σ H λJ H1=>P9 J (sIn nt js σ) g tt aq g2 ai te Q H1
def GR (lo hi:Nat) (g:TG):Prop:=∀ v σ H Q,g v σ H Q->g v σ H λz H'=>((∀ i,(i<lo\/hi<=i)->z[i]?=σ[i]?)/\z.length=σ.length)/\Q z H'
def aCA {lo hi i:Nat} (h:lo<=i) (h2:i<hi):GR lo hi (qK i):=λv σ H Q q=>⟨⟨λj hj=>by rw[mf (by omega)],by simp⟩,q⟩
def rA (elt t1 i1 t2 i2:Expr) (f1 f2:List Expr) (scope:Scope) (pos:Pos) (it z:Value) (env:Env) :
 compTurn (.ListComp elt [⟨t1,i1,f1,0⟩,⟨t2,i2,f2,0⟩] scope pos) 0 it z env=(do
  standAt i1.pos
  match <- pyNext it with
  | none=>pure (.done .next)
  | some v =>
   letOwnedTupleGo t1 it v
   assign t1 env v
   let mut ok:=true
   for c in f1 do
    if ok then ok <- isTrue c env (eval c env)
   if ok then
    let x <- eval i2 env
    standAt i2.pos
    let x <- foldedSetIterable i2 env x
    let _ <- runOwn (.compStart (.ListComp elt [⟨t1,i1,f1,0⟩,⟨t2,i2,f2,0⟩] scope pos) 1 (<- holding [x] (pyIter x)) z env) env
   again (.compLoop (.ListComp elt [⟨t1,i1,f1,0⟩,⟨t2,i2,f2,0⟩] scope pos) 0 it z env)):=by rfl
def rB (elt t1 i1 t2 i2:Expr) (f1 f2:List Expr) (scope:Scope) (pos:Pos) (it z:Value) (env:Env) :
 compTurn (.ListComp elt [⟨t1,i1,f1,0⟩,⟨t2,i2,f2,0⟩] scope pos) 1 it z env=(do
  standAt i2.pos
  match <- pyNext it with
  | none=>pure (.done .next)
  | some v =>
   letOwnedTupleGo t2 it v
   assign t2 env v
   let mut ok:=true
   for c in f2 do
    if ok then ok <- isTrue c env (eval c env)
   if ok then
    (do let _ <- call (.builtin "list.append") [z,<- eval elt env])
   again (.compLoop (.ListComp elt [⟨t1,i1,f1,0⟩,⟨t2,i2,f2,0⟩] scope pos) 1 it z env)):=by rfl
def jK {prog:Program} {w:World} {A:Around} {R:Result->Shared->Prop} {s:Shared} {elt g1 target iter ifs rest scope pos it z env}
 (h0:codeAny (model prog w) A (.compLoop (.ListComp elt (g1 :: ⟨target,iter,ifs,0⟩ :: rest) scope pos) 1 it z env) R s)
 (h:wpAny (model prog w) A (pyIter it) (λG s'=>codeAny (model prog w) A (.compLoop (.ListComp elt (g1 :: ⟨target,iter,ifs,0⟩ :: rest) scope pos) 1 G z env) R s')
  (notedBy (model prog w) A env λx s'=>R (.error x) s') s) :
 codeAny (model prog w) A (.compStart (.ListComp elt (g1 :: ⟨target,iter,ifs,0⟩ :: rest) scope pos) 1 it z env) R s:=by
 refine vq ?_;show wpAny _ _ ((compStart (.ListComp elt (g1 :: ⟨target,iter,ifs,0⟩ :: rest) scope pos) 1 it z env).onRaise (λx=>do noteFrame x env;standAt theWindowsPlace)) _ _ s;refine wpAny_notedAt ?_;unfold compStart;show wpAny _ _ (ask >>= _) _ _ s;refine aEz (wpAny_askSetting (wpAny_ite ?_));split
 .first
   | exact aEz (aFA (aFA (And.intro rfl h0)))
   | exact aFA (And.intro rfl h0)
 .first
   | exact aEz (qv (aEz (lq (aEz (dt h (λG s' h'=>aFA (And.intro rfl h')) λ_ _ x=>x)))))
   | (refine aEz (qv ?_);show wpAny _ _ (standAt iter.pos >>= _) _ _ s;exact aEz (lq (aEz (dt h (λG s' h'=>aFA (And.intro rfl h')) λ_ _ x=>x))))
def Q0 {X:Cx} {pl:List (Addr×Obj)} {σ:St} {elt t1 i1 tg iter:Expr} {f1 ifs:List Expr} {inn:Scope} {pos:Pos} {g:TG} {tt:TT} {te:TE} {lo hi:Nat} {J:It} {fp:List Addr} {it:Addr} {tn:Nat->Heap->Prop} {H2:Hp} {s2:Shared} {bc:List V} {N:List V->Hp->Prop} {RR:Result->Shared->Prop} {D:Addr}
 (M:X.calm=true) (bf:X.xe=λ_ _=>False) (DX:D∈X.ex) (Dl:D≠X.env.locals) (hpl:∀ p∈X.pn++pl,p.1≠D) (bi:D∉fp)
 (bu:PG X tg g) (hk:GR lo hi g) (bv:PIf X ifs tt) (bw:PE X elt te) (b_:∀ i v,lo<=i->i<hi->σ[i]?≠some (some v))
 (I2:Inv X pl σ H2 s2) (T:sE X.prog X.w X.K tg J fp it tn) (bj:tn 0 s2.heap) (f2:∀ b∈fp,kG X pl H2 b) (ca:H2 D=none) {U:List Value} {c0:Nat} (cb:Vals bc U) (cc:s2.heap.get? D=some { cls:=.type "list",data:=.seq U.toArray c0 })
 (R:X3 J σ g tt te bc N H2)
 (cf:∀ s' H' ys its c,Inv X pl σ H' s'->Vals ys its->s'.heap.get? D=some { cls:=.type "list",data:=.seq its.toArray c }->H' D=none->N ys H'->RR (.ok .next) s') :
 codeAny (model X.prog X.w) X.A (.compStart (.ListComp elt [⟨t1,i1,f1,0⟩,⟨tg,iter,ifs,0⟩] inn pos) 1 (.ref it) (.ref D) X.env) RR s2:=by
 have okX:=I2.ok;obtain⟨W,⟨m0,w0⟩,turn⟩:=R;have Y:∀ {H':Hp} {ql:List (Addr×Obj)},(∀ b∈fp,H' b=none)->(∀ p∈ql,p.1=D)->∀ b∈fp,kG X (pl++ql) H' b:=λ{H' ql} hn cg b G=>by
  obtain⟨_,a1,a2,a3,a4,a5⟩:=f2 b G;refine⟨hn b G,a1,a2,a3,a4,λp hp=>?_⟩;rw[<- jq]at hp;rcases aFf.mp hp with hp | hp
  .exact a5 p hp
  .rw[cg p hp];intro e;exact bi (e ▸ G)
 have loop:codeAny (model X.prog X.w) X.A (.compLoop (.ListComp elt [⟨t1,i1,f1,0⟩,⟨tg,iter,ifs,0⟩] inn pos) 1 (.ref it) (.ref D) X.env) RR s2:=by
  refine xf rfl (λn s'=>∃ i ys H',Inv X pl σ H' s'/\tn i s'.heap/\(∀ b∈fp,H' b=none)/\H' D=none/\(∃ (its:List Value) (c:Nat),Vals ys its/\s'.heap.get? D=some { cls:=.type "list",data:=.seq its.toArray c })/\W i n ys H') ?_ m0
   ⟨0,bc,H2,I2,bj,λb G=>(f2 b G).1,ca,⟨U,c0,cb,cc⟩,w0⟩
  rintro n s5 ⟨i,ys,H5,I5,bn,bo,bq,⟨its,c,rv,eD⟩,w5⟩;show wpAny _ X.A ((compTurn (.ListComp elt [⟨t1,i1,f1,0⟩,⟨tg,iter,ifs,0⟩] inn pos) 1 (.ref it) (.ref D) X.env).onRaise (λx=>do noteFrame x X.env;theTreesLotGoes x)) _ _ s5;refine wpAny_noted ?_;rw[rB];refine aEz (lq (aEz ?_));have bb:Inv X (pl++cW [D] s5.heap) σ H5 s5:=by
   refine I5.pinned (fp:=[D]) (λb G=>?_) (λb G=>?_)
   .have e:b=D:=by simpa using G
    subst e;exact⟨bq,Dl,λz=>okX.exfs b DX z,.inl DX,(okX.exf b DX).2,hpl⟩
   .have e:b=D:=by simpa using G
    subst e;exact⟨_,eD,λv z=>by cases z⟩
  have bg:∀ p∈cW [D] s5.heap,p.1=D:=λp hp=>by simpa using (jD hp).1
  have memD:(D,({ cls:=.type "list",data:=.seq its.toArray c }:Obj))∈cW [D] s5.heap:=cK (by simp) eD;obtain⟨hz,ci⟩:=turn i n ys H5 w5;rcases ci with ⟨stop,fin⟩ | ⟨go,N',hN,step⟩
  .have q:=T.done X rfl rfl rfl M i _ s5 _ H5 (notedBy (model X.prog X.w) X.A X.env λe s'=>RR (.error e) s') bb (Y bo bg) bn stop;refine dt q (λr s6 ⟨hr,I6⟩=>?_) λ_ _ z=>z;subst hr;refine aFA ?_;have cj:=(I6.pin (D,_) (aFF _ (aFF _ memD))).1;exact cf s6 H5 ys its c (I6.pins_of λp hp=>I6.pin p (aFF _ (aFU _ hp))) rv cj bq fin
  .have q:=T.item X rfl rfl rfl M i _ s5 _ H5 (notedBy (model X.prog X.w) X.A X.env λe s'=>RR (.error e) s') bb (Y bo bg) bn go;refine dt q (λr s6 ⟨u,hr,h6⟩=>?_) λ_ _ z=>z;subst hr;refine aEz (dt h6 (λ_ s7 ⟨x,H7,I7,r7,y7,bh,ck⟩=>?_) λ_ _ z=>z);have cm:=I7.pinned (fp:=fp) (λb G=>Y ck bg b G) (T.obj _ _ bh);have q8:=bu _ s7 _ H7 x u _ cm r7 (hk x _ H7 _ (step x H7 y7));rw[bf]at q8;refine aEz (dt q8 (λ_ s8 ⟨L,H8,I8,⟨k8,l8⟩,q8⟩=>?_) λ_ _ z=>z.elim);have q9:=bv _ s8 L H8 _ I8 q8;rw[bf]at q9;refine aEz (dt q9 (λok s9 ⟨H9,I9,q9⟩=>?_) λ_ _ z=>z.elim);have aw:∀ (j:Nat) v,σ[j]?=some (some v)->L[j]?=some (some v):=λj v e=>by
    by_cases hj:j<lo\/hi<=j
    .rw[k8 j hj];exact e
    .exact absurd e (b_ j v (by omega) (by omega))
   have ends:∀ {H9:Hp} {s9:Shared} {av:List V},Inv X ((pl++cW [D] s5.heap)++cW fp s7.heap) L H9 s9->∀ {h':Heap} {its':List Value} {c':Nat},(∀ b o,b≠D->s9.heap.get? b=some o->h'.get? b=some o)->Vals av its'->h'.get? D=some { cls:=.type "list",data:=.seq its'.toArray c' }->N' av H9 ->
    ∀ tk,∃ m,m<n/\∃ i ys H',Inv X pl σ H' { s9 with heap:=h',toks:=tk }/\tn i h'/\(∀ b∈fp,H' b=none)/\H' D=none/\(∃ (its:List Value) (c:Nat),Vals ys its/\h'.get? D=some { cls:=.type "list",data:=.seq its.toArray c })/\W i m ys H':=λ{H9 s9 av} I9 {h' its' c'} kp cn cp n9 tk=>by
    obtain⟨m',hm,w9⟩:=hN av H9 n9;have br:H9 D=none:=(I9.pin (D,_) (aFF _ (aFU _ (aFF _ memD)))).2.1;have cq:∀ b∈fp,H9 b=none:=λb G=>by
     obtain⟨o,e,d⟩:=T.obj _ _ bh b G;exact(I9.pin (b,o) (aFF _ (aFF _ (cK G e)))).2.1
    have a_:Inv X pl L H9 s9:=I9.pins_of λp hp=>I9.pin p (aFF _ (aFU _ (aFU _ hp)));have cr:Inv X pl L H9 { s9 with heap:=h',toks:=tk }:=a_.turned (it:=D) kp br Dl (.inl DX) (okX.exf D DX).2 hpl;refine⟨m',hm,i+1,av,H9,cr.weak l8.symm aw,T.keep _ _ _ bh λb G o e=>kp b o (λz=>bi (z ▸ G)) (I9.pin (b,o) (aFF _ (aFF _ (cK G e)))).1,cq,br,⟨its',c',cn,cp⟩,w9⟩
   cases ok with
   | false =>
    rw[bB aFO]at q9;have cu:=(I9.pin (D,_) (aFF _ (aFU _ (aFF _ memD)))).1;exact aFA ⟨rfl,ends I9 (h':=s9.heap) (λ_ _ _ e=>e) rv cu q9 s9.toks⟩
   | true =>
    rw[da rfl]at q9;have ba:=bw _ s9 L H9 _ I9 q9;rw[bf]at ba;refine aEz (aEz (dt ba (λv cv ⟨y,cy,a_,cw,ba⟩=>?_) λ_ _ z=>z.elim));have bt:=(a_.pin (D,_) (aFF _ (aFU _ (aFF _ memD)))).1;have hlen:=rv.length;refine aEz (uz (items:=its.toArray) ⟨c,bt⟩ (λh' hl hs=>aFA (aFA ⟨rfl,?_⟩)) (by rw[aFJ];omega));obtain⟨c',e'⟩:=hl;have cx:h'.get? D=some { cls:=.type "list",data:=.seq (its++[v]).toArray c' }:=by rw[e'];simp
    exact ends a_ (h':=h') (λb o G e=>hs.extBut b o G e) (rv.append (.cons cw .nil)) cx ba cv.toks
 refine jK loop ?_;exact T.self X.A 0 _ _ _ bj loop
section
variable {X:Cx} {pins:List (Addr×Obj)} {σ:St} {inn:Scope} {js:List Nat} {cs ts:List Str} {nt lo:Nat} {elt tg iter t2 i2:Expr} {ifs f2:List Expr} {pos:Pos} {g g2:TG} {tt ai:TT} {te:TE} {wi aq:TI}
def Q3 {J:It} {fp:List Addr} {it:Addr} {tn:Nat->Heap->Prop} {H2:Hp} {s2:Shared} {E:Value->Shared->Prop} {Q:VK} {RR:Value->Addr->Result->Shared->Prop}
 (bv:X.calm=true) (O:CompOk X.env.scope inn X.N js cs) (dk:ts.length=nt)
 (dm:lo<=nt) (hg:∀ M U ex,PG (gC X inn (ts++cs) M U ex) tg g) (hk:GK lo g) (dn:∀ M U ex,PI (gC X inn (ts++cs) M U ex) t2 i2 aq) (dq:∀ M U ex,PG (gC X inn (ts++cs) M U ex) t2 g2) (dr:GR lo nt g2) (du:∀ M U ex,PIf (gC X inn (ts++cs) M U ex) f2 ai) (dv:∀ env x,foldedSetIterable i2 env x=pure x) (ht:∀ M U ex,PIf (gC X inn (ts++cs) M U ex) ifs tt) (he:∀ M U ex,PE (gC X inn (ts++cs) M U ex) elt te)
 (I2:Inv X pins σ H2 s2) (T:sE X.prog X.w X.K tg J fp it tn) (bw:tn 0 s2.heap) (fo:∀ b∈fp,kG X pins H2 b)
 (R:P9 J (sIn nt js σ) g tt aq g2 ai te Q H2)
 (dw:∀ D C s' H',Inv X pins σ H' s'->(∃ m,s'.heap.Ns C m)->H' C=none->C≠X.env.locals->X.s₀.heap.objs.size<=C->(∀ x c,X.env.cells.lookup x=some c->c≠C)->(∀ p∈X.pn++pins,p.1≠C)->Q (.ref D) H'->RR (.ref D) C (.ok .next) s') :
 wpAny (model X.prog X.w) X.A (newList []) (λcg ci=>wpAny (model X.prog X.w) X.A (newFunctionEnv inn X.env.globals (kO inn X.env) [] X.env.qual none .none (some X.env)) (λbr cj =>
  codeAny (model X.prog X.w) X.A (.compStart (.ListComp elt [⟨tg,iter,ifs,0⟩,⟨t2,i2,f2,0⟩] inn pos) 0 (.ref it) cg { br with scope:=relabel inn X.env }) (RR cg br.locals) cj) E ci) E s2:=by
 refine pj (rp O.nocell (by intro y hy;simp at hy) (λa_ av aw=>?_) O.kind);dsimp only at av aw ⊢;generalize hD:s2.heap.objs.size=D;have I3:Inv X pins σ H2 { s2 with heap:=s2.heap.push { cls:=.type "list",dict:=none,data:=.seq ([]:List Value).toArray } }:=I2.kept (t':=s2.toks) λb o e=>aFC _ e;generalize ck:({ s2 with heap:=s2.heap.push { cls:=.type "list",dict:=none,data:=.seq ([]:List Value).toArray } }:Shared)=Y at I3;have e3:Y.heap=s2.heap.push { cls:=.type "list",dict:=none,data:=.seq ([]:List Value).toArray }:=by rw[<- ck]
 have dy:Y.heap.get? D=some { cls:=.type "list",dict:=none,data:=.seq ([]:List Value).toArray }:=by rw[e3,<- hD];exact aFI _ rfl
 have bg:Y.heap.objs.size=D+1:=by rw[e3,ka,hD]
 have dz:(s2.heap.push { cls:=.type "list",dict:=none,data:=.seq ([]:List Value).toArray })=Y.heap:=e3.symm;rw[dz]at av aw ⊢;have bt:H2 D=none:=I2.hok.fresh (by rw[hD];exact ah _);have up:∀ b o,Y.heap.get? b=some o->a_.get? b=some o:=λb o e=>aw.extBut b o (aFY (aFH e)) (aFC _ e);have bj:∀ b∈fp,b<Y.heap.objs.size/\b≠D:=λb hb=>by
  obtain⟨o,eo,_⟩:=T.obj 0 _ bw b hb;have h1:=aFH eo;rw[hD]at h1;exact⟨by rw[bg];exact ly h1,aFY h1⟩
 have nb:∀ b,X.s₀.heap.objs.size<=b->∀ o,X.base.get? b≠some o:=λb hb o e=>absurd (aFS (aFH e) (jf I2.ok.bsz hb)) (ln _);have bn:s2.heap.objs.size<=D:=by rw[hD];exact ah _
 have fD:kG X pins H2 D:=I2.fpOk bn bt;have hex:∀ b∈D :: fp,b<Y.heap.objs.size/\b≠X.env.locals/\b∉X.fs/\(∀ x c,X.env.cells.lookup x=some c->c≠b)/\∀ o,X.base.get? b≠some o:=λb hb=>by
  rcases aFe.mp hb with rfl | hb
  .exact⟨by rw[bg];exact lu _,fD.2.1,fD.2.2.1,fD.2.2.2.2.1,nb _ (jf I2.sz bn)⟩
  .obtain⟨f0,f1,cm,f3,f4,f5⟩:=fo b hb;refine⟨(bj b hb).1,f1,cm,f4,λo e=>?_⟩;rcases f3 with z | z
   .exact I2.ok.noex b o e z
   .exact nb b z o e
 have hC:Y.heap.objs.size=Y.heap.objs.size:=rfl;generalize L:gC X inn (ts++cs) Y H2 (D :: fp)=G;have I4:Inv G [] (sIn nt js σ) H2 { Y with heap:=a_,toks:=Y.toks }:=by
  rw[<- L];exact aAG dk I3 O hex ⟨_,av⟩ up
 have xp:G.prog=X.prog:=by rw[<- L];rfl
 have xw:G.w=X.w:=by rw[<- L];rfl
 have xK:G.K=X.K:=by rw[<- L];rfl
 have xA:G.A=X.A:=by rw[<- L];rfl
 have xc:G.calm=true:=by rw[<- L];exact bv
 have xe:G.env=compEnvC inn (kO inn X.env) Y.heap.objs.size X.env:=by rw[<- L];rfl
 have xx:G.xe=λ_ _=>False:=by rw[<- L];rfl
 have b_:G.ex=D :: fp:=by rw[<- L];rfl
 have bo:G.pn=[]:=by rw[<- L];rfl
 have cn:G.s₀=Y:=by rw[<- L];rfl
 have d_:G.H₀=H2:=by rw[<- L];rfl
 have eh:G.fs=frs X.stack:=by rw[<- L];rfl
 have e_:PG G tg g:=by rw[<- L];exact hg _ _ _
 have fb:PIf G ifs tt:=by rw[<- L];exact ht _ _ _
 have fc:PE G elt te:=by rw[<- L];exact he _ _ _
 have cp:PI G t2 i2 aq:=by rw[<- L];exact dn _ _ _
 have cq:PG G t2 g2:=by rw[<- L];exact dq _ _ _
 have cr:PIf G f2 ai:=by rw[<- L];exact du _ _ _
 have okX:=I4.ok;have xl:G.env.locals=Y.heap.objs.size:=by rw[xe];rfl
 have Dl:D≠G.env.locals:=by rw[xl,bg];exact aFY (lu _)
 have bh:∀ {H':Hp} {pl:List (Addr×Obj)},(∀ b∈fp,H' b=none)->(∀ p∈pl,p.1=D)->∀ b∈fp,kG G pl H' b:=λ{H' pl} hn hpl b hb=>by
  have bq:b∈G.ex:=by rw[b_];exact aFE _ hb
  refine⟨hn b hb,(okX.exf b bq).1,λz=>okX.exfs b bq z,.inl bq,(okX.exf b bq).2,λp hp=>?_⟩;rw[bo,lj]at hp;rw[hpl p hp];exact jh (bj b hb).2
 have DX:D∈G.ex:=by rw[b_];exact aFD
 obtain⟨W,⟨m0,w0⟩,turn⟩:=R;have loop:codeAny (model X.prog X.w) X.A (.compLoop (.ListComp elt [⟨tg,iter,ifs,0⟩,⟨t2,i2,f2,0⟩] inn pos) 0 (.ref it) (.ref D) G.env) (RR (.ref D) Y.heap.objs.size) { Y with heap:=a_,toks:=Y.toks }:=by
  refine xf rfl (λn s'=>∃ i ys H',Inv G [] (sIn nt js σ) H' s'/\tn i s'.heap/\(∀ b∈fp,H' b=none)/\H' D=none/\(∃ (its:List Value) (c:Nat),Vals ys its/\s'.heap.get? D=some { cls:=.type "list",data:=.seq its.toArray c })/\W i n ys H') ?_ m0
   ⟨0,[],H2,I4,?_,λb hb=>(fo b hb).1,bt,⟨[],0,.nil,up D _ dy⟩,w0⟩
  .rintro n s5 ⟨i,ys,H5,I5,cu,cv,ca,⟨its,c,rv,eD⟩,w5⟩;show wpAny _ X.A ((compTurn (.ListComp elt [⟨tg,iter,ifs,0⟩,⟨t2,i2,f2,0⟩] inn pos) 0 (.ref it) (.ref D) G.env).onRaise (λx=>do noteFrame x G.env;theTreesLotGoes x)) _ _ s5;refine wpAny_noted ?_;rw[rA];refine aEz (lq (aEz ?_));have bu:Inv G (cW [D] s5.heap) (sIn nt js σ) H5 s5:=by
    have q:=I5.pinned (fp:=[D]) (λb hb=>?_) (λb hb=>?_)
    .simpa using q
    .have e:b=D:=by simpa using hb
     subst e;refine⟨ca,Dl,λz=>okX.exfs b DX z,.inl DX,(okX.exf b DX).2,λp hp=>?_⟩;rw[bo,lj]at hp;cases hp
    .have e:b=D:=by simpa using hb
     subst e;exact⟨_,eD,λv z=>by cases z⟩
   have cb:∀ p∈cW [D] s5.heap,p.1=D:=λp hp=>by simpa using (jD hp).1
   have memD:(D,({ cls:=.type "list",data:=.seq its.toArray c }:Obj))∈cW [D] s5.heap:=cK (by simp) eD;obtain⟨hz,fe⟩:=turn i n ys H5 w5;rcases fe with ⟨stop,fin⟩ | ⟨go,N,hN,step⟩
   .have q:=T.done G xp xw xK xc i _ s5 _ H5 (notedBy (model X.prog X.w) X.A G.env λe s'=>RR (.ref D) Y.heap.objs.size (.error e) s') bu (bh cv cb) cu stop;rw[xA]at q;refine dt q (λr s6 ⟨hr,I6⟩=>?_) λ_ _ z=>z;subst hr;refine aFA ?_;have ff:=(I6.pin (D,_) (aFF _ memD)).1;have un:Un (frs X.stack) (D :: fp) H2 H5 Y.heap s6.heap:=by
     have z:=I6.base;rw[eh,b_,d_,cn]at z;exact z
    have fg:s6.os=Y.os:=by have z:=I6.os;rw[cn]at z;exact z
    have cw:HOk X.prog X.w H5 s6.heap:=by have z:=I6.hok;rw[xp,xw]at z;exact z
    have I7:Inv X pins σ H5 s6:=I3.call' fg un cw I6.bare λb hb=>by
     rcases aFe.mp hb with e | hb
     .rw[e];exact⟨.inr (jf I2.sz bn),fD.2.1,fD.2.2.2.2.1,fD.2.2.2.2.2⟩
     .obtain⟨f0,f1,cm,f3,f4,f5⟩:=fo b hb;exact⟨f3,f1,f4,f5⟩
    have I8:Inv X pins σ (upd H5 D (.lst ys)) s6:=I7.track ca (jf I2.sz bn) fD.2.1 fD.2.2.2.2.1 fD.2.2.2.2.2 ⟨km hz,its,c,rv,ff⟩;have cx:Y.heap.objs.size<=Y.heap.objs.size:=ah _;have fC:kG X pins (upd H5 D (.lst ys)) Y.heap.objs.size:=I3.fpOk cx (by
     rw[aE (by rw[<- xl];exact jh Dl)];have z:=I6.free;rw[xl]at z;exact z)
    obtain⟨mm,cy,_⟩:=I6.loc;rw[xl]at cy;exact dw D _ s6 _ I8 ⟨mm,cy⟩ fC.1 fC.2.1 (jf I3.sz cx) fC.2.2.2.2.1 fC.2.2.2.2.2 (fin D ca)
   .have q:=T.item G xp xw xK xc i _ s5 _ H5 (notedBy (model X.prog X.w) X.A G.env λe s'=>RR (.ref D) Y.heap.objs.size (.error e) s') bu (bh cv cb) cu go;rw[xA]at q;refine dt q (λr s6 ⟨u,hr,h6⟩=>?_) λ_ _ z=>z;subst hr;refine aEz (dt h6 (λ_ s7 ⟨x,H7,I7,r7,y7,bi,fh⟩=>?_) λ_ _ z=>z);have fi:=I7.pinned (fp:=fp) (λb hb=>bh fh cb b hb) (T.obj _ _ bi);have q8:=e_ _ s7 _ H7 x u _ fi r7 (hk x _ H7 _ (step x H7 y7));rw[xp,xw,xA,xx]at q8;refine aEz (dt q8 (λ_ s8 ⟨bb,H8,I8,⟨k8,l8⟩,q8⟩=>?_) λ_ _ z=>z.elim);have q9:=fb _ s8 bb H8 _ I8 q8;rw[xp,xw,xA,xx]at q9;refine aEz (dt q9 (λok s9 ⟨H9,I9,q9⟩=>?_) λ_ _ z=>z.elim);have bc:∀ (j:Nat) v,(sIn nt js σ)[j]?=some (some v)->bb[j]?=some (some v):=λj v e=>by
     have hj:=(rJ e).1;rw[k8 j (jf dm hj)];exact e
    have ends:∀ {H9:Hp} {s9:Shared} {ba:List V},Inv G (cW [D] s5.heap++cW fp s7.heap) bb H9 s9->∀ {h':Heap} {its':List Value} {c':Nat},(∀ b o,b≠D->s9.heap.get? b=some o->h'.get? b=some o)->Vals ba its'->h'.get? D=some { cls:=.type "list",data:=.seq its'.toArray c' }->N ba H9 ->
     ∀ tk,∃ m,m<n/\∃ i ys H',Inv G [] (sIn nt js σ) H' { s9 with heap:=h',toks:=tk }/\tn i h'/\(∀ b∈fp,H' b=none)/\H' D=none/\(∃ (its:List Value) (c:Nat),Vals ys its/\h'.get? D=some { cls:=.type "list",data:=.seq its.toArray c })/\W i m ys H':=λ{H9 s9 ba} I9 {h' its' c'} kp cc cf n9 tk=>by
     obtain⟨m',hm,w9⟩:=hN ba H9 n9;have cz:H9 D=none:=(I9.pin (D,_) (aFF _ (aFU _ memD))).2.1;have fj:∀ b∈fp,H9 b=none:=λb hb=>by
      obtain⟨o,e,d⟩:=T.obj _ _ bi b hb;exact(I9.pin (b,o) (aFF _ (aFF _ (cK hb e)))).2.1
     have fk:Inv G [] bb H9 s9:=I9.pins_of λp hp=>by cases hp
     have bf:Inv G [] bb H9 { s9 with heap:=h',toks:=tk }:=fk.turned (it:=D) kp cz Dl (.inl DX) (okX.exf D DX).2 (λp hp=>by rw[bo]at hp;cases hp);refine⟨m',hm,i+1,ba,H9,bf.weak l8.symm bc,T.keep _ _ _ bi λb hb o e=>kp b o (bj b hb).2 (I9.pin (b,o) (aFF _ (aFF _ (cK hb e)))).1,fj,cz,⟨its',c',cc,cf⟩,w9⟩
    cases ok with
    | false =>
     rw[bB aFO]at q9;have fm:=(I9.pin (D,_) (aFF _ (aFU _ memD))).1;exact aFA ⟨rfl,ends I9 (h':=s9.heap) (λ_ _ _ e=>e) rv fm q9 s9.toks⟩
    | true =>
     rw[da rfl]at q9;have c_:=cp _ s9 bb H9 _ I9 q9;rw[xp,xw,xA,xx]at c_;refine aEz (dt c_ (λv gc fq=>?_) λ_ _ z=>z.elim);refine aEz (lq (aEz (vb (dv _ v) (aEz (jn (dt fq (λgg gh fu=>?_) λ_ _ z=>z.elim))))));obtain⟨gj,gk,gl,J2,fw,ei,bf,T2,dc,df,fz⟩:=fu;subst ei;have pm:(D,({ cls:=.type "list",data:=.seq its.toArray c }:Obj))∈G.pn++(cW [D] s5.heap++cW fp s7.heap):=aFF _ (aFU _ memD);have dh:=(bf.pin (D,_) pm).1;have di:fw D=none:=(bf.pin (D,_) pm).2.1;have hpl:∀ p∈G.pn++cW fp s7.heap,p.1≠D:=λp hp=>by
      rw[bo,lj]at hp;exact(bj p.1 (jD hp).1).2
     have gm:G.calm=true:=xc;refine aEz (wpAny_runOwn ?_);have core:=Q0 (X:=G) (pl:=cW fp s7.heap) (σ:=bb) (elt:=elt) (t1:=tg) (i1:=iter) (tg:=t2) (iter:=i2) (f1:=ifs) (ifs:=f2) (inn:=inn) (pos:=pos) (lo:=lo) (hi:=nt) (D:=D) (N:=N)
      (RR:=λr s'=>match r with | .ok f=>wpAny (model G.prog G.w) G.A (again (.compLoop (.ListComp elt [⟨tg,iter,ifs,0⟩,⟨t2,i2,f2,0⟩] inn pos) 0 (.ref it) (.ref D) G.env)) (λf s'=>f=Fin.again (.compLoop (.ListComp elt [⟨tg,iter,ifs,0⟩,⟨t2,i2,f2,0⟩] inn pos) 0 (.ref it) (.ref D) G.env)/\∃ m,m<n/\∃ i ys H',Inv G [] (sIn nt js σ) H' s'/\tn i s'.heap/\(∀ b∈fp,H' b=none)/\H' D=none/\(∃ (its:List Value) (c:Nat),Vals ys its/\s'.heap.get? D=some { cls:=.type "list",data:=.seq its.toArray c })/\W i m ys H') (λ_ _=>False) s' | .error e=>False)
      xc xx DX Dl hpl (λhb=>(df D hb).2.2.2.2.2 _ pm rfl) cq dr cr fc (λj v h1 h2 e=>?_) (bf.pins_of λp hp=>bf.pin p (aFF _ (aFF _ hp))) T2 dc
      (λb hb=>let ⟨a0,a1,a2,a3,a4,a5⟩:=df b hb;⟨a0,a1,a2,a3,a4,λp hp=>a5 p ((aFf.mp hp).elim (aFU _) λz=>aFF _ (aFF _ z))⟩) di rv dh fz ?_
     .rw[xp,xw,xA]at core;refine mi core λr s' hr=>?_;cases r with
      | ok f=>exact dt hr (λ_ _ z=>by obtain⟨rfl,z⟩:=z;exact⟨rfl,z⟩) λ_ _ z=>z.elim
      | error e=>exact hr.elim
     .have e':=(k8 j h1).symm.trans e;exact absurd (rJ e').1 (by omega)
     .intro s' H' ba its' c' I' cc cf f_ n';obtain⟨m',hm,w9⟩:=hN ba H' n';have gb:∀ b∈fp,H' b=none:=λb hb=>by
       obtain⟨o,e,d⟩:=T.obj _ _ bi b hb;exact(I'.pin (b,o) (aFF _ (cK hb e))).2.1
      refine aFA ⟨rfl,m',hm,i+1,ba,H',(I'.pins_of λp hp=>by cases hp).weak l8.symm bc,T.keep _ _ _ bi λb hb o e=>(I'.pin (b,o) (aFF _ (cK hb e))).1,gb,f_,⟨its',c',cc,cf⟩,w9⟩
  .exact T.keep 0 _ _ bw λb hb o e=>up b o (by rw[e3];exact aFC _ e)
 have e4:({ s2 with heap:=a_,toks:=s2.toks+([]:List (Str×Value)).length }:Shared)={ Y with heap:=a_,toks:=Y.toks }:=by rw[<- ck];rfl
 rw[e4];show codeAny _ _ (.compStart (.ListComp elt [⟨tg,iter,ifs,0⟩,⟨t2,i2,f2,0⟩] inn pos) 0 (.ref it) (.ref D) (compEnvC inn (kO inn X.env) Y.heap.objs.size X.env)) (RR (.ref D) Y.heap.objs.size) _;rw[<- xe];refine vk loop ?_;refine T.self X.A 0 _ _ _ ?_ loop;exact T.keep 0 _ _ bw λb hb o e=>up b o (by rw[e3];exact aFC _ e)
def aAm (L M cs:List Str) (js:List Nat) (U:X.calm=true) (O:CompOk X.env.scope inn X.N js cs) (hi:PI X tg iter wi)
 (hg:∀ z G ex,PG (gC X inn ((L++M)++cs) z G ex) tg g) (hk:GK L.length g) (ht:∀ z G ex,PIf (gC X inn ((L++M)++cs) z G ex) ifs tt)
 (Y:∀ z G ex,PI (gC X inn ((L++M)++cs) z G ex) t2 i2 aq) (av:∀ z G ex,PG (gC X inn ((L++M)++cs) z G ex) t2 g2) (aw:GR L.length (L++M).length g2) (a_:∀ z G ex,PIf (gC X inn ((L++M)++cs) z G ex) f2 ai) (he:∀ z G ex,PE (gC X inn ((L++M)++cs) z G ex) elt te)
 (hs:∀ x,foldedSetIterable iter X.env x=pure x:=by intro _;rfl) (ba:∀ env x,foldedSetIterable i2 env x=pure x:=by intro _ _;rfl):PE X (.ListComp elt [⟨tg,iter,ifs,0⟩,⟨t2,i2,f2,0⟩] inn pos) (aDU wi (L++M).length js g tt aq g2 ai te):=by
 intro pins s σ H Q I h;rw[eval_ListComp];refine qg (use:=none) rfl hs (xT λy hy e=>I.ok.has y.1 (O.frees y hy e)) O.kind O.names (thn (hi pins s σ H _ I h) λxv s1 h1=>thn h1 λbg s2 h2=>?_);obtain⟨it,fp,tn,J,H2,e,I2,T,bb,f2,R⟩:=h2;subst e;refine Q3 (Q:=Q) (RR:=λbc C=>compPost (model X.prog X.w) X.A X.xe none (EP X pins σ Q) bc C) U O rfl (lo:=L.length) (by simp) hg hk Y av aw a_ ba ht he I2 T bb f2 R ?_;intro D C s' H' I' ⟨m,hm⟩ c1 c2 c3 c4 c5 q;refine⟨m,hm,λh' bf=>?_⟩;exact⟨.ref D,H',I'.turned (it:=C) (t':=s'.toks) (λb o hb e=>bf.extBut b o hb e) c1 c2 (.inr c3) c4 c5,rfl,q⟩
end
def aAn {X:Cx} {tg:Expr} (K:PySem.W.Frag) (h:X.K=K) {l:Expr} {tl:TE} (z:PE X l tl):PI X tg l (aC2 K tl):=h ▸ bX z
def Q4 {K:PySem.W.Frag} {a:Addr} {xs:List V} {G:St} {g g2:TG} {tt ai:TT} {wi:TI} {te:TE} {H:Hp} {Q:VK} (Pv:Nat->List V->Hp->Prop) (h0:Pv 0 [] H) (M:∀ i ys H,i<=xs.length->Pv i ys H->SqL K H a xs/\ys.length<sizeLine)
 (U:∀ i x ys H,xs[i]?=some x->Pv i ys H->g x G H λz H2=>tt z H2 λb L=>if b=true then wi z L λY H4=>X3 Y z g2 ai te ys (Pv (i+1)) H4 else Pv (i+1) ys L) (hd:∀ ys H,Pv xs.length ys H->∀ D,H D=none->Q (.ref D) (upd H D (.lst ys))) :
 P9 (Itl K a) G g tt wi g2 ai te Q H:=by
 refine⟨λi m ys H=>m=xs.length - i/\i<=xs.length/\Pv i ys H,⟨xs.length,by simp,jr _,h0⟩,?_⟩;rintro i m ys H ⟨rfl,hi,p⟩;obtain⟨q,hz⟩:=M i ys H hi p;refine⟨hz,?_⟩
 by_cases J:i<xs.length
 .refine .inr ⟨⟨xs,xs[i],q,by simp[J]⟩,Pv (i+1),λav H' p'=>⟨xs.length - (i+1),by omega,rfl,J,p'⟩,λx H' y=>?_⟩;obtain⟨e,y⟩:=y;subst e;exact U i x ys _ (y xs q) p
 .have e:i=xs.length:=by omega
  subst e;exact .inl ⟨⟨xs,q,ah _⟩,hd ys H p⟩
def Q5 {K:PySem.W.Frag} {a:Addr} {xs:List V} {z:St} {g:TG} {tt:TT} {te:TE} {H:Hp} {N:List V->Hp->Prop} {G:List V} (Pv:Nat->List V->Hp->Prop) (h0:Pv 0 G H) (U:∀ i ys H,i<=xs.length->Pv i ys H->SqL K H a xs/\ys.length<sizeLine)
 (Y:∀ i x ys H,xs[i]?=some x->Pv i ys H->g x z H λJ H2=>tt J H2 λb M=>if b=true then te J M λy H4=>Pv (i+1) (ys++[y]) H4 else Pv (i+1) ys M) (hd:∀ ys H,Pv xs.length ys H->N ys H) :
 X3 (Itl K a) z g tt te G N H:=by
 refine⟨λi m ys H=>m=xs.length - i/\i<=xs.length/\Pv i ys H,⟨xs.length,by simp,jr _,h0⟩,?_⟩;rintro i m ys H ⟨rfl,hi,p⟩;obtain⟨q,hz⟩:=U i ys H hi p;refine⟨hz,?_⟩
 by_cases L:i<xs.length
 .refine .inr ⟨⟨xs,xs[i],q,by simp[L]⟩,Pv (i+1),λav H' p'=>⟨xs.length - (i+1),by omega,rfl,L,p'⟩,λx H' y=>?_⟩;obtain⟨e,y⟩:=y;subst e;exact Y i x ys _ (y xs q) p
 .have e:i=xs.length:=by omega
  subst e;exact .inl ⟨⟨xs,q,ah _⟩,hd ys H p⟩
def aEJ (t u:TS):TS:=λD σ H=>∀ M:St->Hp->Prop,(∀ z H',u D z H'->M z H')->t { D with nx:=M } σ H
def fU {X:Cx} {st:Stmt} {rest:List Stmt} {t u:TS} (h1:PS X st t) (h2:PSs X rest u):PSs X (st :: rest) (aEJ t u):=λpins s σ H D I h=>aC h1 h2 pins s σ H D I (h (u D) λ_ _ z=>z)
end L2
namespace L2
open PySem
open PyProof.Rows PySem.MeetsSeq PySem.SeqAt PySem.Spec
open PySem.AutoSeq1 (wpAny_loadPart')
section
variable {X:Cx}
def aDV (t:TS):TS:=λD σ H=>∃ d kvs,H d=some (.dK kvs)/\t { D with nx:=λz H'=>∃ od,H' d=some (.frz od (.dK kvs))/\D.nx z (upd H' d (.dK kvs)) } σ H
def aCB {st:Stmt} {t:TS} (h:PS X st t):PS X st (aDV t):=by
 intro pins s σ H D I q;obtain⟨d,kvs,hd,q⟩:=q;have h0:∀ o u,X.H₀ d≠some (.frz o u):=λo u z=>by
  have:=I.base.frzs d o u z;rw[hd]at this;cases this
 refine thn (h pins s σ H _ I q) λf U G=>?_;cases f with
 | next =>
  obtain⟨J,H',L,od,M,G⟩:=G;exact⟨J,_,L.thaw M h0,G⟩
 | ret v=>exact G
 | brk=>exact G
 | cont=>exact G
end
end L2
namespace CW
open PySem L2
def aAo {b:Int}:∀ {gs:List Grp},(∀ g∈gs,g.2.2.length<=60)->0<=lng b gs/\lng b gs<=60 * (gs.length:Int)
 | [],_=>⟨nu _,nu _⟩
 | g :: r,h=>by
  obtain⟨h1,h2⟩:=aAo (b:=b) (gs:=r) λx z=>h x (aFE _ z);have h3:=h g aFD;unfold lng at h1 h2 ⊢;rw[cQ,aF4]
  by_cases c:b<g.1
  .rw[da c];omega
  .rw[bB c];omega
def laid (z:List Int) (gs:List Grp):Trs:=z.flatMap λm=>match gs.find? (λg=>decide (g.1=m))with | some g=>g.2.2.map λo=>(m,o) | none=>[]
def pS (m:Int) (z:List Int) (gs:List Grp):laid (m :: z) gs=(match gs.find? (λg=>decide (g.1=m))with | some g=>g.2.2.map (λo=>(m,o)) | none=>[])++laid z gs:=rfl
def qS (a b:List Int) (gs:List Grp):laid (a++b) gs=laid a gs++laid b gs:=by simp[laid]
def aAp {gs:List Grp} (z:(gs.map (·.1)).Nodup) {g:Grp} (G:g∈gs):laid [g.1] gs=g.2.2.map λo=>(g.1,o):=by
 rw[pS,oO z G];exact jy _
def wO {z ks:List Int} (gs:List Grp) (h:z.Perm ks):(laid z gs).Perm (laid ks gs):=h.flatMap_right _
def wP:∀ {gs:List Grp},(gs.map (·.1)).Nodup->laid (gs.map (·.1)) gs=bO gs:=by
 intro gs z;have go:∀ us:List Grp,(∀ g∈us,g∈gs)->laid (us.map (·.1)) gs=bO us:=by
  intro us
  induction us with
  | nil=>intro _;rfl
  | cons g r G =>
   intro h;rw[aF0,pS,oO z (h g aFD),cZ,G λx J=>h x (aFE _ J)]
 exact go gs λ_ h=>h
def aAq {G:List Int} {gs:List Grp} {q:Int×Int} (h:q∈laid G gs):q.1∈G:=by
 unfold laid at h;obtain⟨m,J,z⟩:=List.mem_flatMap.mp h;split at z
 .obtain⟨o,_,rfl⟩:=aFg.mp z;exact J
 .cases z
def qT {gs:List Grp} (ac:Asc gs):∀ {z:List Int},z.Pairwise (·<·)->(laid z gs).Pairwise ple
 | [],_=>List.Pairwise.nil
 | m :: z,h=>by
  obtain⟨h1,h2⟩:=List.pairwise_cons.mp h;rw[pS];refine List.pairwise_append.mpr ⟨?_,qT ac h2,λa G b M=>?_⟩
  .split
   .next g U =>
    rw[List.pairwise_map];exact(ac g (jt U)).imp λ{x y} J=>.inr ⟨rfl,J⟩
   .exact List.Pairwise.nil
  .have L:=h1 _ (aAq M);split at G
   .obtain⟨o,_,rfl⟩:=aFg.mp G;exact .inl L
   .cases G
def wQ {z ks:List Int} (G:z.Perm ks) (J:z.Pairwise (·<=·)) (L:ks.Nodup):z.Pairwise (·<·):=by
 have h:=G.nodup_iff.mpr L;exact(List.pairwise_and_iff.mpr ⟨J,h⟩).imp λ{x y} ⟨a,b⟩=>by omega
section
variable {P:Program} {w:World} {K:PySem.W.Frag} {mg:Str->Option Value} {base:Heap}
inductive pT (vs:List V) (H:Hp) (Q:VK) (E_:XK):Prop
 | mk (d:Addr) (gs:List Grp) (h0_:vs=[.ref d]) (h1_:DG H d gs) (h2_:GoodG gs) (h3_:gs.length<=60) (h4_:(∀ g∈gs,g.2.2.length<=60)) (h5_:∀ (e:Addr) (kvs:List (Key×V)) (H':Hp),H e=none->Same H H'->H' e=some (.dK kvs)->(∀ g∈gs,dJ kvs (Sum.inl g.1:Key)=some (.int (2 * les (bO gs) g.1)))->Q (.ref e) H'):pT vs H Q E_
inductive lE (vs:List V) (H:Hp) (Q:VK) (E_:XK):Prop
 | mk (d:Addr) (gs:List Grp) (k p:Int) (h0_:vs=[.ref d,.int k,.int p]) (h1_:DG H d gs) (h2_:gs.length<=60) (h3_:(∀ g∈gs,g.2.2.length<=60)) (h4_:∀ (gs':List Grp) (H':Hp),aAc d gs H H'->DG H' d gs'->D7 H k (p - 2 * wgt (gM k) gs - 2 * k) gs gs'->Q .non H'):lE vs H Q E_
inductive nD (vs:List V) (H:Hp) (Q:VK) (E_:XK):Prop
 | mk (d:Addr) (gs:List Grp) (p:Int) (H0:Hp) (h0_:vs=[.ref d,.int p]) (h1_:DG H d gs) (h2_:GoodG gs) (h3_:Asc gs) (h4_:sto gs<=59) (h5_:Bd (bO gs) (p - 1)) (h6_:Same H0 H) (h7_:H0 d=none) (h8_:(∀ g∈gs,H0 g.2.1=none)) (h9_:∀ (gs':List Grp) (H':Hp),Same H0 H'->DG H' d gs'->GoodG gs'->Asc gs'->Add (bO gs) p (bO gs')->(∀ g∈gs',H0 g.2.1=none)->Q .non H'):nD vs H Q E_
inductive eP (vs:List V) (H:Hp) (Q:VK) (E_:XK):Prop
 | mk (a:Addr) (row:List Int) (h0_:vs=[.ref a]) (h1_:H a=some (.lst (row.map V.int))) (h2_:Row row) (h3_:row.length<=60) (h4_:∀ qs:Trs,Lst row qs->qs.Pairwise ple->aDL H Q qs):eP vs H Q E_
end
def X4 {l:List Int} (h:l≠[]):atI (l.map V.int) (-1)=some (V.int (l.getLast h)):=by
 have e:l.map V.int=l.dropLast.map V.int++[V.int (l.getLast h)]:=by
  rw[<- List.map_singleton (f:=V.int),<- aFQ,oz h]
 rw[e];exact nS _ _
def lF:∀ (r:List Int) (n:Int),(r.foldl max n=n\/r.foldl max n∈r)/\n<=r.foldl max n/\∀ x∈r,x<=r.foldl max n
 | [],n=>⟨.inl rfl,nu _,λx hx=>(nomatch hx)⟩
 | a :: r,n=>by
  obtain⟨h1,h2,h3⟩:=lF r (max n a);rw[aF2];refine⟨?_,by omega,λx hx=>?_⟩
  .rcases h1 with h1 | h1
   .rcases Int.le_total n a with c | c
    .right;rw[h1];rw[show max n a=a by omega];exact aFD
    .left;rw[h1];omega
   .exact .inr (aFE _ h1)
  .rcases aFe.mp hx with rfl | hx
   .omega
   .exact h3 x hx
def m7 {gs:List Grp} {p:Int} (M:GoodG gs) {ns:List Int} (h1:∀ n∈ns,∃ g∈gs,∃ G:g.2.2≠[],n=g.1/\g.2.2.getLast G=p - 1 - 2 * les (bO gs) g.1)
 (h2:∀ g∈gs,∀ G:g.2.2≠[],g.2.2.getLast G=p - 1 - 2 * les (bO gs) g.1->g.1∈ns) :
 ∃ s:Int,mxD ns (.int 0)=.int s/\0<=s/\(s=0\/1<=s/\∃ g∈gs,∃ G:g.2.2≠[],g.1=s/\g.2.2.getLast G=p - 1 - 2 * les (bO gs) s)/\(∀ g∈gs,∀ G:g.2.2≠[],s<g.1->g.2.2.getLast G≠p - 1 - 2 * les (bO gs) g.1):=by
 cases ns with
 | nil=>exact⟨0,rfl,nu _,.inl rfl,λg J G _ e=>(nomatch (h2 g J G e))⟩
 | cons n r =>
  obtain⟨U,a2,Y⟩:=lF r n;have hm:r.foldl max n∈n :: r:=by
   rcases U with h | h
   .rw[h];exact aFD
   .exact aFE _ h
  obtain⟨g,J,G,e1,e2⟩:=h1 _ hm;have av:=(M g J).1;refine⟨r.foldl max n,rfl,by omega,.inr ⟨by omega,g,J,G,e1.symm,by rw[e1];exact e2⟩,λx hx L aw e=>?_⟩;have:=h2 x hx L e;rcases aFe.mp this with z | z
  .omega
  .have:=Y _ z;omega
def Lst.few {row:List Int} {z:Trs} (h:Lst row z) (G:row.length<=60):z.length<=60:=by
 have h3:=jW h.pos;have h4:(szs z).sum=siz z:=rfl;have h5:=h.sizx;omega
end CW
namespace L2
open PySem PySem.Spec PyProof.Rows
end L2
namespace CW
open PySem L2
def aCC {ps:Trs} (h:∀ q∈ps,1<=q.1):(ps.length:Int)<=siz ps:=jW h
section
variable {P:Program} {w:World} {K:PySem.W.Frag} {mg:Str->Option Value} {base:Heap}
inductive mG (vs:List V) (H:Hp) (Q:VK) (E_:XK):Prop
 | mk (a:Addr) (ps:List (Int×Int)) (h0_:vs=[.ref a]) (h1_:LP H a ps) (h2_:ps.length<=60) (h3_:∀ (d:Addr) (gs:List Grp) (H':Hp),H d=none->Same H H'->DG H' d gs->(bO gs).Perm ps->Asc gs->(∀ g∈gs,g.2.2≠[]/\H g.2.1=none)->Q (.ref d) H'):mG vs H Q E_
end
end CW
namespace CW
end CW
namespace L2
open PySem PySem.Spec PyProof.Rows
end L2
namespace CW
open PySem L2
def Lst.trn {r:List Int} {ps:Trs} (h:Lst r ps) (z:r.length<=60):Trn ps:=⟨h.pos,by have:=h.sizx;unfold siz at this;unfold szs;omega⟩
end CW
namespace L2
open PySem PySem.W PySem.Spec PyProof.Rows
structure aCa (prog:Program) (w:World) (A:Around) (O:KeyOrd) (key:Nat->O.α) (ks:List Value) (κ:SortKind) (s:Shared):Prop where
 kind:2<=ks.length->∀ (E:Value->Shared->Prop) (Q:SortKind->Shared->Prop),Q κ s->wpAny (model prog w) A (keyKind' ks.toArray) Q E s
 ans:Ans O key ks.length (kas_ask prog w A κ ks) s
section
variable {prog:Program} {w:World} {A:Around} {E:Value->Shared->Prop} {s:Shared} {O:KeyOrd} {key:Nat->O.α} {κ:SortKind}
def aAr {n:Nat} (h:n<2) {p:Array Nat}:Up O key p n:=λi j z hj=>by
 have:i=j:=by omega
 subst this;exact ml _
end
section
variable {X:Cx}
def aAs (X:Cx) (H:Hp) (us:List V) (O:KeyOrd) (key:Nat->O.α) (κ:SortKind):Prop :=
 ∀ (pins:List (Addr×Obj)) (σ:St) (s:Shared) (vs:List Value),Inv X pins σ H s->Vals us vs->aCa X.prog X.w X.A.in1.in1 O key vs κ s
abbrev D9 (us:List V) (p:List Nat):List V:=p.map λi=>us.getD i V.non
def E1 {us:List V} {vs:List Value} (r:Vals us vs):∀ {q:List Nat},(∀ i∈q,i<vs.length)->Vals (D9 us q) (q.map λi=>vs.getD i Value.none)
 | [],_=>.nil
 | i :: q,h=>.cons (cI r (by rw[r.length];exact h i aFD)) (E1 r λj hj=>h j (aFE _ hj))
end
end L2
namespace L2
open PySem PySem.Spec PyProof.Rows
def LamY (f:Addr) (qual:Str) (params:Arguments) (body:Expr) (scope:Scope) (clos:List (Str×Addr)) (c:Addr):HO:=.ext λh=>∃ pm ctv,h.get? f=some (PySem.W.kla_obj "<lambda>" qual params body scope clos pm c ctv)
def LamY.mk {P:Program} {w:World} {H:Hp} {h:Heap} {f c:Addr} {qual:Str} {params:Arguments} {body:Expr} {scope:Scope} {clos:List (Str×Addr)} {pm ctv:Value} (h1:h.get? f=some (PySem.W.kla_obj "<lambda>" qual params body scope clos pm c ctv)):ObjOk P w H h f (LamY f qual params body scope clos c) :=
 ⟨⟨pm,ctv,h1⟩,⟨_,h1⟩,λg1 g2 ⟨pm,ctv,a⟩ k=>⟨pm,ctv,k _ a⟩⟩
def aEK (qual:Str) (P:Addr) (z:Pos) (params:Arguments) (body:Expr) (scope:Scope) (clos:List (Str×Addr)):TE:=fun σ H Q=>∃ ps,H P=some (.tbl ps)/\TriplesOk ps.toList /\
 ((codeAmong z ps.toList=none/\∀ c' f,H c'=none->H f=none->f≠c'->Q (.ref f) (upd (upd (upd H P (.tbl (ps++#[rawInt z.line,rawInt z.col,.ref c']))) c' (CodeX c' qual)) f (LamY f qual params body scope clos c'))) \/
 (∃ c',codeAmong z ps.toList=some (.ref c')/\H c'=some (CodeX c' qual)/\∀ f,H f=none->Q (.ref f) (upd H f (LamY f qual params body scope clos c'))))
def pU (f:Addr) (qual:Str) (params:Arguments) (body:Expr) (scope:Scope) (c:Addr):HO:=LamY f qual params body scope [] c
def aEL (qual:Str) (P:Addr) (z:Pos) (params:Arguments) (body:Expr) (scope:Scope):TE:=fun σ H Q=>∃ ps,H P=some (.tbl ps)/\TriplesOk ps.toList /\
 ((codeAmong z ps.toList=none/\∀ c' f,H c'=none->H f=none->f≠c'->Q (.ref f) (upd (upd (upd H P (.tbl (ps++#[rawInt z.line,rawInt z.col,.ref c']))) c' (CodeX c' qual)) f (pU f qual params body scope c'))) \/
 (∃ c',codeAmong z ps.toList=some (.ref c')/\H c'=some (CodeX c' qual)/\∀ f,H f=none->Q (.ref f) (upd H f (pU f qual params body scope c'))))
section
variable {X:Cx}
def X5 {params:Arguments} {body:Expr} {scope:Scope} {clos:List (Str×Addr)} {G:Pos} {c P:Addr} (Bd:Body X) (U:X.env.code=.ref c) (hC:PySem.W.CodeHd X.base c P) (br:jG X.mg X.base) (aw:defaultsOf params X.env=([],[])) (ba:closureFor scope X.env=pure clos) :
 PE X (.Lambda params body scope G) (aEK (X.env.qual++"<lambda>") P G params body scope clos):=by
 intro pins s σ H Q I h;obtain⟨ps,Y,bb,h⟩:=h;have hP:s.heap.get? P=some (PySem.W.tabObj ps):=I.hok P _ Y;obtain⟨bm,ob,b1,b2,b3,b4,b5,b6⟩:=br;have a_:=I.mod.glob.keeps I.bk;have bt:mainGlobals≠P:=λz=>by
  obtain⟨o,es,ep,e,hd,_⟩:=a_;rw[z,hP]at e;cases e;cases hd
 have bc:bm≠P:=λz=>by
  have e:=I.bk _ _ b3;rw[z,hP]at e;cases e;cases b4
 have bf:bm≠mainGlobals:=λz=>by
  obtain⟨o,es,ep,e,hd,_⟩:=I.mod.glob;rw[z,e]at b3;cases b3;rw[hd]at b6;cases b6
 rcases h with ⟨bu,h⟩ | ⟨c',bv,cg,h⟩
 .refine PySem.W.kla_eval aw (PySem.W.kla_makeFunction (mg:=X.mg) ba I.ok.glob a_ U (hC.keeps I.bk) hP bb bu bt ⟨bm,ob,b1,b2,bf,bc,I.bk _ _ b3,b4,b5,b6⟩ λc' ctv h' tk ext av bg bh bw=>?_);obtain⟨cf,oc,vs,t,e2,b_,bi,bj⟩:=bh;cases e2;generalize ca:PySem.W.kla_obj "<lambda>" (X.env.qual++"<lambda>") params body scope clos ((X.mg "__name__").getD .none) c' ctv=fo;have kp:∀ b o,b≠P->s.heap.get? b=some o->(h'.push fo).get? b=some o:=λb o n e=>aFC _ (ext b o n e);have bn:(h'.push fo).get? P=some (PySem.W.tabObj (ps++#[rawInt G.line,rawInt G.col,.ref c'])):=aFC _ bw;have nP:∀ b,H b=none->b≠P:=λb q z=>by rw[z,Y]at q;cases q
  have nT:∀ b u,H b=some u->(∀ qs,u≠.tbl qs)->b≠P:=λb u q n z=>by rw[z,Y]at q;cases q;exact n _ rfl
  have un:Un X.fs [] H (upd H P (.tbl (ps++#[rawInt G.line,rawInt G.col,.ref c']))) s.heap (h'.push fo):=by
   refine⟨λb o q n _ _=>kp b o (nP b n) q,λb o q n _ _=>⟨o.slots,kp b o (nP b n) q⟩,λb o q n _=>by rw[aE (nP b n)];exact n,λb o q _=>?_,λb xs q=>?_,λb o u q=>?_,λb qs q=>?_⟩
   .by_cases L:b=P
    .rw[L];exact⟨_,bn⟩
    .exact⟨o,kp b o L q⟩
   .rw[aE (nT b _ q λ_ z=>by cases z)];exact q
   .rw[aE (nT b _ q λ_ z=>by cases z)];exact q
   .by_cases L:b=P
    .subst L;rw[Y]at q;cases q;exact⟨_,aD⟩
    .exact⟨#[],by rw[aE L,q];simp⟩
  have hok:HOk X.prog X.w (upd H P (.tbl (ps++#[rawInt G.line,rawInt G.col,.ref c']))) (h'.push fo):=λb u q=>by
   by_cases L:b=P
   .subst L;rw[aD]at q;cases q;exact bn
   .rw[aE L]at q;refine(I.hok b u q).stay (λd v cb z=>kp d v (λz'=>?_) z) (λd z=>by rw[aE (nT d _ z λ_ z=>by cases z)];exact z) λd xs z=>by rw[aE (nT d _ z λ_ z=>by cases z)];exact z
    subst z';rcases cb with z1 | z1
    .exact L z1.symm
    .rw[Y]at z1;cases z1
  have I1:=I.un (t':=tk) un hok;have cc:P<s.heap.objs.size:=aFH hP;have M:s.heap.objs.size<=h'.objs.size:=jf av (km bg);have bo:∀ b,s.heap.objs.size<=b->upd H P (.tbl (ps++#[rawInt G.line,rawInt G.col,.ref c'])) b=none:=λb L=>by
   rw[aE (aF1 (aFS cc L))];exact I.hok.fresh L
  have bq:h'.objs.size≠c':=aF1 bg;have tr:∀ {H':Hp} {b:Addr} {φ:Heap->Prop},Inv X pins σ H' { s with heap:=h'.push fo,toks:=tk }->s.heap.objs.size<=b->H' b=none->ObjOk X.prog X.w (upd H' b (.ext φ)) (h'.push fo) b (.ext φ)->Inv X pins σ (upd H' b (.ext φ)) { s with heap:=h'.push fo,toks:=tk }:=λ{H' b φ} J hb hn ho=>by
   have nw:∀ d o,s.heap.get? d=some o->d≠b:=λd o e z=>by rw[z]at e;exact absurd (aFH e) (Nat.not_lt.mpr hb)
   refine Inv.trackX J hn ho (λo e _ _=>?_) ?_ (λx d e z=>?_) (λp hp z=>?_)
   .obtain⟨o',e'⟩:=I.base.there b o e (by rw[Bd.ex];simp);exact nw _ _ e' rfl
   .obtain⟨m,⟨o,es,ep,ho,_⟩,_⟩:=I.loc;exact jh (nw _ _ ho)
   .obtain⟨u',o,ho,_⟩:=I.cell x d e;exact nw _ _ ho z
   .exact nw _ _ (I.pin p hp).1 z
  have I2:=tr I1 av (bo _ av) (CodeX.mk (P:=X.prog) (w:=X.w) (qual:=X.env.qual++"<lambda>") (aFC _ b_) bi bj);have I3:=tr I2 M (by show upd (upd H P _) c' _ _=none;rw[aE bq];exact bo _ M) (LamY.mk (P:=X.prog) (w:=X.w) (params:=params) (body:=body) (scope:=scope) (clos:=clos) (qual:=X.env.qual++"<lambda>") (c:=c') (pm:=(X.mg "__name__").getD .none) (ctv:=ctv) (by rw[<- ca];exact aFI _ rfl));exact⟨.ref h'.objs.size,_,I3,rfl,h c' _ (I.hok.fresh av) (I.hok.fresh M) bq⟩
 .refine PySem.W.kla_eval aw (PySem.W.kla_makeFunctionHit (mg:=X.mg) ba I.ok.glob a_ U (hC.keeps I.bk) hP bb bv ⟨bm,ob,b1,b2,bf,bc,I.bk _ _ b3,b4,b5,b6⟩ λctv h' tk ext M=>?_);exact⟨.ref h'.objs.size,_,I.laid (t':=tk) (λb o e=>aFC _ (ext b o e)) M (LamY.mk (aFI _ rfl)),rfl,h _ (I.hok.fresh M)⟩
def aDW {params:Arguments} {body:Expr} {scope:Scope} {z:Pos} {c P:Addr} (Bd:Body X) (G:X.env.code=.ref c) (U:PySem.W.CodeHd X.base c P) (L:jG X.mg X.base) (J:defaultsOf params X.env=([],[])) (M:closureFor scope X.env=pure []) :
 PE X (.Lambda params body scope z) (aEL (X.env.qual++"<lambda>") P z params body scope):=X5 Bd G U L J M
def aCD {CX:CXT} {P:Program} {w:World} {K:PySem.W.Frag} {mg:Str->Option Value} {base:Heap} {k:Nat} {f c:Addr} {qual x:Str} {params:Arguments} {body:Expr} {scope:Scope} {N:List Str} {tb:Around->Shared->TE} (S:FnScope N [x] scope)
 (hb:∀ pm c' ctv u,bindArgs (PySem.W.kla_fn "<lambda>" qual params body scope [] pm (.ref c') ctv) ⟨[u],[]⟩=pure [(x,u)])
 {A:Around} {outer:List Env} {s:Shared} {H:Hp} {v:V} {u:Value} {Q:VK} {E:XK} (hr:Room (k+1) A) (G:Env0 P w K mg base A outer s H) (hf:H f=some (pU f qual params body scope c)) (hc:H c=some (CodeX c qual)) (rv:RelV v u)
 (z:∃ te,PE (gK CX P w K mg base N qual scope f (.ref c) A outer s H E) body te/\te (eL N [v]) H Q) :
 codeAny (model P w) A (.call (.ref f) ⟨[u],[]⟩) (CR CX outer P w H s Q E) s:=by
 have kp:∀ b o,base.get? b=some o->s.heap.get? b=some o:=λb o e=>(G.bs b o e).1;obtain⟨⟨pm,ctv,L⟩,_⟩:=G.hok f _ hf;obtain⟨⟨oc,vs,t,M,hd,hv⟩,_⟩:=G.hok c _ hc;refine we hr.depth L rfl S.co S.gen rfl ⟨c,oc,vs,t,rfl,M,hd,hv⟩ ?_;rw[hb];refine aFA (pw S.kind (λy hy=>?_) λenv he s1 x1=>?_)
 .rw[aF7.mp hy];exact(S.par x aFD).imp (λq=>q) λq=>⟨q,ou _ _ _ (.inl q)⟩
 subst he;obtain⟨te,ht,hq⟩:=z;have I:Inv (gK CX P w K mg base N qual scope f (.ref c) A outer s H E) [] (eL N [v]) H s1:=pE (us:=[u]) S hr.hd G rfl (.cons rv .nil) x1;refine⟨(G.mod.nolimit.keeps kp).keeps x1.toInCall.keep,wf (dt (ht [] s1 (eL N [v]) H _ I hq) (λu' s' U=>?_) λ_ _ U=>U)⟩;obtain⟨v',H',J,Y,q⟩:=U;exact⟨v',H',J.os,J.bare,J.base,J.hok,Y,q⟩
end
open PySem.W
def pV (tb:TE) (N:List Str) (f c L J:Addr) (M G U:HO):List V->List V->Hp->(List V->Hp->Prop)->Prop
 | [],z,H,K=>K z H
 | v :: r,z,H,K=>tb (eL N [v]) H λk H'=>H' f=some M/\H' c=some G/\H' L=some U/\H' J=some (.lst z)/\pV tb N f c L J M G U r (z++[k]) (upd H' J (.lst (z++[k]))) K
def EmpX (a:Addr) (e:Nat):HO:=.ext λh=>h.get? a=some (seqObj "list" #[] e)
def EmpX.mk {P:Program} {w:World} {H:Hp} {h:Heap} {a:Addr} {e:Nat} (h1:h.get? a=some (seqObj "list" #[] e)):ObjOk P w H h a (EmpX a e):=⟨h1,⟨_,h1⟩,λg1 g2 x k=>k _ x⟩
def aCE (X:Cx) (qual:Str) (params:Arguments) (body:Expr) (scope:Scope) (N:List Str) (tb:TE) (x y:V) (H2:Hp) (Q:VK):Prop:=∃ (a:Addr) (us:List V) (f c:Addr),x=.ref a/\y=.ref f/\H2 a=some (.lst us)/\us.length<64 /\
 H2 f=some (pU f qual params body scope c)/\H2 c=some (CodeX c qual)/\∀ z G L,H2 z=none->H2 G=none->z≠G->pV tb N f c z G (pU f qual params body scope c) (CodeX c qual) L us [] (upd (upd H2 z L) G (.lst [])) λks J =>
  J z=some L/\J G=some (.lst ks)/\∃ (O:KeyOrd) (key:Nat->O.α) (κ:SortKind),aAs X J ks O key κ/\∀ p:Array Nat,p.toList.Perm (List.range us.length)->Up O key p us.length->Q (.ref z) (upd (upd J G (.lst [])) z (.lst (D9 us p.toList)))
def aCb (X:Cx) (qual:Str) (params:Arguments) (body:Expr) (scope:Scope) (N:List Str) (tb te tl:TE):TE:=fun σ H Q=>te σ H λx H1=>tl σ H1 λy H2=>aCE X qual params body scope N tb x y H2 Q
def qU:∀ {a:List V} {b:List Value} {z:List V} {G:List Value},Vals a b->Vals z G->Vals (a++z) (b++G)
 | _,_,_,_,.nil,h=>h
 | _,_,_,_,.cons r t,h=>.cons r (qU t h)
section
variable {X:Cx}
def m8 {k:Nat} {f c:Addr} {qual x:Str} {params:Arguments} {body:Expr} {scope:Scope} {N:List Str} {tb:TE} (S:FnScope N [x] scope)
 (hb:∀ pm c' ctv u,bindArgs (PySem.W.kla_fn "<lambda>" qual params body scope [] pm (.ref c') ctv) ⟨[u],[]⟩=pure [(x,u)])
 (hbody:∀ (f c:Addr) (A:Around) (outer:List Env) (s:Shared) (H:Hp) (E:XK),Room k (A.deeper (envOfC qual scope s.heap.objs.size f (.ref c)))->PE (gK CX0 X.prog X.w X.K X.mg X.base N qual scope f (.ref c) A outer s H E) body tb)
 (hr:Room (k+3) X.A) {pins:List (Addr×Obj)} {s:Shared} {σ:St} {H:Hp} {Q:VK} (I:Inv X pins σ H s) {l:Addr} {us:List V} (hl:H l=some (.lst us)) (h64:us.length<64)
 (hf:H f=some (pU f qual params body scope c)) (hc:H c=some (CodeX c qual))
 (h:∀ ao kS EX,H ao=none->H kS=none->ao≠kS->pV tb N f c ao kS (pU f qual params body scope c) (CodeX c qual) EX us [] (upd (upd H ao EX) kS (.lst [])) λks H3 =>
  H3 ao=some EX/\H3 kS=some (.lst ks)/\∃ (O:KeyOrd) (key:Nat->O.α) (κ:SortKind),aAs X H3 ks O key κ/\∀ p:Array Nat,p.toList.Perm (List.range us.length)->Up O key p us.length->Q (.ref ao) (upd (upd H3 kS (.lst [])) ao (.lst (D9 us p.toList)))) :
 wpAny (model X.prog X.w) X.A (call (.builtin "sorted") [.ref l] [(Str.ofString "key",.ref f)]) (EP X pins σ Q) X.xe s:=by
 obtain⟨vs,rv,pl,hz⟩:=I.list (SqL.of hl);have l2:us.length=vs.length:=rv.length;have h64s:(64:Nat)<=sizeLine:=by decide
 have hbig:vs.length<=sizeLine:=jf (show vs.length<=64 by omega) (by decide);refine call_function_entry_kw kind_sorted plain_sorted entry_sorted (ksk_s1 _ _) ?_;unfold Builtin.«sorted»;refine aEz (m:=checkCount "sorted" 1 1 _) (aFA ?_);refine aEz (collect_list pl.isList ?_ hbig);refine aEz (sf ?_ hbig);have z1:((s.heap.push (seqObj "list" #[] 0)).update s.heap.objs.size (Obj.mapSeq (·++vs.toArray))).objs.size=s.heap.objs.size+1:=by rw[Heap.size_update,size_push']
 have oL:(((s.heap.push (seqObj "list" #[] 0)).update s.heap.objs.size (Obj.mapSeq (·++vs.toArray))).push (seqObj "list" vs.toArray 0)).get? (s.heap.objs.size+1)=some (seqObj "list" vs.toArray 0):=z1 ▸ aFI _ rfl;have kp:∀ b o,s.heap.get? b=some o->(((s.heap.push (seqObj "list" #[] 0)).update s.heap.objs.size (Obj.mapSeq (·++vs.toArray))).push (seqObj "list" vs.toArray 0)).get? b=some o:=λb o q =>
  aFC _ ((jx _ _ _ _ (aFY (aFH q))).trans (aFC _ q))
 show wpAny _ _ _ _ _ { s with heap:=((s.heap.push (seqObj "list" #[] 0)).update s.heap.objs.size (Obj.mapSeq (·++vs.toArray))).push (seqObj "list" vs.toArray 0) };rw[z1];generalize ((s.heap.push (seqObj "list" #[] 0)).update s.heap.objs.size (Obj.mapSeq (·++vs.toArray))).push (seqObj "list" vs.toArray 0)=h2 at oL kp;obtain⟨ao,hao⟩:∃ ao,s.heap.objs.size+1=ao:=⟨_,rfl⟩;have hlo:s.heap.objs.size<=ao:=by omega
 rw[hao]at oL ⊢;clear hao z1;refine aEz (jn (wpAny_call_entry_kw slot_list_sort ⟨_,oL,rfl⟩ vx ?body (ksk_l1 _ _)))
 case body =>
  show wpAny (model X.prog X.w) X.A.in1.in1 (Builtin.«list.sort» ⟨[.ref ao],[(Str.ofString "key",.ref f)]⟩) _ _ _;rw[ksk_t1];unfold ksk_tree;refine aEz (listItems_at oL rfl ?_);refine aEz (pk oL rfl ?_ (by rw[aFJ];omega) (jr _));obtain⟨e1,ho1⟩:∃ e1,(h2.update ao (Obj.mapSeq λ_=>(#[]:Array Value))).get? ao=some (seqObj "list" #[] e1):=⟨_,qm oL _⟩;refine aEz (vc ho1 rfl ?_);refine aEz (wm ?_ (by show vs.length<=_;exact hbig));refine aEz (sf ?_ (jr _));refine jn ?_;have nao:∀ b o,s.heap.get? b=some o->b≠ao:=λb o q z=>by rw[z]at q;exact absurd (aFH q) (Nat.not_lt.mpr hlo)
  have k3:∀ b o,s.heap.get? b=some o->((h2.update ao (Obj.mapSeq λ_=>(#[]:Array Value))).push (seqObj "tuple" vs.toArray 0)).get? b=some o:=λb o q =>
   aFC _ ((jx _ _ _ _ (nao b o q)).trans (kp b o q))
  have ho3:((h2.update ao (Obj.mapSeq λ_=>(#[]:Array Value))).push (seqObj "tuple" vs.toArray 0)).get? ao=some (seqObj "list" #[] e1):=aFC _ ho1;show wpAny _ _ _ _ _ { s with heap:=((h2.update ao (Obj.mapSeq λ_=>(#[]:Array Value))).push (seqObj "tuple" vs.toArray 0)).push (seqObj "list" #[] 0) };generalize (h2.update ao (Obj.mapSeq λ_=>(#[]:Array Value))).push (seqObj "tuple" vs.toArray 0)=h3 at k3 ho3;have I3:Inv X pins σ (upd H ao (EmpX ao e1)) { s with heap:=h3,toks:=s.toks }:=I.laid k3 hlo (EmpX.mk ho3);have hks:s.heap.objs.size<=h3.objs.size:=km (tu hlo (aFH ho3));have hna:H ao=none:=I.hok.fresh hlo;have hnk:H h3.objs.size=none:=I.hok.fresh hks;have hne:ao≠h3.objs.size:=aFY (aFH ho3);have I4:Inv X pins σ (upd (upd H ao (EmpX ao e1)) h3.objs.size (.lst [])) { s with heap:=h3.push (seqObj "list" #[] 0),toks:=s.toks }:=I3.laid (λb o q=>aFC _ q) (ah _) ⟨jr _,[],0,.nil,aFI _ rfl⟩;have h':=h ao h3.objs.size (EmpX ao e1) (I.hok.fresh hlo) (I.hok.fresh hks) hne;generalize h3.objs.size=kS at I4 h' hne hnk ⊢;unfold ksk_rest;refine aEz (qv ?_)
  first
   | rw[List.forIn_toArray]
   | (rw[<- Array.forIn_toList];simp only[List.toList_toArray])
   | rw[<- Array.forIn_toList]
  refine aEz (ksk_fold (λi s'=>∃ (H':Hp) (kus:List V),Inv X pins σ H' s'/\kus.length=i/\H' kS=some (.lst kus)/\H' f=some (pU f qual params body scope c)/\H' c=some (CodeX c qual)/\H' ao=some (EmpX ao e1) /\
   pV tb N f c ao kS (pU f qual params body scope c) (CodeX c qual) (EmpX ao e1) (us.drop i) kus H' λks H3 =>
    H3 ao=some (EmpX ao e1)/\H3 kS=some (.lst ks)/\∃ (O:KeyOrd) (key:Nat->O.α) (κ:SortKind),aAs X H3 ks O key κ/\∀ p:Array Nat,p.toList.Perm (List.range us.length)->Up O key p us.length->Q (.ref ao) (upd (upd H3 kS (.lst [])) ao (.lst (D9 us p.toList)))) vs 0 _ ?cst ?csp ?cdn)
  case cst=>exact⟨_,[],I4,rfl,aD,by rw[aE (aU hf hnk),aE (aU hf hna)];exact hf,by rw[aE (aU hc hnk),aE (aU hc hna)];exact hc,by rw[aE hne];exact aD,h'⟩
  case csp =>
   rintro j v s' hj ⟨H',kus,J,hkl,ek,ef,ec,ea,run⟩;simp only[xh]at hkl run ⊢;have hjl:j<us.length:=by rw[l2];exact(aFd.mp hj).1
   have hv:v=vs.getD j Value.none:=by rw[fy,hj];rfl
   have rvu:RelV (us.getD j V.non) v:=by rw[hv];exact cI rv hjl
   have dj:us.drop j=us.getD j V.non :: us.drop (j+1):=by
    rw[jm hjl];simp[hjl]
   rw[dj]at run;have call1:wpAny (model X.prog X.w) X.A.in1.in1 (call (.ref f) [v]) (EP X pins σ λk H'=>H' f=some (pU f qual params body scope c)/\H' c=some (CodeX c qual)/\H' ao=some (EmpX ao e1)/\H' kS=some (.lst kus) /\
    pV tb N f c ao kS (pU f qual params body scope c) (CodeX c qual) (EmpX ao e1) (us.drop (j+1)) (kus++[k]) (upd H' kS (.lst (kus++[k]))) λks H3 =>
    H3 ao=some (EmpX ao e1)/\H3 kS=some (.lst ks)/\∃ (O:KeyOrd) (key:Nat->O.α) (κ:SortKind),aAs X H3 ks O key κ/\∀ p:Array Nat,p.toList.Perm (List.range us.length)->Up O key p us.length->Q (.ref ao) (upd (upd H3 kS (.lst [])) ao (.lst (D9 us p.toList)))) (λ_ _=>False) s' :=
    qf (mi (aCD (k:=k) (CX:=CX0) (tb:=λ_ _=>tb) (E:=λ_ _ _=>False) S hb hr.in1.in1 J.env0.in1.in1 ef ec rvu ⟨tb,hbody _ _ _ _ _ _ _ ((hr.in1.in1).deeper _),run⟩) λr s'' hq=>by
     cases r with
     | error ev=>exact hq
     | ok fl =>
      cases fl with
      | ret u=>exact J.after hq
      | next=>exact hq.elim
      | brk=>exact hq.elim
      | cont=>exact hq.elim)
   clear run;refine aEz (uy (dt call1 (λu s'' he=>?_) λ_ _ hF=>hF.elim));obtain⟨k1,H1,J1,r1,f1,c1,a1,ek1,run⟩:=he
   try dsimp only
   obtain⟨z1,its,n1,ri,hil,hg⟩:=J1.lstM ek1;have hkj:its.length=j:=by omega
   obtain⟨c2,hc2⟩:∃ c2,(s''.heap.update kS (Obj.mapSeq (·.push u))).get? kS=some (seqObj "list" (its.toArray.push u) c2):=⟨_,qm hg (·.push u)⟩;refine aEz (pk hg rfl ?_ (by rw[aFJ];omega) (by rw[Array.size_push,aFJ];have:=h64s;omega));refine aFA ⟨rfl,upd H1 kS (.lst (kus++[k1])),kus++[k1],J1.write (t':=s''.toks) (by rw[ek1];trivial) (.inl rfl) (λb o hb e=>(jx _ _ _ _ hb).trans e) ⟨_,hc2⟩ ⟨?_,its++[u],c2,qU ri (.cons r1 .nil),?_⟩,by simp[hkl],aD,by rw[aE (aU hf hnk)];exact f1,by rw[aE (aU hc hnk)];exact c1,by rw[aE hne];exact a1,run⟩
   .rw[aFK,hkl];show j+1<=_;omega
   .rw[hc2];simp[seqObj]
  case cdn =>
   rintro s' ⟨H',kus,J,hkl,ek,ef,ec,ea,run⟩;rw[xh,<- l2,mu]at run;rw[xh]at hkl;obtain⟨_,_,O,key,κ,hC,hQ⟩:=run
   try dsimp only
   obtain⟨z1,ks,n1,ri,hil,hg⟩:=J.lstM ek;obtain⟨hga,_⟩:=J.hok ao _ ea;refine aEz (listItems_at hg rfl ?_);have hkv:ks.length=vs.length:=by omega
   have hCo:aCa X.prog X.w X.A.in1.in1 O key ks κ s':=hC pins σ s' ks J ri;have tail:∀ (st:SortSt) (p:Array Nat),failedOf st=none->(arrOf st).map (·.2)=(lB vs p).toArray->p.toList.Perm (List.range vs.length)->Up O key p us.length->wpAny (model X.prog X.w) X.A.in1.in1 (ksk_tail ao false e1 (.ref kS) st) (λr s=>∃ v,r=.done (.ret v)/\wpAny (model X.prog X.w) X.A.in1 (ret (.ref ao)) (λr s=>∃ v,r=.done (.ret v)/\EP X pins σ Q v s) X.xe s) X.xe s':=λst p hfl hsn hp hup=>by
    unfold ksk_tail
    try dsimp only
    obtain⟨c2,hc2⟩:∃ c2,(s'.heap.update kS (Obj.mapSeq λ_=>(#[]:Array Value))).get? kS=some (seqObj "list" #[] c2):=⟨_,qm hg λ_=>#[]⟩;have J2:Inv X pins σ (upd H' kS (.lst [])) { s' with heap:=s'.heap.update kS (Obj.mapSeq λ_=>(#[]:Array Value)),toks:=s'.toks }:=J.write (by rw[ek];trivial) (.inl rfl) (λb o hb e=>(jx _ _ _ _ hb).trans e) ⟨_,hc2⟩ ⟨jr _,[],c2,.nil,hc2⟩;have hga2:(s'.heap.update kS (Obj.mapSeq λ_=>(#[]:Array Value))).get? ao=some (seqObj "list" #[] e1):=(jx _ _ _ _ hne).trans hga;have hpl:p.toList.length=vs.length:=by rw[hp.length_eq,jz]
    have hsz:(lB vs p).toArray.size<=sizeLine:=by
     rw[aFJ,aFB,hpl];exact hbig
    rw[hsn,hfl];refine aEz (pk hg rfl ?_ (by rw[aFJ];omega) (jr _));refine aEz (mD ?_);refine aEz (vc hga2 rfl ?_);simp only[jv,oy];refine aEz (pk hga2 rfl ?_ (jr _) (Nat.le_succ_of_le hsz));simp only[qt,jv,oy];obtain⟨c3,hc3⟩:∃ c3,((s'.heap.update kS (Obj.mapSeq λ_=>(#[]:Array Value))).update ao (Obj.mapSeq λ_=>(lB vs p).toArray)).get? ao=some (seqObj "list" (lB vs p).toArray c3):=⟨_,qm hga2 λ_=>(lB vs p).toArray⟩;refine aFA ⟨_,rfl,aFA ⟨_,rfl,.ref ao,upd (upd H' kS (.lst [])) ao (.lst (D9 us p.toList)),J2.write (t':=s'.toks) (by rw[aE hne,ea];trivial) (.inl rfl) (λb o hb e=>(jx _ _ _ _ hb).trans e) ⟨_,hc3⟩ ⟨?_,lB vs p,c3,E1 rv (λi hi=>?_),hc3⟩,rfl,hQ p (by rw[l2];exact hp) hup⟩⟩
    .rw[aFB,hpl];exact hbig
    .have:=hp.mem_iff.mp hi;simpa using this
   unfold ksk_end
   try dsimp only
   simp only[jv,oy]
   by_cases h2':vs.toArray.size<2
   .rw[da h2',da h2'];refine aEz (aFA ?_);refine aEz (aFA ?_)
    try dsimp only
    have h2'':vs.length<2:=by simpa using h2'
    have ea:(arrOf (SortSt.mk' general' (ks.toArray.zip vs.toArray) #[] 7 none)).map (·.2)=(lB vs (List.range vs.length).toArray).toArray:=by
     rw[wH h2''];show (ks.toArray.zip vs.toArray).map (·.2)=vs.toArray;apply Array.toList_inj.mp
     simp;exact List.map_snd_zip (Nat.le_of_eq hkv.symm)
    refine dt (tail _ (List.range vs.length).toArray rfl ea (by simp) (aAr (by omega))) (λ_ _ z=>z) λ_ _ z=>z
   .rw[bB h2',bB h2'];have hl2:2<=vs.length:=by simp at h2';omega
    refine aEz (hCo.kind (by omega) _ _ ?_);refine aEz (dt (kat_run (s:=s') (κ:=κ) (ks:=ks) (vs:=vs) (Q:=λst' s''=>s''=s'/\failedOf st'=none/\∃ p:Array Nat,p.Perm (List.range vs.length).toArray/\Up O key p vs.length/\(arrOf st').map (·.2)=(lB vs p).toArray)
     (G:=λp s''=>s''=s'/\p.Perm (List.range vs.length).toArray/\Up O key p vs.length) hkv hl2 (by omega) (λp st' s'' g1 g2 g3 ⟨g4,g5,g6⟩=>⟨g4,g3,p,g5,g6,kat_snds hkv g2⟩) (W5 (n:=vs.length) (by rw[<- hkv];exact hCo.ans) (by omega) λp e u=>⟨rfl,e,u⟩)) ?_ λ_ _ e=>e)
    rintro ⟨⟨⟩,st'⟩ s'' ⟨rfl,hf',p,e,u,ea⟩
    try dsimp only
    refine dt (tail _ p hf' ea (by have:=e.toList;simpa using this) (by rw[l2];exact u)) (λ_ _ z=>z) λ_ _ z=>z
end
section
variable {X:Cx} {e lam:Expr} {te tl:TE} {p pos kp:Pos}
def aAt {k j:Nat} {qual x:Str} {params:Arguments} {body:Expr} {scope:Scope} {N:List Str} {tb:TE} (hr:Room j X.A) (hg:Gl X "sorted") (hm:X.mg "sorted"=none) (he:PE X e te) (hl:PE X lam tl) (S:FnScope N [x] scope)
 (hb:∀ pm c' ctv u,bindArgs (PySem.W.kla_fn "<lambda>" qual params body scope [] pm (.ref c') ctv) ⟨[u],[]⟩=pure [(x,u)])
 (z:∀ (f c:Addr) (A:Around) (outer:List Env) (s:Shared) (H:Hp) (E:XK),Room k (A.deeper (envOfC qual scope s.heap.objs.size f (.ref c)))->PE (gK CX0 X.prog X.w X.K X.mg X.base N qual scope f (.ref c) A outer s H E) body tb)
 (hj:k+3<=j:=by decide)
 (hs:starEach [e] X.env=(false,eval e X.env) :: starEach [] X.env:=by rfl) (J:backTo pos (starEach [e] X.env)=(false,eval e X.env) :: backTo pos (starEach [] X.env):=by rfl) (L:(backTo pos (starEach [e] X.env)).any (·.1)=false:=by rfl)
 (M:(backToKw pos (keywordEach [⟨some "key",lam,kp⟩] X.env)).all (·.1.isSome)=true:=by rfl) (U:(backToKw pos (keywordEach [⟨some "key",lam,kp⟩] X.env)).any (·.1.isNone)=false:=by rfl) (Y:(backToKw pos (keywordEach [⟨some "key",lam,kp⟩] X.env)).filterMap (·.1)=([Str.ofString "key"]:List Str):=by rfl) :
 PE X (.Call (.Name "sorted" p) [e] [⟨some "key",lam,kp⟩] pos) (aCb X qual params body scope N tb te tl):=by
 intro pins s σ H Q I h;refine ki (fA I hg hm eA ?_);refine wr ?_ J L M U;refine thn ((aA he aB hs) pos pins s σ H (λvs H1=>match vs with | [x]=>tl σ H1 λy H2=>aCE X qual params body scope N tb x y H2 Q | _=>False) I h) λus s1 ⟨vs,H1,I1,r1,q1⟩=>?_;obtain⟨x,rfl⟩:∃ x,vs=[x]:=by
  rcases vs with _ | ⟨x,_ | ⟨_,_⟩⟩
  .exact q1.elim
  .exact⟨x,rfl⟩
  .exact q1.elim
 refine thn ((nR hl sG) pos pins s1 σ H1 (λks H2=>match ks with | [y]=>aCE X qual params body scope N tb x y H2 Q | _=>False) I1 q1) λws s2 ⟨zs,H2,I2,r2,G⟩=>?_;obtain⟨y,rfl⟩:∃ y,zs=[y]:=by
  rcases zs with _ | ⟨x,_ | ⟨_,_⟩⟩
  .exact G.elim
  .exact⟨x,rfl⟩
  .exact G.elim
 obtain⟨a,us,f,c,rfl,rfl,ha,av,hf,hc,G⟩:=G;obtain⟨u,rfl,ru⟩:=r1.one;obtain⟨v,rfl,rv⟩:=r2.one;cases ru;cases rv;rw[Y];exact m8 (k:=k) S hb z (hr.mono hj) I2 ha av hf hc G
def aAu {k j:Nat} {x:Str} {params:Arguments} {body:Expr} {scope:Scope} {z:Pos} {c P:Addr} {N:List Str} {tb:TE} (hr:Room j X.A) (hg:Gl X "sorted") (hm:X.mg "sorted"=none) (he:PE X e te)
 (Bd:Body X) (G:X.env.code=.ref c) (hC:PySem.W.CodeHd X.base c P) (M:jG X.mg X.base) (L:defaultsOf params X.env=([],[])) (U:closureFor scope X.env=pure []) (S:FnScope N [x] scope)
 (hb:∀ pm c' ctv u,bindArgs (PySem.W.kla_fn "<lambda>" (X.env.qual++"<lambda>") params body scope [] pm (.ref c') ctv) ⟨[u],[]⟩=pure [(x,u)])
 (J:∀ (f c:Addr) (A:Around) (outer:List Env) (s:Shared) (H:Hp) (E:XK),Room k (A.deeper (envOfC (X.env.qual++"<lambda>") scope s.heap.objs.size f (.ref c)))->PE (gK CX0 X.prog X.w X.K X.mg X.base N (X.env.qual++"<lambda>") scope f (.ref c) A outer s H E) body tb)
 (hj:k+3<=j:=by decide)
 (hs:starEach [e] X.env=(false,eval e X.env) :: starEach [] X.env:=by rfl) (Y:backTo pos (starEach [e] X.env)=(false,eval e X.env) :: backTo pos (starEach [] X.env):=by rfl) (av:(backTo pos (starEach [e] X.env)).any (·.1)=false:=by rfl)
 (aw:(backToKw pos (keywordEach [⟨some "key",.Lambda params body scope z,kp⟩] X.env)).all (·.1.isSome)=true:=by rfl) (a_:(backToKw pos (keywordEach [⟨some "key",.Lambda params body scope z,kp⟩] X.env)).any (·.1.isNone)=false:=by rfl) (ba:(backToKw pos (keywordEach [⟨some "key",.Lambda params body scope z,kp⟩] X.env)).filterMap (·.1)=([Str.ofString "key"]:List Str):=by rfl) :
 PE X (.Call (.Name "sorted" p) [e] [⟨some "key",.Lambda params body scope z,kp⟩] pos) (aCb X (X.env.qual++"<lambda>") params body scope N tb te (aEL (X.env.qual++"<lambda>") P z params body scope)) :=
 aAt hr hg hm he (aDW Bd G hC M L U) S hb J hj hs Y av aw a_ ba
end
end L2
namespace CW
open PySem L2
def dA (a:Int):List Int->List Int
 | []=>[]
 | [_]=>[]
 | x :: y :: r=>if y=x+1 then (x - 2 * a) :: dA a (y :: r)else dA (a+1) (y :: r)
def stG:List Int->Nat
 | []=>0
 | [_]=>1
 | x :: y :: r=>if y=x+1 then stG (y :: r)else stG (y :: r)+1
def yK:∀ (r:List Int) (a x:Int),Row (x :: r)->∀ z∈dA a (x :: r),x - 2 * a<=z
 | [],a,x,_,z,hz=>by simp[dA]at hz
 | y :: r,a,x,h,z,hz=>by
  have h':=List.pairwise_cons.mp h;have G:=h'.1 y aFD;unfold dA at hz;split at hz
  .rename_i e
   rcases aFe.mp hz with q | q
   .omega
   .have:=yK r a y h'.2 z q;omega
  .have:=yK r (a+1) y h'.2 z hz;omega
def dX:List Int->List Int
 | []=>[]
 | [x]=>[x]
 | x :: y :: r=>if y=x+1 then dX (y :: r)else x :: dX (y :: r)
def mH:∀ (r:List Int) (A:List (Int×Int)) (f z:Int),(r.foldl fN (A++[(f,z)])).length=A.length+stG (z :: r)/\(r.foldl fN (A++[(f,z)])).map (·.2)=A.map (·.2)++dX (z :: r)
 | [],A,f,z=>by
  refine⟨?_,?_⟩
  .show (A++[(f,z)]).length=A.length+1;simp
  .show (A++[(f,z)]).map (·.2)=A.map (·.2)++[z];simp
 | y :: r,A,f,z=>by
  show ((r.foldl fN (fN (A++[(f,z)]) y)).length=_/\_);rw[show List.foldl fN (A++[(f,z)]) (y :: r)=r.foldl fN (fN (A++[(f,z)]) y) from rfl,hJ]
  by_cases G:y=z+1
  .rw[da (show (f,z).2=y - 1 by show z=y - 1;omega)];have e1:stG (z :: y :: r)=stG (y :: r):=da G;have J:dX (z :: y :: r)=dX (y :: r):=da G;rw[e1,J];exact mH r A f y
  .rw[bB (show ¬ (f,z).2=y - 1 by show ¬ z=y - 1;omega)];have e1:stG (z :: y :: r)=stG (y :: r)+1:=bB G;have J:dX (z :: y :: r)=z :: dX (y :: r):=bB G;obtain⟨k1,k2⟩:=mH r (A++[(f,z)]) y y;rw[e1,J,k1,k2];refine⟨?_,?_⟩
   .rw[aFK,kd];omega
   .simp
def aCF (row:List Int):(bD row).length=stG row:=by
 cases row with
 | nil=>rfl
 | cons x r=>exact(mH r [] x x).1.trans (by simp)
def m9 (row:List Int):(bD row).map (·.2)=dX row:=by
 cases row with
 | nil=>rfl
 | cons x r=>exact(mH r [] x x).2
def yL:∀ (r:List Int) (x:Int),Row (x :: r)->∀ z∈dX (x :: r),x<=z
 | [],x,_,z,hz=>by rw[aF7.mp hz];exact nu _
 | y :: r,x,h,z,hz=>by
  have h':=List.pairwise_cons.mp h;have G:=h'.1 y aFD;unfold dX at hz;split at hz
  .have:=yL r y h'.2 z hz;omega
  .rcases aFe.mp hz with q | q
   .omega
   .have:=yL r y h'.2 z q;omega
def lG:∀ (row:List Int) (a:Int),(dA a row).length+stG row=row.length
 | [],a=>rfl
 | [x],a=>rfl
 | x :: y :: r,a=>by
  by_cases z:y=x+1
  .have e1:stG (x :: y :: r)=stG (y :: r):=da z;have G:dA a (x :: y :: r)=(x - 2 * a) :: dA a (y :: r):=da z;have:=lG (y :: r) a;rw[e1,G,aF4,aF4];omega
  .have e1:stG (x :: y :: r)=stG (y :: r)+1:=bB z;have G:dA a (x :: y :: r)=dA (a+1) (y :: r):=bB z;have:=lG (y :: r) (a+1);rw[e1,G,aF4];omega
def tW:∀ (row:List Int) (a:Int),Row row->Row (dA a row)
 | [],a,_=>List.Pairwise.nil
 | [x],a,_=>List.Pairwise.nil
 | x :: y :: r,a,h=>by
  have h':=List.pairwise_cons.mp h
  by_cases J:y=x+1
  .have G:dA a (x :: y :: r)=(x - 2 * a) :: dA a (y :: r):=da J;rw[G];refine List.pairwise_cons.mpr ⟨λz hz=>?_,tW (y :: r) a h'.2⟩;have:=yK r a y h'.2 z hz;omega
  .have G:dA a (x :: y :: r)=dA (a+1) (y :: r):=bB J;rw[G];exact tW (y :: r) (a+1) h'.2
def cU:Nat->List Int->List Int
 | 0,r=>r
 | k+1,r=>dA 0 (cU k r)
def wR {row:List Int} (h:Row row):∀ k,Row (cU k row)
 | 0=>h
 | k+1=>tW _ 0 (wR h k)
def X6:∀ (r:List Int) (x:Int),∃ z t,dX (x :: r)=z :: t
 | [],x=>⟨x,[],rfl⟩
 | y :: r,x=>by
  by_cases G:y=x+1
  .rw[show dX (x :: y :: r)=dX (y :: r) from da G];exact X6 r y
  .exact⟨x,dX (y :: r),bB G⟩
def yM {G:Type} {l t:List G} {i:Nat} {x:G} (h:l.drop i=x :: t):l[i]?=some x/\l.drop (i+1)=t:=by
 refine⟨?_,?_⟩
 .have:=congrArg (λz:List G=>z[0]?) h;simpa[ub]using this
 .rw[<- List.drop_drop,h];rfl
def aCG {E row stays P:List Int} {i a:Nat} {x:Int} (Y:Row row) (hx:row[i]?=some x) (G:E.drop a=dX (row.drop i)) (J:stays++dA a (row.drop i)=P) :
 ∃ z,E[a]?=some z/\((x=z/\E.drop (a+1)=dX (row.drop (i+1))/\stays++dA ((a+1:Nat):Int) (row.drop (i+1))=P)\/(x≠z/\E.drop a=dX (row.drop (i+1))/\(stays++[x - 2 * (a:Int)])++dA a (row.drop (i+1))=P)):=by
 obtain⟨hi,ex⟩:=aFd.mp hx;have hd:row.drop i=x :: row.drop (i+1):=by rw[jm hi,ex]
 have L:Row (row.drop i):=vz (List.drop_sublist i row) Y;rw[hd]at G J L;generalize row.drop (i+1)=t at G J L ⊢;cases t with
 | nil =>
  obtain⟨k1,k2⟩:=yM (t:=[]) (x:=x) G;exact⟨x,k1,.inl ⟨rfl,k2,J⟩⟩
 | cons y r =>
  have h':=List.pairwise_cons.mp L;have av:=h'.1 y aFD
  by_cases M:y=x+1
  .rw[show dX (x :: y :: r)=dX (y :: r) from da M]at G;rw[show dA (a:Int) (x :: y :: r)=(x - 2 * (a:Int)) :: dA a (y :: r) from da M]at J;obtain⟨z,t,U⟩:=X6 r y;have hz:=yL r y h'.2 z (by rw[U];exact aFD);obtain⟨k1,k2⟩:=yM (G.trans U);exact⟨z,k1,.inr ⟨by omega,G,by rw[jq];exact J⟩⟩
  .rw[show dX (x :: y :: r)=x :: dX (y :: r) from bB M]at G;rw[show dA (a:Int) (x :: y :: r)=dA ((a:Int)+1) (y :: r) from bB M]at J;obtain⟨k1,k2⟩:=yM G;exact⟨x,k1,.inl ⟨rfl,k2,by rw[show ((a+1:Nat):Int)=(a:Int)+1 by omega];exact J⟩⟩
def aAv:∀ (r:List Int) (x:Int),1<=stG (x :: r)
 | [],x=>ah _
 | y :: r,x=>by
  by_cases z:y=x+1
  .rw[show stG (x :: y :: r)=stG (y :: r) from da z];exact aAv r y
  .rw[show stG (x :: y :: r)=stG (y :: r)+1 from bB z];omega
inductive lH (vs:List V) (H:Hp) (Q:VK) (E_:XK):Prop
 | mk (a:Addr) (row:List Int) (h0_:vs=[.ref a]) (h1_:H a=some (.lst (row.map V.int))) (h2_:Row row) (h3_:row.length<=60) (h4_:O4 H Q (dA 0 row)):lH vs H Q E_
inductive lI (vs:List V) (H:Hp) (Q:VK) (E_:XK):Prop
 | mk (a:Addr) (row:List Int) (h0_:vs=[.ref a]) (h1_:H a=some (.lst (row.map V.int))) (h2_:Row row) (h3_:row.length<=60) (h4_:∀ n:Nat,cU n row=[]->(∀ k,k<n->cU k row≠[])->O4 H Q ((List.range n).map λk=>(stG (cU k row):Int))):lI vs H Q E_
end CW
namespace L2
open PySem PySem.Spec PyProof.Rows
section
variable {K:PySem.W.Frag} {x qual:Str} {st:Stmt} {f:Addr} {fd:FuncData} {p1 p2 p3 p4:Str}
def Fun.binds1 (F:Fun K x qual st f fd) (h:∀ (kV z pm:Value) (J:Option Addr) (G ct u:Value),bindArgs (PySem.W.fnOf x qual (bS st) (bH st) (aH st) .none kV z pm J G ct) ⟨[u],[]⟩=pure [(p1,u)]):Binds K fd [p1] [] :=
 F.binds λa b c d e g us L=>match us,L with | [u],_=>h a b c d e g u
def Fun.binds2 (F:Fun K x qual st f fd) (h:∀ (kV z pm:Value) (J:Option Addr) (G ct u v:Value),bindArgs (PySem.W.fnOf x qual (bS st) (bH st) (aH st) .none kV z pm J G ct) ⟨[u,v],[]⟩=pure [(p1,u),(p2,v)]):Binds K fd [p1,p2] [] :=
 F.binds λa b c d e g us L=>match us,L with | [u,v],_=>h a b c d e g u v
def Fun.binds3 (F:Fun K x qual st f fd) (h:∀ (kV z pm:Value) (J:Option Addr) (G ct u v w:Value),bindArgs (PySem.W.fnOf x qual (bS st) (bH st) (aH st) .none kV z pm J G ct) ⟨[u,v,w],[]⟩=pure [(p1,u),(p2,v),(p3,w)]):Binds K fd [p1,p2,p3] [] :=
 F.binds λa b c d e g us L=>match us,L with | [u,v,w],_=>h a b c d e g u v w
end
end L2
namespace CW
open PySem L2
def wS:Nat->List Int->Int->List (Int×Int)
 | 0,_,_=>[]
 | _+1,[],_=>[]
 | k+1,x :: st,n=>(x,n) :: wS k st (n+1)
def fK:List Int->List Int->Int->List (Int×Int)
 | [],st,n=>wS st.length st n
 | p :: r,st,n=>wS (min st.length (p - n).toNat) st n++fK r (p :: st.drop (min st.length (p - n).toNat)) (p+1)
def oS (row:List Int):List (Int×Int):=fK row [] 0
def n4 {p:Int} {r st:List Int} {n:Int} (h:st=[]\/p<=n):fK (p :: r) st n=fK r (p :: st) (p+1):=by
 have e:min st.length (p - n).toNat=0:=by
  rcases h with h | h
  .subst h;simp
  .omega
 simp only[fK,e,wS,lj,wl]
def n6 {p x:Int} {r st:List Int} {n:Int} (h:n<p):fK (p :: r) (x :: st) n=(x,n) :: fK (p :: r) st (n+1):=by
 have e:min (x :: st).length (p - n).toNat=min st.length (p - (n+1)).toNat+1:=by rw[aF4];omega
 rw[fK,fK,e,wS,List.drop_succ_cons];rfl
def n8 (x:Int) (st:List Int) (n:Int):fK [] (x :: st) n=(x,n) :: fK [] st (n+1):=rfl
inductive nE (vs:List V) (H:Hp) (Q:VK) (E_:XK):Prop
 | mk (a:Addr) (row:List Int) (h0_:vs=[.ref a]) (h1_:H a=some (.lst (row.map V.int))) (h2_:Row row) (h3_:row.length<=60) (h4_:∀ qs:List (Int×Int),qs.Perm (oS row)->qs.Pairwise ple->aDL H Q qs):nE vs H Q E_
def mS:∀ {a b:List Int},a.Perm b->a.Pairwise (·<=·)->b.Pairwise (·<=·)->a=b
 | [],b,h,_,_=>by rw[h.symm.eq_nil]
 | x :: a,[],h,_,_=>by have:=h.eq_nil;cases this
 | x :: a,y :: b,h,J,L=>by
  have z:=List.pairwise_cons.mp J;have G:=List.pairwise_cons.mp L;have M:x∈y :: b:=h.mem_iff.mp aFD;have U:y∈x :: a:=h.mem_iff.mpr aFD;have e:x=y:=by
   rcases aFe.mp M with q | q
   .exact q
   .rcases aFe.mp U with r | r
    .exact r.symm
    .have h1:=z.1 y r;have h2:=G.1 x q;omega
  subst e;rw[mS (List.perm_cons x |>.mp h) z.2 G.2]
end CW
namespace L2
open PySem PySem.Spec PyProof.Rows
open PySem.MeetsSeq
end L2
namespace L2
open PySem PySem.Spec PyProof.Rows
end L2
namespace CW
open PySem L2
def kvI (z:List (Int×Int)):List (Key×V):=z.map λm=>((Sum.inl m.1:Key),V.int m.2)
def lkI (z:List (Int×Int)) (c:Int):Option Int:=(z.find? λm=>decide (m.1=c)).map (·.2)
def lJ (k:Int):∀ G:List (Int×Int),dJ (kvI G) (Sum.inl k:Key)=(lkI G k).map V.int
 | []=>rfl
 | m :: r=>by
  by_cases h:m.1=k
  .have:dJ (kvI (m :: r)) (Sum.inl k:Key)=some (V.int m.2):=dH (p:=((Sum.inl m.1:Key),V.int m.2)) (by rw[h]);rw[this];unfold lkI;rw[lm,aFX h];rfl
  .have:dJ (kvI (m :: r)) (Sum.inl k:Key)=dJ (kvI r) (Sum.inl k:Key):=dI (p:=((Sum.inl m.1:Key),V.int m.2)) (λz=>h (qp z));rw[this,lJ k r];unfold lkI;rw[lm,aFW h]
def tX (z:List (Int×Int)) (k v:Int):List (Int×Int):=if z.any (λm=>decide (m.1=k))then z.map (λm=>if m.1=k then (m.1,v)else m)else z++[(k,v)]
def X7 (G:List (Int×Int)) (k v:Int):hV (kvI G) (Sum.inl k:Key) (V.int v)=kvI (tX G k v):=by
 have e:(kvI G).any (λL=>decide (L.1=(Sum.inl k:Key)))=G.any (λm=>decide (m.1=k)):=by
  unfold kvI;rw[List.any_map]
  congr 1
  funext m
  simp only[Function.comp]
  by_cases h:m.1=k
  .rw[aFX h,aFX (by rw[h])]
  .rw[aFW h,aFW (λz=>h (qp z))]
 unfold hV tX;rw[e]
 by_cases h:G.any (λm=>decide (m.1=k))=true
 .rw[da h,da h];unfold kvI;rw[aF5,aF5];refine jp λm _=>?_;simp only[Function.comp]
  by_cases J:m.1=k
  .rw[da J,da (by rw[J])]
  .rw[bB J,bB (λz=>J (qp z))]
 .rw[bB h,bB h];unfold kvI;rw[aFQ];rfl
def yN (G:List (Int×Int)) (k v c:Int):lkI (tX G k v) c=if c=k then some v else lkI G c:=by
 have h:=C6 (kvI G) (Sum.inl k:Key) (Sum.inl c:Key) (V.int v);rw[X7,lJ,lJ]at h
 by_cases M:c=k
 .subst M;rw[da rfl]at h ⊢;cases J:lkI (tX G c v) c with
  | none=>rw[J]at h;cases h
  | some x =>
   rw[J]at h;have:V.int x=V.int v:=jk h;cases this;rfl
 .rw[bB (λz=>M (qp z))]at h;rw[bB M];cases J:lkI (tX G k v) c with
  | none =>
   rw[J]at h;cases L:lkI G c with
   | none=>rfl
   | some y=>rw[L]at h;cases h
  | some x =>
   rw[J]at h;cases L:lkI G c with
   | none=>rw[L]at h;cases h
   | some y =>
    rw[L]at h;have:V.int x=V.int y:=jk h;cases this;rfl
def aCH (z:List (Int×Int)) (k v:Int):(tX z k v).length<=z.length+1:=by
 unfold tX;split
 .rw[aFB];omega
 .rw[aFK,kd];omega
def aCI {G:List (Int×Int)} {k v:Int} {x:Int×Int} (h:x∈tX G k v):x.1=k\/x∈G:=by
 unfold tX at h;split at h
 .obtain⟨m,J,rfl⟩:=aFg.mp h
  by_cases z:m.1=k
  .rw[da z];exact .inl z
  .rw[bB z];exact .inr J
 .rcases aFf.mp h with h | h
  .exact .inr h
  .rw[aF7.mp h];exact .inl rfl
end CW
namespace L2
open PySem PySem.W PySem.Spec PyProof.Rows
section
variable {prog:Program} {w:World} {A:Around} {R:Result->Shared->Prop} {I S:Addr} {fp:List Addr} {P:Nat->Value->Prop} {St:Nat->Heap->Prop} {d:Value} {ns:List Int}
def aAw (W:Walks prog w A.in1 I fp [I] ns.length P St) (hP:∀ i v,P i v->∃ t,v=.int (ns.getD i 0) t) (a_:S∉fp) (ba:I≠S) :
 ∀ (k i:Nat) (s:Shared) (b:Int) (t:Tok) (c:Nat),ns.length - i=k->i<=ns.length->St i s.heap->s.heap.get? S=some (two b t c) ->
  (∀ h' tk t',(∀ x o,x≠I->x≠S->s.heap.get? x=some o->h'.get? x=some o)->R (.ok (.ret (.int ((ns.drop i).foldl max b) t'))) { s with heap:=h',toks:=tk }) ->
  codeAny (model prog w) A (.builtin "max.loop" ⟨[.ref I,.none,.ref S],[(Str.ofString "default",d)]⟩) R s:=by
 have nm:(toString "max"++toString ".loop":String)="max.loop":=by decide
 have U:S∉[I]:=λh=>ba (aF7.mp h).symm;intro k
 induction k with
 | zero =>
  intro i s b t c hk hi st Y hR;have e:i=ns.length:=by omega
  subst e;refine ke kf (by
   rw[aFN ji _];show wpAny _ A.in1 (seqItems? (Value.ref S) >>= _) _ _ s;refine aEz (ku Y rfl ?_);show wpAny _ A.in1 (tryCatch (pyNext (Value.ref I)) _ >>= _) _ _ s;refine aEz (kc (W.done s _ _ st λh' tk eb=>?_));have G:=eb S _ U Y;show wpAny _ A.in1 (updateSeq S (λ_=>#[]) >>= _) _ _ { s with heap:=h',toks:=tk };refine aEz (kt G rfl (aEz (mD (aFA ?_))));have q:=hR (h'.update S (Obj.mapSeq λ_=>#[])) tk t (λx o h1 h2 e=>(aFG _ _ (jh h2)).trans (eb x o (λz=>h1 (aF7.mp z)) e));rw[mu]at q;exact q)
 | succ k ih =>
  intro i s b t c hk hi st Y hR;have J:i<ns.length:=by omega
  have av:ns.drop i=ns[i] :: ns.drop (i+1):=jm J;have hg:ns.getD i 0=ns[i]:=by rw[fy,aFL J];rfl
  refine ke kf (by
   rw[aFN ji _];show wpAny _ A.in1 (seqItems? (Value.ref S) >>= _) _ _ s;refine aEz (ku Y rfl ?_);show wpAny _ A.in1 (tryCatch (pyNext (Value.ref I)) _ >>= _) _ _ s;refine aEz (kc (W.item i s _ _ J st λv h' tk hv aw sb=>?_));obtain⟨u,rfl⟩:=hP i v hv;rw[hg];have G:=sb S _ U Y;show wpAny _ A.in1 (tryCatch (holding [.int ns[i] u,.int ns[i] u] (richCompare .Gt (.int ns[i] u) (.int b t) >>= _)) _ >>= _) _ _ { s with heap:=h',toks:=tk };refine aEz (kc (jn (aEz (gt_int (s:={ s with heap:=h',toks:=tk }) ?_))));refine aEz (jn (me (aEz (mD (aFA ?_)))))
   by_cases hb:b<ns[i]
   .have hd:decide (b<ns[i])=true:=aFX hb;simp only[hd,ud];refine aEz (kt G rfl (aEz (mD ?_)));rw[nm];obtain⟨c',e1⟩:∃ c',(h'.update S (Obj.mapSeq λ_=>#[Value.int ns[i] u,Value.int ns[i] u])).get? S=some (two ns[i] u c'):=⟨_,aFT _ G rfl⟩;refine aFA ⟨kv ji _,ih (i+1) { s with heap:=h'.update S (Obj.mapSeq λ_=>#[Value.int ns[i] u,Value.int ns[i] u]),toks:=tk } ns[i] u _ (by omega) J (W.frame _ _ _ aw λx hx o e=>(aFG _ _ (λz:S=x=>a_ (by rw[z];exact hx))).trans e) e1 λL M t' kp=>?_⟩;have q:=hR L M t' (λx o h1 h2 e=>kp x o h1 h2 ((aFG _ _ (jh h2)).trans (sb x o (λz=>h1 (aF7.mp z)) e)));rw[av,aF2,show max b ns[i]=ns[i]by omega]at q;exact q
   .have hd:decide (b<ns[i])=false:=aFW hb;simp only[hd,jv,oy];refine aEz (mD ?_);rw[nm];refine aFA ⟨kv ji _,ih (i+1) { s with heap:=h',toks:=tk } b t c (by omega) J aw G λL M t' kp=>?_⟩;have q:=hR L M t' (λx o h1 h2 e=>kp x o h1 h2 (sb x o (λz=>h1 (aF7.mp z)) e));rw[av,aF2,show max b ns[i]=b by omega]at q;exact q)
def o0 (W:Walks prog w A.in1 I fp [I] ns.length P St) (hP:∀ i v,P i v->∃ t,v=.int (ns.getD i 0) t) (G:S∉fp) (J:I≠S) {s:Shared} {c:Nat} (st:St 0 s.heap)
 (M:s.heap.get? S=some { cls:=.type "list",dict:=none,data:=.seq #[] c,slots:=#[] }) (x0:V) (rx:RelV x0 d)
 (hR:∀ h' tk u,(∀ x o,x≠I->x≠S->s.heap.get? x=some o->h'.get? x=some o)->RelV (mxD ns x0) u->R (.ok (.ret u)) { s with heap:=h',toks:=tk }) :
 codeAny (model prog w) A (.builtin "max.loop" ⟨[.ref I,.none,.ref S],[(Str.ofString "default",d)]⟩) R s:=by
 have nm:(toString "max"++toString ".loop":String)="max.loop":=by decide
 have U:S∉[I]:=λh=>J (aF7.mp h).symm;cases ns with
 | nil =>
  refine ke kf (by
   rw[aFN ji _];show wpAny _ A.in1 (seqItems? (Value.ref S) >>= _) _ _ s;refine aEz (ku M rfl ?_);show wpAny _ A.in1 (tryCatch (pyNext (Value.ref I)) _ >>= _) _ _ s;refine aEz (kc (W.done s _ _ st λh' tk eb=>?_));refine aEz (qv (aFA ?_));exact hR h' tk d (λx o h1 _ e=>eb x o (λz=>h1 (aF7.mp z)) e) rx)
 | cons n a_ =>
  refine ke kf (by
   rw[aFN ji _];show wpAny _ A.in1 (seqItems? (Value.ref S) >>= _) _ _ s;refine aEz (ku M rfl ?_);show wpAny _ A.in1 (tryCatch (pyNext (Value.ref I)) _ >>= _) _ _ s;refine aEz (kc (W.item 0 s _ _ (by simp) st λv h' tk hv Y sb=>?_));obtain⟨t,rfl⟩:=hP 0 v hv;have L:=sb S _ U M;show wpAny _ A.in1 (updateSeq S (λ_=>#[Value.int n t,Value.int n t]) >>= _) _ _ { s with heap:=h',toks:=tk };refine aEz (kt L rfl ?_);rw[nm];obtain⟨c',e1⟩:∃ c',(h'.update S (Obj.mapSeq λ_=>#[Value.int n t,Value.int n t])).get? S=some (two n t c'):=⟨_,aFT _ L rfl⟩;refine aFA ⟨kv ji _,aAw W hP G J _ 1 { s with heap:=h'.update S (Obj.mapSeq λ_=>#[Value.int n t,Value.int n t]),toks:=tk } n t _ rfl (by simp) (W.frame _ _ _ Y λx hx o e=>(aFG _ _ (λz:S=x=>G (by rw[z];exact hx))).trans e) e1 λav aw t' kp=>?_⟩;exact hR av aw _ (λx o h1 h2 e=>kp x o h1 h2 ((aFG _ _ (jh h2)).trans (sb x o (λz=>h1 (aF7.mp z)) e))) ⟨t',rfl⟩)
def o3 {E:Value->Shared->Prop} {s:Shared} {T:String} {r r2:Addr} {OK:Heap->Prop} {x0:V} {Q:Value->Shared->Prop} (K:KdlSrc prog w T r r2 ns.length P OK) (hh:A.handled=none) (hok:OK s.heap) (hP:∀ i v,P i v->∃ t,v=.int (ns.getD i 0) t) (rx:RelV x0 d)
 (h:∀ h' tk u,(∀ x o,s.heap.get? x=some o->h'.get? x=some o)->RelV (mxD ns x0) u->Q u { s with heap:=h',toks:=tk }):wpAny (model prog w) A (call (.builtin "max") [.ref r] [(Str.ofString "default",d)]) Q E s:=by
 have nm:(toString "max"++toString ".loop":String)="max.loop":=by decide
 have hlt:=(K.there _ hok).2;obtain⟨oI,St,hit,W,st⟩:=K.iter A.in1 s hh hok;refine kmk_tree PySem.F.kind_max PySem.F.plain_max PySem.F.entry_max (wD _ _) (by
  show wpAny _ A.in1 (Builtin.Builtins.bindParams "max" ["key","default"] 0 ⟨[],[(Str.ofString "default",d)]⟩ >>= _) _ _ s;refine aEz (vb (show Builtin.Builtins.bindParams "max" ["key","default"] 0 ⟨[],[(Str.ofString "default",d)]⟩=pure [none,some d] from rfl) (aEz (aFA ?_)));refine aEz (hit _ _ ?_);refine aEz (pj ?_);rw[nm];refine aFA ⟨kv ji _,o0 W hP (S:=(s.heap.push oI).objs.size) (λhm=>?_) (by rw[ka];exact aFY (lu _)) (W.frame _ _ _ st λx _ o e=>aFC _ e) (aFI _ rfl) x0 rx λh' tk u kp rv=>?_⟩
  .rw[ka]at hm;rcases aFe.mp hm with e | e
   .exact absurd e (aF1 (lu _))
   .exact absurd (aF7.mp e) (aF1 (ly hlt))
  .refine h h' tk u (λx o e=>?_) rv;have hx:=aFH e;exact kp x o (aFY hx) (by rw[ka];exact aFY (ly hx)) (aFC _ (aFC _ e)))
end
section
variable {X:Cx} {e f:Expr} {te tf:TE} {p pos kp:Pos}
def aEM (te tf:TE):TE:=fun σ H Q=>te σ H λx H1=>tf σ H1 λy H2=>∃ (a:Addr) (kvs:List (Key×V)) (ks:List Int),x=.ref a/\H2 a=some (.dK kvs)/\kF kvs ks/\Q (mxD ks y) H2
def Q6 (hc:X.calm=true) (hg:Gl X "max") (hm:X.mg "max"=none) (he:PE X e te) (hf:PE X f tf)
 (hs:starEach [e] X.env=(false,eval e X.env) :: starEach [] X.env:=by rfl) (av:backTo pos (starEach [e] X.env)=(false,eval e X.env) :: backTo pos (starEach [] X.env):=by rfl) (aw:(backTo pos (starEach [e] X.env)).any (·.1)=false:=by rfl)
 (a_:(backToKw pos (keywordEach [⟨some "default",f,kp⟩] X.env)).all (·.1.isSome)=true:=by rfl) (ba:(backToKw pos (keywordEach [⟨some "default",f,kp⟩] X.env)).any (·.1.isNone)=false:=by rfl) (bb:(backToKw pos (keywordEach [⟨some "default",f,kp⟩] X.env)).filterMap (·.1)=([Str.ofString "default"]:List Str):=by rfl) :
 PE X (.Call (.Name "max" p) [e] [⟨some "default",f,kp⟩] pos) (aEM te tf):=by
 intro pins s σ H Q I h;refine ki (fA I hg hm sQ ?_);refine wr ?_ av aw a_ ba;refine thn ((aA he aB hs) pos pins s σ H (λvs H1=>match vs with | [x]=>tf σ H1 λy H2=>∃ (a:Addr) (kvs:List (Key×V)) (ks:List Int),x=.ref a/\H2 a=some (.dK kvs)/\kF kvs ks/\Q (mxD ks y) H2 | _=>False) I h) λus s1 ⟨vs,H1,I1,r1,q1⟩=>?_;obtain⟨x,rfl⟩:∃ x,vs=[x]:=by
  rcases vs with _ | ⟨x,_ | ⟨_,_⟩⟩
  .exact q1.elim
  .exact⟨x,rfl⟩
  .exact q1.elim
 refine thn ((nR hf sG) pos pins s1 σ H1 (λks H2=>match ks with | [y]=>∃ (a:Addr) (kvs:List (Key×V)) (ks:List Int),x=.ref a/\H2 a=some (.dK kvs)/\kF kvs ks/\Q (mxD ks y) H2 | _=>False) I1 q1) λws s2 ⟨zs,H2,I2,r2,J⟩=>?_;obtain⟨y,rfl⟩:∃ y,zs=[y]:=by
  rcases zs with _ | ⟨x,_ | ⟨_,_⟩⟩
  .exact J.elim
  .exact⟨x,rfl⟩
  .exact J.elim
 obtain⟨a,kvs,ks,rfl,hq,L,J⟩:=J;obtain⟨u,rfl,ru⟩:=r1.one;obtain⟨v,rfl,rv⟩:=r2.one;cases ru;rw[bb];obtain⟨z,M,vs,G,dd⟩:=qR I2.hok hq;obtain⟨ep,bc⟩:=id dd.dictAt;have hlen:vs.length=ks.length:=by
  have e1:=G.length;have U:=congrArg List.length L;simp at U;omega
 have K:=kdl_dict (prog:=X.prog) (w:=X.w) (knd:=bI X.prog X.w) (kvs:=vs) (ep:=ep) M;rw[hlen]at K;refine o3 K (I.ok.hd hc) bc (λj v ⟨k,x,h1,h2⟩=>?_) rv λh' tk u kp ru=>⟨_,H2,I2.kept kp,ru,J⟩;have hj:j<vs.length:=(aFd.mp h1).1;have h3:(kvs.map Prod.fst)[j]?=some k:=by
  have Y:j<kvs.length:=by rw[G.length];exact hj
  obtain⟨u,e1,U⟩:=W7 G (i:=j) (k:=(kvs[j]).1) (x:=(kvs[j]).2) (aFL Y);rw[h1]at e1;cases e1;simp[Y]
 rw[L,aFZ]at h3;obtain⟨n,h4,h5⟩:=aFc.mp h3;subst h5;rw[mW]at h2;rcases cH h2 with ⟨i,t,e1,U⟩ | ⟨x,t,e1,U⟩
 .cases e1;exact⟨t,by rw[U,fy,h4];rfl⟩
 .cases e1
end
end L2
namespace L2
open PySem PySem.Spec PyProof.Rows
def o4 {d:Addr} {od:Obj} {kvs:List (Key×V)} {g:TG} {tb:TS} {D:nJ} {σ:St} {H:Hp} (Pv:Nat->St->Hp->Prop) (h0:Pv 0 σ H) (M:∀ i σ H,i<=kvs.length->Pv i σ H->H d=some (.frz od (.dK kvs)))
 (U:∀ i k x σ H t,kvs[i]?=some (k,x)->Pv i σ H->H t=none->g (.ref t) σ (upd H t (.tup [kV k,x])) λz H2=>tb { D with nx:=Pv (i+1),ct:=Pv (i+1),bk:=D.nx } z H2) (hd:∀ σ H,Pv kvs.length σ H->D.nx σ H) :
 ∃ W:Nat->Nat->St->Hp->Prop,(∃ m,W 0 m σ H)/\∀ i m σ H,W i m σ H ->
  ((Itd d od kvs).stop i H/\D.nx σ H)\/((Itd d od kvs).go i H/\∃ N:St->Hp->Prop,(∀ G H',N G H'->∃ L,L<m/\W (i+1) L G H')/\∀ x H',(Itd d od kvs).yld i H x H'->g x σ H' λz H2=>tb { D with nx:=N,ct:=N,bk:=D.nx } z H2):=by
 refine⟨λi m σ H=>m=kvs.length - i/\i<=kvs.length/\Pv i σ H,⟨kvs.length,by simp,jr _,h0⟩,?_⟩;rintro i m σ H ⟨rfl,hi,p⟩;have q:=M i σ H hi p
 by_cases J:i<kvs.length
 .refine .inr ⟨⟨q,J⟩,Pv (i+1),λG H' Y=>⟨kvs.length - (i+1),by omega,rfl,J,Y⟩,λx H' y=>?_⟩;obtain⟨t,k,v,rfl,hn,hx,rfl⟩:=y;exact U i k v σ _ t hx p hn
 .have e:i=kvs.length:=by omega
  subst e;exact .inl ⟨⟨q,ah _⟩,hd σ H p⟩
end L2
namespace CW
open PySem L2
def aEN (f:Nat->Int) (k:Nat):Int:=2 * f k - f (k - 1) - f (k+1)
def tY (z:List (Int×Int)):Nat->Int
 | 0=>0
 | n+1=>(lkI z ((n:Int)+1)).getD (tY z n)
def stf (z:List (Int×Int)) (G k:Nat):Int:=tY z (min k G)
def Q7 (f:Nat->Int) (n:Nat):List (Int×Int):=(List.range n).map λi:Nat=>((i:Int)+1,aEN f (i+1))
def aEO (f:Nat->Int) (n:Nat):List (Int×Int):=(Q7 f n).filter λq=>decide (q.2≠0)
def aAx (f:Nat->Int) (n:Nat):Q7 f (n+1)=Q7 f n++[((n:Int)+1,aEN f (n+1))]:=by
 unfold Q7;rw[pe,aFQ];rfl
def grt (z:List (Int×Int)):Nat:=((z.map λm:Int×Int=>m.1).foldl max 0).toNat
def E2:∀ (l:List Int) (b:Int),b<=l.foldl max b/\(∀ x∈l,x<=l.foldl max b)/\(l.foldl max b=b\/l.foldl max b∈l)
 | [],b=>⟨nu _,(λx z=>absurd z qa),.inl rfl⟩
 | a :: l,b=>by
  obtain⟨h1,h2,h3⟩:=E2 l (max b a);rw[aF2];refine⟨by omega,λx z=>?_,?_⟩
  .rcases aFe.mp z with e | e
   .subst e;omega
   .exact h2 x e
  .rcases h3 with e | e
   .rw[e];rcases Int.le_total a b with q | q
    .left;omega
    .right;rw[show max b a=a by omega];exact aFD
   .exact .inr (aFE _ e)
def aAy {z:List (Int×Int)} (h:∀ m∈z,1<=m.1/\m.1<=60):mxD (z.map (·.1)) (.int 0)=.int (grt z)/\grt z<=60/\(∀ m∈z,m.1<=grt z)/\(grt z=0\/∃ m∈z,m.1=grt z):=by
 obtain⟨h1,h2,h3⟩:=E2 (z.map (·.1)) 0;have hz:((grt z:Nat):Int)=(z.map (·.1)).foldl max 0:=by unfold grt;omega
 refine⟨?_,?_,λm G=>by rw[hz];exact h2 _ (aFg.mpr ⟨m,G,rfl⟩),?_⟩
 .rw[hz];cases z with
  | nil=>rfl
  | cons a l =>
   have:=h a aFD;show V.int ((l.map (·.1)).foldl max a.1)=V.int (((a :: l).map (·.1)).foldl max 0);rw[aF0,aF2,show max 0 a.1=a.1 by omega]
 .rcases h3 with e | e
  .have:((grt z:Nat):Int)=0:=by rw[hz,e]
   omega
  .obtain⟨m,G,e⟩:=aFg.mp e;have:=(h m G).2;omega
 .rcases h3 with e | e
  .left;omega
  .right
   obtain⟨m,G,e⟩:=aFg.mp e;exact⟨m,G,by omega⟩
inductive pW (vs:List V) (H:Hp) (Q:VK) (E_:XK):Prop
 | mk (d:Addr) (ms:List (Int×Int)) (h0_:vs=[.ref d]) (h1_:H d=some (.dK (kvI ms))) (h2_:∀ m∈ms,1<=m.1/\m.1<=60) (h3_:∀ (l:Addr) (us:List V) (H':Hp),H l=none->Same H H'->H' l=some (.lst us)->Prs H' us (aEO (stf ms (grt ms)) (grt ms))->Q (.ref l) H'):pW vs H Q E_
def X8 (f:Nat->Int) (n:Nat):atI (((List.range (n+1)).map f).map V.int) (-1)=some (V.int (f n)):=by
 have z:(List.range (n+1)).map f≠[]:=by simp[pe]
 rw[X4 z]
 congr 2
 rw[List.getLast_eq_getElem];simp
def aAz {f:Nat->Int} {n:Nat} {i:Int} (h0:0<=i) (h1:i<n):atI (((List.range n).map f).map V.int) i=some (V.int (f i.toNat)):=by
 obtain⟨x,_,h2,h3⟩:=cX (ns:=(List.range n).map f) (i:=i) h0 (by simpa using h1);rw[h3];rw[aFZ,List.getElem?_range (by omega)]at h2;cases h2;rfl
def X9 (f:Nat->Int) (n:Nat):((List.range n).map f).map V.int++[V.int (f n)]=((List.range (n+1)).map f).map V.int:=by
 rw[pe,aFQ,aFQ];rfl
def aDX (z:List (Int×Int)) (G:Nat):((List.range (G+1)).map (tY z)).map V.int++[V.int (tY z G)]=((List.range (G+2)).map (stf z G)).map V.int:=by
 have e:(List.range (G+1)).map (tY z)=(List.range (G+1)).map (stf z G):=jp λk J=>by
  have:=List.mem_range.mp J;unfold stf;rw[show min k G=k by omega]
 have L:stf z G (G+1)=tY z G:=by unfold stf;rw[show min (G+1) G=G by omega]
 rw[e,<- L];exact X9 (stf z G) (G+1)
def aBA (z:List (Int×Int)):kF (kvI z) (z.map λm:Int×Int=>m.1):=by
 unfold kF kvI;rw[aF5,aF5];rfl
end CW
namespace CW
def o5 {z:Type} (p:z->Bool) {l:List z} {i:Nat} {x:z} (h:l[i]?=some x):(l.take (i+1)).filter p=(l.take i).filter p++(if p x=true then [x]else []):=by
 rw[aF6,h,tz];cases G:p x <;> simp[G]
end CW
namespace CW
open PySem L2
def aBB:∀ a b:List Int,PyData.eqvAll (a.map PyData.int) (b.map PyData.int)=decide (a=b)
 | [],[]=>rfl
 | [],y :: b=>rfl
 | x :: a,[]=>rfl
 | x :: a,y :: b=>by
  show (PyData.eqv (.int x) (.int y) && PyData.eqvAll (a.map PyData.int) (b.map PyData.int))=_;rw[aBB a b];show ((x == y) && decide (a=b))=_;rw[ko];simp
def o6 (a b:List Int):PyData.eqv (.list (a.map PyData.int)) (.list (b.map PyData.int))=decide (a=b):=aBB a b
def cG (ps:Trs) (s:Int):List Int:=(ps.filter λp=>decide (p.1=s)).map (·.2)
def E3 (a b:Trs) (s:Int):cG (a++b) s=cG a s++cG b s:=by
 unfold cG;rw[tz,aFQ]
def o7 (p:Int×Int) (ps:Trs) (s:Int):cG (p :: ps) s=if p.1=s then p.2 :: cG ps s else cG ps s:=by
 unfold cG;rw[ot]
 by_cases h:p.1=s
 .rw[da (by simpa using h),da h];rfl
 .rw[bB (by simpa using h),bB h]
def o8 {ps z:Trs} (h:ps.Perm z) (s:Int):(cG ps s).Perm (cG z s):=(h.filter _).map _
def E4 {ps:Trs} (h:ps.Pairwise ple) (s:Int):(cG ps s).Pairwise (·<=·):=by
 unfold cG;rw[List.pairwise_map];refine(h.filter _).imp_of_mem λ{a b} G J z=>?_;have h1:a.1=s:=by have:=(aFh.mp G).2;simpa using this
 have h2:b.1=s:=by have:=(aFh.mp J).2;simpa using this
 rcases z with q | q
 .omega
 .exact q.2
def aBC (k:Int) (os:List Int) (s:Int):cG (os.map λo=>(k,o)) s=if k=s then os else []:=by
 induction os with
 | nil=>unfold cG;simp
 | cons o os z =>
  rw[aF0,o7,z]
  by_cases h:k=s
  .rw[da h,da h,da h]
  .rw[bB h,bB h,bB h]
def pX:∀ {gs:List Grp},(gs.map (·.1)).Nodup->∀ (s:Int),cG (bO gs) s=((gs.find? λg=>decide (g.1=s)).map λg=>g.2.2).getD []
 | [],_,s=>rfl
 | g :: gs,h,s=>by
  rw[aF0,List.nodup_cons]at h;have e:bO (g :: gs)=(g.2.2.map λo=>(g.1,o))++bO gs:=by unfold bO;rw[List.flatMap_cons]
  rw[e,E3,aBC,pX h.2,lm]
  by_cases q:g.1=s
  .rw[da q,aFX q];have G:gs.find? (λg=>decide (g.1=s))=none:=List.find?_eq_none.mpr λx J=>by
    have:x.1≠s:=λz=>h.1 (aFg.mpr ⟨x,J,by rw[z,q]⟩);simpa using this
   rw[G];simp
  .rw[bB q,aFW q];rfl
def tZ {gs:List Grp} {ps:Trs} (z:(gs.map (·.1)).Nodup) (G:(bO gs).Perm ps) (J:Asc gs) (L:ps.Pairwise ple) (s:Int) :
 ((gs.find? λg=>decide (g.1=s)).map λg=>g.2.2).getD []=cG ps s:=by
 rw[<- pX z];refine mS (o8 G s) ?_ (E4 L s);rw[pX z];cases M:gs.find? λg=>decide (g.1=s)with
 | none=>exact .nil
 | some g=>exact J g (jt M)
structure aEP (ps1 ps2:Trs) (ms:List (Int×Int)):Prop where
 key:∀ s,cG ps1 s≠[]->∃ g,lkI ms s=some g
 val:∀ s g,lkI ms s=some g->cG ps2 s=(cG ps1 s).map (·+g)
 cnt:∀ s,(cG ps1 s).length=(cG ps2 s).length
 pos:∀ m∈ms,1<=m.1/\m.1<=60
inductive yO (ps1 ps2:Trs) (H H':Hp):List V->Prop
 | sizes (s:Int) (h:(cG ps1 s).length≠(cG ps2 s).length):yO ps1 ps2 H H' [.str "sizes",.int s]
 | apart (s:Int) (c:∀ s,(cG ps1 s).length=(cG ps2 s).length) (h:∀ g:Int,(cG ps1 s).map (·+g)≠cG ps2 s):yO ps1 ps2 H H' [.str "apart",.int s]
 | walks (l:Addr) (us:List V) (ms:List (Int×Int)) (k:aEP ps1 ps2 ms) (hm:∀ m∈ms,cG ps1 m.1≠[]) (hl:H l=none) (el:H' l=some (.lst us)) (pr:Prs H' us (aEO (stf ms (grt ms)) (grt ms))):yO ps1 ps2 H H' [.str "walks",.ref l]
inductive aBD (vs:List V) (H:Hp) (Q:VK) (E_:XK):Prop
 | mk (a b:Addr) (r1 r2:List Int) (h0_:vs=[.ref a,.ref b]) (h1_:H a=some (.lst (r1.map V.int))) (h2_:Row r1) (h3_:r1.length<=60) (h4_:H b=some (.lst (r2.map V.int))) (h5_:Row r2) (h6_:r2.length<=60)
  (h7_:∀ (ps1 ps2:Trs) (t:Addr) (xs:List V) (H':Hp),Lst r1 ps1->ps1.Pairwise ple->Lst r2 ps2->ps2.Pairwise ple->H t=none->Same H H'->H' t=some (.tup xs)->yO ps1 ps2 H H' xs->Q (.ref t) H'):aBD vs H Q E_
def DG.keep {H H':Hp} {d:Addr} {gs:List Grp} (z:DG H d gs) (s:Same H H'):DG H' d gs:=⟨s _ _ z.at_,λg G=>s _ _ (z.lst g G),z.adr,z.key⟩
def yP:∀ {gs:List Grp},(∀ g∈gs,g.2.2≠[])->gs.length<=(bO gs).length
 | [],_=>ah _
 | g :: gs,h=>by
  have e:bO (g :: gs)=(g.2.2.map λo=>(g.1,o))++bO gs:=by unfold bO;rw[List.flatMap_cons]
  have h1:=yP (gs:=gs) λx G=>h x (aFE _ G);have h2:g.2.2.length≠0:=λz=>h g aFD (aF8 z);rw[e,aFK,aFB,aF4];omega
def wT (gs:List Grp):kF (kvG gs) (gs.map (·.1)):=by
 unfold kF kvG;rw[aF5,aF5];rfl
def E5 {H:Hp} {d q:Addr} {gs:List Grp} {ps:Trs} (G:∀ g∈gs,H g.2.1=some (.lst (g.2.2.map V.int))) (J:(gs.map (·.1)).Nodup) (L:(bO gs).Perm ps) (M:Asc gs) (U:ps.Pairwise ple) (s:Int) (Y:H q=some (.lst [])) :
 ∃ r,(dJ (kvG gs) (Sum.inl s:Key)).getD (V.ref q)=V.ref r/\H r=some (.lst ((cG ps s).map V.int)):=by
 have e:=tZ J L M U s;rw[eC];cases z:gs.find? λg=>decide (g.1=s)with
 | none =>
  rw[z]at e;refine⟨q,rfl,?_⟩;rw[<- e,Y];rfl
 | some g =>
  rw[z]at e;refine⟨g.2.1,rfl,?_⟩;rw[<- e];exact G g (jt z)
def aDY {gs:List Grp} {ps:Trs} (G:(gs.map (·.1)).Nodup) (L:(bO gs).Perm ps) (M:Asc gs) (U:ps.Pairwise ple) {g:Grp} (J:g∈gs):g.2.2=cG ps g.1:=by
 have e:=tZ G L M U g.1;have Y:gs.find? (λx=>decide (x.1=g.1))=some g:=by
  cases z:gs.find? λx=>decide (x.1=g.1)with
  | none=>have:=List.find?_eq_none.mp z g J;simp at this
  | some x =>
   have h1:=sv z;have h2:=jt z;rw[cO G h2 J (by simpa using h1)]
 rw[Y]at e;exact e
def E6 {gs:List Grp} {ps:Trs} (G:(bO gs).Perm ps) {s:Int} (h:cG ps s≠[]):∃ g∈gs,g.1=s:=by
 obtain⟨o,J⟩:=uh _ h;obtain⟨p,z,L⟩:=aFg.mp J;obtain⟨h1,h2⟩:=aFh.mp z;have h3:p.1=s:=by simpa using h2
 have h4:=G.mem_iff.mpr h1;obtain⟨g,M,h5⟩:=List.mem_flatMap.mp h4;obtain⟨o',_,rfl⟩:=aFg.mp h5;exact⟨g,M,h3⟩
def o9 {H:Hp} {gs:List Grp} {ps:Trs} (G:∀ g∈gs,H g.2.1=some (.lst (g.2.2.map V.int))) (J:(gs.map (·.1)).Nodup) (L:(bO gs).Perm ps) (M:Asc gs) (U:ps.Pairwise ple) {s:Int} (h:cG ps s≠[]) :
 ∃ r,dJ (kvG gs) (Sum.inl s:Key)=some (V.ref r)/\H r=some (.lst ((cG ps s).map V.int))/\∃ g∈gs,g.2.1=r:=by
 have e:=tZ J L M U s;rw[eC];cases z:gs.find? λg=>decide (g.1=s)with
 | none=>rw[z]at e;exact absurd e.symm h
 | some g =>
  rw[z]at e;refine⟨g.2.1,rfl,?_,g,jt z,rfl⟩;rw[<- e];exact G g (jt z)
def Y0 {l:List Int} (h:l≠[]):∃ x,atI (l.map V.int) 0=some (V.int x)/\l[0]?=some x:=by
 cases l with
 | nil=>exact absurd rfl h
 | cons x r =>
  obtain⟨y,_,h2,h3⟩:=cX (ns:=x :: r) (i:=0) (by decide) (by simp);exact⟨y,h3,h2⟩
def Q8 {a b:List Int} {x y:Int} (G:a[0]?=some x) (z:b[0]?=some y) {g:Int} (h:a.map (·+g)=b):a.map (·+(y - x))=b:=by
 have:g=y - x:=by
  rw[<- h,aFZ,G]at z;have:x+g=y:=jk z;omega
 rw[<- this];exact h
def uA:∀ {l:List Int},(∀ x∈l,1<=x)->∀ {x:Int},x∈l->x<=l.sum
 | [],_,_,h=>absurd h qa
 | a :: l,h,x,z=>by
  have L:0<=l.sum:=by
   have:∀ l:List Int,(∀ x∈l,1<=x)->0<=l.sum:=λl=>by
    induction l with
    | nil=>intro _;exact nu 0
    | cons b l G=>intro h;have:=G λx z=>h x (aFE _ z);have:=h b aFD;rw[aF3];omega
   exact this l λx z=>h x (aFE _ z)
  rw[aF3];rcases aFe.mp z with e | e
  .subst e;omega
  .have:=uA (λy J=>h y (aFE _ J)) e;have:=h a aFD;omega
def Q9 {r:List Int} {ps:Trs} (h:Lst r ps) (J:r.length<=60) {s:Int} (z:cG ps s≠[]):1<=s/\s<=60:=by
 obtain⟨o,z⟩:=uh _ z;obtain⟨p,G,_⟩:=aFg.mp z;obtain⟨h1,h2⟩:=aFh.mp G;have h3:p.1=s:=by simpa using h2
 have t:=h.trn J;have h4:=t.pos p h1;have h5:p.1<=(szs ps).sum:=uA (λx L=>by
  obtain⟨q,M,rfl⟩:=aFg.mp L;exact t.pos q M) (aFg.mpr ⟨p,h1,rfl⟩)
 have h6:=t.few;omega
inductive aEQ (H9:Hp) (ps1 ps2:Trs) (gs1:List Grp) (a b d1 d2 d5:Addr) (od:Obj) (i:Nat) (σ:St) (Hy:Hp):Prop
 | mk (v4 v6:Option V) (ms:List (Int×Int)) (h0_:σ=[some (.ref a),some (.ref b),some (.ref d1),some (.ref d2),v4,some (.ref d5),v6]) (h1_:Hy d1=some (.frz od (.dK (kvG gs1)))) (h2_:Hy d5=some (.dK (kvI ms)))
  (h3_:∀ x o,x≠d1->x≠d5->H9 x=some o->Hy x=some o) (h4_:∀ g∈gs1.take i,∃ v,lkI ms g.1=some v) (h5_:∀ s v,lkI ms s=some v->cG ps2 s=(cG ps1 s).map (·+v)) (h6_:∀ m∈ms,cG ps1 m.1≠[]) (h7_:ms.length<=i):aEQ H9 ps1 ps2 gs1 a b d1 d2 d5 od i σ Hy
end CW
namespace L2
open PySem PySem.Spec PyProof.Rows
open PySem.W
end L2
namespace CW
open PySem L2
def rQ {x:Str} (h:PyData.strOk x=true):SeqAt.shaped (.str x)=true:=by
 simp[SeqAt.shaped,PyData.canLay0,PyData.depth,h]
def aER (x y:Str):PyData.eqv (.str x) (.str y)=decide (x=y):=by
 show (x == y)=decide (x=y);rw[ko];simp
def aBE (x y:Int):PyData.eqv (.int x) (.int y)=decide (x=y):=by
 show (x == y)=decide (x=y);rw[ko];simp
def p0 (a b:List Int):SeqAt.shaped (.list [.list (a.map PyData.int),.list (b.map PyData.int)])=true:=by
 simp[SeqAt.shaped,PyData.canLay0,PyData.canLayAll0,qP,PyData.depth,PyData.depthAll,depth_ints]
end CW
namespace L2
open PySem PySem.Spec PyProof.Rows
end L2
namespace CW
open PySem L2
end CW
namespace CW
end CW
namespace CW
open PySem L2
end CW
namespace L2
open PySem PySem.Spec PyProof.Rows
end L2
namespace CW
open PySem L2
end CW
namespace L2
open PySem PySem.Spec PyProof.Rows
section
variable {prog:Program} {w:World} {A:Around} {E:Value->Shared->Prop} {s:Shared}
def E7 {T J L:String} {B1 B2:Builtin} {vs:List Value} {G:List (Str×Value)} {S:PySem.Spec} {Q Q1:Value->Shared->Prop} (z:TypeCalled T J L)
 (h1:checkTypeCall T ⟨vs,G⟩=pure ()) (h2:checkBuiltinCall J ⟨.type T :: vs,G⟩=pure ()) (e1:entryFor table J=some B1) (e2:entryFor table L=some B2)
 (g:Meets (B1 ⟨.type T :: vs,G⟩) S) (h:S A.in1 (wants Q1 E) s)
 (hn:∀ obj t,Q1 obj t->t.TypeIs obj T/\argsOk L ⟨obj :: vs,G⟩/\∃ U,Meets (B2 ⟨obj :: vs,G⟩) U/\U A.in1 (wants (λr t2=>r=.none/\Q obj t2) E) t):wpAny (model prog w) A (call (.type T) vs G) Q E s:=by
 obtain⟨c,tl,a_⟩:=z.mro;have Y:=z.made;have ba:=z.sub;refine qf (vq (show wpAny _ _ (callAny (.type T) _) _ _ _ from aFA ⟨tw _ (by decide +kernel),ke PySem.F.entry_type_call ?_⟩));rw[Around.under_plain (weight_type_call_type T vs G) (units_type_call_type T vs G)];have n1:=z.notType;have n2:=z.canCreate
 repeat (any_goals (first | assumption | wp_step))
 refine mi (mh z.plain e1 (vb h2 (g prog w A.in1 _ s h))) λr t hr=>?_;cases r with
 | error e=>exact hr
 | ok fl =>
  cases fl with
  | ret obj =>
   obtain⟨hT,hok,U,gi,av⟩:=hn _ _ hr;have bb:=z.init.lookup;have bc:=z.init.bind obj
   repeat (any_goals (first | assumption | wp_step))
   refine mi (mh z.init.plain e2 (z.init.check _ _ _ _ _ _ _ _ hT hok (gi prog w A.in1 _ t av))) λr2 t2 M=>?_;cases r2 with
   | error e=>exact M
   | ok aw =>
    cases aw with
    | ret r =>
     obtain⟨rfl,hq⟩:=M
     repeat (any_goals (first | assumption | wp_step))
    | _=>exact M.elim
  | _=>exact hr.elim
def aBF {T z:String} {v:Value} {vs:List Value} {G:List (Str×Value)} (U:typeLookup (.type T) "__init__"=pure (some (.builtin "object.__init__"))) (Y:Bind.madeBy (.type T)=pure (some z)) (L:(some z != some "object.__new__")=true) :
 Meets (Builtin.«object.__init__» ⟨v :: vs,G⟩) (λ_ R t=>t.TypeIs v T/\R (.ok (.ret .none)) t):=by
 refine Meets.of_wp λprog w A R t M=>?_;obtain⟨hT,J⟩:=M;cases vs with
 | nil =>
  cases G with
  | nil=>exact aFA ⟨_,rfl,J⟩
  | cons a G =>
   repeat (any_goals (first | assumption | wp_step))
   exact⟨_,rfl,J⟩
 | cons a vs =>
  repeat (any_goals (first | assumption | wp_step))
  exact⟨_,rfl,J⟩
def aCJ (a b:Value):checkTypeCall "enumerate" ⟨[a],[(Str.ofString "start",b)]⟩=pure ():=by kernel_rfl
def aDZ (a b:Value):checkBuiltinCall "enumerate.__new__" ⟨[.type "enumerate",a],[(Str.ofString "start",b)]⟩=pure ():=by kernel_rfl
def aCK (o a b:Value):argsOk "object.__init__" ⟨[o,a],[(Str.ofString "start",b)]⟩:=by
 unfold argsOk;rw[signature?_of (id:="object.__init__") (n:=['_','_','t','i','n','i','_','_']) (o:=['t','c','e','j','b','o']) (by kernel_rfl) PySem.F.owner_object]
 kernel_rfl
def aCL (m:Int) (tm:Tok) (hf:Builtin.SmallTypes.fitsIndex m=true) (l:Addr) (its:Array Value) (n:Nat) (dct:Option Addr) (sl:Array (Option Value)) :
 Meets (Builtin.«enumerate.__new__» ⟨[.type "enumerate",.ref l],[(Str.ofString "start",.int m tm)]⟩) (λ_ R t=>t.heap.get? l=some { cls:=.type "list",dict:=dct,data:=.seq its n,slots:=sl } /\
  R (.ok (.ret (.ref (t.heap.push { cls:=.type "list_iterator",data:=.fields #[.ref l,.int 0 0] }).objs.size)))
   { t with heap:=(t.heap.push { cls:=.type "list_iterator",data:=.fields #[.ref l,.int 0 0] }).push { cls:=.type "enumerate",data:=.fields #[.none,.bool false,.ref t.heap.objs.size,rawInt m,.none,.none] } }) :=
 .of_wp λprog w A R t h=>by
  obtain⟨hp,g,d,tk,os⟩:=t;obtain⟨hl,h⟩:=h;have hsub:=sub_enumerate;have hL:Heap.IsList (Shared.heap ⟨hp,g,d,tk,os⟩) l its:=⟨_,hl,rfl,n,rfl⟩
  wp_walk using qh hl
  refine wpAny_stack_any λst=>aFA ?_;split
  .rename_i c _ _ _ _ _
   cases (c == Value.type "enumerate")
   all_goals
    wp_walk using qh hl,oh hL
    exact⟨_,rfl,h⟩
  .wp_walk using qh hl,oh hL
   exact⟨_,rfl,h⟩
def aBG {m:Int} {J:Tok} {l:Addr} {its:Array Value} {Q:Value->Shared->Prop} (L:Builtin.SmallTypes.fitsIndex m=true) (M:s.heap.IsList l its)
 (h:∀ h',IsEnum h' (s.heap.objs.size+1) s.heap.objs.size m .none->h'.IsListIter s.heap.objs.size l 0->(∀ b o,s.heap.get? b=some o->h'.get? b=some o)->Q (.ref (s.heap.objs.size+1)) { s with heap:=h' }) :
 wpAny (model prog w) A (call (.type "enumerate") [.ref l] [(Str.ofString "start",.int m J)]) Q E s:=by
 obtain⟨⟨c,z,U,Y⟩,hl,hc,n,hd⟩:=M;cases (show c=.type "list" from hc);cases (show U=.seq its n from hd);have hz:(s.heap.push { cls:=.type "list_iterator",data:=.fields #[.ref l,.int 0 0] }).objs.size=s.heap.objs.size+1:=ka ..;refine E7 (Q1:=λobj t=>t.TypeIs obj "enumerate"/\Q obj t) PySem.F.called_enumerate (aCJ _ _) (aDZ _ _) PySem.F.entry_enumerate_new PySem.F.entry_object_init (aCL m J L l its n z Y) ⟨hl,?_⟩ λobj t G=>⟨G.1,aCK _ _ _,_,aBF PySem.F.called_enumerate.init.lookup PySem.F.called_enumerate.made (by decide),G.1,rfl,G.2⟩;show _/\_;rw[hz];have he:IsEnum ((s.heap.push { cls:=.type "list_iterator",data:=.fields #[.ref l,.int 0 0] }).push { cls:=.type "enumerate",data:=.fields #[.none,.bool false,.ref s.heap.objs.size,rawInt m,.none,.none] }) (s.heap.objs.size+1) s.heap.objs.size m .none:=by
  have q:=aFI (s.heap.push { cls:=.type "list_iterator",data:=.fields #[.ref l,.int 0 0] }) (o:={ cls:=.type "enumerate",data:=.fields #[.none,.bool false,.ref s.heap.objs.size,rawInt m,.none,.none] }) rfl;rw[hz]at q;exact q
 exact⟨⟨_,he,rfl⟩,h _ he ⟨_,aFC _ (aFI _ rfl),rfl,rfl⟩ λb o x=>aFC _ (aFC _ x)⟩
def aBH {e it l:Addr} {i:Nat} {m:Int} {its:Array Value} {x z:Value} {Q:Option Value->Shared->Prop} (he:IsEnum s.heap e it m z) (aw:s.heap.IsListIter it l i) (hl:s.heap.IsList l its) (hx:its[i]?=some x) (G:e≠it)
 (hQ:∀ h',IsEnumOut h' e it (m+1) x s.heap.objs.size->h'.IsListIter it l (i+1)->h'.get? s.heap.objs.size=some { cls:=.type "tuple",data:=.seq #[.int m s.toks,x] } ->
  (∀ b o,b≠e->b≠it->s.heap.get? b=some o->h'.get? b=some o)->Q (some (.ref s.heap.objs.size)) { s with heap:=h',toks:=s.toks+1 }):wpAny (model prog w) A (pyNext (.ref e)) Q E s:=by
 have hT:s.TypeIs (.ref e) "enumerate":=⟨_,he,rfl⟩;unfold pyNext;refine aEz (uy (vf (name:=Str.ofString "__next__") hT mn (rh mn hT sh ?_ (rm _))));obtain⟨J,g,d,tk,os⟩:=s;show wpAny _ _ (field (.ref e) 2 >>= _) _ _ _;refine aEz (sw he rfl (x:=.ref it) rfl (aEz (wpAny_nextOf_list_item aw hl hx λh1 av M=>?_)))
 replace M:Heap.SameBut it J h1:=M
 have e1:IsEnum h1 e it m z:=(M.2 e G).trans he;show wpAny _ _ (field (.ref e) 3 >>= _) _ _ ⟨h1,g,d,tk,os⟩;refine aEz (sw e1 rfl (x:=rawInt m) rfl ?_);show wpAny _ _ (field (.ref e) 4 >>= _) _ _ ⟨h1,g,d,tk,os⟩;refine aEz (sw e1 rfl (x:=.none) rfl ?_);show wpAny _ _ (mkInt m >>= _) _ _ ⟨h1,g,d,tk,os⟩;refine aEz (wpAny_mkInt ?_);show wpAny _ _ (setField (.ref e) 3 (rawInt (m+1)) >>= _) _ _ ⟨h1,g,d,tk+1,os⟩;refine aEz (pb e1 (by simp) λh2 e2 U=>?_)
 replace U:Heap.SameBut e h1 h2:=U
 replace e2:IsEnum h2 e it (m+1) z:=e2
 show wpAny _ _ (setField (.ref e) 4 .none >>= _) _ _ ⟨h2,g,d,tk+1,os⟩;refine aEz (pb e2 (by simp) λh3 e3 Y=>?_)
 replace Y:Heap.SameBut e h2 h3:=Y
 replace e3:IsEnum h3 e it (m+1) z:=e3
 show wpAny _ _ (newTuple [.int m tk,x] >>= _) _ _ ⟨h3,g,d,tk+1,os⟩;refine aEz (wm ?_);have e4:IsEnum (h3.push { cls:=.type "tuple",data:=.seq #[.int m tk,x] }) e it (m+1) z:=aFC _ e3;generalize z4:h3.push { cls:=.type "tuple",data:=.seq #[.int m tk,x] }=h4 at e4;have hs:h3.objs.size=J.objs.size:=by rw[Y.1,U.1,M.1]
 have lt:e<J.objs.size:=aFH he;have t4:h4.get? J.objs.size=some { cls:=.type "tuple",data:=.seq #[.int m tk,x] }:=by
  rw[<- z4,<- hs];exact aFI _ rfl
 have k4:∀ b o,b≠e->b≠it->J.get? b=some o->h4.get? b=some o:=λb o L n2 hb=>by
  rw[<- z4];exact aFC _ (Y.extBut b o L (U.extBut b o L (M.extBut b o n2 hb)))
 have i4:h4.IsListIter it l (i+1):=by
  rw[<- z4];obtain⟨o,ho,r⟩:=(av.extBut U.extBut (jh G)).extBut Y.extBut (jh G);exact⟨o,aFC _ ho,r⟩
 show wpAny _ _ (Builtin.SmallTypes.ownedTupleIsFree (.ref e) >>= _) _ _ ⟨h4,g,d,tk+1,os⟩;rw[hs];clear z4 e3 Y e2 U e1 M av hs h3 h2 h1;refine aEz ?_;unfold Builtin.SmallTypes.ownedTupleIsFree;refine aEz (sw e4 rfl (x:=.none) rfl (aFA ?_));simp only[ud];refine aEz (qv (aEz (sw e4 rfl (x:=z) rfl (aEz (pb e4 (by simp) λh5 e5 s5=>?_)))))
 replace s5:Heap.SameBut e h4 h5:=s5
 replace e5:IsEnum h5 e it (m+1) x:=e5
 show wpAny _ _ (Builtin.SmallTypes.ownedTupleHandOut (.ref e) (.ref J.objs.size) >>= _) _ _ ⟨h5,g,d,tk+1,os⟩;refine aEz ?_;unfold Builtin.SmallTypes.ownedTupleHandOut;refine aEz (pb e5 (by simp) λh6 e6 s6=>?_)
 replace s6:Heap.SameBut e h5 h6:=s6
 replace e6:IsEnumOut h6 e it (m+1) x J.objs.size:=e6
 refine pb e6 (by simp) λh7 e7 s7=>?_
 replace s7:Heap.SameBut e h6 h7:=s7
 replace e7:IsEnumOut h7 e it (m+1) x J.objs.size:=e7
 refine aEz (mD (aFA ⟨_,rfl,aFA (hQ h7 e7 ?_ ?_ ?_)⟩))
 .exact((i4.extBut s5.extBut (jh G)).extBut s6.extBut (jh G)).extBut s7.extBut (jh G)
 .exact s7.extBut _ _ (aF1 lt) (s6.extBut _ _ (aF1 lt) (s5.extBut _ _ (aF1 lt) t4))
 .exact λb o L n2 hb=>s7.extBut b o L (s6.extBut b o L (s5.extBut b o L (k4 b o L n2 hb)))
def aBI {e it l:Addr} {i:Nat} {m:Int} {its:Array Value} {z:Value} {Q:Option Value->Shared->Prop} (M:A.handled=none) (he:IsEnum s.heap e it m z) (G:s.heap.IsListIter it l i) (U:s.heap.IsList l its) (Y:its[i]?=none)
 (hQ:∀ h',Heap.ExtBut it s.heap h'->Q none { s with heap:=h' }):wpAny (model prog w) A (pyNext (.ref e)) Q E s:=by
 have L:s.TypeIs (.ref e) "enumerate":=⟨_,he,rfl⟩;unfold pyNext;refine aEz (uy (vf (name:=Str.ofString "__next__") L mn (rh mn L sh ?_ (rm _))));show wpAny _ _ (field (.ref e) 2 >>= _) _ _ _;refine aEz (sw he rfl (x:=.ref it) rfl (aEz (wpAny_nextOf_list_end M G U Y λh' y J hy=>?_)));obtain⟨o,ho,hc⟩:=hy;exact aEz (wpAny_isInstance (T:="StopIteration") (b:=true) ⟨o,ho,hc⟩ isSubtype_stop (aFA (hQ _ J)))
def yQ {env:PySem.Env} {pos:Pos} {T:String} {e:Expr} {rest:List Expr} {aj:List Keyword} {Q:Value->Shared->Prop} {M:Model}
 (h:wpAny M A (spliced (backTo pos (starEach (e :: rest) env))) (λvs t=>wpAny M A (evalAll ((backToKw pos (keywordEach aj env)).map (·.2)))
  (λkvs t2=>wpAny M A (call (.type T) vs (((backToKw pos (keywordEach aj env)).filterMap (·.1)).zip kvs)) Q E t2) E t) E s)
 (he:backTo pos (starEach (e :: rest) env)=(false,eval e env) :: backTo pos (starEach rest env)) (z:(backTo pos (starEach (e :: rest) env)).any (·.1)=false)
 (G:(backToKw pos (keywordEach aj env)).all (·.1.isSome)=true) (J:(backToKw pos (keywordEach aj env)).any (·.1.isNone)=false) :
 wpAny M A (callWith pos (.type T) [] (backTo pos (starEach (e :: rest) env)) (backToKw pos (keywordEach aj env))) Q E s:=by
 unfold callWith;refine aEz (jn (dt (Q:=λa t=>wpAny M A (call (.type T) ([]++a.pos) a.kw) Q E t) ?_ (λa t h1=>aEz (lq ?_)) λ_ _ x=>x))
 .rw[he]at h ⊢;exact evalArgs_kwB G h
 .simp only[z,J,wx];exact aEz (aFA (aEz (dt h1 (λr t2 L=>aEz (jn (wpAny_point (aFA L)))) λ_ _ x=>x)))
end
def Its (K:PySem.W.Frag) (m:Int) (a:Addr):It :=
 ⟨λi H=>∃ xs x,SqL K H a xs/\xs[i]?=some x,λi H v H'=>∃ t x,v=.ref t/\H t=none/\(∀ xs,SqL K H a xs->xs[i]?=some x)/\H'=upd H t (.tup [.int (m+i),x]),λi H=>∃ xs,SqL K H a xs/\xs.length<=i⟩
def aBJ {P:Program} {w:World} {K:PySem.W.Frag} {elts:List Expr} {x1} {pos:Pos} (m:Int) (a e it:Addr) (hne:e≠it):sE P w K (.Tuple elts x1 pos) (Its K m a) [e,it] e (λi h=>(∃ old,IsEnum h e it (m+i) old)/\h.IsListIter it a i) where
 mem:=by simp
 obj:=λi h st b hb=>by
  obtain⟨⟨old,he⟩,o,ho,c,d⟩:=st;rcases aFe.mp hb with z | z
  .subst z;exact⟨_,he,λv z=>by have z':Data.fields _=Data.cell v:=z;cases z'⟩
  .have z:b=it:=by simpa using z
   subst z;exact⟨o,ho,λv z=>by rw[d]at z;cases z⟩
 keep:=λi h h' st k=>⟨let ⟨old,he⟩:=st.1;⟨old,k e (by simp) _ he⟩,st.2.at λo e=>k it (by simp) o e⟩
 item:=by
  intro X hP hw hK hc i pins s σ H E I hf st hg;subst hP hw hK;obtain⟨xs,x,hq,hx⟩:=hg;obtain⟨its,rv,p,hz⟩:=I.list hq;obtain⟨u,hu,ru⟩:=rv.get hx;obtain⟨⟨old,he⟩,hit⟩:=st;have le:e<s.heap.objs.size:=aFH he;have li:it<s.heap.objs.size:=by obtain⟨_,z,_⟩:=hit;exact aFH z
  refine aBH he hit p.isList (x:=u) (by simpa using hu) hne λh' e1 e2 e3 kp=>?_;refine⟨_,rfl,?_⟩;have hn:H s.heap.objs.size=none:=I.hok.fresh (ah _);have k1:∀ b o,b∉[e,it]->s.heap.get? b=some o->h'.get? b=some o:=λb o hb q=>kp b o (λz=>hb (by simp[z])) (λz=>hb (by simp[z])) q;have tupOk:∀ h2:Heap,h2.get? s.heap.objs.size=some { cls:=.type "tuple",data:=.seq #[.int (m+i) s.toks,u] }->ObjOk X.prog X.w (upd H s.heap.objs.size (.tup [.int (m+i),x])) h2 s.heap.objs.size (.tup [.int (m+i),x]):=λh2 q =>
   ⟨by show 2<=sizeLine;decide,[.int (m+i) s.toks,u],.cons ⟨_,rfl⟩ (.cons ru .nil),_,q,rfl,_,rfl⟩
  refine wpAny_letOwnedTupleGo_enum (i:=m+i+1) e1 λh2 f1 sb=>?_;have k2:∀ b o,b∉[e,it]->s.heap.get? b=some o->h2.get? b=some o:=λb o hb q=>sb.extBut b o (λz=>hb (by simp[z])) (k1 b o hb q);have n1:s.heap.objs.size≠e:=aF1 le;refine⟨.ref s.heap.objs.size,_,I.turnLaid (t':=s.toks+1) (h':=h2) (o:=.tup [.int (m+i),x]) k2 hf (ah _) (tupOk _ (sb.extBut _ _ n1 e3)),rfl,⟨_,x,rfl,hn,λys hy=>by rw[I.list_inj hy hq];exact hx,rfl⟩,⟨⟨u,?_⟩,?_⟩,λb hb=>?_⟩
  .rw[show m+((i+1:Nat):Int)=m+i+1 by omega];exact f1
  .exact e2.extBut sb.extBut (jh hne)
  .have hb':b≠s.heap.objs.size:=by
    rcases aFe.mp hb with z | z
    .subst z;exact aFY le
    .have z:b=it:=by simpa using z
     subst z;exact aFY li
   rw[aE hb'];exact(hf b hb).1
 done:=by
  intro X hP hw hK hc i pins s σ H E I hf st hg;subst hP hw hK;obtain⟨xs,hq,hx⟩:=hg;obtain⟨its,rv,p,hz⟩:=I.list hq;have hl:=rv.length;obtain⟨⟨old,he⟩,hit⟩:=st;exact aBI (I.ok.hd hc) he hit p.isList (by simp;omega) λh' eb=>⟨rfl,I.turnedF (fp:=[e,it]) (t':=s.toks) (λb o hb e=>eb b o (λz=>hb (by simp[z])) e) hf⟩
 self:=λ_ _ _ _ _ st h=>let ⟨_,he⟩:=st.1;wpAny_pyIter_enum he h
def aEy (K:PySem.W.Frag) (m:Int) (ta:TA):TI:=fun σ H R=>ta σ H λvs H1=>∃ a xs,vs=[.ref a]/\SqL K H1 a xs/\R (Its K m a) H1
def aD0 {X:Cx} {elts:List Expr} {x1} {ak:Pos} {a f:Expr} {ta:TA} {p pos kp:Pos} {m:Int} (hg:Gl X "enumerate") (hm:X.mg "enumerate"=none) (ha:PA X [a] ta) (M:PE X f (tC (.int m))) (J:Builtin.SmallTypes.fitsIndex m=true:=by decide)
 (U:backTo pos (starEach [a] X.env)=(false,eval a X.env) :: backTo pos (starEach [] X.env):=by rfl) (Y:(backTo pos (starEach [a] X.env)).any (·.1)=false:=by rfl)
 (av:(backToKw pos (keywordEach [⟨some "start",f,kp⟩] X.env)).all (·.1.isSome)=true:=by rfl) (aw:(backToKw pos (keywordEach [⟨some "start",f,kp⟩] X.env)).any (·.1.isNone)=false:=by rfl) (a_:(backToKw pos (keywordEach [⟨some "start",f,kp⟩] X.env)).filterMap (·.1)=([Str.ofString "start"]:List Str):=by rfl) :
 PI X (.Tuple elts x1 ak) (.Call (.Name "enumerate" p) [a] [⟨some "start",f,kp⟩] pos) (aEy X.K m ta):=by
 intro pins s σ H R I h;refine ki (fA I hg hm sZ ?_);refine yQ ?_ U Y av aw;refine thn (ha pos pins s σ H _ I h) λus s1 ⟨vs,H1,I1,r1,q1⟩=>?_;obtain⟨a,xs,e,hq,q⟩:=q1;subst e;refine thn ((nR M sG) pos pins s1 σ H1 (λks H2=>ks=[.int m]/\H2=H1) I1 ⟨rfl,rfl⟩) λws G ⟨zs,H2,L,r2,q2⟩=>?_;obtain⟨rfl,rfl⟩:=q2;obtain⟨u,rfl,rx⟩:=kJ r1;obtain⟨v,rfl,ba⟩:=kJ r2;cases rx;obtain⟨tm,rfl⟩:=ba;rw[a_];obtain⟨its,rv,pl,hz⟩:=L.list hq;refine aBG J pl.isList λh' g1 g2 kp=>?_;have I3:Inv X pins σ H2 { G with heap:=h' }:=L.kept (t':=G.toks) kp;refine wpAny_pyIter_enum g1 ?_;refine⟨G.heap.objs.size+1,[G.heap.objs.size+1,G.heap.objs.size],_,_,H2,rfl,I3,aBJ m a _ _ (aF1 (lu _)),⟨⟨_,by rw[show m+((0:Nat):Int)=m by omega];exact g1⟩,g2⟩,λb hb=>?_,q⟩;have e:G.heap.objs.size<=b:=by
  rcases aFe.mp hb with z | z
  .rw[z];exact sk _
  .have z:b=G.heap.objs.size:=by simpa using z
   rw[z];exact ah _
 exact L.fpOk e (L.hok.fresh e)
def aCM {K:PySem.W.Frag} {m:Int} {a:Addr} {xs:List V} {g:TG} {tb:TS} {D:nJ} {σ:St} {H:Hp} (Pv:Nat->St->Hp->Prop) (h0:Pv 0 σ H) (M:∀ i σ H,i<=xs.length->Pv i σ H->SqL K H a xs)
 (U:∀ i x σ H t,xs[i]?=some x->Pv i σ H->H t=none->g (.ref t) σ (upd H t (.tup [.int (m+i),x])) λz H2=>tb { D with nx:=Pv (i+1),ct:=Pv (i+1),bk:=D.nx } z H2) (hd:∀ σ H,Pv xs.length σ H->D.nx σ H) :
 ∃ W:Nat->Nat->St->Hp->Prop,(∃ n,W 0 n σ H)/\∀ i n σ H,W i n σ H ->
  ((Its K m a).stop i H/\D.nx σ H)\/((Its K m a).go i H/\∃ N:St->Hp->Prop,(∀ G H',N G H'->∃ L,L<n/\W (i+1) L G H')/\∀ x H',(Its K m a).yld i H x H'->g x σ H' λz H2=>tb { D with nx:=N,ct:=N,bk:=D.nx } z H2):=by
 refine⟨λi n σ H=>n=xs.length - i/\i<=xs.length/\Pv i σ H,⟨xs.length,by simp,jr _,h0⟩,?_⟩;rintro i n σ H ⟨rfl,hi,p⟩;have q:=M i σ H hi p
 by_cases J:i<xs.length
 .refine .inr ⟨⟨xs,xs[i],q,by simp[J]⟩,Pv (i+1),λG H' Y=>⟨xs.length - (i+1),by omega,rfl,J,Y⟩,λx H' y=>?_⟩;obtain⟨t,x,rfl,hn,y,rfl⟩:=y;exact U i x σ _ t (y xs q) p hn
 .have e:i=xs.length:=by omega
  subst e;exact .inl ⟨⟨xs,q,ah _⟩,hd σ H p⟩
end L2
namespace CW
open PySem L2
end CW
namespace L2
open PySem PySem.Spec PyProof.Rows
open PySem.SeqAt
open PySem.AutoSeq1 (wpAny_loadPart')
open PySem.MeetsSeq PySem.MeetsSeq2 PySem.MeetsSeq3
end L2
namespace CW
open PySem L2
end CW
namespace L2
open PySem PySem.W PySem.Spec PyProof.Rows PySem.SeqAt PySem.MeetsSeq
section
variable {X:Cx} {H:Hp}
def uB {z G:Type} {F:z->G->Prop}:∀ {l:List z} {m:List G},Paired F l m->∀ x∈l,∃ y∈m,F x y
 | _,_,.cons r t,x,h=>by
  rcases aFe.mp h with rfl | h
  .exact⟨_,aFD,r⟩
  .obtain⟨y,J,L⟩:=uB t x h;exact⟨y,aFE _ J,L⟩
end
end L2
namespace CW
open PySem L2
def bL (ps:Trs):Int:=(ps.map λp=>p.2 - p.1+1).sum
def tkn (m:Int) (n:Nat) (p:Int×Int):Int:=if m - (n:Int)<p.2 - p.1+1 then m - (n:Int)else p.2 - p.1+1
def yR (m:Int) (st:List Int×Trs) (p:Int×Int):List Int×Trs:=(st.1++kH p.1 (tkn m st.1.length p).toNat,st.2++(if p.1+tkn m st.1.length p<=p.2 then [(p.1+tkn m st.1.length p,p.2)]else []))
def dN (m:Int) (ps:Trs):List Int×Trs:=ps.foldl (yR m) ([],[])
def jL (m:Int) (ps:Trs) (p:Int×Int):dN m (ps++[p])=yR m (dN m ps) p:=by unfold dN;rw[um];rfl
def jM (ps:Trs) (p:Int×Int):bL (ps++[p])=bL ps+(p.2 - p.1+1):=by unfold bL;rw[aFQ,pi];simp
def iK (ps z:Trs):bL (ps++z)=bL ps+bL z:=by unfold bL;rw[aFQ,pi]
def Rn (ps:Trs):Prop:=∀ p∈ps,p.1<=p.2+1
def E8 (i:Int) (n:Nat):(kH i n).length=n:=by unfold kH;simp
def Y1 {z:Type} {C:List z->Prop} (h0:C []) (h1:∀ l a,C l->C (l++[a])) (l:List z):C l:=by
 rw[<- List.reverse_reverse l];generalize l.reverse=r
 induction r with
 | nil=>exact h0
 | cons a r G=>rw[uq];exact h1 _ _ G
structure aCc (m:Int) (ps:Trs):Prop where
 pos:0<=bL ps
 len:((dN m ps).1.length:Int)=min m (bL ps)
 rest:bL (dN m ps).2=bL ps - min m (bL ps)
 rn:Rn (dN m ps).2
 few:(dN m ps).2.length<=ps.length
def pY {m:Int} (hm:0<=m) (ps:Trs):Rn ps->aCc m ps:=by
 refine Y1 (C:=λps=>Rn ps->aCc m ps) (λ_=>⟨by simp[bL],by simp[dN,bL];omega,by simp[dN,bL];omega,(λp J=>by simp[dN]at J),ah _⟩) (λl p U L=>?_) ps;have J:=L p (by simp);obtain⟨h0,h1,h2,h3,h4⟩:=U λq z=>L q (by simp[z])
 suffices Y:0<=bL l+(p.2 - p.1+1)/\(((yR m (dN m l) p).1.length:Nat):Int)=min m (bL l+(p.2 - p.1+1))/\bL (yR m (dN m l) p).2=bL l+(p.2 - p.1+1) - min m (bL l+(p.2 - p.1+1))/\Rn (yR m (dN m l) p).2/\(yR m (dN m l) p).2.length<=(l++[p]).length by
  obtain⟨k0,k1,k2,k3,k4⟩:=Y;exact⟨by rw[jM];exact k0,by rw[jL,jM];exact k1,by rw[jL,jM];exact k2,by rw[jL];exact k3,by rw[jL];exact k4⟩
 unfold yR;generalize dN m l=st at h1 h2 h3 h4 ⊢;have ht:0<=tkn m st.1.length p:=by unfold tkn;split <;> omega
 have hl:((st.1++kH p.1 (tkn m st.1.length p).toNat).length:Int)=st.1.length+tkn m st.1.length p:=by
  rw[aFK,E8];omega
 refine⟨by omega,?_,?_,?_,?_⟩
 .rw[hl];unfold tkn;split <;> omega
 .show bL (st.2++_)=_;rw[iK,h2];have e1:∀ q:Int×Int,bL [q]=q.2 - q.1+1:=λq=>by simp[bL]
  have e0:bL []=0:=rfl;have G:tkn m st.1.length p=if m - (st.1.length:Int)<p.2 - p.1+1 then m - (st.1.length:Int)else p.2 - p.1+1:=rfl
  generalize tkn m st.1.length p=tt at G ht ⊢
  by_cases M:p.1+tt<=p.2
  .rw[da M,e1];show _+(p.2 - (p.1+tt)+1)=_;split at G <;> omega
  .rw[bB M,e0];split at G <;> omega
 .intro q z;rcases aFf.mp z with h | h
  .exact h3 q h
  .split at h
   .rw[aF7.mp h];show _<=p.2+1;omega
   .cases h
 .rw[aFK,aFK];split <;> simp <;> omega
inductive oT (vs:List V) (H:Hp) (Q:VK) (E_:XK):Prop
 | mk (a:Addr) (ps:Trs) (h0_:vs=[.ref a]) (h1_:LP H a ps) (h2_:ps.length<=1000) (h3_:∀ H',Same H H'->Q (.int (bL ps)) H'):oT vs H Q E_
inductive uC (vs:List V) (H:Hp) (Q:VK) (E_:XK):Prop
 | mk (a:Addr) (ps:Trs) (m:Int) (h0_:vs=[.ref a,.int m]) (h1_:LP H a ps) (h2_:ps.length<=1000) (h3_:Rn ps) (h4_:0<=m/\m<=1000) (h6_:∀ (t l1 l2:Addr) (H':Hp),H l2=none->Same H H'->H' t=some (.tup [.ref l1,.ref l2])->H' l1=some (.lst ((dN m ps).1.map V.int))->LP H' l2 (dN m ps).2->Q (.ref t) H'):uC vs H Q E_
inductive R0 (H:Hp) (a:Addr) (rs:List Trs):Prop
 | mk (us:List V) (h0_:H a=some (.lst us)) (h1_:Paired (λv ps=>∃ b,v=V.ref b/\LP H b ps) us rs):R0 H a rs
def rR {F:V->Trs->Prop}:∀ {us:List V} {rs:List Trs} {i:Nat} {r:Trs},Paired F us rs->rs[i]?=some r->∃ v,us[i]?=some v/\F v r
 | _,_,_,_,.nil,e=>by simp at e
 | _,_,0,_,.cons h t,e=>by simp at e;subst e;exact⟨_,rfl,h⟩
 | _,_,i+1,r,.cons h t,e=>by
  obtain⟨v,h1,h2⟩:=rR (i:=i) (r:=r) t (by simpa using e);exact⟨v,by simpa using h1,h2⟩
def mI {F:V->Trs->Prop}:∀ {us:List V} {rs:List Trs},Paired F us rs->us.length=rs.length
 | _,_,.nil=>rfl
 | _,_,.cons h t=>congrArg Nat.succ (mI t)
def rl (rs:List Trs) (i:Nat):Int:=bL (rs.getD i [])
structure aD1 (rs:List Trs) (n:Nat):Prop where
 one:1<=n
 few:n<rs.length
 ge:rl rs (n - 1)<=rl rs n
 lt:∀ j,1<=j->j<n->rl rs j<rl rs (j - 1)
inductive nF (vs:List V) (H:Hp) (Q:VK) (E_:XK):Prop
 | mk (a:Addr) (rs:List Trs) (n:Nat) (h0_:vs=[.ref a]) (h1_:R0 H a rs) (h2_:rs.length<=1000) (h2b_:∀ ps∈rs,ps.length<=1000) (h3_:aD1 rs n) (h4_:∀ H',Same H H'->Q (.int n) H'):nF vs H Q E_
def uD (st:List Trs×Int) (p:Int×Int):List Trs×Int:=(st.1++[[(st.2,p.1 - 1)],[p]],p.2+1)
def dB (row:List Int) (ps:Trs):List Trs×Int:=ps.foldl uD ([],loM row - (row.length:Int) - 1)
def eK (row:List Int):List Trs:=(dB row (bD row)).1++[[((dB row (bD row)).2,(dB row (bD row)).2+(row.length:Int) - 1)]]
def hZ (row:List Int) (ps:Trs) (p:Int×Int):dB row (ps++[p])=uD (dB row ps) p:=by unfold dB;rw[um];rfl
def jN (row:List Int) (ps:Trs):(dB row ps).1.length=2 * ps.length :=
 Y1 (C:=λps=>(dB row ps).1.length=2 * ps.length) rfl (λl p z=>by rw[hZ];unfold uD;rw[aFK,z,aFK];simp;omega) ps
inductive uE (vs:List V) (H:Hp) (Q:VK) (E_:XK):Prop
 | mk (a:Addr) (row:List Int) (h0_:vs=[.ref a]) (h1_:H a=some (.lst (row.map V.int))) (h2_:Row row) (h3_:row.length<=60) (h4_:∀ (l:Addr) (H':Hp),H l=none->Same H H'->R0 H' l (eK row)->Q (.ref l) H'):uE vs H Q E_
abbrev RunV (r:Addr) (H:Hp) (v:V) (ps:Trs):Prop:=∃ b,v=V.ref b/\b≠r/\LP H b ps
def RunV.same {r:Addr} {H H':Hp} (g:Same H H') {v:V} {ps:Trs} (h:RunV r H v ps):RunV r H' v ps:=by
 obtain⟨b,e,n,l⟩:=h;exact⟨b,e,n,l.mono g⟩
def RunV.upd {r:Addr} {H:Hp} {xs ys:List V} (e:H r=some (.lst xs)) {v:V} {ps:Trs} (h:RunV r H v ps):RunV r (upd H r (.lst ys)) v ps:=by
 obtain⟨b,z,n,us,l,G⟩:=h;exact⟨b,z,n,us,by rw[aE n];exact l,G.mono (TupS.lst e)⟩
def eZ (b:Bool):List Trs->Int
 | []=>0
 | r :: t=>(if b then bL r else 0)+eZ (!b) t
def E9 (b:Bool):Nat->Bool
 | 0=>b
 | n+1=>E9 (!b) n
def gH:∀ (A B:List Trs) (b:Bool),eZ b (A++B)=eZ b A+eZ (E9 b A.length) B
 | [],B,b=>by simp[eZ,E9]
 | a :: A,B,b=>by
  show _+eZ (!b) (A++B)=_+eZ (!b) A+eZ (E9 (!b) A.length) B;rw[gH A B];omega
def mJ {ps:Trs} (h:Rn ps):0<=bL ps:=(pY (m:=0) (by omega) ps h).pos
def yS:∀ {rs:List Trs} {b:Bool},(∀ r∈rs,Rn r)->0<=eZ b rs
 | [],_,_=>by simp[eZ]
 | r :: t,b,h=>by
  have h1:=mJ (h r aFD);have h2:=yS (rs:=t) (b:=!b) λq z=>h q (aFE _ z);show 0<=(if b then bL r else 0)+eZ (!b) t;split <;> omega
def aCN (r:Trs) (t:List Trs) (i:Nat):rl (r :: t) (i+1)=rl t i:=by unfold rl;simp
def iL (r:Trs) (t:List Trs):rl (r :: t) 0=bL r:=by unfold rl;simp
def Y2:∀ {rs:List Trs} {b:Bool} {i:Nat},(∀ r∈rs,Rn r)->i<rs.length->E9 b i=true->rl rs i<=eZ b rs
 | r :: t,b,0,h,_,z=>by
  have G:b=true:=z;have h2:=yS (rs:=t) (b:=!b) λq J=>h q (aFE _ J);rw[iL];show bL r<=(if b then bL r else 0)+eZ (!b) t;rw[da G];omega
 | r :: t,b,i+1,h,hi,z=>by
  have h1:=mJ (h r aFD);have h2:=Y2 (rs:=t) (b:=!b) (i:=i) (λq J=>h q (aFE _ J)) (by simpa using hi) z;rw[aCN];show rl t i<=(if b then bL r else 0)+eZ (!b) t;split <;> omega
def oU:∀ (n:Nat) (b:Bool),E9 b n=if n % 2=1 then !b else b
 | 0,b=>rfl
 | n+1,b=>by
  show E9 (!b) n=_;rw[oU n (!b),Bool.not_not];rcases tj n with h | h
  .rw[bB (by omega),da (by omega)]
  .rw[da h,bB (by omega)]
def aD2 {p:Nat->Prop} (n:Nat):p n->∃ m,p m/\∀ j,j<m->¬ p j:=by
 induction n using Nat.strongRecOn with
 | _ n G =>
  intro J
  by_cases h:∃ j,j<n/\p j
  .obtain⟨j,h1,h2⟩:=h;exact G j h1 h2
  .exact⟨n,J,λj hj z=>h ⟨j,hj,z⟩⟩
structure HI (rs:List Trs):Prop where
 odd:rs.length % 2=1
 rn:∀ r∈rs,Rn r
 fst:eZ false rs+1<=rl rs 0
 lst:eZ false rs<=rl rs (rs.length - 1)
def HI.le {rs:List Trs} (h:HI rs) {i:Nat} (hi:i<rs.length) (z:i % 2=1):rl rs i<=eZ false rs :=
 Y2 h.rn hi (by rw[oU,da z];rfl)
def HI.found {rs:List Trs} (h:HI rs) (M:1<rs.length):∃ n,aD1 rs n/\2<=n:=by
 have L:=h.odd;have hex:∃ n,1<=n/\n<rs.length/\rl rs (n - 1)<=rl rs n:=⟨rs.length - 1,by omega,by omega,by
  have h1:=h.le (i:=rs.length - 1 - 1) (by omega) (by omega);have h2:=h.lst;omega⟩
 obtain⟨n,G,z⟩:∃ n,(1<=n/\n<rs.length/\rl rs (n - 1)<=rl rs n)/\∀ j,j<n->¬ (1<=j/\j<rs.length/\rl rs (j - 1)<=rl rs j):=aD2 (p:=λn=>1<=n/\n<rs.length/\rl rs (n - 1)<=rl rs n) hex.choose hex.choose_spec;refine⟨n,⟨G.1,G.2.1,G.2.2,λj h1 h2=>?_⟩,?_⟩
 .have:=z j h2;apply Int.lt_of_not_ge
  intro h3;exact this ⟨h1,by omega,h3⟩
 .by_cases J:n=1
  .subst J;have h1:=h.le (i:=1) M rfl;have h2:=h.fst;have h3:=G.2.2;have e:1 - 1=0:=rfl;rw[e]at h3;omega
  .omega
def oV (l:List Trs) (w:Trs):rl (l++[w]) ((l++[w]).length - 1)=bL w:=by
 unfold rl;simp
def HI.step {A B:List Trs} {x y z rest:Trs} (h:HI (A++x :: y :: z :: B)) (U:bL rest=bL z - bL y) (G:Rn rest):HI (A++(x++rest) :: B)/\eZ false (A++(x++rest) :: B)=eZ false (A++x :: y :: z :: B) - bL y:=by
 have M:=h.rn x (by simp);have hy:=mJ (h.rn y (by simp));have hrest:=mJ G;have es:eZ false (A++(x++rest) :: B)=eZ false (A++x :: y :: z :: B) - bL y:=by
  rw[gH,gH];generalize E9 false A.length=b;simp only[eZ,iK];cases b <;> simp <;> omega
 refine⟨⟨?_,?_,?_,?_⟩,es⟩
 .have:=h.odd;simp only[aFK,aF4]at this ⊢;omega
 .intro r L;rcases aFf.mp L with k | k
  .exact h.rn r (by simp[k])
  .rcases aFe.mp k with k | k
   .rw[k];intro p Y;rcases aFf.mp Y with q | q
    .exact M p q
    .exact G p q
   .exact h.rn r (by simp[k])
 .rw[es];have h1:=h.fst;cases A with
  | nil =>
   simp only[lj,iL,iK]at h1 ⊢;omega
  | cons a A =>
   simp only[rj,iL]at h1 ⊢;omega
 .rw[es];have h1:=h.lst;have av:=yS (b:=false) h.rn;rcases nk B with rfl | ⟨J,w,rfl⟩
  .have e1:A++[x,y,z]=(A++[x,y])++[z]:=by simp
   rw[e1,oV]at h1;rw[oV,iK,U];have:=mJ M;rw[e1];omega
  .have e1:A++x :: y :: z :: (J++[w])=(A++x :: y :: z :: J)++[w]:=by simp
   have e2:A++(x++rest) :: (J++[w])=(A++(x++rest) :: J)++[w]:=by simp
   simp only[nq]at h1 ⊢;rw[e1,oV]at h1;rw[e1,e2,oV];omega
def rsz (p:Int×Int):Int:=p.2 - p.1+1
def cat (R:Trs):List Int:=R.flatMap λp=>seg p.1 (rsz p).toNat
def GdR (R:Trs):Prop:=∀ p∈R,p.1<=p.2
def uF (R:Trs) (p:Int×Int):cat (R++[p])=cat R++seg p.1 (rsz p).toNat:=by unfold cat;rw[wu];simp
def p5 (row:List Int):GdR (bD row)/\cat (bD row)=row:=by
 have:∀ (n:Nat) (r:List Int),r.length=n->GdR (bD r)/\cat (bD r)=r:=by
  intro n
  induction n with
  | zero=>intro r h;rw[List.length_eq_zero_iff.mp h];exact⟨λp G=>(nomatch G),rfl⟩
  | succ n L =>
   intro r h;rcases nk r with e | ⟨B,z,e⟩
   .rw[e]at h;cases h
   .rw[nq]at e;subst e;obtain⟨g,c⟩:=L B (by simpa using h);rw[yB];show GdR (fN (bD B) z)/\cat (fN (bD B) z)=B++[z];have one:GdR (bD B++[(z,z)])/\cat (bD B++[(z,z)])=B++[z]:=by
     refine⟨λp G=>?_,?_⟩
     .rcases aFf.mp G with x | x
      .exact g p x
      .rw[aF7.mp x];exact nu _
     .rw[uF,c]
      congr 1
      have:(rsz (z,z)).toNat=1:=by show (z - z+1).toNat=1;rw[show z - z+1=1 by omega];rfl
      rw[this];simp[seg]
    rcases nk (bD B)with e | ⟨l,q,e⟩
    .rw[e]at one ⊢;exact one
    .rw[nq]at e;rw[e,hJ]
     by_cases J:q.2=z - 1
     .rw[da J];have M:=g q (by rw[e];simp);refine⟨λp G=>?_,?_⟩
      .rcases aFf.mp G with x | x
       .exact g p (by rw[e];exact aFU _ x)
       .rw[aF7.mp x];show q.1<=z;omega
      .rw[e,uF]at c;rw[uF,<- c,jq]
       congr 1
       have:(rsz (q.1,z)).toNat=(rsz q).toNat+1:=by unfold rsz;simp only;omega
       rw[this,aA2];show _++[q.1+((rsz q).toNat:Int)]=_;rw[show q.1+((rsz q).toNat:Int)=z by unfold rsz;omega]
     .rw[bB J,<- e];exact one
 exact this _ row rfl
def pZ (R:Trs) (p:Int×Int):cat (R++[p])=cat R++seg p.1 (rsz p).toNat:=by unfold cat;rw[wu];simp
def aBK {p:Int} {n:Nat} {x:Int} (h1:p<=x) (h2:x<p+n):x∈seg p n:=by
 unfold seg;exact aFg.mpr ⟨(x - p).toNat,List.mem_range.mpr (by omega),by omega⟩
structure aBL (row:List Int) (R:Trs):Prop where
 sto:eZ false (dB row R).1=bL R
 rn:∀ r∈(dB row R).1,Rn r
 nic:∀ x,(∀ y∈cat R,y<x)->loM row<=x->(dB row R).2<=x
 len:bL R=((cat R).length:Int)
 hd:R≠[]->(row.length:Int)+1<=rl (dB row R).1 0
def aCO (row:List Int) (R:Trs):GdR R->Row (cat R)->(∀ x∈cat R,loM row<=x)->aBL row R:=by
 refine Y1 (C:=λR=>GdR R->Row (cat R)->(∀ x∈cat R,loM row<=x)->aBL row R) (λ_ _ _=>⟨rfl,λr G=>(nomatch G),λx _ L=>by show loM row - (row.length:Int) - 1<=x;omega,rfl,λh=>absurd rfl h⟩) (λl p ih hg G M=>?_) R;have hp:=hg p (by simp);rw[pZ]at G M;have hsz:rsz p=p.2 - p.1+1:=rfl;have m1:p.1∈seg p.1 (rsz p).toNat:=aBK (by omega) (by omega);have m2:p.2∈seg p.1 (rsz p).toNat:=aBK (by omega) (by omega);unfold Row at G;obtain⟨r1,r2,r3⟩:=List.pairwise_append.mp G;obtain⟨i1,i2,i3,i4,i5⟩:=ih (λq z=>hg q (by simp[z])) r1 (λx L=>M x (by simp[L]));have U:=M p.1 (by simp[m1]);have hn:=i3 p.1 (λy hy=>r3 y hy _ m1) U;have J:=jN row l;have e1:(dB row (l++[p])).1=(dB row l).1++[[((dB row l).2,p.1 - 1)],[p]]:=by rw[hZ];rfl
 have e2:(dB row (l++[p])).2=p.2+1:=by rw[hZ];rfl
 refine⟨?_,?_,?_,?_,?_⟩
 .rw[e1,gH,i1,jM,oU,bB (by omega)];simp[eZ,bL]
 .rw[e1];intro r Y;rcases aFf.mp Y with k | k
  .exact i2 r k
  .rcases aFe.mp k with k | k
   .rw[k];intro q z;rw[aF7.mp z];show (dB row l).2<=p.1 - 1+1;omega
   .rw[aF7.mp k];intro q z;rw[aF7.mp z];omega
 .intro x L _;rw[e2];have:=L p.2 (by rw[pZ];simp[m2]);omega
 .rw[jM,i4,pZ,aFK,aBt];omega
 .intro _;rw[e1];cases z:(dB row l).1 with
  | nil =>
   have h0:l=[]:=by
    rw[z]at J;exact List.length_eq_zero_iff.mp (by simp at J;omega)
   subst h0;rw[lj,iL];show _<=bL [(loM row - (row.length:Int) - 1,p.1 - 1)];simp[bL];omega
  | cons c t =>
   have av:l≠[]:=λh=>by rw[h]at z;cases z
   have:=i5 av;rw[z,iL]at this;rw[rj,iL];exact this
def Y3 {row:List Int} (hr:Row row) (hb:∀ x∈row,loM row<=x):(eK row).length=1\/HI (eK row)/\eZ false (eK row)=(row.length:Int):=by
 obtain⟨hg,M⟩:=p5 row;obtain⟨i1,i2,i3,Y,i5⟩:=aCO row (bD row) hg (by rw[M];exact hr) (by rw[M];exact hb);rw[M]at Y;have z:=jN row (bD row)
 by_cases U:bD row=[]
 .left
  unfold eK;rw[aFK,z,U];rfl
 right
 have G:=i5 U;have es:eZ false (eK row)=(row.length:Int):=by
  unfold eK;rw[gH,i1,Y,oU,bB (by omega)];simp[eZ]
 refine⟨⟨?_,?_,?_,?_⟩,es⟩
 .unfold eK;rw[aFK,z];show (2 * (bD row).length+1) % 2=1;omega
 .intro r J;unfold eK at J;rcases aFf.mp J with k | k
  .exact i2 r k
  .rw[aF7.mp k];intro q L;rw[aF7.mp L];show _<=_+(row.length:Int) - 1+1;omega
 .rw[es];unfold eK;cases L:(dB row (bD row)).1 with
  | nil=>rw[L]at z;exact absurd (List.length_eq_zero_iff.mp (by simp at z;omega)) U
  | cons c t =>
   rw[L,iL]at G;rw[rj,iL];exact G
 .rw[es];unfold eK;rw[oV];simp[bL];omega
inductive R1 (lp:Addr) (H:Hp) (lr:Addr) (rs:List Trs):Prop
 | mk (vs:List V) (h0_:lr≠lp) (h1_:H lr=some (.lst vs)) (h2_:Paired (RunV lp H) vs rs):R1 lp H lr rs
def aD3 {rs:List Trs} {n:Nat} (h2:2<=n) (J:n<rs.length):∃ A x y z B,rs=A++x :: y :: z :: B/\A.length=n - 2:=by
 refine⟨rs.take (n - 2),rs[n - 2],rs[n - 1],rs[n],rs.drop (n+1),?_,by rw[aFR];omega⟩;have e1:rs.drop (n - 2)=rs[n - 2] :: rs.drop (n - 2+1):=jm (by omega);have G:rs.drop (n - 1)=rs[n - 1] :: rs.drop (n - 1+1):=jm (by omega);have L:rs.drop n=rs[n] :: rs.drop (n+1):=jm J;have k1:n - 2+1=n - 1:=by omega
 have k2:n - 1+1=n:=by omega
 rw[k2]at G;rw[k1]at e1;rw[<- L,<- G,<- e1,wa]
def wU {F:V->Trs->Prop}:∀ (k:Nat) {us:List V} {rs:List Trs},Paired F us rs->Paired F (us.take k) (rs.take k)
 | 0,_,_,_=>.nil
 | _+1,_,_,.nil=>.nil
 | k+1,_,_,.cons h t=>.cons h (wU k t)
def wV {F:V->Trs->Prop}:∀ (k:Nat) {us:List V} {rs:List Trs},Paired F us rs->Paired F (us.drop k) (rs.drop k)
 | 0,_,_,h=>h
 | _+1,_,_,.nil=>.nil
 | k+1,_,_,.cons h t=>wV k t
def p6 (row:List Int):(eK row).length<=2 * row.length+1:=by
 unfold eK;rw[aFK,jN];have:=lX row;show 2 * (bD row).length+1<=_;omega
def p7 (row:List Int) (R:Trs):((dB row R).1.map List.length).sum=2 * R.length :=
 Y1 (C:=λR=>((dB row R).1.map List.length).sum=2 * R.length) rfl (λl p z=>by rw[hZ];unfold uD;rw[aFQ,pi,z,aFK];simp;omega) R
def F0 (row:List Int):((eK row).map List.length).sum<=2 * row.length+1:=by
 unfold eK;rw[aFQ,pi,p7];have:=lX row;simp;omega
def aBM {rs:List Trs} (h:rs.length=1):eZ false rs<=60:=by
 match rs,h with
 | [r],_=>simp[eZ]
end CW
namespace L2
open PySem
def qA:∀ a:List Int,HT.lexLt a a=false
 | []=>rfl
 | x :: a=>by rw[HT.lexLt_cons,da rfl];exact qA a
def qV:∀ {a b c:List Int},HT.lexLt a b=true->HT.lexLt b c=true->HT.lexLt a c=true
 | [],[],_,h,_=>by cases h
 | [],_ :: _,[],_,h=>by cases h
 | [],_ :: _,_ :: _,_,_=>rfl
 | _ :: _,[],_,h,_=>by cases h
 | _ :: _,_ :: _,[],_,h=>by cases h
 | x :: a,y :: b,z :: c,h1,h2=>by
  rw[HT.lexLt_cons]at h1 h2 ⊢
  by_cases e1:x=y
  .subst e1;rw[da rfl]at h1
   by_cases G:x=z
   .subst G;rw[da rfl]at h2 ⊢;exact qV h1 h2
   .rw[bB G]at h2 ⊢;exact h2
  .rw[bB e1]at h1;have J:=of_decide_eq_true h1
   by_cases G:y=z
   .subst G;rw[bB e1];exact h1
   .rw[bB G]at h2;have L:=of_decide_eq_true h2;rw[bB (by omega)];exact aFX (by omega)
def wW:∀ {a b:List Int},HT.lexLt a b=false->HT.lexLt b a=false->a=b
 | [],[],_,_=>rfl
 | [],_ :: _,h,_=>by cases h
 | _ :: _,[],_,h=>by cases h
 | x :: a,y :: b,h1,h2=>by
  rw[HT.lexLt_cons]at h1 h2
  by_cases e:x=y
  .subst e;rw[da rfl]at h1 h2;rw[wW h1 h2]
  .rw[bB e]at h1;rw[bB (jh e)]at h2;have:=of_decide_eq_false h1;have:=of_decide_eq_false h2;omega
def lex2 {z G:Type} [DecidableEq z] (f:z->z->Bool) (g:G->G->Bool) (a b:z×G):Bool:=if a.1=b.1 then g a.2 b.2 else f a.1 b.1
structure StO {α:Type} (f:α->α->Bool):Prop where
 irr:∀ a,f a a=false
 tr:∀ {a b c},f a b=true->f b c=true->f a c=true
 tot:∀ {a b},f a b=false->f b a=false->a=b
def StO.lex2 {α β:Type} [DecidableEq α] {f:α->α->Bool} {g:β->β->Bool} (hf:StO f) (hg:StO g):StO (lex2 f g) where
 irr a:=by unfold L2.lex2;rw[da rfl];exact hg.irr _
 tr {a b c} h1 h2:=by
  unfold L2.lex2 at *
  by_cases e1:a.1=b.1
  .rw[da e1]at h1
   by_cases e2:b.1=c.1
   .rw[da e2]at h2;rw[da (e1.trans e2)];exact hg.tr h1 h2
   .rw[bB e2]at h2;rw[bB (by rw[e1];exact e2),e1];exact h2
  .rw[bB e1]at h1
   by_cases e2:b.1=c.1
   .rw[bB (by rw[<- e2];exact e1),<- e2];exact h1
   .rw[bB e2]at h2;have h3:=hf.tr h1 h2;rw[bB (λe=>by rw[e,hf.irr]at h3;cases h3)];exact h3
 tot {a b} h1 h2:=by
  unfold L2.lex2 at *
  by_cases e1:a.1=b.1
  .rw[da e1]at h1;rw[da e1.symm]at h2;exact Prod.ext e1 (hg.tot h1 h2)
  .rw[bB e1]at h1;rw[bB (jh e1)]at h2;exact absurd (hf.tot h1 h2) e1
def StO.lists:StO HT.lexLt:=⟨qA,qV,wW⟩
def StO.ints:StO (λa b:Int=>decide (a<b)):=⟨λa=>by simp,λh1 h2=>by simp at *;omega,λh1 h2=>by simp at *;omega⟩
abbrev uG:Int×(List Int×List Int)->Int×(List Int×List Int)->Bool:=lex2 (λa b=>decide (a<b)) (lex2 HT.lexLt HT.lexLt)
def StO.keys:StO uG:=StO.ints.lex2 (StO.lists.lex2 StO.lists)
open PyProof.Rows in
def StO.ord {α:Type} {f:α->α->Bool} (h:StO f):KeyOrd where
 α:=α
 blt:=f
 irrefl:=h.irr
 trans _ _ _ h1 h2:=h.tr h1 h2
 negTrans a b c hc:=by
  cases e1:f a b with
  | true=>exact .inl rfl
  | false =>
   right
   cases e2:f b a with
   | true=>exact h.tr e2 hc
   | false=>rw[<- h.tot e1 e2];exact hc
 total _ _ h1 h2:=h.tot h1 h2
open PyProof.Rows PySem.SeqAt PySem.Spec
open PySem.AutoSeq1 (wpAny_loadPart')
open PySem.MeetsSeq PySem.MeetsSeq2 PySem.MeetsSeq3
def wX:List (List Int)->List (List Int)->Bool
 | [],[]=>false
 | [],_ :: _=>true
 | _ :: _,[]=>false
 | a :: x,b :: y=>if a=b then wX x y else HT.lexLt a b
def aCP (A:Around) (s:Shared) (u v:Value) (a b:List Int):Prop:=EqAt A s u v (decide (a=b))/\∀ (prog:Program) (w:World) (E:Value->Shared->Prop) (Q:Value->Shared->Prop),Q (.bool (HT.lexLt a b)) s->wpAny (model prog w) A (richCompare .Lt u v) Q E s
def yT (l b:Addr) (u1 u2 v1 v2:Value) (n n2:Nat) (dd av:Option Addr) (sl aw:Array (Option Value)) (a1 a2 U Y:List Int) :
 Meets (Builtin.«tuple.__lt__» ⟨[.ref l,.ref b],[]⟩)
  (λA R s=>s.heap.get? l=some { cls:=.type "tuple",dict:=dd,data:=.seq #[u1,u2] n,slots:=sl }/\s.heap.get? b=some { cls:=.type "tuple",dict:=av,data:=.seq #[v1,v2] n2,slots:=aw } /\
   aCP A.in1 s u1 v1 a1 U/\aCP A.in1 s u2 v2 a2 Y /\
   R (.ok (.ret (.bool (wX [a1,a2] [U,Y])))) s):=by
 intro prog w A R s h;obtain⟨hp,g,d,tk,os⟩:=s;obtain⟨hl,hb,k1,k2,h⟩:=h;have f2:=uj
 wp_walk using mj hl,mj hb,wpAny_forIn_list _ (λrest b s'=>b.1=none/\s'=⟨hp,g,d,tk,os⟩/\∃ (xs:List (List Int×List Int)),Paired (λ(p:Value×Value) (q:List Int×List Int)=>aCP A.in1 ⟨hp,g,d,tk,os⟩ p.1 p.2 q.1 q.2) rest xs/\R (.ok (.ret (.bool (wX (xs.map (·.1)) (xs.map (·.2)))))) ⟨hp,g,d,tk,os⟩) _
 case turn =>
  rintro ⟨y,x⟩ rest b s' ⟨G,rfl,xs,J,hR⟩;cases J with
  | cons hq L =>
   obtain⟨he,a_⟩:=hq
   rename_i q M
   refine aEz (he prog w _ _ ?_);have z:R (.ok (.ret (.bool (if q.1=q.2 then wX (M.map (·.1)) (M.map (·.2))else HT.lexLt q.1 q.2)))) ⟨hp,g,d,tk,os⟩:=hR
   by_cases e:q.1=q.2
   .rw[da e]at z;rw[aFX e]
    wp_walk
    exact⟨rfl,rfl,_,L,z⟩
   .rw[bB e]at z;rw[aFW e];have ba:=a_ prog w
    wp_walk using ba
    exact z
 case fin =>
  rintro ⟨U,Y⟩ s' ⟨G,rfl,xs,J,hR⟩;simp only at G;subst G;cases J
  wp_walk
  simpa[Builtin.Tuple.tupleCompareSizes,wX]using hR
 case h =>
  exact⟨rfl,rfl,[(a1,U),(a2,Y)],.cons k1 (.cons k2 .nil),h⟩
end L2
namespace L2
open PySem PySem.W PySem.Spec PyProof.Rows PySem.SeqAt PySem.MeetsSeq
def aBE:∀ a b:List Int,PyData.eqvAll (a.map PyData.int) (b.map PyData.int)=decide (a=b)
 | [],[]=>rfl
 | [],_ :: _=>rfl
 | _ :: _,[]=>rfl
 | x :: a,y :: b=>by
  show (PyData.eqv (.int x) (.int y) && PyData.eqvAll (a.map PyData.int) (b.map PyData.int))=_;rw[aBE a b,show PyData.eqv (.int x) (.int y)=decide (x=y) from rfl]
  by_cases h1:x=y <;> by_cases h2:a=b <;> simp[h1,h2]
def uH:∀ {a b:List Int},a.map V.int=b.map V.int->a=b
 | [],[],_=>rfl
 | [],_ :: _,h=>by cases h
 | _ :: _,[],h=>by cases h
 | x :: a,y :: b,h=>by
  injection h with h1 h2
  injection h1 with h1
  rw[h1,uH h2]
section
variable {X:Cx} {H:Hp}
abbrev tI (a:List Int):PyData:=.tuple (a.map PyData.int)
def mK (a:List Int):SeqAt.shaped (tI a)=true:=by
 have h:=CW.shaped_ints a;have h1:=md h;have h2:=rb h;unfold SeqAt.shaped;rw[jl];exact⟨by simpa[PyData.canLay0]using h1,aFX (by simpa[PyData.depth]using h2)⟩
def IsTi (H:Hp) (v:V) (a:List Int):Prop:=∃ l,v=.ref l/\H l=some (.tup (a.map V.int))
def IsTi.den {v:V} {a:List Int} (h:IsTi H v a):Den H v (tI a):=by
 obtain⟨l,rfl,h1⟩:=h;exact .tup h1 (Dens.ints a)
def IsTi.ask {pins:List (Addr×Obj)} {σ:St} {s:Shared} {A:Around} {x y:V} {u v:Value} {a b:List Int} (I:Inv X pins σ H s) (hu:A.units+64<cLine) (M:IsTi H x a) (U:IsTi H y b) (rx:RelV x u) (ry:RelV y v):aCP A s u v a b:=by
 have d1:=M.den;have d2:=U.den;obtain⟨l,rfl,h1⟩:=M;obtain⟨Y,rfl,h2⟩:=U;cases rx;cases ry;refine⟨?_,λprog w E Q G=>?_⟩
 .by_cases e:l=Y
  .subst e;rw[h1]at h2;have e2:a.map V.int=b.map V.int:=HO.tup.inj (jk h2);have e3:a=b:=uH e2;rw[aFX e3];exact EqAt.same _
  .obtain⟨as,J⟩:=d1.reads I.hok (u:=.ref l) rfl;obtain⟨bs,L⟩:=d2.reads I.hok (u:=.ref Y) rfl;refine EqAt.of_refs e λprog w E Q G=>?_;refine eq_dataH J L (mK a) (mK b) hu ?_;rw[show PyData.eqv (tI a) (tI b)=decide (a=b) from aBE a b];exact G
 .obtain⟨its,J,p1,_⟩:=I.tuple (SqT.of h1);obtain⟨z,L,p2,_⟩:=I.tuple (SqT.of h2);have i1:IntsAre its.toArray.toList a:=jS J;have i2:IntsAre z.toArray.toList b:=jS L;exact HT.lt_tupInts p1 p2 i1 i2 (by omega) G
def IsPp (H:Hp) (v:V) (p:List Int×List Int):Prop:=∃ t x y,v=.ref t/\H t=some (.tup [x,y])/\IsTi H x p.1/\IsTi H y p.2
def p8 (p q:List Int×List Int):wX [p.1,p.2] [q.1,q.2]=lex2 HT.lexLt HT.lexLt p q:=by
 show (if p.1=q.1 then (if p.2=q.2 then false else HT.lexLt p.2 q.2)else HT.lexLt p.1 q.1)=_;unfold lex2
 by_cases h1:p.1=q.1
 .rw[da h1,da h1]
  by_cases h2:p.2=q.2
  .rw[da h2,h2,qA]
  .rw[bB h2]
 .rw[bB h1,bB h1]
abbrev tP (p:List Int×List Int):PyData:=.tuple [tI p.1,tI p.2]
def F1 (a:List Int):(tI a).depth<=1:=by simp[PyData.depth,CW.depth_ints]
def wY (p:List Int×List Int):SeqAt.shaped (tP p)=true:=by
 have h1:=md (mK p.1);have h2:=md (mK p.2);have d1:=F1 p.1;have d2:=F1 p.2;unfold SeqAt.shaped;rw[jl];refine⟨by simp[PyData.canLay0,PyData.canLayAll0]at h1 h2 ⊢;exact⟨h1,h2⟩,aFX ?_⟩;simp only[PyData.depth,PyData.depthAll]at d1 d2 ⊢;omega
def aD4 (p q:List Int×List Int):PyData.eqv (tP p) (tP q)=decide (p=q):=by
 show (PyData.eqv (tI p.1) (tI q.1) && (PyData.eqv (tI p.2) (tI q.2) && true))=_;rw[show PyData.eqv (tI p.1) (tI q.1)=decide (p.1=q.1) from aBE _ _,show PyData.eqv (tI p.2) (tI q.2)=decide (p.2=q.2) from aBE _ _];obtain⟨p1,p2⟩:=p;obtain⟨z,G⟩:=q
 by_cases h1:p1=z <;> by_cases h2:p2=G <;> simp[h1,h2]
def IsTi.inj {v:V} {a b:List Int} (h:IsTi H v a) (h':IsTi H v b):a=b:=by
 obtain⟨l,rfl,h1⟩:=h;obtain⟨z,e,h2⟩:=h';cases e;rw[h1]at h2;exact uH (HO.tup.inj (jk h2))
def IsPp.eqAt {pins:List (Addr×Obj)} {σ:St} {s:Shared} {A:Around} {x y:V} {u v:Value} {p q:List Int×List Int} (I:Inv X pins σ H s) (L:A.units+64<cLine) (M:IsPp H x p) (U:IsPp H y q) (Y:RelV x u) (ry:RelV y v):EqAt A s u v (decide (p=q)):=by
 obtain⟨t,x1,x2,rfl,h1,k1,k2⟩:=M;obtain⟨t',y1,y2,rfl,z,G,J⟩:=U;cases Y;cases ry
 by_cases e:t=t'
 .subst e;rw[h1]at z;have e2:=HO.tup.inj (jk z)
  injection e2 with e3 e4
  injection e4 with e4 _
  subst e3 e4;rw[aFX (Prod.ext (k1.inj G) (k2.inj J))];exact EqAt.same _
 .obtain⟨as,r1⟩:=(Den.tup h1 (.cons k1.den (.cons k2.den .nil))).reads I.hok (u:=.ref t) rfl;obtain⟨bs,r2⟩:=(Den.tup z (.cons G.den (.cons J.den .nil))).reads I.hok (u:=.ref t') rfl;refine EqAt.of_refs e λprog w E Q hq=>?_;refine eq_dataH r1 r2 (wY p) (wY q) L ?_;rw[aD4];exact hq
def IsPp.ltF {pins:List (Addr×Obj)} {σ:St} {s:Shared} {A:Around} {x y:V} {u v:Value} {p q:List Int×List Int} (I:Inv X pins σ H s) (hu:A.units+68<cLine) (hx:IsPp H x p) (hy:IsPp H y q) (rx:RelV x u) (ry:RelV y v) {E:Value->Shared->Prop} {Q:Bool->Shared->Prop} (hq:Q (lex2 HT.lexLt HT.lexLt p q) s) :
 wpAny (model X.prog X.w) A (oneLt' false u v) Q E s:=by
 obtain⟨t,x1,x2,rfl,h1,k1,k2⟩:=hx;obtain⟨t',y1,y2,rfl,L,M,U⟩:=hy;cases rx;cases ry;obtain⟨_,its,rv,⟨cls,dd,data,sl⟩,ho,hc,n,hd⟩:=(show ObjOk X.prog X.w H s.heap t (.tup [x1,x2]) from I.hok t _ h1);obtain⟨_,its',Y,⟨bc,av,aw,a_⟩,z,G,n',J⟩:=(show ObjOk X.prog X.w H s.heap t' (.tup [y1,y2]) from I.hok t' _ L);obtain⟨u1,u2,rfl,r1,r2⟩:=rv.two;obtain⟨w1,w2,rfl,ba,bb⟩:=Y.two;simp only at hc hd G J;subst hc hd G J;rw[oneLt'_eq];simp only[jv,oy];refine aEz (vi (op:=.Lt) ⟨_,ho,rfl⟩ ⟨_,z,rfl⟩ vo vj (ux _ _) (yT t t' u1 u2 w1 w2 n n' dd av sl a_ p.1 p.2 q.1 q.2) ⟨ho,z,IsTi.ask I ?_ k1 M r1 ba,IsTi.ask I ?_ k2 U r2 bb,?_⟩ (by omega))
 .show A.units+1+64<cLine;omega
 .show A.units+1+64<cLine;omega
 .rw[p8];exact⟨(λx=>nomatch x),me hq⟩
def aCQ (H:Hp) (v:V) (p:Int×(List Int×List Int)):Prop:=∃ t x,v=.ref t/\H t=some (.tup [.int p.1,x])/\IsPp H x p.2
def aCR {us:List V} {its:List (Int×(List Int×List Int))} (hu:X.A.units+74<cLine) (h:Paired (aCQ H) us its):aAs X H us StO.keys.ord (λi=>its.getD i (0,[],[])) (tuples' true):=by
 intro pins σ s vs I r;have hl:=r.length;have J:∀ {x:V} {v:Value} {p:Int×(List Int×List Int)},RelV x v->aCQ H x p->∃ t o n k1 w y,v=.ref t/\s.heap.get? t=some o/\o.cls=.type "tuple"/\o.data=.seq #[.int p.1 k1,w] n/\RelV y w/\IsPp H y p.2:=λ{x v p} rx hx=>by
  obtain⟨t,y,rfl,h1,h2⟩:=hx;cases rx;obtain⟨_,its',av,o,L,hc,n,hd⟩:=(show ObjOk X.prog X.w H s.heap t (.tup [.int _,y]) from I.hok t _ h1);obtain⟨u1,u2,rfl,⟨k1,rfl⟩,r2⟩:=av.two;exact⟨t,o,n,k1,u2,y,rfl,L,hc,hd,r2,h2⟩
 refine⟨λh2 E Q hq=>?_,λi j C hi hj hC=>?_⟩
 .have fs:∀ {us:List V} {vs:List Value} {its:List (Int×(List Int×List Int))},Vals us vs->Paired (aCQ H) us its->∃ fs:List Value,KatTups s.heap vs fs/\fs.length=vs.length/\∀ v∈fs,∃ i t,v=Value.int i t:=by
   intro us
   induction us with
   | nil=>intro vs its a b;cases a;exact⟨[],.nil,rfl,λv M=>(by cases M)⟩
   | cons x us ih =>
    intro vs its a b;cases a with
    | cons a1 a2 =>
     cases b with
     | cons b1 b2 =>
      obtain⟨fs,f1,f2,f3⟩:=ih a2 b2;obtain⟨t,o,n,k1,w,y,rfl,L,hc,hd,_,_⟩:=J a1 b1;refine⟨.int _ k1 :: fs,.cons L hc hd rfl f1,by simp[f2],λv M=>?_⟩;rcases aFe.mp M with z | z
      .exact⟨_,_,z⟩
      .exact f3 v z
  obtain⟨fs,f1,f2,f3⟩:=fs r h;refine kat_kind (T:=.type "int") f1 (by omega) (λv M=>?_) rfl hq;obtain⟨i,t,rfl⟩:=f3 v M;exact Looks.now
 .unfold kas_ask;have a1:=cI (x:=V.non) (y:=Value.none) r (i:=i) (by omega);have a2:=cI (x:=V.non) (y:=Value.none) r (i:=j) (by omega);have b1:=cI (x:=V.non) (y:=((0:Int),(([]:List Int),([]:List Int)))) h (i:=i) (by omega);have b2:=cI (x:=V.non) (y:=((0:Int),(([]:List Int),([]:List Int)))) h (i:=j) (by omega);have G:C (uG (its.getD i (0,[],[])) (its.getD j (0,[],[]))) s:=hC;clear hC;generalize its.getD i (0,[],[])=p at b1 G;generalize its.getD j (0,[],[])=q at b2 G;obtain⟨t,o,n,k1,w,y,e1,L,hc,hd,ry,hy⟩:=J a1 b1;obtain⟨t',o',n',bb,w',y',aw,a_,bc,ba,U,Y⟩:=J a2 b2;rw[e1,aw];refine kat_lt L hd a_ ba ?_;refine kat_cons (re ?_);have hk:uG p q=if p.1=q.1 then lex2 HT.lexLt HT.lexLt p.2 q.2 else decide (p.1<q.1):=rfl
  rw[hk]at G
  by_cases g1:p.1=q.1
  .rw[da g1]at G;rw[show (p.1 == q.1)=true by simpa using g1];refine kat_yes (kat_cons ?_);refine IsPp.eqAt I (by show X.A.units+1+1+64<cLine;omega) hy Y ry U _ _ _ _ ?_
   by_cases g2:p.2=q.2
   .rw[aFX g2];refine kat_yes (kat_nil ?_);rw[g2,(StO.lists.lex2 StO.lists).irr]at G;exact G
   .rw[aFW g2];exact kat_no (IsPp.ltF I (by show X.A.units+1+1+68<cLine;omega) hy Y ry U G)
  .rw[bB g1]at G;rw[show (p.1 == q.1)=false by simpa using g1];exact kat_no (oneLt_int G)
end
end L2
namespace L2
open PySem PySem.Spec PyProof.Rows
section
variable {prog:Program} {w:World} {A:Around} {E:Value->Shared->Prop} {s:Shared}
def aBN {R:Result->Shared->Prop} {r:Addr} {x y:Int} {t u v:Tok} {n:Nat} (hd:A.handled=none) (U:IsRange s.heap r x y 1 t u v) (Y:Builtin.Range.small x y 1=false)
 (en:Builtin.Range.rangeSize x y 1=n) (few:n<=2 ^ 24) (l:Addr) (rv:Value) (k0:Nat) (el:s.heap.get? l=some { cls:=.type "list",data:=.seq #[] k0 })
 (kk:∀ h' tk ac k',(∀ b o,b≠l->s.heap.get? b=some o->h'.get? b=some o)->h'.get? l=some { cls:=.type "list",dict:=none,data:=.seq ac k',slots:=#[] } ->
  ItemsOf (λi v=>∃ t,v=.int (x+i * 1) t) ac n->R (.ok (.ret rv)) { s with heap:=h',toks:=tk }) :
 wpAny (model prog w) A.in1 (Builtin.List.listExtendWith (.ref l) (.ref r) rv)
  (λz G=>match z with | .done f=>R (.ok f) G | .again d=>d.quiet=true/\codeAny (model prog w) A d R G) (λe G=>R (.error e) G) s:=by
 have av:l≠r:=λe=>by rw[e,U]at el;simp at el
 have aw:l<s.heap.objs.size:=aFH el;have J:l≠s.heap.objs.size:=aFY aw;have a_:l∉[s.heap.objs.size]:=λq=>J (aF7.mp q);have WK:=(Walks.longrange (prog:=prog) (w:=w) (A:=A.in1) hd s.heap.objs.size x 1 n).toS;have main:∀ (h:Heap) (k1 tk:Nat),IsLongIter h s.heap.objs.size (x+((0:Nat):Int) * 1) ((n:Int) - ((0:Nat):Int)) 1->(∀ b o,b≠l->s.heap.get? b=some o->h.get? b=some o) ->
  h.get? l=some { cls:=.type "list",data:=.seq #[] k1 }->codeAny (model prog w) A (.builtin "list.extend.loop" ⟨[.ref l,.ref s.heap.objs.size,rv],[]⟩) R { s with heap:=h,toks:=tk }:=by
  intro h k1 tk a1 a2 a3;refine codeAny_extend_loopS WK (by rw[uv];omega) l a_ rv n 0 _ #[] k1 rfl (jr _) a1 a3 (ItemsOf.nil _) λG ac k' mv e1 e2=>?_;rw[Moved.eq_with mv];refine kk G.heap G.toks ac k' (λb o Y e=>mv.heap b o (λq=>?_) (a2 b o Y e)) e1 e2;rcases aFe.mp q with z | z
  .exact Y z
  .exact absurd (aFH e) (by rw[aF7.mp z];exact ln _)
 unfold Builtin.List.listExtendWith;refine aEz (wpAny_typeOf (T:="range") ⟨_,U,rfl⟩ ?_);have q1:Builtin.List.listSameRef (.ref l) (.ref r)=false:=by simp[Builtin.List.listSameRef,av]
 have q2:(Value.type "range" == Value.type "list")=false/\(Value.type "range" == Value.type "tuple")=false:=by decide
 simp only[q1,q2.1,q2.2,wx,jv,oy];refine aEz (wpAny_pyIter_longrange U Y ?_);refine aEz (jn (wpAny_hint_range (n:=n) (aFC _ U) en few ?_));have i1:IsLongIter (s.heap.push { cls:=.type "longrange_iterator",data:=.fields #[rawInt x,rawInt (Builtin.Range.rangeSize x y 1),rawInt 1] }) s.heap.objs.size (x+((0:Nat):Int) * 1) ((n:Int) - ((0:Nat):Int)) 1:=by
  show IsLongIter _ _ _ _ _;rw[en];simpa using aFI _ rfl
 have L:=aFC { cls:=.type "longrange_iterator",data:=.fields #[rawInt x,rawInt (Builtin.Range.rangeSize x y 1),rawInt 1] } el;refine wpAny_ite_split (λ_=>?_) (λ_=>aFA ⟨kv F.plain_extend_loop _,main _ k0 _ i1 (λb o _ e=>aFC _ e) L⟩);refine aEz (qv (aEz ?_));show wpAny _ _ (updateSeq l (·.push .none) >>= λ_=>updateSeq l (·.pop)) _ _ _;refine aEz (kt L rfl ?_);have M:=aFT (Obj.mapSeq (·.push Value.none)) L rfl;refine kt (hz:=by seq_fits) M rfl ?_;have ba:=aFT (Obj.mapSeq (·.pop)) M rfl;refine aFA ⟨kv F.plain_extend_loop _,main _ _ _ ((aFG _ _ J).trans ((aFG _ _ J).trans i1)) (λb o hb e=>?_) ba⟩;exact(aFG _ _ (jh hb)).trans ((aFG _ _ (jh hb)).trans (aFC _ e))
def yU {Q:Value->Shared->Prop} {r:Addr} {x y:Int} {t u v:Tok} {n:Nat} (hd:A.handled=none) (er:IsRange s.heap r x y 1 t u v) (nb:Builtin.Range.small x y 1=false)
 (en:Builtin.Range.rangeSize x y 1=n) (few:n<=2 ^ 24)
 (kk:∀ h' tk ac Y,(∀ b o,s.heap.get? b=some o->h'.get? b=some o) ->
  h'.get? s.heap.objs.size=some { cls:=.type "list",dict:=none,data:=.seq ac Y,slots:=#[] }->ItemsOf (λi v=>∃ t,v=.int (x+i * 1) t) ac n->Q (.ref s.heap.objs.size) { s with heap:=h',toks:=tk }) :
 wpAny (model prog w) A (call (.type "list") [.ref r]) Q E s:=by
 refine callType_codes (Q₁:=λobj L=>obj=.ref s.heap.objs.size/\L={ s with heap:=s.heap.push { cls:=.type "list",data:=.seq #[] } }) F.called_list (F.typeCall_list_1 _) F.entry_list_init (code_list_new _ ⟨rfl,rfl⟩) λob s1 q=>?_;obtain⟨rfl,rfl⟩:=q;have J:(s.heap.push { cls:=.type "list",data:=.seq #[] }).get? s.heap.objs.size=some { cls:=.type "list",data:=.seq #[] }:=aFI _ rfl;refine⟨⟨_,J,rfl⟩,F.args_list_init_2 _ _,?_⟩;have M:=aFC { cls:=.type "list",data:=.seq #[] } er;have nr:s.heap.objs.size≠r:=λz=>absurd (aFH er) (by rw[z];exact ln _);have G:∀ b o,s.heap.get? b=some o->b≠s.heap.objs.size/\(s.heap.push { cls:=.type "list",data:=.seq #[] }).get? b=some o:=λb o e=>⟨aFY (aFH e),aFC _ e⟩;generalize s.heap.push { cls:=.type "list",data:=.seq #[] }=h0 at J M G;generalize s.heap.objs.size=l at J nr G kk;show wpAny _ _ (do let G <- Builtin.List.listItems (.ref l);Builtin.List.listUpdate (.ref l) (λ_=>#[]);letGo G.toList.reverse;Builtin.List.listExtendWith (.ref l) (.ref r) .none) _ _ _;refine aEz ?_;unfold Builtin.List.listItems;refine aEz (ku J rfl (aFA ?_));show wpAny _ _ (updateSeq l (λ_=>#[]) >>= λ_=>letGo (#[]:Array Value).toList.reverse >>= λ_=>Builtin.List.listExtendWith (.ref l) (.ref r) .none) _ _ _;refine aEz (kt J rfl ?_);have av:=aFT (Obj.mapSeq (λ_=>(#[]:Array Value))) J rfl;have U:∀ b o,b≠l->h0.get? b=some o->(h0.update l (Obj.mapSeq (λ_=>(#[]:Array Value)))).get? b=some o:=λb o hb e=>(aFG _ _ (jh hb)).trans e;refine aEz (mD (aBN (A:=A.in1) hd (U r _ (jh nr) M) nb en few l .none _ av λh' tk ac Y g1 g2 g3=>?_));exact⟨rfl,kk h' tk ac Y (λb o e=>g1 b o (G b o e).1 (U b o (G b o e).1 (G b o e).2)) g2 g3⟩
end
section
variable {X:Cx}
def p9:∀ (n:Nat) (l:List Value) (i:Int),l.length=n->(∀ (k:Nat) v,l[k]?=some v->∃ t,v=Value.int (i+(k:Int)) t)->Vals ((kH i n).map V.int) l:=by
 intro n
 induction n with
 | zero =>
  intro l i z _;rw[List.length_eq_zero_iff.mp z];exact .nil
 | succ n J =>
  intro l i z G;cases l with
  | nil=>cases z
  | cons v l =>
   have L:=G 0 v rfl;have e1:(kH i (n+1)).map V.int=V.int (i+((0:Nat):Int)) :: (kH (i+1) n).map V.int:=by
    unfold kH;rw[vl,aF0,aF5,aF0,aF5,aF5]
    congr 1
    apply jp
    intro k _;simp only[Function.comp]
    congr 1
    omega
   rw[e1];refine .cons L (J l (i+1) (by simpa using z) λk u M=>?_);obtain⟨t,U⟩:=G (k+1) u (by simpa using M);exact⟨t,by rw[U];congr 1;omega⟩
def uI (L:X.calm=true):gY X (.type "list") (λxs H Q=>∃ (r:Addr) (i j:Int),xs=[.ref r]/\H r=some (.rng i j)/\(j - i).toNat<=10000/\∀ l,H l=none->Q (.ref l) (upd H l (.lst ((kH i (j - i).toNat).map V.int)))):=by
 intro pins s σ H xs us Q I r h;obtain⟨a,i,j,rfl,Y,hlen,q⟩:=h;obtain⟨u,rfl,rx⟩:=kJ r;cases rx;obtain⟨t,u,v,e⟩:=(show ObjOk X.prog X.w H s.heap a (.rng i j) from I.hok a _ Y);have M:Builtin.Range.rangeSize i j 1=(((j - i).toNat:Nat):Int):=by rw[rangeSize_one];split <;> omega
 have fin:∀ h' tk ac G,(∀ b o,s.heap.get? b=some o->h'.get? b=some o)->h'.get? s.heap.objs.size=some { cls:=.type "list",dict:=none,data:=.seq ac G,slots:=#[] }->ItemsOf (λi' v=>∃ t,v=.int (i+i' * 1) t) ac (j - i).toNat->EP X pins σ Q (.ref s.heap.objs.size) { s with heap:=h',toks:=tk }:=λh' tk ac G kp eS z=>by
  refine⟨.ref s.heap.objs.size,_,I.laid (o:=.lst ((kH i (j - i).toNat).map V.int)) kp (ah _) ?_,rfl,q _ (I.hok.fresh (ah _))⟩;have J:ac.size=(j - i).toNat:=z.1;refine⟨?_,ac.toList,G,?_,by simpa using eS⟩
  .simp only[kH,aFB,jz];exact jf hlen (by decide)
  .refine p9 _ _ i (by simpa using J) λk v hv=>?_;obtain⟨t,et⟩:=z.2 k v (by simpa using hv);exact⟨t,by rw[et];congr 1;omega⟩
 cases U:Builtin.Range.small i j 1 with
 | true=>exact call_list_range (I.ok.hd L) e U M (jf hlen (by decide)) fin
 | false=>exact yU (I.ok.hd L) e U M (jf hlen (by decide)) fin
end
end L2
namespace CW
open PySem L2
abbrev LL:=List Int×List Int
def IsTi.tup {H H':Hp} (g:TupS H H') {v:V} {a:List Int} (h:IsTi H v a):IsTi H' v a:=by
 obtain⟨l,e,h1⟩:=h;exact⟨l,e,g _ _ h1⟩
def IsPp.tup {H H':Hp} (g:TupS H H') {v:V} {p:LL} (h:IsPp H v p):IsPp H' v p:=by
 obtain⟨t,x,y,e,h1,h2,h3⟩:=h;exact⟨t,x,y,e,g _ _ h1,IsTi.tup g h2,IsTi.tup g h3⟩
def qB (n:Nat) (y z:Trs):LL:=if n % 2=0 then ((dN (bL y) y).1,(dN (bL y) z).1)else ((dN (bL y) z).1,(dN (bL y) y).1)
inductive HdR:List Trs->List LL->Prop
 | nil {rs:List Trs}:rs.length<=1->HdR rs []
 | step {A B:List Trs} {x y z:Trs} {its:List LL}:aD1 (A++x :: y :: z :: B) (A.length+2)->HdR (A++(x++(dN (bL y) z).2) :: B) its->HdR (A++x :: y :: z :: B) (qB (A.length+2) y z :: its)
def vD (p:LL):Int×LL:=((p.1.length:Int),p)
def aD5 (its z:List LL):Prop:=z.Perm its/\(z.map vD).Pairwise λa b=>uG b a=false
def aCS {its:List (Int×LL)} {p:Array Nat} (L:p.toList.length=its.length) (J:Up StO.keys.ord (λi=>its.getD i (0,[],[])) p its.length):(p.toList.map λi=>its.getD i (0,[],[])).Pairwise λa b=>uG b a=false:=by
 rw[uf];intro i j hi hj z;rw[aFB]at hi hj;have:=J i j (km z) (by omega);have e:∀ k (G:k<p.toList.length),KP StO.keys.ord (λi=>its.getD i (0,[],[])) p k=its.getD (p.toList[k]) (0,[],[]):=λk G=>by
  unfold KP;simp at G;simp[G];rfl
 have k:StO.keys.ord.blt (KP StO.keys.ord (λi=>its.getD i (0,[],[])) p j) (KP StO.keys.ord (λi=>its.getD i (0,[],[])) p i)=false:=this;rw[e i hi,e j hj]at k;rw[vh,vh];exact k
def aD6 {its:List LL} {p:Array Nat} (z:p.toList.Perm (List.range its.length)) (G:Up StO.keys.ord (λi=>(its.map vD).getD i (0,[],[])) p its.length):aD5 its (p.toList.map λi=>its.getD i ([],[])):=by
 have J:p.toList.length=its.length:=by rw[z.length_eq,jz]
 have L:∀ i∈p.toList,i<its.length:=λi hi=>List.mem_range.mp (z.mem_iff.mp hi);refine⟨?_,?_⟩
 .have h1:=z.map λi=>its.getD i ([],[]);refine h1.trans (List.Perm.of_eq ?_);refine List.ext_getElem (by simp) λk h1 h2=>?_;simp at h1;simp[h1]
 .rw[aF5];have h2:=aCS (its:=its.map vD) (show p.toList.length=(its.map vD).length by simpa using J) (show Up StO.keys.ord (λi=>(its.map vD).getD i (0,[],[])) p (its.map vD).length by rw[aFB];exact G);rw[show p.toList.map (vD∘λi=>its.getD i ([],[]))=p.toList.map λi=>(its.map vD).getD i (0,[],[]) from jp λi hi=>by
   have:=L i hi;simp[fy,this]]
  exact h2
def Y4 {tb:TE} {N:List Str} {f c Y G:Addr} {LX M EX:HO} {R:Hp->V->V->Prop} {K:List V->Hp->Prop} (nf:f≠G) (nc:c≠G) (na:Y≠G) (J:∀ H1 H2 v k,SameP G H1 H2->R H1 v k->R H2 v k) :
 ∀ (us z:List V) (H:Hp),H f=some LX->H c=some M->H Y=some EX->H G=some (.lst z) ->
  (∀ v∈us,∀ (H':Hp) (Q:VK),SameP G H H'->H' G≠none->(∀ k L,Same H' L->R L v k->Q k L)->tb (eL N [v]) H' Q) ->
  (∀ ks H',Paired (R H') us ks->SameP G H H'->H' G=some (.lst (z++ks))->K (z++ks) H')->pV tb N f c Y G LX M EX us z H K
 | [],z,H,hf,hc,ha,U,_,fin=>by
  have:=fin [] H .nil (λ_ _ _ e=>e) (by rw[jy];exact U);rw[jy]at this;exact this
 | v :: us,z,H,hf,hc,ha,U,step,fin=>by
  refine step v aFD H _ (λ_ _ _ e=>e) (by rw[U];simp) λk H1 g r=>⟨g _ _ hf,g _ _ hc,g _ _ ha,g _ _ U,?_⟩;have g2:SameP G H (upd H1 G (.lst (z++[k]))):=λb o n e=>by rw[aE n];exact g _ _ e
  refine Y4 nf nc na J us (z++[k]) _ (g2 _ _ nf hf) (g2 _ _ nc hc) (g2 _ _ na ha) aD (λv hv H' Q g' hn hQ=>step v (aFE _ hv) H' Q (g2.trans g') hn hQ) λks H' pr g' ek=>?_;rw[jq]at ek ⊢;exact fin (k :: ks) H' (.cons (J _ _ _ _ ((SameP.tbl (o:=.lst (z++[k]))).trans g') r) pr) (g2.trans g') ek
def Y5 {J:Addr} {H H':Hp} (g:∀ b xs,H b=some (.tup xs)->H' b=some (.tup xs)):∀ {us ks:List V} {its:List LL},Paired (IsPp H) us its->Paired (λv k=>∃ t n,k=.ref t/\t≠J/\H' t=some (.tup [.int n,v])/\∃ p,IsPp H v p/\n=(p.1.length:Int)) us ks->Paired (aCQ H') ks (its.map vD)
 | _,_,_,.nil,.nil=>.nil
 | _,_,_,.cons h r,.cons ⟨t,n,e,_,h1,p,h2,L⟩ M=>by
  refine .cons ⟨t,_,e,?_,IsPp.tup g h⟩ (Y5 g r M);obtain⟨t1,x1,y1,e1,U,Y,a3⟩:=h;obtain⟨t2,x2,y2,G,z,b2,b3⟩:=h2;rw[e1]at G;cases G;rw[U]at z
  injection z with z
  injection z with z
  injection z with b4 z
  subst b4;rw[h1,L,b2.inj Y];rfl
def aBO {H:Hp} {us:List V} {its:List LL} (h:Paired (IsPp H) us its):∀ {q:List Nat},(∀ i∈q,i<us.length)->Paired (IsPp H) (D9 us q) (q.map λi=>its.getD i ([],[]))
 | [],_=>.nil
 | i :: q,z=>.cons (cI (x:=V.non) (y:=(([]:List Int),([]:List Int))) h (z i aFD)) (aBO h λj hj=>z j (aFE _ hj))
def uJ:∀ (r:List Int) (n:Int),r.foldl min n<=n/\∀ x∈r,r.foldl min n<=x
 | [],n=>⟨nu _,λx hx=>(nomatch hx)⟩
 | y :: r,n=>by
  obtain⟨h1,h2⟩:=uJ r (min n y);show List.foldl min (min n y) r<=n/\_;refine⟨by omega,λx hx=>?_⟩;show List.foldl min (min n y) r<=x;rcases aFe.mp hx with rfl | hx
  .omega
  .exact h2 x hx
def aD7 (row:List Int):∀ x∈row,loM row<=x:=by
 cases row with
 | nil=>exact λx hx=>(nomatch hx)
 | cons n r =>
  intro x hx;obtain⟨h1,h2⟩:=uJ r n;rcases aFe.mp hx with rfl | hx
  .exact h1
  .exact h2 x hx
def aBP {X:Cx} {qual:Str} {params:Arguments} {body:Expr} {scope:Scope} {N:List Str} {tb:TE} {f' c' lp:Addr} {us:List V} {its:List LL} {z:Hp} {Q:VK} (hu:X.A.units+74<cLine)
 (bb:∀ (v:V) (p:LL) (H':Hp) (Q':VK),IsPp H' v p->(∀ t,H' t=none->Q' (.ref t) (upd H' t (.tup [.int (p.1.length:Int),v])))->tb (eL N [v]) H' Q')
 (G:z f'=some (pU f' qual params body scope c')) (J:z c'=some (CodeX c' qual)) (bc:z lp=some (.lst us)) (hl:us.length<64) (pr:Paired (IsPp z) us its)
 (kk:∀ (qs:List LL) (aw:List V) (l:Addr) (H':Hp),aD5 its qs->Same z H'->z l=none->H' l=some (.lst aw)->Paired (IsPp H') aw qs->Q (.ref l) H'):aCE X qual params body scope N tb (.ref lp) (.ref f') z Q:=by
 refine⟨lp,us,f',c',rfl,rfl,bc,hl,G,J,λao U EX Y L M=>?_⟩;generalize pU f' qual params body scope c'=LX at G ⊢;generalize CodeX c' qual=bi at J ⊢;have a_:us.length=its.length:=ol pr;have bf:f'≠U:=λe=>by rw[e,L]at G;cases G
 have bg:c'≠U:=λe=>by rw[e,L]at J;cases J
 have nn:∀ {b:Addr} {o:HO} {d:Addr},z b=some o->z d=none->b≠d:=λh1 h2 e=>by rw[e,h2]at h1;cases h1
 have up1:Same z (upd (upd z ao EX) U (.lst [])):=λb o e=>by rw[aE (nn e L),aE (nn e Y)];exact e
 have av:∀ {H':Hp},SameP U (upd (upd z ao EX) U (.lst [])) H'->Same z H':=λg b o e=>g _ _ (nn e L) (up1 _ _ e);refine Y4 (R:=λH' v k=>∃ t n,k=.ref t/\t≠U/\H' t=some (.tup [.int n,v])/\∃ p:LL,IsPp z v p/\n=(p.1.length:Int)) bf bg M (λH1 H2 v k g ⟨t,n,e,hn,h1,h2⟩=>⟨t,n,e,hn,g _ _ hn h1,h2⟩) us [] _ (up1 _ _ G) (up1 _ _ J) (by rw[aE M];exact aD) aD (λv hv H' Q' g hn hQ=>?_) λks H' bh g ek=>?_
 .obtain⟨p,_,hp⟩:=uB pr v hv;refine bb v p H' Q' (IsPp.tup (TupS.same (av g)) hp) λt ht=>hQ _ _ (Same.upd ht) ⟨t,_,rfl,λe=>hn (by rw[<- e];exact ht),aD,p,hp,rfl⟩
 .rw[lj]at ek ⊢;refine⟨g _ _ M (by rw[aE M];exact aD),ek,StO.keys.ord,(λi=>(its.map vD).getD i (0,[],[])),PyProof.Rows.tuples' true,aCR hu (Y5 (TupS.same (av g)) pr bh),λq hq ba=>?_⟩;have gf:Same z (upd (upd H' U (.lst [])) ao (.lst (D9 us q.toList))):=λb o e=>by rw[aE (nn e Y),aE (nn e L)];exact av g _ _ e
  rw[a_]at hq ba;refine kk _ _ ao _ (aD6 hq ba) gf Y aD (aBO (pr.mono λ_ _ h=>IsPp.tup (TupS.same gf) h) λi hi=>?_);rw[a_];exact List.mem_range.mp (hq.mem_iff.mp hi)
def tb1 (z:Pos) (c':Addr):Array Value:=#[]++#[rawInt z.line,rawInt z.col,.ref c']
def hdQ:Str:=Str.ofString "heads"++Str.ofString ".<locals>."++Str.ofString "<lambda>"
def aCd (PT:Addr) (z:Pos) (H:Hp):Prop:=H PT=some (.tbl #[])\/∃ c',H PT=some (.tbl (tb1 z c'))/\H c'=some (CodeX c' hdQ)
inductive uK (PT:Addr) (lp:Pos) (vs:List V) (H:Hp) (Q:VK) (E_:XK):Prop
 | mk (a:Addr) (row:List Int) (h0_:vs=[.ref a]) (h1_:H a=some (.lst (row.map V.int))) (h2_:Row row) (h3_:row.length<=60) (h5_:aCd PT lp H)
  (h6_:∀ (its qs:List LL) (us:List V) (l:Addr) (H':Hp),HdR (eK row) its->aD5 its qs->SameP PT H H'->H l=none->H' l=some (.lst us)->Paired (IsPp H') us qs->aCd PT lp H'->Q (.ref l) H'):uK PT lp vs H Q E_
end CW
namespace L2
open PySem PySem.Spec PyProof.Rows
structure aES (X:Cx) (k:Nat) (params:Arguments) (body:Expr) (scope:Scope) (clos:List (Str×Addr)) (NL:List Str) (ix:List Nat) (spL:St->Hp->VK->XK->Prop):Prop where
 src:aAD X scope clos NL ix
 bind:∀ pm c' ctv,bindArgs (PySem.W.kla_fn "<lambda>" (X.env.qual++"<lambda>") params body scope clos pm (.ref c') ctv) ⟨[],[]⟩=pure []
 lam:∀ (f' c':Addr) (σ':St) (A:Around) (outer:List Env) (s:Shared) (H:Hp) (Q:VK) (E:XK),A.frames=some outer->Room k (A.deeper (PySem.W.envX (X.env.qual++"<lambda>") scope s.heap.objs.size f' (.ref c') clos))->spL σ' H Q E ->
  ∃ te,PE (qM (CXR X.prog X.w) X.prog X.w X.K X.mg X.base NL (X.env.qual++"<lambda>") scope f' (.ref c') clos A outer s H E) body te/\te σ' H Q
def LamK (X:Cx) (k:Nat) (G:List Nat) (z:St->Hp->VK->XK->Prop) (H:Hp) (f:Addr):Prop:=∃ c params body scope clos J,aES X k params body scope clos J G z/\H f=some (LamY f (X.env.qual++"<lambda>") params body scope clos c)/\H c=some (CodeX c (X.env.qual++"<lambda>"))/\f≠c
def LamK.keep {X:Cx} {k:Nat} {G:List Nat} {z:St->Hp->VK->XK->Prop} {H H':Hp} {f:Addr} (g:∀ b φ,H b=some (.ext φ)->H' b=some (.ext φ)) (h:LamK X k G z H f):LamK X k G z H' f:=by
 obtain⟨c,params,body,scope,clos,J,h1,h2,h3,h4⟩:=h;exact⟨c,params,body,scope,clos,J,h1,g _ _ h2,g _ _ h3,h4⟩
def aCe (X:Cx) (P:Addr) (z:Pos) (k:Nat) (J:List Nat) (G:St->Hp->VK->XK->Prop):TE:=fun σ H Q=>∃ ps,H P=some (.tbl ps)/\TriplesOk ps.toList/\codeAmong z ps.toList=none /\
 ∀ f c' H',H f=none->(∀ b o,b≠P->H b=some o->H' b=some o)->H' P=some (.tbl (ps++#[rawInt z.line,rawInt z.col,.ref c']))->LamK X k J G H' f->Q (.ref f) H'
def aCf (X:Cx) (k:Nat) (G:SpS) (E:XK) (te:TE):TE:=fun σ H Q=>te σ H λv H1=>∃ f L z,v=.ref f/\LamK X k L z H1 f /\
 ∀ M D H2,(∀ b,H2 b=none\/H2 b=H1 b)->(∀ b o,(∀ φ,o≠.ext φ)->H1 b=some o->H2 b=some o)->sN X.prog X.w X.K X.mg X.base (CXR X.prog X.w) (k+1) f D (z (O2 L σ))->(∃ U od fd Y,(f,(⟨U,od,.func fd,Y⟩:Obj))∈D)->zX D H2 M.heap (frs X.stack) ->
  G M X.stack [.ref f] H2 (λv H3=>∀ J,(∀ b o,H3 b=some o->J b=some o)->(∀ b o,H1 b=some o->H2 b=none->J b=some o)->Q v J) E
section
variable {X:Cx}
def aCT {params:Arguments} {body:Expr} {scope:Scope} {G:Pos} {c P:Addr} {k:Nat} {clos:List (Str×Addr)} {NL:List Str} {ix:List Nat} {L:St->Hp->VK->XK->Prop} (Bd:Body X) (J:X.env.code=.ref c) (hC:PySem.W.CodeHd X.base c P) (av:jG X.mg X.base) (M:defaultsOf params X.env=([],[])) (LF:aES X k params body scope clos NL ix L) :
 PE X (.Lambda params body scope G) (aCe X P G k ix L):=by
 intro pins s σ H Q I h;obtain⟨ps,hP,aw,hn,h⟩:=h;refine X5 Bd J hC av M LF.src.cl pins s σ H Q I ⟨ps,hP,aw,.inl ⟨hn,λc' f hc Y U=>?_⟩⟩;have a_:P≠c':=λe=>by rw[<- e,hP]at hc;cases hc
 have ba:P≠f:=λe=>by rw[<- e,hP]at Y;cases Y
 refine h f c' _ Y (λb o n e=>?_) ?_ ⟨c',params,body,scope,clos,NL,LF,aD,by rw[aE (jh U)];exact aD,U⟩
 .rw[aE (λz=>by rw[z,Y]at e;cases e),aE (λz=>by rw[z,hc]at e;cases e),aE n];exact e
 .rw[aE ba,aE a_,aD]
def aCU {y xp:Str} {e:Expr} {te:TE} {aa np:Pos} {f:Addr} {fd:FuncData} {k kW:Nat} {av:SpS} {E:XK}
 (Bd:Body X) (F:vW X.prog X.w X.K X.mg X.base (CXR X.prog X.w) kW f fd [xp] av) (hr:Room kW X.A) (hg:Gl X y) (hm:X.mg y=some (.ref f)) (hk:PySem.W.keepIn X.K (.ref f)=true) (Y:Binds X.K fd [xp] []) (hx:iV (CXR X.prog X.w) X E) (ha:PE X e te)
 (hdb:(y == ("__debug__":Str))=false:=by decide) (he:starEach [e] X.env=[(false,eval e X.env)]:=by rfl) :
 PE X (.Call (.Name y np) [e] [] aa) (aCf X k av E te):=by
 intro pins s σ H Q I h;refine ki (nK I hg hm ?_ hdb);refine tq (h₀:=X.base) I.ok.mod.kin hk ?_ he rfl;rw[he];refine nj (thn (ha pins s σ H _ I h) λu s1 ⟨v,H1,G,r1,q1⟩=>?_);refine qq ?_;obtain⟨fL,ix,ca,rfl,⟨c',params,body,scope,clos,NL,LF,hf,hc,U⟩,q⟩:=q1;obtain rfl:u=Value.ref fL:=r1;obtain⟨⟨pm,ctv,aw⟩,_⟩:=G.hok fL _ hf;obtain⟨⟨oc,vs,t,a_,J,M⟩,_⟩:=G.hok c' _ hc;have I2:=G.forget hf;have bg:del H1 fL c'=some (CodeX c' (X.env.qual++"<lambda>")):=by rw[fH (jh U)];exact hc
 have I3:=I2.forget bg;have trk:∀ {b:Addr} {u:HO},H1 b=some u->b∉frs X.stack/\(∀ o,X.s₀.heap.get? b=some o->X.H₀ b=none->b∉X.ex->False)/\b≠X.env.locals/\(∀ x d,X.env.cells.lookup x=some d->d≠b)/\∀ p∈X.pn++pins,p.1≠b:=λ{b u} Y=>by
  have n1:b≠X.env.locals:=λz=>by have:=G.free;rw[<- z,Y]at this;cases this
  have n2:∀ o,X.s₀.heap.get? b=some o->X.H₀ b=none->b∉X.ex->False:=λo e n x=>by have:=G.base.free b o e n x;rw[Y]at this;cases this
  refine⟨λz=>?_,n2,n1,λx d e z=>?_,λp hp z=>?_⟩
  .rcases Bd.mem.mp z with z | z
   .exact n1 z
   .obtain⟨_,o,ho,_⟩:=G.ok.funs.mem z;exact n2 o ho (G.ok.frf b z) (by rw[Bd.ex];simp)
  .have:=G.freeC x d e;rw[z,Y]at this;cases this
  .have:=(G.pin p hp).2.1;rw[z,Y]at this;cases this
 obtain⟨ba,bh,bi,bj,bn⟩:=trk hf;obtain⟨bb,bo,bq,br,bt⟩:=trk hc;have bc:del (del H1 fL) c' fL=none:=by rw[fH U];exact jF
 have bf:del (del H1 fL) c' c'=none:=jF;have bu:∀ b,del (del H1 fL) c' b=none\/del (del H1 fL) c' b=H1 b:=λb=>by
  by_cases h1:b=c'
  .left;rw[h1];exact jF
  .rw[fH h1]
   by_cases h2:b=fL
   .left;rw[h2];exact jF
   .right;rw[fH h2]
 have bv:∀ b o,(∀ φ,o≠.ext φ)->H1 b=some o->del (del H1 fL) c' b=some o:=λb o n e=>by
  rw[fH (λz=>by rw[z,hc]at e;cases e;exact n _ rfl),fH (λz=>by rw[z,hf]at e;cases e;exact n _ rfl)];exact e
 refine⟨I3.kIn,thn (l9 (c':=c') (fL:=fL) (pm:=pm) (ctv:=ctv) Bd F hr Y hx LF.src LF.bind LF.lam I3 aw ⟨bc,ba⟩ a_ ⟨bf,bb⟩ J M λD L bw laid=>q s1 D _ bu bv L bw laid) λu s' ⟨v,H3,I4,rv,q,kp⟩=>?_⟩;obtain⟨f1,f2⟩:=kp _ _ aw bc ba;obtain⟨c1,c2⟩:=kp _ _ a_ bf bb;have I5:=Inv.trackX I4 c1 (CodeX.mk (P:=X.prog) (w:=X.w) c2 J M) bo bq br bt;have b_:upd H3 c' (CodeX c' (X.env.qual++"<lambda>")) fL=none:=by rw[aE U];exact f1
 have I6:=Inv.trackX I5 b_ (LamY.mk (P:=X.prog) (w:=X.w) (qual:=X.env.qual++"<lambda>") (params:=params) (body:=body) (scope:=scope) (clos:=clos) (c:=c') (pm:=pm) (ctv:=ctv) f2) bh bi bj bn;refine⟨v,_,I6,rv,q _ (λb o e=>?_) λb o e1 e2=>?_⟩
 .have m1:b≠fL:=λz=>by rw[z,f1]at e;cases e
  have m2:b≠c':=λz=>by rw[z,c1]at e;cases e
  show upd (upd H3 c' _) fL _ b=some o;rw[aE m1,aE m2];exact e
 .show upd (upd H3 c' _) fL _ b=some o
  by_cases m1:b=fL
  .subst m1;rw[aD,<- e1];exact hf.symm
  .rw[aE m1]
   by_cases m2:b=c'
   .subst m2;rw[aD,<- e1];exact hc.symm
   .rw[fH m2,fH m1,e1]at e2;cases e2
end
end L2
namespace CW
open PySem L2
section
variable {P:Program} {w:World} {K:PySem.W.Frag} {mg:Str->Option Value} {base:Heap}
def cM (X:aV K mg):Sp:=λvs H Q E=>∃ (a:Addr) (row:List Int),vs=[.ref a]/\H a=some (.lst (row.map V.int))/\row.length<=200/\aO row≠.ok/\∀ H',Same H H'->(aO row).go X E H'
def Y6 (X:aV K mg):Sp:=λvs H Q E=>∃ (a:Addr) (row:List Int) (b:Int),vs=[.ref a,.int b]/\H a=some (.lst (row.map V.int))/\row.length<=200/\aO row≠.ok/\∀ H',Same H H'->(aO row).go X E H'
def vE {X:aV K mg} {a:Addr} {row:List Int} {H H':Hp} {Q:VK} {E:XK} (g:Same H H') (z:H a=some (.lst (row.map V.int))) (G:row.length<=200) (hd:aO row≠.ok) (k:∀ H',Same H H'->(aO row).go X E H'):cM X [.ref a] H' Q E:=⟨a,row,rfl,g _ _ z,G,hd,λH2 g2=>k H2 (g.trans g2)⟩
def fV (X:aV K mg):Sp:=λvs H Q E=>∃ (a:Addr) (row:List Int),vs=[.ref a]/\H a=some (.lst (row.map V.int))/\row.length<=200/\(aO row=.ok->∀ v H',Same H H'->Q v H')/\(aO row≠.ok->∀ H',Same H H'->(aO row).go X E H')
def rS (X:aV K mg):Sp:=λvs H Q E=>∃ (a:Addr) (row:List Int) (b:Int),vs=[.ref a,.int b]/\H a=some (.lst (row.map V.int))/\row.length<=200/\(aO row=.ok->∀ v H',Same H H'->Q v H')/\(aO row≠.ok->∀ H',Same H H'->(aO row).go X E H')
def rT (X:aV K mg) (PT:Addr):Sp:=λvs H Q E=>∃ (a:Addr) (row:List Int),vs=[.ref a]/\H a=some (.lst (row.map V.int))/\row.length<=200/\H PT=some (.tbl #[])/\(aO row=.ok->∀ v H',SameP PT H H'->Q v H')/\(aO row≠.ok->∀ H',Same H H'->(aO row).go X E H')
def aBQ {X:aV K mg}:xZ (fV X):=by
 rintro vs H Q L E M G J ⟨a,row,e,h1,h2,h3,h4⟩;exact⟨a,row,e,h1,h2,λz v H' g=>G _ _ (h3 z v H' g),λz H' g=>rM J (h4 z H' g)⟩
def r6 {X:aV K mg}:xZ (rS X):=by
 rintro vs H Q L E M G J ⟨a,row,b,e,h1,h2,h3,h4⟩;exact⟨a,row,b,e,h1,h2,λz v H' g=>G _ _ (h3 z v H' g),λz H' g=>rM J (h4 z H' g)⟩
def r8 {X:aV K mg} {PT:Addr}:xZ (rT X PT):=by
 rintro vs H Q L E M G J ⟨a,row,e,h1,h2,h3,h4,h5⟩;exact⟨a,row,e,h1,h2,h3,λz v H' g=>G _ _ (h4 z v H' g),λz H' g=>rM J (h5 z H' g)⟩
section
variable {k:Nat} {f:Addr} {fd:FuncData} {ps:List Str} {X:aV K mg} {good:Sp}
def eT (z:∀ (a:Addr) (row:List Int) (H:Hp) (Q:VK) (E:XK),H a=some (.lst (row.map V.int))->Row row->row.length<=60->(∀ v H',Same H H'->Q v H')->good [.ref a] H Q E) (F:FnOk P w K mg base (CXR P w) k f fd ps (kY good (cM X))):FnOk P w K mg base (CXR P w) k f fd ps (fV X) :=
 F.imp λvs H Q E h=>by
  obtain⟨a,row,rfl,h1,h2,h3,h4⟩:=h
  by_cases hd:aO row=.ok
  .exact .inl (z a row H Q E h1 (cP.mp hd).1 (cP.mp hd).2 (h3 hd))
  .exact .inr ⟨a,row,rfl,h1,h2,hd,h4 hd⟩
def aBR (z:∀ (a:Addr) (row:List Int) (b:Int) (H:Hp) (Q:VK) (E:XK),H a=some (.lst (row.map V.int))->Row row->row.length<=60->(∀ v H',Same H H'->Q v H')->good [.ref a,.int b] H Q E) (F:FnOk P w K mg base (CXR P w) k f fd ps (kY good (Y6 X))):FnOk P w K mg base (CXR P w) k f fd ps (rS X) :=
 F.imp λvs H Q E h=>by
  obtain⟨a,row,b,rfl,h1,h2,h3,h4⟩:=h
  by_cases hd:aO row=.ok
  .exact .inl (z a row b H Q E h1 (cP.mp hd).1 (cP.mp hd).2 (h3 hd))
  .exact .inr ⟨a,row,b,rfl,h1,h2,hd,h4 hd⟩
def aBS {PT:Addr} {z:Pos} (F:FnOk P w K mg base (CXR P w) k f fd ps (kY (uK PT z) (cM X))):FnOk P w K mg base (CXR P w) k f fd ps (rT X PT) :=
 F.imp λvs H Q E h=>by
  obtain⟨a,row,rfl,h1,h2,h3,h4,h5⟩:=h
  by_cases hd:aO row=.ok
  .exact .inl ⟨a,row,rfl,h1,(cP.mp hd).1,(cP.mp hd).2,.inl h3,λits G us l H' _ _ g _ _ _ _=>h4 hd _ H' g⟩
  .exact .inr ⟨a,row,rfl,h1,h2,hd,h5 hd⟩
end
def F2 (a:Addr) (row:List Int) (H:Hp) (Q:VK) (E:XK) (z:H a=some (.lst (row.map V.int))) (G:Row row) (J:row.length<=60) (k:∀ v H',Same H H'->Q v H'):cL [.ref a] H Q E:=⟨a,row,rfl,z,G,J,λl vs H' _ g _ _=>k _ H' g⟩
def R3 (a:Addr) (row:List Int) (H:Hp) (Q:VK) (E:XK) (z:H a=some (.lst (row.map V.int))) (G:Row row) (J:row.length<=60) (k:∀ v H',Same H H'->Q v H'):nA [.ref a] H Q E:=⟨a,row,rfl,z,G,J,λl H' _ g _=>k _ H' g⟩
def aCV (a:Addr) (row:List Int) (b:Int) (H:Hp) (Q:VK) (E:XK) (z:H a=some (.lst (row.map V.int))) (G:Row row) (J:row.length<=60) (k:∀ v H',Same H H'->Q v H'):xW [.ref a,.int b] H Q E:=⟨a,row,b,rfl,z,G,J,λl H' _ g _=>k _ H' g⟩
def R4 (a:Addr) (row:List Int) (H:Hp) (Q:VK) (E:XK) (z:H a=some (.lst (row.map V.int))) (G:Row row) (J:row.length<=60) (k:∀ v H',Same H H'->Q v H'):nE [.ref a] H Q E:=⟨a,row,rfl,z,G,J,λL _ _ l vs H' _ g _ _=>k _ H' g⟩
def aD8 (a:Addr) (row:List Int) (H:Hp) (Q:VK) (E:XK) (z:H a=some (.lst (row.map V.int))) (G:Row row) (J:row.length<=60) (k:∀ v H',Same H H'->Q v H'):uE [.ref a] H Q E:=⟨a,row,rfl,z,G,J,λl H' _ g _=>k _ H' g⟩
def aBT (a:Addr) (row:List Int) (H:Hp) (Q:VK) (E:XK) (z:H a=some (.lst (row.map V.int))) (G:Row row) (J:row.length<=60) (k:∀ v H',Same H H'->Q v H'):lH [.ref a] H Q E:=⟨a,row,rfl,z,G,J,λl H' _ g _=>k _ H' g⟩
def aBU (a:Addr) (row:List Int) (H:Hp) (Q:VK) (E:XK) (z:H a=some (.lst (row.map V.int))) (G:Row row) (J:row.length<=60) (k:∀ v H',Same H H'->Q v H'):lI [.ref a] H Q E:=⟨a,row,rfl,z,G,J,λn _ _ l H' _ g _=>k _ H' g⟩
def F3 (a:Addr) (row:List Int) (H:Hp) (Q:VK) (E:XK) (z:H a=some (.lst (row.map V.int))) (G:Row row) (J:row.length<=60) (k:∀ v H',Same H H'->Q v H'):eP [.ref a] H Q E:=⟨a,row,rfl,z,G,J,λL _ _ l vs H' _ g _ _=>k _ H' g⟩
def aBV (a:Addr) (row:List Int) (H:Hp) (Q:VK) (E:XK) (z:H a=some (.lst (row.map V.int))) (G:Row row) (J:row.length<=60) (k:∀ v H',Same H H'->Q v H'):tF [.ref a] H Q E:=⟨a,row,rfl,z,G,J,λb H' _ g=>k _ H' g⟩
def F4 {q:Int×Int}:∀ {l:Trs},(∀ x∈l,1<=x.1)->q∈l->q.1<=siz l
 | [],_,h=>by cases h
 | y :: l,G,J=>by
  rw[tR];have h1:=aCC (ps:=l) λz hz=>G z (aFE _ hz);have h2:=G y aFD;rcases aFe.mp J with e | e
  .rw[e];omega
  .have:=F4 (λz hz=>G z (aFE _ hz)) e;omega
inductive R5 (vs:List V) (H:Hp) (Q:VK) (E_:XK):Prop
 | mk (a:Addr) (row:List Int) (h0_:vs=[.ref a]) (h1_:H a=some (.lst (row.map V.int))) (h2_:Row row) (h3_:row.length<=60) (h4_:∀ n H',Same H H'->Q (.int n) H'):R5 vs H Q E_
def aET (a:Addr) (row:List Int) (H:Hp) (Q:VK) (E:XK) (z:H a=some (.lst (row.map V.int))) (G:Row row) (J:row.length<=60) (k:∀ v H',Same H H'->Q v H'):R5 [.ref a] H Q E:=⟨a,row,rfl,z,G,J,λn H' g=>k _ H' g⟩
inductive yV (vs:List V) (H:Hp) (Q:VK) (E_:XK):Prop
 | mk (a:Addr) (row:List Int) (h0_:vs=[.ref a]) (h1_:H a=some (.lst (row.map V.int))) (h2_:Row row) (h3_:row.length<=60) (h4_:∀ v H',Same H H'->Q v H'):yV vs H Q E_
def aCg (a:Addr) (row:List Int) (H:Hp) (Q:VK) (E:XK) (z:H a=some (.lst (row.map V.int))) (G:Row row) (J:row.length<=60) (k:∀ v H',Same H H'->Q v H'):yV [.ref a] H Q E:=⟨a,row,rfl,z,G,J,k⟩
inductive jO (vs:List V) (H:Hp) (Q:VK) (E_:XK):Prop
 | mk (a:Addr) (cs:List Int) (h0_:vs=[.ref a]) (h1_:H a=some (.lst (cs.map V.int))) (h2_:cs.length<=60) (h3_:∀ c∈cs,0<=c/\c<=60) (h4_:∀ v H',Same H H'->Q v H'):jO vs H Q E_
def Y7 {row:List Int} (h:row.length<=60) (c:Int):aEB row c<=60:=by
 have h1:=ph (λx=>decide (x∉row)) (kE row c);rw[wB]at h1;exact jf h1 h
def Y8:∀ {r:List Int},r≠[]->1<=stG r
 | [],h=>absurd rfl h
 | [x],_=>by simp[stG]
 | x :: y :: r,_=>by
  have:=Y8 (r:=y :: r) (by simp);simp only[stG];split <;> omega
def qC {row:List Int}:∀ n:Nat,(∀ k,k<n->cU k row≠[])->n+(cU n row).length<=row.length
 | 0,_=>by simp[cU]
 | n+1,h=>by
  have z:=qC n λk G=>h k (by omega);have h1:=lG (cU n row) 0;have h2:=Y8 (h n (by omega));show n+1+(dA 0 (cU n row)).length<=row.length;omega
def aCW {row:List Int} {n:Nat} (L:row.length<=60) (h:∀ k,k<n->cU k row≠[]):((List.range n).map λk=>(stG (cU k row):Int)).length<=60/\∀ c∈(List.range n).map λk=>(stG (cU k row):Int),0<=c/\c<=60:=by
 have h0:=qC n h;refine⟨by simp;omega,λc z=>?_⟩;obtain⟨k,G,rfl⟩:=aFg.mp z;have J:=List.mem_range.mp G;have h1:=qC k λj hj=>h j (by omega);have h2:=lG (cU k row) 0;omega
noncomputable def bZ (one other:List Int):Ref:=match aO one with
 | .ok=>aO other
 | r=>r
def uL {one other:List Int} (h:aO one≠.ok):bZ one other=aO one:=by
 unfold bZ;split
 .rename_i e;exact absurd e h
 .rfl
def uM {one other:List Int} (h:aO one=.ok):bZ one other=aO other:=by
 unfold bZ;rw[h]
def uN (X:aV K mg):Sp:=λvs H Q E=>∃ (a b:Addr) (one other:List Int),vs=[.ref a,.ref b]/\H a=some (.lst (one.map V.int))/\H b=some (.lst (other.map V.int))/\one.length<=200/\other.length<=200/\(bZ one other=.ok->∀ v H',Same H H'->Q v H')/\(bZ one other≠.ok->∀ H',Same H H'->(bZ one other).go X E H')
def aBW (X:aV K mg):Sp:=λvs H Q E=>∃ (a b:Addr) (one other:List Int),vs=[.ref a,.ref b]/\H a=some (.lst (one.map V.int))/\H b=some (.lst (other.map V.int))/\one.length<=200/\other.length<=200/\bZ one other≠.ok/\∀ H',Same H H'->(bZ one other).go X E H'
def aBX {X:aV K mg}:xZ (uN X):=by
 rintro vs H Q L E M G J ⟨a,b,one,other,e,h1,h2,h3,h4,h5,h6⟩;exact⟨a,b,one,other,e,h1,h2,h3,h4,λz v H' g=>G _ _ (h5 z v H' g),λz H' g=>rM J (h6 z H' g)⟩
def aBY {k:Nat} {f:Addr} {fd:FuncData} {ps:List Str} {X:aV K mg} (F:FnOk P w K mg base (CXR P w) k f fd ps (kY aBD (aBW X))):FnOk P w K mg base (CXR P w) k f fd ps (uN X) :=
 F.imp λvs H Q E h=>by
  obtain⟨a,b,one,other,rfl,h1,h2,h3,h4,h5,h6⟩:=h
  by_cases hd:bZ one other=.ok
  .have d1:aO one=.ok:=by
    apply Classical.byContradiction
    intro h;rw[uL h]at hd;exact h hd
   have d2:aO other=.ok:=by rw[uM d1]at hd;exact hd
   exact .inl ⟨a,b,one,other,rfl,h1,(cP.mp d1).1,(cP.mp d1).2,h2,(cP.mp d2).1,(cP.mp d2).2,λz G t xs H' _ _ _ _ _ g _ _=>h5 hd _ H' g⟩
  .exact .inr ⟨a,b,one,other,rfl,h1,h2,h3,h4,hd,h6 hd⟩
end
end CW
namespace L2
open PySem PySem.Spec PyProof.Rows
def R6 {Pr:Program} {w:World} {K:PySem.W.Frag} {mg mb:Str->Option Value} {CX:CXT} {k:Nat} {fa a c P c2 Y:Addr} {fd:FuncData} {x:Str} {sp:Sp} {J:Shared} {vs:List Value} {ns:List Int}
 (KX:K.In J.heap) (bi:J.heap.Ns mainGlobals mg) (hb:J.heap.Ns builtinsNs mb) (cb:∀ x:Str,x≠"__name__"->mb x=bootBuiltins x) (bj:J.heap.NoLimit) (hg:J.gens=#[])
 (ha:J.heap.get? a=some { cls:=.type "list",data:=.seq vs.toArray }) (hi:IntsAre vs ns) (hl:ns.length<=sizeLine) (hr:Room k callerA)
 (hC:PySem.W.CodeHd J.heap c P) (hT:J.heap.TableAt c P #[]) (cc:K.lookup P=none) (cf:PySem.W.CodeHd J.heap c2 Y) (bn:J.heap.TableAt c2 Y #[]) (bo:K.lookup Y=none) (cg:P≠Y) (ci:jG mg J.heap)
 (F:∀ base:Heap,K.In base->base.Ns mainGlobals mg->jG mg base->PySem.W.CodeHd base c P->PySem.W.CodeHd base c2 Y->FnOk Pr w K mg base CX k fa fd [x] sp) (bg:∀ (s:Shared) (u:Value),BindsTo s fd ⟨[u],[]⟩ [(x,u)])
 (cj:∀ H:Hp,H P=some (.tbl #[])->H Y=some (.tbl #[])->SqL K H a (ns.map V.int)->sp [.ref a] H (λv _=>v=.bl true) λ_ _ _=>False)
 (ck:∀ H e s',CX [] H J (λ_ _ _=>False) e s'->False) :
 codeAny (model Pr w) callerA (.call (.ref fa) ⟨[.ref a],[]⟩) (λr s'=>r=.ok (.ret (.bool true))/\OldK J.heap s'.heap/\s'.os=J.os/\AllBare s'.gens) J:=by
 have rv:=pG hi;have bq:=hi.length;have hP:J.heap.get? P=some (PySem.W.tabObj #[]):=hT.2;have bh:P≠a:=λz=>by rw[z,ha]at hP;cases hP
 have av:J.heap.get? Y=some (PySem.W.tabObj #[]):=bn.2;have aw:Y≠a:=λz=>by rw[z,ha]at av;cases av
 have core:∀ H:Hp,H P=some (.tbl #[])->H Y=some (.tbl #[])->(∀ b,b≠P->b≠Y->H b=none\/∃ ob xs,H b=some (.frz ob (.lst xs)))->SqL K H a (ns.map V.int)->HOk Pr w H J.heap->(∀ b,H b≠none->b=a\/b=P\/b=Y)->(H a≠none->K.lookup a=none) ->
  codeAny (model Pr w) callerA (.call (.ref fa) ⟨[.ref a],[]⟩) (λr s'=>r=.ok (.ret (.bool true))/\OldK J.heap s'.heap/\s'.os=J.os/\AllBare s'.gens) J:=by
  intro H br bc hO hS hok hA hK;have L:∀ {b:Addr} {o:Obj},J.heap.get? b=some o->H b=none->(sB J.heap H).get? b=some o:=λe n=>w4 e n;have free:∀ {b:Addr},b≠a->b≠P->b≠Y->H b=none:=λ{b} n1 n2 n3=>by
   cases q:H b with
   | none=>rfl
   | some u=>rcases hA b (by rw[q];simp)with z | z | z <;> contradiction
  have cm:∀ {b:Addr} {o:Obj} {es:Array DictEntry} {ep:Nat},J.heap.get? b=some o->o.data=.dict es ep->H b=none:=λ{b o es ep} e d =>
   free (λz=>by rw[z,ha]at e;cases e;cases d) (λz=>by rw[z,hP]at e;cases e;cases d) λz=>by rw[z,av]at e;cases e;cases d
  have bb:∀ {b:Addr} {m:Str->Option Value},J.heap.Ns b m->(sB J.heap H).Ns b m:=λ{b m} ⟨o,es,ep,e,d,r⟩=>⟨o,es,ep,L e (cm e d),d,r⟩;have bt:K.In (sB J.heap H):=λb o e=>L (KX b o e) (by
   cases q:H b with
   | none=>rfl
   | some u =>
    rcases hA b (by rw[q];simp)with z | z | z
    .subst z;rw[hK (by rw[q];simp)]at e;cases e
    .subst z;rw[cc]at e;cases e
    .subst z;rw[bo]at e;cases e)
  have hM:Mod K mg (sB J.heap H):=⟨bt,bb bi,⟨mb,bb hb,cb⟩,let ⟨mc,h1,h2⟩:=bj;⟨mc,bb h1,h2⟩⟩;have e0:Env0 Pr w K mg (sB J.heap H) callerA [] J H:=⟨rfl,hM,λb o e=>aB5 e,Nat.le_of_eq (Z3 _ _),trivial,λb hb=>absurd (show b∈([]:List Addr) from hb) (by simp),hok,.of_eq hg⟩;have bu:jG mg (sB J.heap H):=by
   obtain⟨bm,ob,b1,b2,b3,b4,b5⟩:=ci;refine⟨bm,ob,b1,b2,L b3 (free (λz=>?_) (λz=>?_) λz=>?_),b4,b5⟩
   .rw[z,ha]at b3;cases b3;exact absurd (show Value.type "list"=Value.type "module" from b4) (by decide)
   .rw[z,hP]at b3;cases b3;cases b4
   .rw[z,av]at b3;cases b3;cases b4
  have bv:∀ {c P:Addr},PySem.W.CodeHd J.heap c P->PySem.W.CodeHd (sB J.heap H) c P:=λh=>by
   obtain⟨o,cn,file,tf,flags,tg,cp,text,tt,e1,e2,r⟩:=h;refine⟨o,cn,file,tf,flags,tg,cp,text,tt,L e1 (free (λz=>?_) (λz=>?_) λz=>?_),e2,r⟩
   .rw[z,ha]at e1;cases e1;exact absurd (show Value.type "list"=Value.type "code" from e2) (by decide)
   .rw[z,hP]at e1;cases e1;cases e2
   .rw[z,av]at e1;cases e1;cases e2
  refine mi ((F _ bt (bb bi) bu (bv hC) (bv cf)).run callerA [] J H ⟨[.ref a],[]⟩ [.ref a] [.ref a] _ _ hr e0 (bg J (.ref a)) (.cons rfl .nil) (cj H br bc hS)) λr s' h=>?_;cases r with
  | error e=>exact(ck H e s' h).elim
  | ok fl =>
   cases fl with
   | next=>exact False.elim h
   | brk=>exact False.elim h
   | cont=>exact False.elim h
   | ret u =>
    obtain⟨v,H',os,bare,un,a_,r',q⟩:=h;have q':v=.bl true:=q;subst q';obtain rfl:u=Value.bool true:=r';refine⟨rfl,⟨λb o e=>?_,λb o e=>un.there b o e (by simp)⟩,os,bare⟩
    by_cases bw:b=P
    .subst bw;rw[hP]at e;cases e;obtain⟨more,hm⟩:=un.tbls _ _ br;exact .inr (.inl ⟨hT.isCodeTable,rfl,#[],more,rfl,a_ _ _ hm⟩)
    .by_cases bf:b=Y
     .subst bf;rw[av]at e;cases e;obtain⟨more,hm⟩:=un.tbls _ _ bc;exact .inr (.inl ⟨bn.isCodeTable,rfl,#[],more,rfl,a_ _ _ hm⟩)
     refine .inl ?_;cases q:H b with
     | none=>exact un.keep b o e q (by intro z;exact absurd (show b∈([]:List Addr) from z) (by simp)) (by simp)
     | some u =>
      rcases hO b bw bf with z | ⟨ob,xs,z⟩
      .rw[q]at z;cases z
      .have z2:=un.frzs b ob _ z;obtain⟨e1,_⟩:=hok b _ z;obtain⟨e2,_⟩:=a_ b _ z2;rw[e]at e1;cases e1;exact e2
 have b_:∀ (G:Hp),G P=none->G Y=none->upd (upd G P (.tbl #[])) Y (.tbl #[]) P=some (.tbl #[]):=λG _ _=>by rw[aE cg];exact aD
 cases hk:K.lookup a with
 | some o =>
  have e:=KX a o hk;rw[ha]at e;cases e;refine core (upd (upd (λ_=>none) P (.tbl #[])) Y (.tbl #[])) (b_ _ rfl rfl) aD (λb n n2=>.inl (by rw[aE n2,aE n])) (.inr ⟨_,vs.toArray,_,hk,rfl,rfl,rfl,by rw[aFJ,bq];exact hl,by simpa using rv⟩) (λb u z=>?_) (λb z=>?_) λz=>absurd (by rw[aE (jh aw),aE (jh bh)]) z
  .by_cases U:b=Y
   .subst U;rw[aD]at z;cases z;exact av
   .rw[aE U]at z
    by_cases M:b=P
    .subst M;rw[aD]at z;cases z;exact hP
    .rw[aE M]at z;cases z
  .by_cases U:b=Y
   .exact .inr (.inr U)
   .by_cases M:b=P
    .exact .inr (.inl M)
    .exact absurd (by rw[aE U,aE M]) z
 | none =>
  have ca:∀ {o:HO},(upd (λ_=>none) a o:Hp) P=none/\(upd (λ_=>none) a o:Hp) Y=none:=λ{o}=>⟨by rw[aE bh],by rw[aE aw]⟩;refine core (upd (upd (upd (λ_=>none) a (.frz { cls:=.type "list",data:=.seq vs.toArray } (.lst (ns.map V.int)))) P (.tbl #[])) Y (.tbl #[])) (b_ _ ca.1 ca.2) aD (λb n n2=>?_) (.inl (.inr ⟨{ cls:=.type "list",data:=.seq vs.toArray },by rw[aE (jh aw),aE (jh bh),aD]⟩)) (λb u z=>?_) (λb z=>?_) λ_=>hk
  .by_cases M:b=a
   .subst M;exact .inr ⟨_,_,by rw[aE n2,aE n,aD]⟩
   .exact .inl (by rw[aE n2,aE n,aE M])
  .by_cases U:b=Y
   .subst U;rw[aD]at z;cases z;exact av
   .rw[aE U]at z
    by_cases M:b=P
    .subst M;rw[aD]at z;cases z;exact hP
    .rw[aE M]at z
     by_cases ba:b=a
     .subst ba;rw[aD]at z;cases z;exact⟨ha,by rw[aFB];exact hl,vs,_,rv,ha⟩
     .rw[aE ba]at z;cases z
  .by_cases U:b=Y
   .exact .inr (.inr U)
   .by_cases M:b=P
    .exact .inr (.inl M)
    .by_cases ba:b=a
     .exact .inl ba
     .exact absurd (by rw[aE U,aE M,aE ba]) z
def walk_ofT2 {l:PySem.W.OpenLaw} {n k:Nat} {q:Program} {loose:List Str} {XP:(Str->Option Value)->Heap->Prop} {YP:World->Heap->Prop} {d:DefRec} {K:Params->PySem.W.Frag} {CX:World->CXT} {sp:World->Addr->Addr->Sp} {x:Str}
 (hn:l.most=some n) (hn2:n<=sizeLine) (hdf:d.params.defaults=[]) (hr:Room k callerA) {ts:List Addr}
 (hY:∀ (w:World) (h:Heap),YP w h->(K w.params).In h) (hTab:∀ (w:World) (h:Heap),YP w h->∀ P∈ts,h.get? P=some (PySem.W.tabObj #[]))
 (F:∀ (w:World) (mg:Str->Option Value) (fa:Addr) (h:Heap),(K w.params).In h->h.Ns mainGlobals mg->mg d.name=some (.ref fa) ->
  ∃ (fd:FuncData) (c P c2 P2:Addr),P∈ts/\P2∈ts/\P≠P2/\PySem.W.codeHdIn (K w.params) c P=true/\(K w.params).lookup P=none/\PySem.W.codeHdIn (K w.params) c2 P2=true/\(K w.params).lookup P2=none/\(∀ (s:Shared) (u:Value),BindsTo s fd ⟨[u],[]⟩ [(x,u)]) /\
   ∀ base:Heap,(K w.params).In base->base.Ns mainGlobals mg->jG mg base->PySem.W.CodeHd base c P->PySem.W.CodeHd base c2 P2->FnOk l.prog w (K w.params) mg base (CX w) k fa fd [x] (sp w P P2))
 (hsp:∀ (w:World) (P P2:Addr) (H:Hp) (a:Addr) (ns:List Int),ns.length<=n->H P=some (.tbl #[])->H P2=some (.tbl #[])->P≠P2->SqL (K w.params) H a (ns.map V.int)->sp w P P2 [.ref a] H (λv _=>v=.bl true) λ_ _ _=>False)
 (hCX:∀ (w:World) (H:Hp) (s:Shared) (e:Value) (s':Shared),CX w [] H s (λ_ _ _=>False) e s'->False) :
 PySem.W.WalkO q loose XP YP l.row.toRowW d [] (λf vs=>PySem.call f vs):=by
 refine Att.attach_call hn hdf λw s₀ s₁ mg mb fa o pm cd doc a vs ns G Y ho hd hcd hmg hobj hints hlen hg=>?_;have KX:=hY w _ Y;obtain⟨fd,c,P,c2,P2,hPt,hPt2,hPP,hcode,hKP,hcode2,hKP2,hb,hF⟩:=F w mg fa _ KX G.T.g hmg;have hC:=wv KX hcode;have t6:=hC.tab (hTab w _ Y P hPt);have hC2:=wv KX hcode2;have t62:=hC2.tab (hTab w _ Y P2 hPt2);exact R6 KX G.T.g G.T.b G.T.builtins G.T.nolimit hg hobj hints (jf hlen hn2) hr hC t6 hKP hC2 t62 hKP2 hPP G.T.bmain hF hb (λH h1 h2 h3=>hsp w _ _ H a ns hlen h1 h2 hPP h3) λH e s'=>hCX w H s₁ e s'
end L2
namespace CW
open PySem L2
section
variable {P:Program} {w:World} {K:PySem.W.Frag} {mg:Str->Option Value} {base:Heap}
def rV (K:PySem.W.Frag) (P z:Addr):Sp:=λvs H Q _=>∃ (a:Addr) (ns:List Int),vs=[.ref a]/\H P=some (.tbl #[])/\H z=some (.tbl #[])/\P≠z/\SqL K H a (ns.map V.int)/\ns.length<=63/\∀ H',Q (.bl true) H'
def dY {X:Cx} {params:Arguments} {body:Expr} {scope:Scope} {z:Pos} {c P:Addr} {k:Nat} {clos:List (Str×Addr)} (U:List Str) (Y:List Nat) {J:St->Hp->VK->XK->Prop} (hC:PySem.W.CodeHd X.base c P) (av:jG X.mg X.base) (G:X.env.code=.ref c) (cl:closureFor scope X.env=pure clos)
 (lam:∀ (f' c':Addr) (L:St) (A:Around) (outer:List Env) (s:Shared) (H:Hp) (Q:VK) (E:XK),A.frames=some outer->Room k (A.deeper (PySem.W.envX (X.env.qual++"<lambda>") scope s.heap.objs.size f' (.ref c') clos))->J L H Q E ->
  ∃ te,PE (qM (CXR X.prog X.w) X.prog X.w X.K X.mg X.base U (X.env.qual++"<lambda>") scope f' (.ref c') clos A outer s H E) body te/\te L H Q)
 (Bd:Body X:=by exact⟨rfl,rfl,rfl⟩) (M:defaultsOf params X.env=([],[]):=by rfl) (kind:scope.kind=.function:=by rfl) (co:scope.isCoroutine=false:=by rfl) (gen:scope.isGenerator=false:=by rfl) (nocell:∀ x∈scope.names,x.2≠.cell:=by decide +kernel)
 (sub:∀ q∈clos,X.env.cells.lookup q.1=some q.2/\X.fn q.1=true:=by repeat first | exact CW.fm0 | refine CW.fm1 ⟨rfl,rfl⟩ ?_)
 (has:∀ x,scope.names.lookup x=some .free->∃ c,clos.lookup x=some c:=by exact CW.has_of (by repeat first | exact CW.fm0 | refine CW.fm1 (λ_=>rfl) ?_ | refine CW.fm1 (λh=>nomatch h) ?_))
 (ixs:∀ (j:Nat) (x:Str),U[j]?=some x->∃ i,Y[j]?=some i/\X.N[i]?=some x/\Vis X.env.scope x/\X.env.kindOf x≠some .local/\scope.names.lookup x=some .free:=by repeat first | exact CW.ix_nil | refine CW.ix_cons ⟨_,rfl,rfl,Or.inr (Or.inl rfl),(show some PySem.NameKind.cell≠some PySem.NameKind.local by decide),rfl⟩ ?_)
 (len:Y.length=U.length:=by rfl) (bind:∀ pm c' ctv,bindArgs (PySem.W.kla_fn "<lambda>" (X.env.qual++"<lambda>") params body scope clos pm (.ref c') ctv) ⟨[],[]⟩=pure []:=by exact λ_ _ _=>rfl) :
 PE X (.Lambda params body scope z) (aCe X P z k Y J):=aCT Bd G hC av M ⟨⟨kind,co,gen,nocell,cl,sub,has,ixs,len⟩,bind,lam⟩
def yW {X:Cx} {Z:aV X.K X.mg} {e:Expr} {te:TE} {aa np:Pos} {k j:Nat} (Bd:Body X) (W:aAX X.prog X.w X.K X.mg X.base Z (k+1)) (z:Room j X.A) (G:Gl X "_law_why") (J:PE X e te) (hj:k+2<=j:=by decide) (he:starEach [e] X.env=[(false,eval e X.env)]:=by rfl) :
 PE X (.Call (.Name "_law_why" np) [e] [] aa) (aCf X k (W0 X.prog X.w X.base Z (k+1)) E0 te):=by
 obtain⟨f,fd,F,L,M,U⟩:=W;exact aCU (he:=he) Bd F (z.mono hj) G L M U aDw J
structure TabU (used:List (Nat×Nat)) (ps:Array Value):Prop where
 tr:TriplesOk ps.toList
 no:∀ lp:Pos,(lp.line,lp.col)∉used->codeAmong lp ps.toList=none
def TabU.nil:TabU [] #[]:=⟨True.intro,λ_ _=>rfl⟩
def rC (z:Pos) {l c:Int} {t1 t2:Tok} {v:Value} (J:¬ (l=(z.line:Int)/\c=(z.col:Int))):∀ (n:Nat) (vs:List Value),vs.length<=n->TriplesOk vs->codeAmong z vs=none->codeAmong z (vs++[.int l t1,.int c t2,v])=none:=by
 intro n
 induction n with
 | zero =>
  intro vs L _ _;rw[List.length_eq_zero_iff.mp (Nat.le_zero.mp L)];show (if (l == (z.line:Int) && c == (z.col:Int))=true then some v else codeAmong z [])=none;rw[bB (by simpa using J)];rfl
 | succ n U =>
  intro vs L M Y
  match vs,M with
  | [],_ =>
   show (if (l == (z.line:Int) && c == (z.col:Int))=true then some v else codeAmong z [])=none;rw[bB (by simpa using J)];rfl
  | .int i _ :: .int j _ :: u :: rest,M =>
   have G:(if (i == (z.line:Int) && j == (z.col:Int))=true then some u else codeAmong z rest)=none:=Y;show (if (i == (z.line:Int) && j == (z.col:Int))=true then some u else codeAmong z (rest++[.int l t1,.int c t2,v]))=none
   by_cases h:(i == (z.line:Int) && j == (z.col:Int))=true
   .rw[da h]at G;cases G
   .rw[bB h]at G ⊢;exact U rest (by simp at L;omega) M G
def TabU.snoc {used:List (Nat×Nat)} {ps:Array Value} (h:TabU used ps) (G:Pos) (c':Addr):TabU ((G.line,G.col) :: used) (ps++#[rawInt G.line,rawInt G.col,.ref c']):=by
 have J:(ps++#[rawInt G.line,rawInt G.col,.ref c']).toList=ps.toList++[rawInt G.line,rawInt G.col,.ref c']:=by simp
 refine⟨yE h.tr J,λq L=>?_⟩;rw[J];refine rC q (λz=>L ?_) _ _ (ah _) h.tr (h.no q λz=>L (aFE _ z));have M:G.line=q.line:=Int.ofNat.inj z.1;have U:G.col=q.col:=Int.ofNat.inj z.2;rw[M,U];exact aFD
def iM {H:Hp} {PT:Addr} {ps:Array Value} {used:List (Nat×Nat)} (h:H PT=some (.tbl ps)) (u:TabU used ps):∃ ps,H PT=some (.tbl ps)/\TabU used ps:=⟨ps,h,u⟩
def uO {Z:aV K mg} {PT f:Addr} {kL:Nat} {G:Hp->VK->XK->Prop} {H1:Hp} {Q:VK} {E:XK} {stack:List Env} (hd:Bool) (nm:Str) (i:Int) (mono:aBr G)
 (U:∀ (H':Hp) (t0:Addr) (Y:VK),(∀ b o,(∀ φ,o≠.ext φ)->H1 b=some o->H' b=some o)->H' t0=some (.tup [.str "",.int 0])->(∀ tv J,SameP PT H' J->(hd=false->Same H' J)->J tv=some (.tup [.str nm,.int i])->Y (.ref tv) J)->G H' (λ_ H2=>Y (.ref t0) H2) (qZ Z Y))
 (kk:∀ tv z,SameP PT H1 z->(hd=false->Same H1 z)->z tv=some (.tup [.str nm,.int i])->Q (.ref tv) z) :
 ∀ s1 D H2,(∀ b,H2 b=none\/H2 b=H1 b)->(∀ b o,(∀ φ,o≠.ext φ)->H1 b=some o->H2 b=some o)->sN P w K mg base (CXR P w) kL f D G->(∃ oc od fd sl,(f,(⟨oc,od,.func fd,sl⟩:Obj))∈D)->zX D H2 s1.heap (frs stack) ->
  W0 P w base Z kL s1 stack [.ref f] H2 (λv J=>∀ z,(∀ b o,J b=some o->z b=some o)->(∀ b o,H1 b=some o->H2 b=none->z b=some o)->Q v z) E :=
 λs1 D H2 M av L fo laid=>⟨f,D,G,rfl,L,mono,fo,laid,λt0 aw=>by
  have g2:=Same.upd (o:=.tup [.str "",.int 0]) aw;refine U (upd H2 t0 (.tup [.str "",.int 0])) t0 (λv J=>∀ z,(∀ b o,J b=some o->z b=some o)->(∀ b o,H1 b=some o->H2 b=none->z b=some o)->Q v z) (λb o n e=>g2 _ _ (av b o n e)) aD λtv J g3 a_ e z j1 j2=>kk tv z (λb o n e1=>?_) (λhf b o e1=>?_) (j1 _ _ e)
  .rcases M b with h | h
   .exact j2 b o e1 h
   .exact j1 _ _ (g3 _ _ n (g2 _ _ (h.trans e1)))
  .rcases M b with h | h
   .exact j2 b o e1 h
   .exact j1 _ _ (a_ hf _ _ (g2 _ _ (h.trans e1)))⟩
structure F5 (K:PySem.W.Frag) (Z:aV K mg) (PT:Addr) (hd:Bool) (spL:St->Hp->VK->XK->Prop):Prop where
 mono:∀ lhd,aBr (spL [some (.ref lhd)])
 go:∀ (lhd l0 l1 t0:Addr) (row:List Int) (H:Hp) (Q:VK),H lhd=some (.lst [.ref l0,.ref l1])->H l0=some (.lst (row.map V.int))->row.length<=200->(hd=true->H PT=some (.tbl #[]))->H t0=some (.tup [.str "",.int 0]) ->
  (∀ tv H3,SameP PT H H3->(hd=false->Same H H3)->H3 tv=some (.tup [.str (aO row).nm,.int (aO row).at])->Q (.ref tv) H3)->spL [some (.ref lhd)] H (λ_ H2=>Q (.ref t0) H2) (qZ Z Q)
abbrev tHd (K:PySem.W.Frag) (i:Int):TE:=tOp (aBb K) (aCn 0) (tC (V.int i))
def mT {Z:aV K mg} {PT:Addr}:F5 K Z PT false (λG H Q E=>qL (fV Z) [] E (nQ (tHd K 0) M8) G H Q):=by
 refine⟨λz H Q Q' E E' J L h=>?_,λz M l1 t0 row H Q h1 h2 U _ Y k=>?_⟩
 .obtain⟨v,hv,b1,b2,b3,b4,b5,b6,b7,b8,h⟩:=h;exact⟨v,hv,b1,b2,b3,b4,b5,b6,b7,b8,aBQ _ _ _ _ _ _ J L h⟩
 .exact⟨_,rfl,z,_,_,_,rfl,rfl,SqL.of h1,rfl,M,row,rfl,h2,U,λhd v H2 g=>k t0 H2 g.toP (λ_=>g) (by rw[hd];exact g _ _ Y),λhd H' g=>yC hd λtv H3 g3 e=>k tv H3 (g.trans g3).toP (λ_=>g.trans g3) e⟩
def aEU {Z:aV K mg} {PT:Addr} {n:Int}:F5 K Z PT false (λG H Q E=>qL (rS Z) [] E (nQ (tHd K 0) (nQ (tC (V.int n)) M8)) G H Q):=by
 refine⟨λz H Q Q' E E' J L h=>?_,λz M l1 t0 row H Q h1 h2 U _ Y k=>?_⟩
 .obtain⟨v,hv,b1,b2,b3,b4,b5,b6,b7,b8,h⟩:=h;exact⟨v,hv,b1,b2,b3,b4,b5,b6,b7,b8,r6 _ _ _ _ _ _ J L h⟩
 .exact⟨_,rfl,z,_,_,_,rfl,rfl,SqL.of h1,rfl,M,row,n,rfl,h2,U,λhd v H2 g=>k t0 H2 g.toP (λ_=>g) (by rw[hd];exact g _ _ Y),λhd H' g=>yC hd λtv H3 g3 e=>k tv H3 (g.trans g3).toP (λ_=>g.trans g3) e⟩
def aEV {Z:aV K mg} {PT:Addr}:F5 K Z PT true (λJ H Q E=>qL (rT Z PT) [] E (nQ (tHd K 0) M8) J H Q):=by
 refine⟨λG H Q Q' E E' U Y h=>?_,λG l0 l1 t0 row H Q h1 h2 hl M L k=>?_⟩
 .obtain⟨v,hv,b1,b2,b3,b4,b5,b6,b7,b8,h⟩:=h;exact⟨v,hv,b1,b2,b3,b4,b5,b6,b7,b8,r8 _ _ _ _ _ _ U Y h⟩
 .have nt:t0≠PT:=λz=>by rw[z,M rfl]at L;cases L
  exact⟨_,rfl,G,_,_,_,rfl,rfl,SqL.of h1,rfl,l0,row,rfl,h2,hl,M rfl,λhd v H2 g=>k t0 H2 g (λz=>nomatch z) (by rw[hd];exact g _ _ nt L),λhd H' g=>yC hd λtv H3 g3 e=>k tv H3 (g.trans g3).toP (λ_=>g.trans g3) e⟩
def Y9 {Z:aV K mg} {i j:Int} {z:Addr}:aBr (λH Q E=>qL (uN Z) [] E (nQ (tHd K i) (nQ (tHd K j) M8)) [some (.ref z)] H Q):=by
 intro H Q Q' E E' J L h;obtain⟨v,M,U,Y,b3,b4,b5,b6,b7,b8,v2,G,c1,c2,c3,c4,c5,c6,c7,c8,h⟩:=h;exact⟨v,M,U,Y,b3,b4,b5,b6,b7,b8,v2,G,c1,c2,c3,c4,c5,c6,c7,c8,aBX _ _ _ _ _ _ J L h⟩
def Z0 {Z:aV K mg} {one other:List Int} {H:Hp} {Q:VK} {a b t0:Addr} (G:H a=some (.lst (one.map V.int))) (J:H b=some (.lst (other.map V.int))) (h1:one.length<=200) (h2:other.length<=200) (L:H t0=some (.tup [.str "",.int 0]))
 (k:∀ tv z,Same H z->z tv=some (.tup [.str (bZ one other).nm,.int (bZ one other).at])->Q (.ref tv) z):uN Z [.ref a,.ref b] H (λ_ H2=>Q (.ref t0) H2) (qZ Z Q) :=
 ⟨a,b,one,other,rfl,G,J,h1,h2,λhd v H2 g=>k t0 H2 g (by rw[hd];exact g _ _ L),λhd H' g=>yC hd λtv z g3 e=>k tv z (g.trans g3) e⟩
abbrev aCX:=Addr×(St->Hp->VK->XK->Prop)×Bool
def AllL (X:Cx) (k:Nat) (z:List Nat) (Z:aV K mg) (PT:Addr) (H:Hp) (LS:List aCX):Prop:=∀ p∈LS,LamK X k z p.2.1 H p.1/\F5 K Z PT p.2.2 p.2.1
def AllL.nil {X:Cx} {k:Nat} {z:List Nat} {Z:aV K mg} {PT:Addr} {H:Hp}:AllL X k z Z PT H []:=λp G=>(nomatch G)
def AllL.keep {X:Cx} {k:Nat} {G:List Nat} {Z:aV K mg} {PT J:Addr} {H H':Hp} {LS:List aCX} {ps:Array Value} (M:H J=some (.tbl ps)) (g:SameP J H H') (h:AllL X k G Z PT H LS):AllL X k G Z PT H' LS:=λp L =>
 ⟨LamK.keep (λb φ e=>g _ _ (pN M e λ_ z=>by cases z) e) (h p L).1,(h p L).2⟩
def AllL.snoc {X:Cx} {k:Nat} {G:List Nat} {Z:aV K mg} {PT J:Addr} {H H':Hp} {LS:List aCX} {ps:Array Value} {f:Addr} {z:St->Hp->VK->XK->Prop} {hd:Bool} (h:AllL X k G Z PT H LS) (M:H J=some (.tbl ps)) (g:SameP J H H') (L:LamK X k G z H' f) (D:F5 K Z PT hd z):AllL X k G Z PT H' (LS++[(f,z,hd)]):=λp U=>by
 rcases aFf.mp U with q | q
 .exact h.keep M g p q
 .rw[aF7.mp q];exact⟨L,D⟩
def aEW:∀ i,([false,false,false,false,false,false,false,false,true,false,false,false]:List Bool)[i]?=some true->i=8:=by
 intro i h;have hi:i<12:=by
  have:=(aFd.mp h).1;simpa using this
 have:∀ j:Fin 12,([false,false,false,false,false,false,false,false,true,false,false,false]:List Bool)[j.1]?=some true->j.1=8:=by decide
 exact this ⟨i,hi⟩ h
def mL {one other:List Int}:bZ one other=if (aO one).nm="" then aO other else aO one:=by
 by_cases h:aO one=.ok
 .rw[uM h,da (by rw[h];rfl)]
 .rw[uL h,bB (λz=>h (Ref.nm_ok.mp z))]
def aCh {c A B:Prop} [Decidable c] (z:¬ c) (h:A):if (!decide c)=true then A else B:=by
 rw[aFW z];exact h
end
end CW
namespace L2
open PySem PySem.W PySem.Spec PyProof.Rows
section
variable {P:Program} {w:World} {K:PySem.W.Frag} {mg:Str->Option Value} {base h:Heap} {x:Str} {st:Stmt} {f c:Addr} {fd:FuncData}
def FnScope.m {N Q:List Str} {z:Scope} (a:z.kind=.function:=by rfl) (b:z.isCoroutine=false:=by rfl) (c:z.isGenerator=false:=by rfl) (d:N.Nodup:=by decide +kernel) (e:N.take Q.length=Q:=by rfl) (f:∀ x∈Q,z.names.lookup x=some .local\/z.names.lookup x=some .cell:=by decide +kernel) (g:∀ y∈z.names,y.2≠.free:=by decide +kernel):FnScope N Q z:=⟨a,b,c,d,e,f,g⟩
def aM {X:Cx} {pos:Pos} (i:Nat) {x:Str} {e:Expr} {te:TE} {pos':Pos} (z:X.N.Nodup) (he:PE X e te) (hi:X.N[i]?=some x:=by rfl) (G:Loc X.env.scope x:=by first | exact .inl rfl | exact .inr rfl) (J:swapsWith e (some (.Name x pos')) pos.line X.env=pure false:=by rfl) (L:X.fn x=true\/X.env.scope.names.lookup x=some .local:=by first | exact .inl rfl | exact .inr rfl | assumption) :
 PS X (.Assign [.Name x pos'] e pos) (aB6 te (qK i)):=aCr z hi G he J L
def cJ {X:Cx} {pos:Pos} (i:Nat) {x:Str} (z:X.N.Nodup) (hi:X.N[i]?=some x:=by rfl) (G:Loc X.env.scope x:=by first | exact .inl rfl | exact .inr rfl) (J:X.fn x=true\/X.env.scope.names.lookup x=some .local:=by first | exact .inl rfl | exact .inr rfl | assumption):PG X (.Name x pos) (qK i):=bR z hi G J
structure DefIn (K:PySem.W.Frag) (x:Str) (st:Stmt) (f:Addr) (fd:FuncData):Prop where
 a:PySem.W.nsIn K mainGlobals x=some (some (.ref f))
 F:Fun K x x st f fd
def defIn {M:Value} {od L:Option Addr} {J:Array (Option Value)} {kV G pm z ct:Value} (a:PySem.W.nsIn K mainGlobals x=some (some (.ref f))) (l:K.lookup f=some ⟨M,od,.func (PySem.W.fnOf x x (bS st) (bH st) (aH st) .none kV G pm L z ct),J⟩)
 (c:PySem.W.codeIn K z x=true) (k:PySem.W.keepIn K (.ref f)=true):DefIn K x st f (PySem.W.fnOf x x (bS st) (bH st) (aH st) .none kV G pm L z ct):=⟨a,z8 l c k⟩
structure DefC (K:PySem.W.Frag) (x:Str) (st:Stmt) (f:Addr) (fd:FuncData) (c:Addr):Prop where
 a:PySem.W.nsIn K mainGlobals x=some (some (.ref f))
 G:CW.FunC K x x st f fd c
 k:PySem.W.keepIn K (.ref f)=true
def defC {L:Value} {od J:Option Addr} {G:Array (Option Value)} {kV z pm ct:Value} (a:PySem.W.nsIn K mainGlobals x=some (some (.ref f))) (l:K.lookup f=some ⟨L,od,.func (PySem.W.fnOf x x (bS st) (bH st) (aH st) .none kV z pm J (.ref c) ct),G⟩)
 (M:PySem.W.codeIn K (.ref c) x=true) (k:PySem.W.keepIn K (.ref f)=true):DefC K x st f (PySem.W.fnOf x x (bS st) (bH st) (aH st) .none kV z pm J (.ref c) ct) c:=⟨a,⟨⟨_,_,_,_,_,_,_,_,rfl,l,M⟩⟩,k⟩
def DefC.F (D:DefC K x st f fd c):Fun K x x st f fd:=by
 obtain⟨M,od,kV,z,pm,U,ct,J,e,lk,L⟩:=D.G.ex;exact⟨⟨M,od,kV,z,pm,U,.ref c,ct,J,e,lk,L⟩,D.k⟩
structure DAt (P:Program) (w:World) (base:Heap) (K:PySem.W.Frag) (mg:Str->Option Value) (x:Str) (ps:List Str) (f:Addr) (fd:FuncData):Prop where
 m:mg x=some (.ref f)
 k:PySem.W.keepIn K (.ref f)=true
 b:Binds K fd ps []
def DAt.fn {ps:List Str} {k:Nat} {sp:Sp} (D:DAt P w base K mg x ps f fd) (o:FnOk P w K mg base CX0 k f fd ps sp):dG P w K mg base x k ps sp:=⟨f,fd,o,D.m,D.k,D.b⟩
def DAt.fx {ps:List Str} {k:Nat} {sp:Sp} (D:DAt P w base K mg x ps f fd) (o:FnOk P w K mg base (CXR P w) k f fd ps sp):cN P w K mg base x k ps sp:=⟨f,fd,o,D.m,D.k,D.b⟩
def DefIn.d1 (D:DefIn K x st f fd) (P:Program) (w:World) (base:Heap) (X:K.In h) (G:h.Ns mainGlobals mg) (p1:Str) (b:∀ (kV z pm:Value) (L:Option Addr) (J ct u:Value),bindArgs (PySem.W.fnOf x x (bS st) (bH st) (aH st) .none kV z pm L J ct) ⟨[u],[]⟩=pure [(p1,u)]:=by intros;rfl):DAt P w base K mg x [p1] f fd:=⟨kx X G D.a,D.F.kp,D.F.binds1 b⟩
def DefIn.d2 (D:DefIn K x st f fd) (P:Program) (w:World) (base:Heap) (X:K.In h) (G:h.Ns mainGlobals mg) (p1 p2:Str) (b:∀ (kV z pm:Value) (L:Option Addr) (J ct u v:Value),bindArgs (PySem.W.fnOf x x (bS st) (bH st) (aH st) .none kV z pm L J ct) ⟨[u,v],[]⟩=pure [(p1,u),(p2,v)]:=by intros;rfl):DAt P w base K mg x [p1,p2] f fd:=⟨kx X G D.a,D.F.kp,D.F.binds2 b⟩
def DefIn.d3 (D:DefIn K x st f fd) (P:Program) (w:World) (base:Heap) (X:K.In h) (G:h.Ns mainGlobals mg) (p1 p2 p3:Str) (b:∀ (kV z pm:Value) (L:Option Addr) (J ct u v w:Value),bindArgs (PySem.W.fnOf x x (bS st) (bH st) (aH st) .none kV z pm L J ct) ⟨[u,v,w],[]⟩=pure [(p1,u),(p2,v),(p3,w)]:=by intros;rfl):DAt P w base K mg x [p1,p2,p3] f fd:=⟨kx X G D.a,D.F.kp,D.F.binds3 b⟩
def DefC.D (D:DefC K x st f fd c):DefIn K x st f fd:=⟨D.a,D.F⟩
end
end L2
namespace CW
open PySem L2
@[elab_as_elim] def aK {P:Hp->Prop} {H:Hp} {a:Addr} {o:HO} (z:H a=none) (h:∀ G,Same H G->G a=some o->P G):P (upd H a o):=h _ (Same.upd z) aD
def top (i:Nat):Stmt:=PySem.Challenge.pw_creelway_k58_rows_refused_at_every_door.main.body.getD i (.Pass ⟨0,0,0,0⟩)
section
variable {P:Program} {w:World} {K:PySem.W.Frag} {mg:Str->Option Value} {base:Heap}
abbrev bJ:Stmt:=rG (top 1) 0
def nG:FnScope ["self","why","word"] ["self","why","word"] (aH bJ):=.m
def nH {f:Addr} {fd:FuncData} (F:FunD K "__init__" "CreelError.__init__" bJ f fd) (z:mg "ValueError"=none):FnOk P w K mg base CX0 1 f fd ["self","why","word"] (aBp K):=by
 refine F.ok nG (λvs H Q E h=>?_) (λG A outer s H vs Q E M h=>?_)
 .obtain⟨e,C,i,a,b,rfl,_⟩:=h;rfl
 .obtain⟨e,C,i,a,b,rfl,he,J,L,k⟩:=h;refine⟨_,(aC (aN (aAF rfl z (aA (pv 0) (aA (pv 1) aB)))) (aG (aDB (pv 0) (pv 2) rfl))),?_⟩;exact⟨_,rfl,_,rfl,e,C,i,none,_,rfl,by show 1<=sizeLine;decide,he,J,_,rfl,_,rfl,e,C,rfl,he,L,λdx h1 h2=>k dx h1 h2⟩
abbrev cA:Stmt:=rG (top 2) 0
def rD:FnScope ["self","why"] ["self","why"] (aH cA):=.m
def rE {f C D G:Addr} {i:Option Value} {fd z:FuncData} (F:FunD K "__init__" "TooMany.__init__" cA f fd) (J:zZ K D G) (FB:FnOk P w K mg base CX0 1 G z ["self","why","word"] (aBp K)) (L:Binds K z ["self","why","word"] []) (M:mg "CreelError"=some (.ref D)) (U:zU K C i) (Y:iW K C "word"):FnOk P w K mg base CX0 2 f fd ["self","why"] (O6 "TooMany" C):=by
 refine F.ok rD (λvs H Q E h=>?_) (λav A outer s H vs Q E hr h=>?_)
 .obtain⟨e,a,rfl,_⟩:=h;rfl
 .obtain⟨e,a,rfl,he,k⟩:=h;refine⟨_,(aG (aN (sO J FB hr L T8 rfl M (aA (pv 0) (aA (pv 1) (aA cV aB)))))),?_⟩;exact⟨_,rfl,_,rfl,e,C,i,a,_,rfl,he,U,Y,λdx h1 h2=>k dx h1 h2⟩
abbrev dS:Stmt:=rG (top 3) 0
def uP:FnScope ["self","at"] ["self","at"] (aH dS):=.m
def uQ {f C D J:Addr} {i:Option Value} {fd G:FuncData} (F:Fun K "__init__" "BadRow.__init__" dS f fd) (L:zZ K D J) (FB:FnOk P w K mg base CX0 1 J G ["self","why","word"] (aBp K)) (M:Binds K G ["self","why","word"] []) (U:mg "CreelError"=some (.ref D)) (Y:zU K C i) (hS:iW K C "word") (hA:iW K C "at"):FnOk P w K mg base CX0 2 f fd ["self","at"] (aBq "BadRow" C):=by
 refine F.ok uP (λvs H Q E h=>?_) (λav A outer s H vs Q E hr h=>?_)
 .obtain⟨e,i,rfl,_⟩:=h;rfl
 .obtain⟨e,n,rfl,hi,he,k⟩:=h;refine⟨_,(aC (aN (sO L FB hr M T8 rfl U (aA (pv 0) (aA (V1 (jE (xQ (by decide)) (jE (z9 (pv 1)) (jE (xQ (by decide)) V0)))) (aA cV aB)))))
   (aG (aBi (pv 0) (pv 1) rfl))),?_⟩
  refine⟨_,rfl,_,rfl,n,rfl,hi.1,hi.2,λz=>⟨e,C,i,_,_,rfl,he,Y,hS,λdx h1 h2=>⟨_,rfl,_,rfl,e,C,dx,_,rfl,aD,(by rw[aE h2];exact aD),by show 1<=1000;decide,hA,?_⟩⟩⟩;show Q .non _;rw[j7 h2];exact k dx h1 h2
abbrev bT:Stmt:=rG (top 4) 0
def qD:FnScope ["self","why"] ["self","why"] (aH bT):=.m
def qE {f C D G:Addr} {i:Option Value} {fd z:FuncData} (F:FunD K "__init__" "BadCreel.__init__" bT f fd) (J:zZ K D G) (FB:FnOk P w K mg base CX0 1 G z ["self","why","word"] (aBp K)) (L:Binds K z ["self","why","word"] []) (M:mg "CreelError"=some (.ref D)) (U:zU K C i) (Y:iW K C "word"):FnOk P w K mg base CX0 2 f fd ["self","why"] (O6 "BadCreel" C):=by
 refine F.ok qD (λvs H Q E h=>?_) (λav A outer s H vs Q E hr h=>?_)
 .obtain⟨e,a,rfl,_⟩:=h;rfl
 .obtain⟨e,a,rfl,he,k⟩:=h;refine⟨_,(aG (aN (sO J FB hr L T8 rfl M (aA (pv 0) (aA (pv 1) (aA cV aB)))))),?_⟩;exact⟨_,rfl,_,rfl,e,C,i,a,_,rfl,he,U,Y,λdx h1 h2=>k dx h1 h2⟩
abbrev jX:Stmt:=top 12
def iO:FnScope ["row","at"] ["row"] (aH jX):=.m
def aBZ {f:Addr} {fd:FuncData} {tC:Tok} (F:Fun K "look_row" "look_row" jX f fd) (B:Bt mg) (C:Cn mg tC) (X:aV K mg) (RM:hU P w K mg base "TooMany" X.many ["self","why"] (O6 "TooMany" X.many)) (RR:hU P w K mg base "BadRow" X.row ["self","at"] (aBq "BadRow" X.row)):FnOk P w K mg base (CXR P w) 4 f fd ["row"] (jV X):=by
 refine F.okX iO (λvs H Q E h=>?_) (λcdv A outer s H vs Q E hfr hr h=>?_)
 .obtain⟨a,r,rfl,_⟩:=h;rfl
 .obtain⟨a,row,rfl,ha,hlen,k1,k2⟩:=h;refine⟨_,(aC (dE (aS nN (aJ aL (by rfl) B.len jg (aA (pv 0) aB)) (xH (v:=.int 60) rfl C.MOST_STONES ⟨_,rfl⟩) (aZ _))
 (aG (pM (N7 hfr) RM rfl rfl hr rfl (aA (V1 (jE (xQ (by decide)) (jE (z9 (xH (v:=.int 60) rfl C.MOST_STONES ⟨_,rfl⟩)) (jE (xQ (by decide)) V0)))) aB)))
 bQ)
 (aG (cS aAE rfl (jC rfl B.range (aA aF (aA (aJ aL (by rfl) B.len jg (aA (pv 0) aB)) aB))) (cJ 1 iO.nd)
 (aG (dE (aS T5 (aX aW (pv 0) (pv 1) (λ_ _=>rfl)) (aX aW (pv 0) (aI bC (pv 1) aF) (λ_ _=>rfl)) (aZ _))
 (aG (pM (N7 hfr) RR rfl rfl hr rfl (aA (pv 1) aB)))
 bQ))))),?_⟩
  by_cases h60:60<row.length
  .refine⟨_,rfl,a,_,rfl,.inl (SqL.of ha),_,_,rfl,rfl,_,rfl,?_⟩;exact qO (by rw[aFB];omega) ⟨60,rfl,by decide,by decide,λz=>rd0 (k1 h60)⟩
  .obtain⟨k2,k3⟩:=k2 (by omega);refine⟨_,rfl,a,_,rfl,.inl (SqL.of ha),_,_,rfl,rfl,_,rfl,jH (by rw[aFB];omega) ?_⟩;refine⟨_,rfl,a,_,rfl,.inl (SqL.of ha),_,_,rfl,⟨by decide,by decide,by omega,by rw[aFB];omega⟩,fO (lo:=1) (λi σ H2=>(∃ v,σ=[some (.ref a),v]/\H2=H)/\∀ j,1<=j->j<1+i->row.getD (j - 1) 0<row.getD j 0) ⟨⟨none,rfl,rfl⟩,λj h1 h2=>by omega⟩ ?_ ?_⟩
   .rintro i σ H2 hi ⟨⟨v,rfl,rfl⟩,hg⟩;rw[aFB]at hi;obtain⟨x,_,hx,ex⟩:=cX (ns:=row) (i:=1+(i:Int)) (by omega) (by omega);obtain⟨y,_,hy,ey⟩:=cX (ns:=row) (i:=1+(i:Int) - 1) (by omega) (by omega);refine⟨_,rfl,_,rfl,a,_,_,_,rfl,rfl,SqL.of ha,ex,_,rfl,_,rfl,_,_,rfl,rfl,a,_,_,_,rfl,rfl,SqL.of ha,ey,_,_,rfl,rfl,_,rfl,?_⟩;have gx:row.getD (1+i) 0=x:=by rw[fy,show 1+i=(1+(i:Int)).toNat from by omega,hx];rfl
    have gy:row.getD (1+i - 1) 0=y:=by rw[fy,show 1+i - 1=(1+(i:Int) - 1).toNat from by omega,hy];rfl
    by_cases hb:x<=y
    .have:=k3 (1+i) ⟨by omega,by omega,by rw[gx,gy];exact hb,λj h1 h2=>hg j h1 h2⟩;rw[show ((1+i:Nat):Int)=1+(i:Int) from by omega]at this;exact qO hb ⟨_,rfl,rdI (aDM (by omega) (by omega)) this⟩
    .refine jH hb ⟨⟨_,rfl,rfl⟩,λj h1 h2=>?_⟩
     by_cases hj:j<1+i
     .exact hg j h1 hj
     .obtain rfl:j=1+i:=by omega
      rw[gx,gy];omega
   .rintro σ H2 ⟨⟨v,rfl,rfl⟩,hg⟩;rw[aFB]at hg;exact k2 λj h1 h2=>hg j h1 (by omega)
def aCY {f:Addr} {fd:FuncData} {tC:Tok} (F:Fun K "look_row" "look_row" jX f fd) (B:Bt mg) (C:Cn mg tC):FnOk P w K mg base CX0 1 f fd ["row"] kQ:=by
 refine F.ok iO (λvs H Q E h=>?_) (λcdv A outer s H vs Q E hr h=>?_)
 .obtain⟨a,r,rfl,_⟩:=h;rfl
 .obtain⟨a,row,rfl,ha,hrow,hlen,k⟩:=h;refine⟨_,(aC (dE (aS nN (aJ aL (by rfl) B.len jg (aA (pv 0) aB)) (xH (v:=.int 60) rfl C.MOST_STONES ⟨_,rfl⟩) (aZ _))
 (aG aP)
 bQ)
 (aG (cS ft rfl (jC rfl B.range (aA aF (aA (aJ aL (by rfl) B.len jg (aA (pv 0) aB)) aB))) (cJ 1 iO.nd)
 (aG (dE (aS T5 (aX aW (pv 0) (pv 1) (λ_ _=>rfl)) (aX aW (pv 0) (aI bC (pv 1) aF) (λ_ _=>rfl)) (aZ _))
 (aG aP)
 bQ))))),?_⟩
  refine⟨_,rfl,a,_,rfl,.inl (SqL.of ha),_,_,rfl,rfl,_,rfl,jH (by rw[aFB];omega) ?_⟩;refine⟨_,rfl,a,_,rfl,.inl (SqL.of ha),_,_,rfl,⟨by decide,by decide,by omega,by rw[aFB];omega⟩,fO (lo:=1) (λi σ H2=>∃ v,σ=[some (.ref a),v]/\H2=H) ⟨none,rfl,rfl⟩ ?_ ?_⟩
  .rintro i σ H2 hi ⟨v,rfl,rfl⟩;rw[aFB]at hi;obtain⟨x,_,hx,ex⟩:=cX (ns:=row) (i:=1+(i:Int)) (by omega) (by omega);obtain⟨y,_,hy,ey⟩:=cX (ns:=row) (i:=1+(i:Int) - 1) (by omega) (by omega);refine⟨_,rfl,_,rfl,a,_,_,_,rfl,rfl,SqL.of ha,ex,_,rfl,_,rfl,_,_,rfl,rfl,a,_,_,_,rfl,rfl,SqL.of ha,ey,_,_,rfl,rfl,_,rfl,jH ?_ ⟨_,rfl,rfl⟩⟩;have:=hrow.lt (show (1+(i:Int) - 1).toNat<(1+(i:Int)).toNat by omega) hy hx;omega
  .rintro σ H2 ⟨v,rfl,rfl⟩;exact k
abbrev iP:Stmt:=top 13
def gO:FnScope ["row","pairs","place"] ["row"] (aH iP):=.m
def yX {f:Addr} {fd:FuncData} (F:Fun K "stretches" "stretches" iP f fd) (B:Bt mg) (F_look_row:dG P w K mg base "look_row" 1 ["row"] kQ):FnOk P w K mg base CX0 2 f fd ["row"] cL:=by
 refine F.ok gO (λvs H Q E h=>?_) (λcdv A outer s H vs Q E hr h=>?_)
 .obtain⟨a,r,rfl,_⟩:=h;rfl
 .obtain⟨a,row,rfl,ha,hrow,hlen,k⟩:=h;refine⟨_,(aC (aN (bE F_look_row hr rfl (aA (pv 0) aB)))
 (aC (aM 1 gO.nd (bF aB))
 (aC (cS ft rfl (bX (pv 0)) (cJ 2 gO.nd)
 (aG (dE (PW.pt (J6 (fG (pv 1) (λ_=>rfl)) (xI (aS mZ (aX mY (aX aW (pv 1) (mO iU aF) (λ_ _=>rfl)) aF (λ_ _=>rfl)) (aI bC (pv 2) aF) (aZ _)))))
 (aG (M3 (bM (aA (aX mY (aX aW (pv 1) (mO iU aF) (λ_ _=>rfl)) aF (λ_ _=>rfl)) (aA (pv 2) aB))) (x5 (pv 1) (mO iU aF) zM)))
 (aG (aN (dF aF9 aFa aFb bA (pv 1) (aA (bM (aA (pv 2) (aA (pv 2) aB))) aB)))))))
 (aG (aY (pv 1)))))),?_⟩
  refine⟨_,rfl,a,row,rfl,ha,hrow,hlen,by decide,λl hl=>?_⟩;refine⟨_,rfl,a,rfl,⟨_,SqL.of (Same.upd hl _ _ ha)⟩,dP (K:=K) (a:=a) (xs:=row.map V.int) (λi σ H2=>∃ (us:List V) (v:Option V),σ=[some (.ref a),some (.ref l),v]/\Same H H2/\H2 l=some (.lst us)/\Prs H2 us (bD (row.take i))/\us.length<=i)
   ⟨[],none,rfl,Same.upd hl,aD,.nil,ah _⟩ (λi σ H2 _ ⟨us,v,_,sm,_⟩=>SqL.of (sm _ _ ha)) ?_ ?_⟩
  .rintro i x σ H2 hi ⟨us,v,rfl,sm,el,pr,hu⟩;have hil:i<row.length:=by
    have:=(aFd.mp hi).1;simpa using this
   obtain⟨z,rfl,hz⟩:=fS hi;rcases nk (bD (row.take i))with e | ⟨ps,q,e⟩
   .have eu:us=[]:=by rw[e]at pr;cases pr;rfl
    refine⟨_,rfl,false,.inl ⟨us,SqL.of el,by rw[eu];rfl⟩,?_⟩;refine⟨_,rfl,.inl ⟨rfl,_,SqL.of el⟩,_,rfl,_,rfl,(show 2<=sizeLine by decide),λt ht=>?_⟩;have el':(upd H2 t (.tup [.int z,.int z])) l=some (.lst us):=by rw[aE (aU el ht)];exact el
    refine⟨l,us,_,rfl,rfl,el',aQ (by omega),us++[.ref t],_,rfl,Same.upd' hl (Same.upd' (sm.free ht) sm),aD,?_,by simp;omega⟩;rw[<- pK hz,e,e9,eu];exact .cons ⟨t,rfl,by rw[aE (jh (aU el ht)),aD]⟩ .nil
   .rw[nq]at e;have pr':=pr;rw[e]at pr';obtain⟨us',u,eu,pr1,t0,ru,ht0⟩:=Paired.split_last pr';subst eu ru
    by_cases hq:q.2=z - 1
    .refine⟨_,rfl,true,.inl ⟨_,SqL.of el,by simp⟩,_,rfl,_,rfl,l,_,_,_,rfl,rfl,SqL.of el,nS _ _,t0,_,_,_,rfl,rfl,SqT.of ht0,rfl,_,rfl,_,_,rfl,rfl,_,_,rfl,rfl,_,rfl,qO hq ?_⟩;refine⟨_,rfl,_,rfl,l,_,_,_,rfl,rfl,SqL.of el,nS _ _,t0,_,_,_,rfl,rfl,SqT.of ht0,rfl,_,rfl,(show 2<=sizeLine by decide),λt ht=>?_⟩;have el':(upd H2 t (.tup [.int q.1,.int z])) l=some (.lst (us'++[.ref t0])):=by rw[aE (aU el ht)];exact el
     refine⟨_,rfl,_,rfl,l,_,_,_,rfl,rfl,el',aBm _ _,?_⟩;rw[aAO];refine⟨us'++[.ref t],_,rfl,Same.upd' hl (Same.upd' (sm.free ht) sm),aD,?_,by simp at hu ⊢;omega⟩;rw[<- pK hz,e,hJ,da hq];exact Paired.append' (Prs.mono (TupS.trans (TupS.new ht) (TupS.lst el')) pr1) (.cons ⟨t,rfl,by rw[aE (jh (aU el ht)),aD]⟩ .nil)
    .refine⟨_,rfl,true,.inl ⟨_,SqL.of el,by simp⟩,_,rfl,_,rfl,l,_,_,_,rfl,rfl,SqL.of el,nS _ _,t0,_,_,_,rfl,rfl,SqT.of ht0,rfl,_,rfl,_,_,rfl,rfl,_,_,rfl,rfl,_,rfl,jH hq ?_⟩;refine⟨_,rfl,.inl ⟨rfl,_,SqL.of el⟩,_,rfl,_,rfl,(show 2<=sizeLine by decide),λt ht=>?_⟩;have el':(upd H2 t (.tup [.int z,.int z])) l=some (.lst (us'++[.ref t0])):=by rw[aE (aU el ht)];exact el
     refine⟨l,us'++[.ref t0],_,rfl,rfl,el',aQ (by omega),us'++[.ref t0]++[.ref t],_,rfl,Same.upd' hl (Same.upd' (sm.free ht) sm),aD,?_,by simp at hu ⊢;omega⟩;rw[<- pK hz,e,hJ,bB hq,<- e];exact Paired.append' (Prs.mono (TupS.trans (TupS.new ht) (TupS.lst el')) pr) (.cons ⟨t,rfl,by rw[aE (jh (aU el ht)),aD]⟩ .nil)
  .rintro σ H2 ⟨us,v,rfl,sm,el,pr,hu⟩;rw[aFB,aFP]at pr;exact⟨_,rfl,k l us H2 hl sm el pr⟩
def vF {f:Addr} {fd:FuncData} (F:Fun K "stretches" "stretches" iP f fd) (B:Bt mg) (X:aV K mg) (F_look_row:cN P w K mg base "look_row" 4 ["row"] (jV X)):FnOk P w K mg base (CXR P w) 5 f fd ["row"] (cM X):=by
 refine F.okX gO (λvs H Q E h=>?_) (λcdv A outer s H vs Q E hfr hr h=>?_)
 .obtain⟨a,r,rfl,_⟩:=h;rfl
 .obtain⟨a,row,rfl,ha,hlen,hd,k⟩:=h;refine⟨_,(aC (aN (bN F_look_row hr rfl (eW hfr) (aA (pv 0) aB)))
 (aC aP
 (aC aP
 (aG aP)))),?_⟩
  exact⟨_,rfl,a,row,rfl,ha,hlen,jI (λhn=>absurd hn hd) λ_=>k _ (Same.refl _)⟩
abbrev iA:Stmt:=top 14
def qW:FnScope ["row"] ["row"] (aH iA):=.m
def F6 {f:Addr} {fd:FuncData} (F:Fun K "mirrored" "mirrored" iA f fd) (B:Bt mg) (F_look_row:dG P w K mg base "look_row" 1 ["row"] kQ):FnOk P w K mg base CX0 2 f fd ["row"] nA:=by
 refine F.ok qW (λvs H Q E h=>?_) (λcdv A outer s H vs Q E hr h=>?_)
 .obtain⟨a,r,rfl,_⟩:=h;rfl
 .obtain⟨a,row,rfl,ha,hrow,hlen,k⟩:=h;refine⟨_,(aC (aN (bE F_look_row hr rfl (aA (pv 0) aB)))
 (aG (aY (eR ["place"] [] [] rfl (.of (show dM (aH iA) _ ["row"] [] []=true by decide +kernel)) (aDI rfl B.reversed (aA (pv 0) aB)) (λ_ _ _=>(bR (i:=0) (show (["place"]:List Str).Nodup by decide +kernel) rfl (Or.inl rfl))) (fJ (by decide)) (λ_ _ _=>dW) (λ_ _ _=>(mO iU (pv 0))))))),?_⟩
  refine⟨_,rfl,a,row,rfl,ha,hrow,hlen,_,rfl,a,_,rfl,SqL.of ha,aAK (xs:=row.map V.int) (λi ys H2=>H2=H/\ys=((row.reverse.take i).map (λz=>-z)).map V.int) ⟨rfl,rfl⟩ ?_ ?_ ?_⟩
  .rintro i ys H2 hi ⟨rfl,rfl⟩;exact⟨SqL.of ha,B3 _ _ (by rw[aFB]at hi;omega) _⟩
  .rintro i x ys H2 hi ⟨rfl,rfl⟩;rw[<- List.map_reverse]at hi;obtain⟨z,rfl,hz⟩:=fS hi;exact⟨_,rfl,_,rfl,rfl,sU _ hz⟩
  .rintro ys H2 ⟨rfl,rfl⟩ D hD;refine k D _ hD (Same.upd hD) ?_;rw[aD,aFB,<- ww,aFP];rfl
def yY {f:Addr} {fd:FuncData} (F:Fun K "mirrored" "mirrored" iA f fd) (B:Bt mg) (X:aV K mg) (F_look_row:cN P w K mg base "look_row" 4 ["row"] (jV X)):FnOk P w K mg base (CXR P w) 5 f fd ["row"] (cM X):=by
 refine F.okX qW (λvs H Q E h=>?_) (λcdv A outer s H vs Q E hfr hr h=>?_)
 .obtain⟨a,r,rfl,_⟩:=h;rfl
 .obtain⟨a,row,rfl,ha,hlen,hd,k⟩:=h;refine⟨_,(aC (aN (bN F_look_row hr rfl (eW hfr) (aA (pv 0) aB)))
 (aG aP)),?_⟩
  exact⟨_,rfl,a,row,rfl,ha,hlen,jI (λhn=>absurd hn hd) λ_=>k _ (Same.refl _)⟩
abbrev oW:Stmt:=top 15
def F7:FnScope ["row","by"] ["row","by"] (aH oW):=.m
def aB0 {f:Addr} {fd:FuncData} (F:Fun K "moved" "moved" oW f fd) (B:Bt mg) (F_look_row:dG P w K mg base "look_row" 1 ["row"] kQ):FnOk P w K mg base CX0 2 f fd ["row","by"] xW:=by
 refine F.ok F7 (λvs H Q E h=>?_) (λcdv A outer s H vs Q E hr h=>?_)
 .obtain⟨a,r,b,rfl,_⟩:=h;rfl
 .obtain⟨a,row,b,rfl,ha,hrow,hlen,k⟩:=h;refine⟨_,(aC (aN (bE F_look_row hr rfl (aA (pv 0) aB)))
 (aG (aY (eR ["place"] ["by"] [1] rfl (.of (show dM (aH oW) _ ["row","by"] [1] ["by"]=true by decide +kernel)) (bX (pv 0)) (λ_ _ _=>(bR (i:=0) (show (["place","by"]:List Str).Nodup by decide +kernel) rfl (Or.inl rfl))) (fJ (by decide)) (λ_ _ _=>dW) (λ_ _ _=>(aI bK (pv 0) (pv 1))))))),?_⟩
  refine⟨_,rfl,a,row,rfl,ha,hrow,hlen,_,rfl,a,rfl,⟨_,SqL.of ha⟩,gW (xs:=row.map V.int) (λi ys H2=>H2=H/\ys=((row.take i).map (λz=>z+b)).map V.int) ⟨rfl,rfl⟩ ?_ ?_ ?_⟩
  .rintro i ys H2 hi ⟨rfl,rfl⟩;exact⟨SqL.of ha,B3 _ _ (by rw[aFB]at hi;omega) _⟩
  .rintro i x ys H2 hi ⟨rfl,rfl⟩;obtain⟨z,rfl,hz⟩:=fS hi;exact⟨_,rfl,_,rfl,_,_,rfl,rfl,rfl,sU _ hz⟩
  .rintro ys H2 ⟨rfl,rfl⟩ D hD;refine k D _ hD (Same.upd hD) ?_;rw[aD,aFB,aFP];rfl
def r9 {f:Addr} {fd:FuncData} (F:Fun K "moved" "moved" oW f fd) (B:Bt mg) (X:aV K mg) (F_look_row:cN P w K mg base "look_row" 4 ["row"] (jV X)):FnOk P w K mg base (CXR P w) 5 f fd ["row","by"] (Y6 X):=by
 refine F.okX F7 (λvs H Q E h=>?_) (λcdv A outer s H vs Q E hfr hr h=>?_)
 .obtain⟨a,r,b,rfl,_⟩:=h;rfl
 .obtain⟨a,row,b,rfl,ha,hlen,hd,k⟩:=h;refine⟨_,(aC (aN (bN F_look_row hr rfl (eW hfr) (aA (pv 0) aB)))
 (aG aP)),?_⟩
  exact⟨_,rfl,a,row,rfl,ha,hlen,jI (λhn=>absurd hn hd) λ_=>k _ (Same.refl _)⟩
abbrev jY:Stmt:=top 16
def dC:FnScope ["row","pairs","waiting","niche","place"] ["row"] (aH jY):=.m
def F8 {f:Addr} {fd:FuncData} (F:Fun K "closings" "closings" jY f fd) (B:Bt mg) (F_look_row:dG P w K mg base "look_row" 1 ["row"] kQ):FnOk P w K mg base CX0 2 f fd ["row"] nE:=by
 refine F.ok dC (λvs H Q E h=>?_) (λcdv A outer s H vs Q E hr h=>?_)
 .obtain⟨a,r,rfl,_⟩:=h;rfl
 .obtain⟨a,row,rfl,ha,hrow,hlen,k⟩:=h;refine⟨_,(aC (aN (bE F_look_row hr rfl (aA (pv 0) aB)))
 (aC (aM 1 dC.nd (bF aB))
 (aC (aM 2 dC.nd (bF aB))
 (aC (aM 3 dC.nd aF)
 (aC (cS ft rfl (bX (pv 0)) (cJ 4 dC.nd)
 (aC (fF ft (PW.pt (J6 (fG (pv 2) (λ_=>rfl)) (xI (aS kD (pv 3) (pv 4) (aZ _)))))
 (aC (aN (dF aF9 aFa aFb bA (pv 1) (aA (bM (aA (N1 aF9 rc rd N3 (pv 2)) (aA (pv 3) aB))) aB)))
 (aG (jR (i:=3) dC.nd rfl (Or.inl rfl) aF mX))))
 (aC (aN (dF aF9 aFa aFb bA (pv 2) (aA (pv 4) aB)))
 (aG (aM 3 dC.nd (aI bK (pv 4) aF))))))
 (aC (fF ft (fG (pv 2) (λ_=>rfl))
 (aC (aN (dF aF9 aFa aFb bA (pv 1) (aA (bM (aA (N1 aF9 rc rd N3 (pv 2)) (aA (pv 3) aB))) aB)))
 (aG (jR (i:=3) dC.nd rfl (Or.inl rfl) aF mX))))
 (aG (aY (aJ oK (by rfl) B.sorted eA (aA (pv 1) aB)))))))))),?_⟩
  refine⟨_,rfl,a,row,rfl,ha,hrow,hlen,by decide,λlp hlp=>?_⟩;refine aK hlp λH1 g1 elp=>?_;refine⟨by decide,λlw hlw=>?_⟩;have hlw0:H lw=none:=g1.free hlw;have hne:lp≠lw:=aU elp hlw;have pop:∀ {H3:Hp} {us:List V} {ps:List (Int×Int)} {st:List Int} {x n:Int} {i:Nat} {Qn:Hp->List V->Prop},Same H H3->H3 lp=some (.lst us)->H3 lw=some (.lst ((x :: st).reverse.map V.int))->Prs H3 us ps->ps.length+st.length<60 ->
   (∀ H4 us',Same H H4->H4 lp=some (.lst us')->H4 lw=some (.lst (st.reverse.map V.int))->Prs H4 us' (ps++[(x,n)])->Qn H4 us') ->
   ∃ y,((x :: st).reverse.map V.int)[((x :: st).reverse.map V.int).length - 1]?=some y/\y=.int x/\∀ t,(upd H3 lw (.lst ((x :: st).reverse.map V.int).dropLast)) t=none ->
    (upd (upd H3 lw (.lst ((x :: st).reverse.map V.int).dropLast)) t (.tup [.int x,.int n])) lp=some (.lst us)/\us.length<sizeLine/\Qn (upd (upd (upd H3 lw (.lst ((x :: st).reverse.map V.int).dropLast)) t (.tup [.int x,.int n])) lp (.lst (us++[.ref t]))) (us++[.ref t]):=by
   intro H3 us ps st x n i Qn sm3 el3 ew3 pr3 hl3 hq;have e1:(x :: st).reverse.map V.int=st.reverse.map V.int++[V.int x]:=by rw[uq,aFQ];rfl
   have e2:((x :: st).reverse.map V.int).dropLast=st.reverse.map V.int:=by rw[e1,wh]
   refine⟨.int x,by rw[e1];simp,rfl,λt ht=>?_⟩;rw[e2]at ht ⊢;have g5:Same H (upd H3 lw (.lst (st.reverse.map V.int))):=Same.upd' hlw0 sm3;have el5:(upd H3 lw (.lst (st.reverse.map V.int))) lp=some (.lst us):=by rw[aE hne];exact el3
   have ew5:(upd H3 lw (.lst (st.reverse.map V.int))) lw=some (.lst (st.reverse.map V.int)):=aD;have pr5:Prs (upd H3 lw (.lst (st.reverse.map V.int))) us ps:=pr3.mono (TupS.lst ew3);generalize upd H3 lw (.lst (st.reverse.map V.int))=H5 at ht g5 el5 ew5 pr5 ⊢;have el6:(upd H5 t (.tup [.int x,.int n])) lp=some (.lst us):=by rw[aE (aU el5 ht)];exact el5
   have ew6:(upd H5 t (.tup [.int x,.int n])) lw=some (.lst (st.reverse.map V.int)):=by rw[aE (aU ew5 ht)];exact ew5
   refine⟨el6,aQ (by rw[pr5.len];omega),hq _ _ (Same.upd' hlp (g5.trans (Same.upd ht))) aD (by rw[aE hne.symm];exact ew6) ?_⟩;exact Paired.append' (Prs.mono (TupS.trans (TupS.new ht) (TupS.lst el6)) pr5) (.cons ⟨t,rfl,by rw[aE (jh (aU el5 ht)),aD]⟩ .nil)
  refine⟨_,rfl,a,rfl,⟨_,SqL.of ((g1.trans (Same.upd hlw)) _ _ ha)⟩,dP (K:=K) (a:=a) (xs:=row.map V.int) (λi σ H2=>∃ (us:List V) (ps:List (Int×Int)) (st:List Int) (n:Int) (v:Option V),σ=[some (.ref a),some (.ref lp),some (.ref lw),some (.int n),v]/\Same H H2/\H2 lp=some (.lst us)/\H2 lw=some (.lst (st.reverse.map V.int))/\Prs H2 us ps /\
   ps++fK (row.drop i) st n=oS row/\ps.length+st.length=i)
   ⟨[],[],[],0,none,rfl,g1.trans (Same.upd hlw),by rw[aE hne];exact elp,aD,.nil,rfl,rfl⟩ (λi σ H2 _ ⟨us,ps,st,n,v,_,sm,_⟩=>SqL.of (sm _ _ ha)) ?_ ?_⟩
  .rintro i z σ H2 hi ⟨us,ps,st,n,v,rfl,sm,el,ew,pr,eq,hb⟩;have hil:i<row.length:=by
    have:=(aFd.mp hi).1;simpa using this
   obtain⟨p,rfl,hz⟩:=fS hi;have hd:row.drop i=p :: row.drop (i+1):=by
    obtain⟨h1,rfl⟩:=aFd.mp hz;exact jm h1
   rw[hd]at eq;refine nL (fun σ H3=>∃ (us:List V) (ps:List (Int×Int)) (st:List Int) (n:Int),σ=[some (.ref a),some (.ref lp),some (.ref lw),some (.int n),some (.int p)]/\Same H H3/\H3 lp=some (.lst us)/\H3 lw=some (.lst (st.reverse.map V.int))/\Prs H3 us ps /\
    ps++fK (p :: row.drop (i+1)) st n=oS row/\ps.length+st.length=i)
    (λ_ H3=>match H3 lw with | some (.lst xs)=>xs.length | _=>0) ⟨us,ps,st,n,rfl,sm,el,ew,pr,eq,hb⟩ ?_ ?_
   .rintro σ H3 ⟨us,ps,st,n,rfl,sm3,el3,ew3,pr3,eq3,hb3⟩;have go:∀ (h:st=[]\/p<=n),∃ v,[some (V.ref a),some (V.ref lp),some (V.ref lw),some (V.int n),some (V.int p)][2]?=some (some v)/\v=.ref lw/\(upd H3 lw (.lst (st.reverse.map V.int++[V.int p]))) lw=some (.lst ((p :: st).reverse.map V.int))/\ps++fK (row.drop (i+1)) (p :: st) (p+1)=oS row:=λh=>by
     rw[n4 h]at eq3;exact⟨_,rfl,rfl,by rw[aD,uq,aFQ];rfl,eq3⟩
    have fin:∀ (h:st=[]\/p<=n),∃ (us':List V) (ps':List (Int×Int)) (st':List Int) (n':Int) (v:Option V),([some (V.ref a),some (V.ref lp),some (V.ref lw),some (V.int (p+1)),some (V.int p)]:St)=[some (.ref a),some (.ref lp),some (.ref lw),some (.int n'),v]/\Same H (upd H3 lw (.lst (st.reverse.map V.int++[V.int p])))/\(upd H3 lw (.lst (st.reverse.map V.int++[V.int p]))) lp=some (.lst us') /\
     (upd H3 lw (.lst (st.reverse.map V.int++[V.int p]))) lw=some (.lst (st'.reverse.map V.int))/\Prs (upd H3 lw (.lst (st.reverse.map V.int++[V.int p]))) us' ps'/\ps'++fK (row.drop (i+1)) st' n'=oS row/\ps'.length+st'.length=i+1:=λh=>by
     obtain⟨v,_,_,e1,e2⟩:=go h;exact⟨us,ps,p :: st,p+1,_,rfl,Same.upd' hlw0 sm3,by rw[aE hne];exact el3,e1,pr3.mono (TupS.lst ew3),e2,by rw[aF4];omega⟩
    cases st with
    | nil =>
     refine⟨_,rfl,false,.inl ⟨_,SqL.of ew3,rfl⟩,?_⟩;refine⟨_,rfl,.inl ⟨rfl,_,SqL.of ew3⟩,_,rfl,lw,_,_,rfl,rfl,ew3,(by decide),?_⟩;exact⟨_,rfl,_,_,rfl,rfl,fin (.inl rfl)⟩
    | cons x st =>
     refine⟨_,rfl,true,.inl ⟨_,SqL.of ew3,by simp⟩,_,rfl,_,rfl,_,_,rfl,rfl,_,rfl,iG (λh1=>?_) (λh1=>?_)⟩
     .rw[n6 h1]at eq3;rw[aF4]at hb3;obtain⟨y,y1,rfl,y2⟩:=pop (n:=n) (i:=i) (Qn:=λH4 us'=>(∃ (us:List V) (ps:List (Int×Int)) (st':List Int) (n':Int),([some (V.ref a),some (V.ref lp),some (V.ref lw),some (V.int (n+1)),some (V.int p)]:St)=[some (.ref a),some (.ref lp),some (.ref lw),some (.int n'),some (.int p)]/\Same H H4/\H4 lp=some (.lst us)/\H4 lw=some (.lst (st'.reverse.map V.int))/\Prs H4 us ps /\
       ps++fK (p :: row.drop (i+1)) st' n'=oS row/\ps.length+st'.length=i)/\(match H4 lw with | some (.lst xs)=>xs.length | _=>0)<(match H3 lw with | some (.lst xs)=>xs.length | _=>0)) sm3 el3 ew3 pr3 (by omega)
       (λH4 us' a1 a2 a3 a4=>⟨⟨us',ps++[(x,n)],st,n+1,rfl,a1,a2,a3,a4,by rw[jq];exact eq3,by simp;omega⟩,by rw[a3,ew3];simp⟩)
      refine⟨_,rfl,.inl ⟨rfl,_,SqL.of el3⟩,_,rfl,.inl ⟨rfl,_,SqL.of ew3⟩,lw,_,_,rfl,rfl,ew3,y1,_,rfl,(show 2<=sizeLine by decide),λt ht=>?_⟩;obtain⟨z1,z2,z3⟩:=y2 t ht;exact⟨lp,us,_,rfl,rfl,z1,z2,_,rfl,_,_,rfl,rfl,z3⟩
     .refine⟨_,rfl,.inl ⟨rfl,_,SqL.of ew3⟩,_,rfl,lw,_,_,rfl,rfl,ew3,(by rw[aFB,ww];exact aQ (by omega)),?_⟩;exact⟨_,rfl,_,_,rfl,rfl,fin (.inr (by omega))⟩
   .intro σ H3 Q1 Q2 hq h;obtain⟨x,e,b1,e1,h⟩:=h;refine⟨x,e,b1,e1,?_⟩;cases b1 with
    | false=>exact hq _ _ h
    | true =>
     obtain⟨x,e,y,e',i2,j2,e4,e5,b2,e6,h⟩:=h;exact⟨x,e,y,e',i2,j2,e4,e5,b2,e6,hq _ _ h⟩
  .rintro σ H2 ⟨us,ps,st,n,v,rfl,sm,el,ew,pr,eq,hb⟩;rw[aFB]at eq hb;rw[mu]at eq;dsimp only[aDg];refine nL (fun σ H3=>∃ (us:List V) (ps:List (Int×Int)) (st:List Int) (n:Int),σ=[some (.ref a),some (.ref lp),some (.ref lw),some (.int n),v]/\Same H H3/\H3 lp=some (.lst us)/\H3 lw=some (.lst (st.reverse.map V.int))/\Prs H3 us ps /\
    ps++fK [] st n=oS row/\ps.length+st.length=row.length)
    (λ_ H3=>match H3 lw with | some (.lst xs)=>xs.length | _=>0) ⟨us,ps,st,n,rfl,sm,el,ew,pr,eq,hb⟩ ?_ ?_
   .rintro σ H3 ⟨us,ps,st,n,rfl,sm3,el3,ew3,pr3,eq3,hb3⟩;cases st with
    | nil =>
     refine⟨_,rfl,false,.inl ⟨_,SqL.of ew3,rfl⟩,?_⟩;have eps:ps=oS row:=by rw[<- eq3];simp[fK,wS]
     refine⟨_,rfl,lp,us,ps,rfl,el3,pr3,by rw[oi]at hb3;omega,λl us' qs hl pr' hp hs=>?_⟩;refine k qs (by rw[<- eps];exact hp) hs l us' _ (sm3.free hl) (sm3.trans (Same.upd hl)) aD (pr'.mono (TupS.new hl))
    | cons x st =>
     rw[n8]at eq3;rw[aF4]at hb3;refine⟨_,rfl,true,.inl ⟨_,SqL.of ew3,by simp⟩,?_⟩;obtain⟨y,y1,rfl,y2⟩:=pop (n:=n) (i:=0) (Qn:=λH4 us'=>(∃ (us:List V) (ps:List (Int×Int)) (st':List Int) (n':Int),([some (V.ref a),some (V.ref lp),some (V.ref lw),some (V.int (n+1)),v]:St)=[some (.ref a),some (.ref lp),some (.ref lw),some (.int n'),v]/\Same H H4/\H4 lp=some (.lst us)/\H4 lw=some (.lst (st'.reverse.map V.int))/\Prs H4 us ps /\
      ps++fK [] st' n'=oS row/\ps.length+st'.length=row.length)/\(match H4 lw with | some (.lst xs)=>xs.length | _=>0)<(match H3 lw with | some (.lst xs)=>xs.length | _=>0)) sm3 el3 ew3 pr3 (by omega)
      (λH4 us' a1 a2 a3 a4=>⟨⟨us',ps++[(x,n)],st,n+1,rfl,a1,a2,a3,a4,by rw[jq];exact eq3,by simp;omega⟩,by rw[a3,ew3];simp⟩)
     refine⟨_,rfl,.inl ⟨rfl,_,SqL.of el3⟩,_,rfl,.inl ⟨rfl,_,SqL.of ew3⟩,lw,_,_,rfl,rfl,ew3,y1,_,rfl,(show 2<=sizeLine by decide),λt ht=>?_⟩;obtain⟨z1,z2,z3⟩:=y2 t ht;exact⟨lp,us,_,rfl,rfl,z1,z2,_,rfl,_,_,rfl,rfl,z3⟩
   .intro σ H3 Q1 Q2 hq h;obtain⟨x,e,b1,e1,h⟩:=h;exact⟨x,e,b1,e1,hq _ _ h⟩
def yZ {f:Addr} {fd:FuncData} (F:Fun K "closings" "closings" jY f fd) (B:Bt mg) (X:aV K mg) (F_look_row:cN P w K mg base "look_row" 4 ["row"] (jV X)):FnOk P w K mg base (CXR P w) 5 f fd ["row"] (cM X):=by
 refine F.okX dC (λvs H Q E h=>?_) (λcdv A outer s H vs Q E hfr hr h=>?_)
 .obtain⟨a,r,rfl,_⟩:=h;rfl
 .obtain⟨a,row,rfl,ha,hlen,hd,k⟩:=h;refine⟨_,(aC (aN (bN F_look_row hr rfl (eW hfr) (aA (pv 0) aB)))
 (aC aP
 (aC aP
 (aC aP
 (aC aP
 (aC aP
 (aG aP))))))),?_⟩
  exact⟨_,rfl,a,row,rfl,ha,hlen,jI (λhn=>absurd hn hd) λ_=>k _ (Same.refl _)⟩
abbrev qF:Stmt:=top 18
def jZ:FnScope ["trains","offsets","size","offset"] ["trains"] (aH qF):=.m
inductive uR (H:Hp) (a:Addr) (d:Addr) (l:Addr) (us':List V) (qs:Trs) (i:Nat) (σ:St) (H3:Hp):Prop
 | mk (gs:List Grp) (v1 v2:Option V) (k0_:σ=[some (.ref a),some (.ref d),v1,v2]) (k1_:Same H H3) (k2_:H3 l=some (.lst us')) (k3_:Prs H3 us' qs) (k4_:DG H3 d gs) (k5_:(∀ g∈gs,H g.2.1=none/\g.2.1≠l/\g.2.1≠d)) (k6_:((bO gs).Perm (qs.take i)/\Asc gs)) (k7_:gs.length<=i) (k8_:∀ g∈gs,g.2.2.length<=i/\g.2.2≠[]):uR H a d l us' qs i σ H3
def R7 {f:Addr} {fd:FuncData} (F:Fun K "by_size" "by_size" qF f fd) (B:Bt mg):FnOk P w K mg base CX0 1 f fd ["trains"] mG:=by
 refine F.ok jZ (λvs H Q E h=>?_) (λcx A outer s H vs Q E hr h=>?_)
 .obtain⟨a,r,rfl,_⟩:=h;rfl
 .obtain⟨a,ps,rfl,⟨us,ha,pr⟩,hpl,k⟩:=h;refine⟨_,(aC (aM 1 jZ.nd oM)
 (aC (cS ft rfl (bX (aJ oK (by rfl) B.sorted eA (aA (pv 0) aB))) (fE rfl (aR (cJ 2 jZ.nd) (aR (cJ 3 jZ.nd) cR)))
 (aG (aN (dF aF9 aFa aFb bA (W8 (pv 1) (pv 2) (bF aB) ⟨rfl,rfl,rfl,rfl⟩) (aA (pv 3) aB)))))
 (aG (aY (pv 1))))),?_⟩
  refine λd hd=>?_;refine aK hd λH1 g1 ed=>?_;have ed:H1 d=some (.dK (kvG [])):=ed;refine⟨_,rfl,a,us,ps,rfl,g1 _ _ ha,pr.mono (TupS.same g1),by omega,λl av qs hl cp aw bj=>?_⟩;refine aK hl λH2 g2 el=>?_;have bv:=cp.mono (TupS.same g2);have bw:=g2 _ _ ed;have eu:av.length=ps.length:=by rw[bv.len,aw.length_eq]
  have cq:l≠d:=kC el bw (by intro z;cases z);have cr:=g1.trans g2;have cy:H l=none:=g1.free hl;refine⟨l,rfl,⟨_,SqL.of el⟩,dP (K:=K) (a:=l) (xs:=av) (uR H a d l av qs)
   ⟨[],none,none,rfl,cr,el,bv,⟨bw,λg G=>(nomatch G),List.Pairwise.nil,List.Pairwise.nil⟩,λg G=>(nomatch G),⟨.refl _,λg G=>(nomatch G)⟩,ah _,λg G=>(nomatch G)⟩ (λi σ H3 _ z_=>by obtain⟨_,_,_,_,_,e,_⟩:=z_;exact SqL.of e) ?_ ?_⟩
  .rintro i x σ H3 hi ⟨gs,v1,v2,rfl,sm,bn,bg,L,U,⟨hw,bh⟩,cu,a_⟩;obtain⟨p,t',hp,rfl,et⟩:=dR bg hi;have bi:∀ q∈bO gs,q.1=p.1->q.2<=p.2:=λq hq e=>by
    obtain⟨k',b_,ca⟩:=List.mem_iff_getElem.mp (hw.mem_iff.mp hq);have cv:k'<i:=by rw[aFR]at b_;omega
    have cw:k'<qs.length:=by rw[aFR]at b_;omega
    have cb:=(aFd.mp hp);have h3:=List.pairwise_iff_getElem.mp bj k' i cw cb.1 cv;rw[cb.2]at h3;rw[List.getElem_take]at ca;rw[ca]at h3;unfold ple at h3;omega
   have cc:∀ l:Trs,l.Perm (p :: bO gs)->l.Perm (qs.take (i+1)):=λl hl=>by
    rw[aF6,hp];refine hl.trans ((hw.cons p).trans ?_);exact(vy (l₁:=qs.take i) (l₂:=[p])).symm
   have cz:i<av.length:=(aFd.mp hi).1;refine⟨t',_,rfl,SqT.of et,rfl,_,_,rfl,_,_,rfl,rfl,_,rfl,d,rfl,.inl ⟨_,.inl L.at_⟩,_,rfl,by decide,λz hz=>?_⟩;refine aK hz λH4 g4 ez=>?_;have cf:H z=none:=sm.free hz;have cg:z≠l:=λe=>by rw[e,bn]at hz;cases hz
   have bo:z≠d:=λe=>by rw[e,L.at_]at hz;cases hz
   have ci:=sm.trans g4;have cj:=g4 _ _ bn;have ck:=bg.mono (TupS.same g4);have ba:∀ g∈gs,H4 g.2.1=some (.lst (g.2.2.map V.int)):=λg G=>g4 _ _ (L.lst g G);have nz:∀ g∈gs,g.2.1≠z:=λg G e=>by have:=L.lst g G;rw[e,hz]at this;cases this
   refine⟨kvG gs,Sum.inl p.1,g4 _ _ L.at_,rfl,by simp only[kvG,aFB];exact aQ (by omega),λv hv=>?_,λhv=>?_⟩
   .-- the size is there
    rw[eC]at hv;obtain⟨g,G,rfl⟩:=aFc.mp hv;have Y:=jt G;have bq:g.1=p.1:=by simpa using sv G
    have eg:=ba g Y;have br:=U g Y;refine⟨.inl ⟨rfl,_,SqL.of eg⟩,_,rfl,g.2.1,_,_,rfl,rfl,eg,(by rw[aFB];exact aQ (by have:=(a_ g Y).1;omega)),?_⟩;have bb:∀ g'∈hW p.1 p.2 gs,∃ J∈gs,g'.2.1=J.2.1/\g'.1=J.1/\(g'.2.2=if J.1=p.1 then J.2.2++[p.2]else J.2.2):=λg' M=>by
     obtain⟨J,h0,rfl⟩:=aFg.mp M;refine⟨J,h0,?_⟩
     by_cases hk:J.1=p.1
     .rw[da hk,da hk];exact⟨rfl,rfl,rfl⟩
     .rw[bB hk,bB hk];exact⟨rfl,rfl,rfl⟩
    have bc:D7 H4 p.1 p.2 gs (hW p.1 p.2 gs):=.inl ⟨⟨g,Y,bq⟩,rfl⟩;have uniq:∀ J∈gs,J.2.1=g.2.1->J=g:=λJ h0 e=>cO (f:=λg:Grp=>g.2.1) L.adr h0 Y e;refine⟨hW p.1 p.2 gs,_,_,rfl,Same.upd' br.1 ci,by rw[aE (jh br.2.1)];exact cj,ck.mono (TupS.lst eg),⟨by rw[D1,aE (jh br.2.2)];exact g4 _ _ L.at_,λg' M=>?_,by rw[D2];exact L.adr,by rw[D3];exact L.key⟩,λg' M=>?_,⟨cc _ (mE L.key bc),bh.puts bc bi⟩,by rw[aAb];omega,λg' M=>?_⟩
    .obtain⟨J,h0,e1,e2,e3⟩:=bb g' M;rw[e1]
     by_cases bf:J.2.1=g.2.1
     .have:=uniq J h0 bf;subst this;rw[aD,e3,da bq,aFQ];rfl
     .have hk:J.1≠p.1:=λe=>bf (by rw[cO (f:=λg:Grp=>g.1) L.key h0 Y (e.trans bq.symm)]);rw[aE bf,e3,bB hk];exact ba J h0
    .obtain⟨J,h0,e1,_,_⟩:=bb g' M;rw[e1];exact U J h0
    .obtain⟨J,h0,_,_,e3⟩:=bb g' M;have:=a_ J h0;rw[e3];split
     .exact⟨by rw[aFK,kd];omega,by simp⟩
     .exact⟨by omega,this.2⟩
   .-- the size is new
    rw[eC]at hv;have cm:∀ g∈gs,g.1≠p.1:=λg G e=>by
     have:=List.find?_eq_none.mp (Option.map_eq_none_iff.mp hv) g G;exact this (by simpa using e)
    have bc:D7 H3 p.1 p.2 gs (gs++[(p.1,z,[p.2])]):=.inr ⟨cm,z,hz,rfl⟩;rw[C7 (V.ref z) (by rw[eC];exact hv)];have cn:(upd H4 d (.dK (kvG gs++[((Sum.inl p.1:Key),V.ref z)]))) z=some (.lst []):=by rw[aE bo];exact ez
    refine⟨.inl ⟨rfl,_,SqL.of cn⟩,_,rfl,z,_,_,rfl,rfl,cn,(show 0<sizeLine by decide),?_⟩;have bt:∀ b o,b≠d->b≠z->H4 b=some o->(upd (upd H4 d (.dK (kvG gs++[((Sum.inl p.1:Key),V.ref z)]))) z (.lst ([]++[V.int p.2]))) b=some o:=λb o n1 n2 e=>by rw[aE n2,aE n1];exact e
    refine⟨gs++[(p.1,z,[p.2])],_,_,rfl,Same.upd' cf (Same.upd' hd ci),bt _ _ cq (jh cg) cj,ck.mono (λt xs e=>bt _ _ (kC e (g4 _ _ L.at_) (by intro z;cases z)) (kC e ez (by intro z;cases z)) e),⟨?_,λg G=>?_,?_,?_⟩,λg G=>?_,⟨cc _ (mE L.key bc),bh.puts bc bi⟩,by rw[aFK,kd];omega,λg G=>?_⟩
    .rw[aE (jh bo),aD];unfold kvG;rw[aFQ];rfl
    .rcases aFf.mp G with h | h
     .exact bt _ _ (U g h).2.2 (nz g h) (ba g h)
     .rw[aF7.mp h];exact aD
    .rw[aFQ,qx];refine⟨L.adr,by simp,λx hx y hy=>?_⟩;obtain⟨g,G,rfl⟩:=aFg.mp hx;have bu:y=z:=by simpa using hy
     rw[bu];exact nz g G
    .rw[aFQ,qx];refine⟨L.key,by simp,λx hx y hy=>?_⟩;obtain⟨g,G,rfl⟩:=aFg.mp hx;have bu:y=p.1:=by simpa using hy
     rw[bu];exact cm g G
    .rcases aFf.mp G with h | h
     .exact U g h
     .rw[aF7.mp h];exact⟨cf,cg,bo⟩
    .rcases aFf.mp G with h | h
     .have:=a_ g h;exact⟨by omega,this.2⟩
     .rw[aF7.mp h];exact⟨by show 1<=i+1;omega,by simp⟩
  .rintro σ H3 ⟨gs,v1,v2,rfl,sm,bn,bg,L,U,⟨hw,bh⟩,cu,a_⟩;refine⟨_,rfl,k d gs H3 hd sm L ?_ bh λg G=>⟨(a_ g G).2,(U g G).1⟩⟩;rw[show av.length=qs.length from bg.len,aFP]at hw;exact hw.trans aw
abbrev rX:Stmt:=top 19
def aB1:FnScope ["offsets","size"] ["offsets","size"] (aH rX):=.m
def aB2 {f:Addr} {fd:FuncData} (F:Fun K "crowd" "crowd" rX f fd) (B:Bt mg):FnOk P w K mg base CX0 1 f fd ["offsets","size"] tM:=by
 refine F.ok aB1 (λvs H Q E h=>?_) (λa_ A outer s H vs Q E hr h=>?_)
 .obtain⟨d,r,j,rfl,_⟩:=h;rfl
 .obtain⟨d,gs,j,rfl,L,hl,M,k⟩:=h;refine⟨_,(aG (aY (aI fP aF (aJ (kX rfl) (by rfl) B.sum kU (aA (W9 (eR ["other","some"] ["size"] [1] rfl (.of (show dM (aH rX) _ ["offsets","size"] [1] ["size"]=true by decide +kernel)) (tK (pv 0)) (λ_ _ _=>(lW (n:=2) K rfl rfl (aR (bR (i:=0) (show (["other","some","size"]:List Str).Nodup by decide +kernel) rfl (Or.inl rfl)) (aR (bR (i:=1) (show (["other","some","size"]:List Str).Nodup by decide +kernel) rfl (Or.inl rfl)) cR)))) (pI (dQ (by decide) (dQ (by decide) lV))) (λ_ _ _=>dW) (λ_ _ _=>(aI fP (aJ (vN rfl) (by rfl) B.min sR (aA (pv 2) (aA (pv 0) aB))) (aJ (iX K rfl) (by rfl) B.len jg (aA (pv 1) aB)))))) aB))))),?_⟩;refine⟨d,kvG gs,L.at_,_,rfl,d,kvG gs,rfl,L.at_,λod=>?_⟩;have gd:aAa d H (upd H d (.frz od (.dK (kvG gs)))):=λb o n e=>by rw[aE n];exact e
  have ed:(upd H d (.frz od (.dK (kvG gs)))) d=some (.frz od (.dK (kvG gs))):=aD;have G:∀ g∈gs,(upd H d (.frz od (.dK (kvG gs)))) g.2.1=some (.lst (g.2.2.map V.int)):=λg U=>gd _ _ (kC (L.lst g U) L.at_ (by intro z;cases z)) (L.lst g U);generalize upd H d (.frz od (.dK (kvG gs)))=H1 at gd ed G ⊢;have av:(kvG gs).length=gs.length:=by simp[kvG]
  refine tL (d:=d) (od:=od) (kvs:=kvG gs) (λi ys H2=>Same H1 H2/\ys=((gs.take i).map (λg:Grp=>gM j g.1 * (g.2.2.length:Int))).map V.int) ⟨Same.refl _,rfl⟩ ?_ ?_ ?_
  .rintro i ys H2 hi ⟨g2,rfl⟩;exact⟨g2 _ _ ed,by simp only[aFB,aFR];exact aQ (by omega)⟩
  .rintro i ky x ys H2 t hx ⟨g2,rfl⟩ ht;obtain⟨g,U,aw⟩:∃ g,gs[i]?=some g/\((Sum.inl g.1:Key),V.ref g.2.1)=(ky,x):=by
    unfold kvG at hx;rw[aFZ]at hx;obtain⟨g,h1,h2⟩:=aFc.mp hx;exact⟨g,h1,h2⟩
   cases aw;have J:=aFM U;have g3:=g2.trans (Same.upd (o:=.tup [kV (Sum.inl g.1),V.ref g.2.1]) ht);refine⟨t,_,rfl,SqT.of aD,rfl,_,_,rfl,_,_,rfl,rfl,_,rfl,_,rfl,_,_,rfl,_,rfl,g.2.1,_,rfl,.inl (SqL.of (g3 _ _ (G g J))),_,_,rfl,rfl,.inr ⟨?_,?_⟩,g3,?_⟩
   .have:=M g J;rw[aFB];omega
   .have:=M g J;rw[aFB];omega
   .rw[aF6,U];simp[gM]
  .rintro ys H2 ⟨g2,rfl⟩ D hD;have Y:D≠d:=λz=>by rw[z,g2 _ _ ed]at hD;cases hD
   refine⟨od,by rw[aE (jh Y)];exact g2 _ _ ed,D,gs.map (λg:Grp=>gM j g.1 * (g.2.2.length:Int)),rfl,by rw[aE Y,aD,av,aFP],_,_,rfl,rfl,.inl ⟨by decide,by decide⟩,k _ λb o e=>?_⟩
   by_cases hb:b=d
   .subst hb;rw[aD,<- L.at_];exact e
   .rw[aE hb];exact(g2.trans (Same.upd hD)) _ _ (gd b o hb e)
abbrev oX:Stmt:=top 20
def eF:FnScope ["offsets","found","longer","total","below","size"] ["offsets"] (aH oX):=.m
inductive wZ (H:Hp) (d:Addr) (e:Addr) (l:Addr) (gs:List Grp) (ms:List Int) (i:Nat) (σ:St) (H6:Hp):Prop
 | mk (kvs:List (Key×V)) (b:Int) (v:Option V) (k0_:σ=[some (.ref d),some (.ref e),some (.int (lng b gs)),some (.int (2 * wgt (gM b) gs)),some (.int b),v]) (k1_:Same H H6) (k2_:H6 l=some (.lst (ms.map V.int))) (k3_:H6 e=some (.dK kvs)) (k4_:kvs.length<=i) (k5_:(∀ g∈gs,b<g.1->g.1∈ms.drop i)) (k6_:(∀ m∈ms.drop i,b<m)) (k7_:∀ m∈ms.take i,dJ kvs (Sum.inl m:Key)=some (.int (2 * wgt (gM m) gs))):wZ H d e l gs ms i σ H6
def u3 {f:Addr} {fd:FuncData} (F:Fun K "crowds" "crowds" oX f fd) (B:Bt mg):FnOk P w K mg base CX0 1 f fd ["offsets"] pT:=by
 refine F.ok eF (λvs H Q E h=>?_) (λcr A outer s H vs Q E hr h=>?_)
 .obtain⟨d,gs,rfl,_⟩:=h;rfl
 .obtain⟨d,gs,rfl,L,bg,hl,ca,k⟩:=h;have bi:=nV hr;refine⟨_,(aC (aM 1 eF.nd oM)
 (aC (aM 2 eF.nd (aJ (kX rfl) (by rfl) B.sum kU (aA (W9 (eR ["some"] [] [] rfl (.of (show dM (aH oX) _ ["offsets","found","longer","total","below","size"] [] []=true by decide +kernel)) (m6 (pv 0)) (λ_ _ _=>(bR (i:=0) (show (["some"]:List Str).Nodup by decide +kernel) rfl (Or.inl rfl))) (fJ (by decide)) (λ_ _ _=>dW) (λ_ _ _=>(aJ (iX K rfl) (by rfl) B.len jg (aA (pv 0) aB))))) aB)))
 (aC (aM 3 eF.nd aF)
 (aC (aM 4 eF.nd aF)
 (aC (cS ft rfl (bX (aJ (gN rfl) (by rfl) B.sorted eA (aA (pv 0) aB))) (cJ 5 eF.nd)
 (aC (jR (i:=3) eF.nd rfl (Or.inl rfl) (aI fP (aI fP aF (pv 2)) (aI bC (pv 5) (pv 4))) mX)
 (aC (W6 bi (pv 1) (pv 5) (pv 3) rfl)
 (aC (jR (i:=2) eF.nd rfl (Or.inl rfl) (aJ aL (by rfl) B.len jg (aA (iJ bi (pv 0) (pv 5) (λ_ _=>rfl)) aB)) x6)
 (aG (aM 4 eF.nd (pv 5)))))))
 (aG (aY (pv 1)))))))),?_⟩
  refine λe he=>?_;refine aK he λH1 g1 ee=>?_;have cb:e≠d:=λz=>by rw[z,L.at_]at he;cases he
  have J:DG H1 d gs:=⟨g1 _ _ L.at_,λg G=>g1 _ _ (L.lst g G),L.adr,L.key⟩;refine⟨d,kvG gs,J.at_,_,rfl,d,kvG gs,rfl,J.at_,λod=>?_⟩;have gd:aAa d H1 (upd H1 d (.frz od (.dK (kvG gs)))):=λb o n e=>by rw[aE n];exact e
  have ed:(upd H1 d (.frz od (.dK (kvG gs)))) d=some (.frz od (.dK (kvG gs))):=aD;have bc:∀ g∈gs,(upd H1 d (.frz od (.dK (kvG gs)))) g.2.1=some (.lst (g.2.2.map V.int)):=λg G=>gd _ _ (kC (J.lst g G) J.at_ (by intro z;cases z)) (J.lst g G);generalize upd H1 d (.frz od (.dK (kvG gs)))=H2 at gd ed bc ⊢;have cc:(kvG gs).length=gs.length:=by simp[kvG]
  refine D5 (d:=d) (od:=od) (kvs:=kvG gs) (λi ys H3=>H3=H2/\ys=((gs.take i).map (λg:Grp=>(g.2.2.length:Int))).map V.int) ⟨rfl,rfl⟩ ?_ ?_ ?_
  .rintro i ys H3 hi ⟨rfl,rfl⟩;exact⟨ed,by simp only[aFB,aFR];exact aQ (by omega)⟩
  .rintro i ky x ys H3 hx ⟨rfl,rfl⟩;obtain⟨g,G,cf⟩:∃ g,gs[i]?=some g/\((Sum.inl g.1:Key),V.ref g.2.1)=(ky,x):=by
    unfold kvG at hx;rw[aFZ]at hx;obtain⟨g,h1,h2⟩:=aFc.mp hx;exact⟨g,h1,h2⟩
   cases cf;have U:=aFM G;refine⟨_,rfl,g.2.1,_,rfl,.inl (SqL.of (bc g U)),rfl,?_⟩;rw[aF6,G];simp
  .rintro ys H3 ⟨rfl,rfl⟩ D hD;have bj:D≠d:=λz=>by rw[z,ed]at hD;cases hD
   refine⟨od,by rw[aE (jh bj)];exact ed,D,gs.map (λg:Grp=>(g.2.2.length:Int)),rfl,by rw[aE bj,aD,cc,aFP],?_⟩;have g4:Same H1 (upd (upd H3 D (.lst (((gs.take (kvG gs).length).map (λg:Grp=>(g.2.2.length:Int))).map V.int))) d (.dK (kvG gs))):=λb o q=>by
    by_cases hb:b=d
    .subst hb;rw[aD,<- J.at_];exact q
    .rw[aE hb];exact(Same.upd hD) _ _ (gd b o hb q)
   generalize upd (upd H3 D (.lst (((gs.take (kvG gs).length).map (λg:Grp=>(g.2.2.length:Int))).map V.int))) d (.dK (kvG gs))=H4 at g4 ⊢;have cg:kF (kvG gs) (gs.map (·.1)):=by unfold kF kvG;simp[Function.comp]
   have ci:DG H4 d gs:=⟨g4 _ _ J.at_,λg G=>g4 _ _ (J.lst g G),L.adr,L.key⟩;have bn:=g4 _ _ ee;have bo:=g1.trans g4;have cj:=aAk bg;rw[<- cj];refine⟨_,rfl,d,kvG gs,gs.map (·.1),rfl,ci.at_,cg,by rw[aFB];omega,λl ms av hp hs=>?_⟩;refine aK av λH5 g5 el=>?_;have cu:H l=none:=bo.free av;have ck:l≠e:=λz=>by rw[z,bn]at av;cases av
   have cm:=bo.trans g5;have cn:=g5 _ _ bn;have cv:ms.length=gs.length:=by rw[hp.length_eq,aFB]
   have cp:=wQ hp hs L.key;refine⟨l,rfl,⟨_,SqL.of el⟩,dP (K:=K) (a:=l) (xs:=ms.map V.int) (wZ H d e l gs ms)
    ⟨[],0,none,by rw[aAl bg];rfl,cm,el,cn,ah _,λg G _=>hp.mem_iff.mpr (aFg.mpr ⟨g,G,rfl⟩),λm hm=>by
     obtain⟨g,G,e⟩:=aFg.mp (hp.mem_iff.mp hm);have:=(bg g G).1;have e':g.1=m:=e;omega,λm hm=>by simp at hm⟩ (λi σ H6 _ z_=>by obtain⟨_,_,_,_,_,q,_⟩:=z_;exact SqL.of q) ?_ ?_⟩
   .rintro i x σ H6 hi ⟨kvs,b,v,rfl,Y,bq,aw,br,bt,cq,M⟩;rw[aFZ]at hi;obtain⟨m,hm,rfl⟩:=aFc.mp hi;have bu:i<ms.length:=(aFd.mp hm).1;obtain⟨g,G,U⟩:=aFg.mp (hp.mem_iff.mp (aFM hm));have U:g.1=m:=U;subst U;have a_:ms.drop i=g.1 :: ms.drop (i+1):=by
     rw[jm bu];rw[aFL bu]at hm;rw[jk hm]
    have bv:b<g.1:=cq g.1 (by rw[a_];exact aFD);have bf:(g.1 :: ms.drop (i+1)).Pairwise (·<·):=by rw[<- a_];exact cp.sublist (List.drop_sublist _ _)
    have bw:∀ x∈gs,b<x.1->g.1<=x.1:=λx hx hb=>by
     have:=bt x hx hb;rw[a_]at this;rcases aFe.mp this with e | e
     .omega
     .have:=(List.pairwise_cons.mp bf).1 _ e;omega
    have e1:=P8 (Int.le_of_lt bv) bw;have e2:=aAj bv bw L.key G rfl;obtain⟨cw,cx⟩:=aAo (b:=b) ca;have bh:DG H6 d gs:=⟨Y _ _ L.at_,λg G=>Y _ _ (L.lst g G),L.adr,L.key⟩;have e3:2 * wgt (gM b) gs+2 * lng b gs * (g.1 - b)=2 * wgt (gM g.1) gs:=by
     rw[e1,xj,Int.mul_assoc,Int.mul_comm (lng b gs)]
    refine⟨_,rfl,_,rfl,_,_,rfl,rfl,.inl ⟨by decide,by decide⟩,_,rfl,_,rfl,_,_,rfl,rfl,_,_,rfl,rfl,.inl ⟨by omega,by omega⟩,?_⟩;refine⟨_,_,rfl,rfl,?_⟩;refine⟨_,rfl,_,rfl,_,rfl,e,_,rfl,DPut.k (k:=Sum.inl g.1) aw (aQ (by omega)),?_⟩;have b_:DG (upd H6 e (.dK (hV kvs (Sum.inl g.1:Key) (V.int (2 * wgt (gM b) gs+2 * lng b gs * (g.1 - b)))))) d gs:=⟨by rw[aE (jh cb)];exact bh.at_,λx hx=>by rw[aE (kC (bh.lst x hx) aw (by intro z;cases z))];exact bh.lst x hx,L.adr,L.key⟩;refine⟨_,rfl,_,rfl,_,rfl,d,_,rfl,b_.get G,g.2.1,_,rfl,.inl (SqL.of (b_.lst g G)),?_⟩;refine⟨_,_,rfl,rfl,?_⟩;refine⟨_,rfl,?_⟩;refine⟨hV kvs (Sum.inl g.1:Key) (V.int (2 * wgt (gM b) gs+2 * lng b gs * (g.1 - b))),g.1,_,by rw[e2,<- e3,<- aFB (as:=g.2.2) V.int];rfl,Same.upd' he Y,by rw[aE ck];exact bq,aD,jf (iI ..) (by omega),λx hx cy=>?_,λm' ba=>(List.pairwise_cons.mp bf).1 m' ba,λm' ba=>?_⟩
    .have:=bt x hx (by omega);rw[a_]at this;rcases aFe.mp this with e | e
     .omega
     .exact e
    rw[C6]
    by_cases bb:(Sum.inl m':Key)=Sum.inl g.1
    .rw[da bb,e3];rw[qp bb]
    .rw[bB bb];rw[aF6,hm]at ba;rcases aFf.mp ba with h | h
     .exact M m' h
     .exact absurd (by have:m'=g.1:=by simpa using h
                       rw[this]) bb
   .rintro σ H6 ⟨kvs,b,v,rfl,Y,bq,aw,br,_,_,M⟩;refine⟨_,rfl,k e kvs H6 he Y aw λg G=>?_⟩;rw[aFB,aFP]at M;rw[M g.1 (hp.mem_iff.mpr (aFg.mpr ⟨g,G,rfl⟩)),X0]
abbrev lK:Stmt:=top 24
def zA:FnScope ["offsets","size"] ["offsets","size"] (aH lK):=.m
def zB {f:Addr} {fd:FuncData} (F:Fun K "drop_last" "drop_last" lK f fd) (B:Bt mg):FnOk P w K mg base CX0 1 f fd ["offsets","size"] nC:=by
 refine F.ok zA (λvs H Q E h=>?_) (λbb A outer s H vs Q E hr h=>?_)
 .obtain⟨d,gs,g,rfl,_⟩:=h;rfl
 .obtain⟨d,gs,g,rfl,dg,U,a_,k⟩:=h;have Y:=nV hr;refine⟨_,(aC (aN (N1 aF9 rc rd N3 (iJ Y (pv 0) (pv 1) (λ_ _=>rfl))))
 (aG (dE (J7 (fG (iJ Y (pv 0) (pv 1) (λ_ _=>rfl)) (λ_=>rfl)))
 (aG (aBw (pv 0) (pv 1)))
 bQ))),?_⟩
  have av:g.2.2.map V.int≠[]:=by simpa using a_
  have L:(g.2.2.map V.int)[(g.2.2.map V.int).length - 1]?=some ((g.2.2.map V.int).getLast av):=by rw[<- List.getLast?_eq_getElem?];exact List.getLast?_eq_getLast av
  refine⟨_,rfl,_,rfl,d,_,rfl,dg.get U,.inl ⟨rfl,_,SqL.of (dg.lst g U)⟩,g.2.1,_,_,rfl,rfl,dg.lst g U,L,?_⟩;rw[<- List.map_dropLast];have z:=dg.pops U;have M:aAc d gs H (upd H g.2.1 (.lst (g.2.2.dropLast.map V.int))):=λb o _ n e=>by rw[aE (n g U)];exact e
  generalize upd H g.2.1 (.lst (g.2.2.dropLast.map V.int))=H2 at z M ⊢;have G:(g.1,g.2.1,g.2.2.dropLast)∈pops g.1 gs:=aFg.mpr ⟨g,U,da rfl⟩;have aw:DGet H2 d (.int g.1) (some (.ref g.2.1)):=z.get (g:=(g.1,g.2.1,g.2.2.dropLast)) G;have ba:H2 g.2.1=some (.lst (g.2.2.dropLast.map V.int)):=z.lst (g.1,g.2.1,g.2.2.dropLast) G;refine⟨_,rfl,_,rfl,d,_,rfl,aw,_,.inl ⟨_,SqL.of ba,rfl⟩,?_⟩;have J:((pops g.1 gs).any (λx=>decide (x.1=g.1) && x.2.2.isEmpty))=g.2.2.dropLast.isEmpty:=by
   cases hE:g.2.2.dropLast.isEmpty with
   | true=>exact List.any_eq_true.mpr ⟨_,G,by simp[hE]⟩
   | false =>
    rw[List.any_eq_false];intro x hx;simp only[jl,oj,not_and];intro e;have:x=(g.1,g.2.1,g.2.2.dropLast):=cO (f:=λg:Grp=>g.1) z.key hx G e;rw[this];simp[hE]
  have hm:(g.2.2.dropLast.map V.int).isEmpty=g.2.2.dropLast.isEmpty:=by rw[List.isEmpty_map]
  simp only[hm];cases hE:g.2.2.dropLast.isEmpty with
  | true =>
   refine⟨_,rfl,_,rfl,d,_,Sum.inl g.1,rfl,z.at_,rfl,?_,k _ (λb o n1 n2 e=>by rw[aE n1];exact M b o n1 n2 e) ?_⟩
   .rw[eC,oO z.key G];rfl
   .unfold shr;rw[J,hE,da rfl];exact z.outs g.1
  | false =>
   refine k _ M ?_;unfold shr;rw[J,hE,bB aFO];exact z
abbrev lL:Stmt:=top 25
def oY:FnScope ["offsets","size","place","offset"] ["offsets","size","place"] (aH lL):=.m
def zC {f:Addr} {fd:FuncData} (F:Fun K "add_train" "add_train" lL f fd) (B:Bt mg) (U:dG P w K mg base "crowd" 1 ["offsets","size"] tM):FnOk P w K mg base CX0 2 f fd ["offsets","size","place"] lE:=by
 refine F.ok oY (λvs H Q E h=>?_) (λbr A outer s H vs Q E hr h=>?_)
 .obtain⟨d,gs,k,p,rfl,_⟩:=h;rfl
 .obtain⟨d,gs,k,p,rfl,Y,hl,bc,kk⟩:=h;refine⟨_,(aC (aM 3 oY.nd (aI bC (aI bC (pv 2) (bE U hr rfl (aA (pv 0) (aA (pv 1) aB)))) (aI fP aF (pv 1))))
 (aG (aN (dF aF9 aFa aFb bA (W8 (pv 0) (pv 1) (bF aB) ⟨rfl,rfl,rfl,rfl⟩) (aA (pv 3) aB))))),?_⟩
  refine⟨_,rfl,_,rfl,_,rfl,d,gs,k,rfl,Y,hl,bc,λH3 sm=>?_⟩;refine⟨_,_,rfl,rfl,_,rfl,_,_,rfl,rfl,.inl ⟨by decide,by decide⟩,_,_,rfl,rfl,?_⟩;have J:DG H3 d gs:=⟨sm _ _ Y.at_,λg G=>sm _ _ (Y.lst g G),Y.adr,Y.key⟩;refine⟨_,rfl,d,rfl,.inl ⟨_,.inl J.at_⟩,_,rfl,by decide,λz hz=>?_⟩;refine aK hz λH4 g4 ez=>?_;have bf:H z=none:=sm.free hz;have bg:z≠d:=λe=>by rw[e,J.at_]at hz;cases hz
  have bh:=sm.trans g4;have av:∀ g∈gs,H4 g.2.1=some (.lst (g.2.2.map V.int)):=λg G=>g4 _ _ (J.lst g G);have nz:∀ g∈gs,g.2.1≠z:=λg G e=>by have:=J.lst g G;rw[e,hz]at this;cases this
  have bi:∀ g∈gs,g.2.1≠d:=λg G=>kC (J.lst g G) J.at_ (by intro z;cases z);refine⟨kvG gs,Sum.inl k,g4 _ _ J.at_,rfl,by simp only[kvG,aFB];exact aQ (by omega),λv hv=>?_,λhv=>?_⟩
  .rw[eC]at hv;obtain⟨g,G,rfl⟩:=aFc.mp hv;have M:=jt G;have a_:g.1=k:=by simpa using sv G
   have eg:=av g M;refine⟨.inl ⟨rfl,_,SqL.of eg⟩,_,rfl,g.2.1,_,_,rfl,rfl,eg,(by rw[aFB];exact aQ (by have:=bc g M;omega)),?_⟩;have bj:∀ g'∈hW k (p - 2 * wgt (gM k) gs - 2 * k) gs,∃ L∈gs,g'.2.1=L.2.1/\g'.1=L.1/\(g'.2.2=if L.1=k then L.2.2++[(p - 2 * wgt (gM k) gs - 2 * k)]else L.2.2):=λg' ba=>by
    obtain⟨L,h0,rfl⟩:=aFg.mp ba;refine⟨L,h0,?_⟩
    by_cases hk:L.1=k
    .rw[da hk,da hk];exact⟨rfl,rfl,rfl⟩
    .rw[bB hk,bB hk];exact⟨rfl,rfl,rfl⟩
   have uniq:∀ L∈gs,L.2.1=g.2.1->L=g:=λL h0 e=>cO (f:=λg:Grp=>g.2.1) Y.adr h0 M e;refine kk (hW k (p - 2 * wgt (gM k) gs - 2 * k) gs) _ (λb u n1 n2 e=>by rw[aE (n2 g M)];exact bh b u e) ⟨by rw[D1,aE (jh (bi g M))];exact g4 _ _ J.at_,λg' ba=>?_,by rw[D2];exact Y.adr,by rw[D3];exact Y.key⟩ (.inl ⟨⟨g,M,a_⟩,rfl⟩);obtain⟨L,h0,e1,e2,e3⟩:=bj g' ba;rw[e1]
   by_cases aw:L.2.1=g.2.1
   .have:=uniq L h0 aw;subst this;rw[aD,e3,da a_,aFQ];rfl
   .have hk:L.1≠k:=λe=>aw (by rw[cO (f:=λg:Grp=>g.1) Y.key h0 M (e.trans a_.symm)]);rw[aE aw,e3,bB hk];exact av L h0
  .rw[eC]at hv;have bn:∀ g∈gs,g.1≠k:=λg G e=>by
    have:=List.find?_eq_none.mp (Option.map_eq_none_iff.mp hv) g G;exact this (by simpa using e)
   rw[C7 (V.ref z) (by rw[eC];exact hv)];have bo:(upd H4 d (.dK (kvG gs++[((Sum.inl k:Key),V.ref z)]))) z=some (.lst []):=by rw[aE bg];exact ez
   refine⟨.inl ⟨rfl,_,SqL.of bo⟩,_,rfl,z,_,_,rfl,rfl,bo,(show 0<sizeLine by decide),?_⟩;have bq:∀ b u,b≠d->b≠z->H4 b=some u->(upd (upd H4 d (.dK (kvG gs++[((Sum.inl k:Key),V.ref z)]))) z (.lst ([]++[V.int (p - 2 * wgt (gM k) gs - 2 * k)]))) b=some u:=λb u n1 n2 e=>by rw[aE n2,aE n1];exact e
   refine kk (gs++[(k,z,[(p - 2 * wgt (gM k) gs - 2 * k)])]) _ (λb u n1 n2 e=>bq b u n1 (λe'=>by rw[e',bf]at e;cases e) (bh b u e)) ⟨?_,λg G=>?_,?_,?_⟩ (.inr ⟨bn,z,bf,rfl⟩)
   .rw[aE (jh bg),aD];unfold kvG;rw[aFQ];rfl
   .rcases aFf.mp G with h | h
    .exact bq _ _ (bi g h) (nz g h) (av g h)
    .rw[aF7.mp h];exact aD
   .rw[aFQ,qx];refine⟨Y.adr,by simp,λx hx y hy=>?_⟩;obtain⟨g,G,rfl⟩:=aFg.mp hx;have bb:y=z:=by simpa using hy
    rw[bb];exact nz g G
   .rw[aFQ,qx];refine⟨Y.key,by simp,λx hx y hy=>?_⟩;obtain⟨g,G,rfl⟩:=aFg.mp hx;have bb:y=k:=by simpa using hy
    rw[bb];exact bn g G
abbrev iQ:Stmt:=top 23
def gP:FnScope ["offsets","place","crowded","ready","size"] ["offsets","place"] (aH iQ):=.m
def zD {f:Addr} {fd:FuncData} (F:Fun K "add_stone" "add_stone" iQ f fd) (B:Bt mg) (aw:dG P w K mg base "crowds" 1 ["offsets"] pT)
 (L:dG P w K mg base "drop_last" 1 ["offsets","size"] nC) (M:dG P w K mg base "add_train" 2 ["offsets","size","place"] lE):FnOk P w K mg base CX0 3 f fd ["offsets","place"] nD:=by
 refine F.ok gP (λvs H Q E h=>?_) (λdm A outer s H vs Q E hr h=>?_)
 .obtain⟨d,gs,p,H0,rfl,_⟩:=h;rfl
 .obtain⟨d,gs,p,H0,rfl,dg,gd,ac,bt,bd,cu,bu,bo,k⟩:=h;have cv:=nV hr;obtain⟨dn,cw⟩:=GoodG.bound gd;refine⟨_,(aC (aM 2 gP.nd (bE aw hr rfl (aA (pv 0) aB)))
 (aC (aCB (rK (i:=3) ["size","some"] ["place","crowded"] [1,2] rfl gP.nd rfl rfl (.of (show dM (aH iQ) _ ["offsets","place","crowded","ready","size"] [1,2] ["place","crowded"]=true by decide +kernel)) (tK (pv 0)) (λ_ _ _=>(lW (n:=2) K rfl rfl (aR (bR (i:=0) (show (["size","some","place","crowded"]:List Str).Nodup by decide +kernel) rfl (Or.inl rfl)) (aR (bR (i:=1) (show (["size","some","place","crowded"]:List Str).Nodup by decide +kernel) rfl (Or.inl rfl)) cR)))) (pI (dQ (by decide) (dQ (by decide) lV))) (λ_ _ _=>rH (aS mZ (aX (bW K rfl) (pv 1) (mO iU aF) (λ_ _=>rfl)) (aI bC (aI bC (pv 2) aF) (iJ cv (pv 3) (pv 0) (λ_ _=>rfl))) (aZ _))) (λ_ _ _=>(pv 0)) (by first | rfl | decide +kernel)))
 (aC (aM 4 gP.nd (i8 rfl rfl B.max (pv 3) aF))
 (rL (dE (aS nN (pv 4) aF (aZ _))
 (aG (aN (bE L hr rfl (aA (pv 0) (aA (pv 4) aB)))))
 bQ)
 (aG (aN (bE M hr rfl (aA (pv 0) (aA (aI bK (pv 4) aF) (aA (pv 1) aB)))))))))),?_⟩
  refine⟨_,rfl,d,gs,rfl,dg,gd,by omega,λg U=>by have:=cw g U;omega,λe kvs H5 he bq ee bv=>?_⟩;have Y:DG H5 d gs:=⟨bq _ _ dg.at_,λg U=>bq _ _ (dg.lst g U),dg.adr,dg.key⟩;have cx:e≠d:=λz=>by rw[z,dg.at_]at he;cases he
  refine⟨d,kvG gs,Y.at_,_,rfl,d,kvG gs,rfl,Y.at_,λod=>?_⟩;have sd:aAa d H5 (upd H5 d (.frz od (.dK (kvG gs)))):=λb o n e=>by rw[aE n];exact e
  have ed:(upd H5 d (.frz od (.dK (kvG gs)))) d=some (.frz od (.dK (kvG gs))):=aD;have bi:∀ g∈gs,(upd H5 d (.frz od (.dK (kvG gs)))) g.2.1=some (.lst (g.2.2.map V.int)):=λg U=>sd _ _ (kC (Y.lst g U) Y.at_ (by intro z;cases z)) (Y.lst g U);have bw:(upd H5 d (.frz od (.dK (kvG gs)))) e=some (.dK kvs):=sd _ _ cx ee;generalize upd H5 d (.frz od (.dK (kvG gs)))=H6 at sd ed bi bw ⊢;have cy:(kvG gs).length=gs.length:=by simp[kvG]
  refine tL (d:=d) (od:=od) (kvs:=kvG gs) (λi ys H7=>Same H6 H7/\ys.length<=i/\∃ ns:List Int,ys=ns.map V.int/\(∀ n∈ns,∃ g∈gs,∃ G:g.2.2≠[],n=g.1/\g.2.2.getLast G=p - 1 - 2 * les (bO gs) g.1)/\(∀ g∈gs.take i,∀ G:g.2.2≠[],g.2.2.getLast G=p - 1 - 2 * les (bO gs) g.1->g.1∈ns)) ⟨Same.refl _,ah _,[],rfl,λn hn=>(nomatch hn),λg U=>by simp at U⟩ ?_ ?_ ?_
  .rintro i ys H7 hi ⟨g7,b_,_⟩;exact⟨g7 _ _ ed,aQ (by omega)⟩
  .rintro i ky x ys H7 t J ⟨g7,b_,ns,rfl,bf,a_⟩ cz;obtain⟨g,U,c_⟩:∃ g,gs[i]?=some g/\((Sum.inl g.1:Key),V.ref g.2.1)=(ky,x):=by
    unfold kvG at J;rw[aFZ]at J;obtain⟨g,h1,h2⟩:=aFc.mp J;exact⟨g,h1,h2⟩
   cases c_;have bg:=aFM U;have g8:=g7.trans (Same.upd (o:=.tup [kV (Sum.inl g.1),V.ref g.2.1]) cz);have ca:(upd H7 t (.tup [kV (Sum.inl g.1),V.ref g.2.1])) t=some (.tup [kV (Sum.inl g.1),V.ref g.2.1]):=aD;generalize upd H7 t (.tup [kV (Sum.inl g.1),V.ref g.2.1])=H8 at g8 ca ⊢;refine⟨t,_,rfl,SqT.of ca,rfl,_,_,rfl,_,_,rfl,rfl,?_⟩;have ba:g.2.2≠[]:=(gd g bg).2;have hv:atI (g.2.2.map V.int) (-1)=some (V.int (g.2.2.getLast ba)):=X4 ba;have cb:DGet H8 e (.int g.1) (some (.int (2 * les (bO gs) g.1))):=by rw[<- bv g bg];exact DGet.k (k:=(Sum.inl g.1:Key)) (g8 _ _ bw)
   refine⟨_,rfl,_,rfl,g.2.1,_,_,_,rfl,rfl,SqL.of (g8 _ _ (bi g bg)),hv,_,rfl,_,_,rfl,rfl,_,rfl,_,rfl,e,_,rfl,cb,_,_,rfl,rfl,_,_,rfl,rfl,_,rfl,?_⟩;have cc:∀ x∈gs.take (i+1),x∈gs.take i\/x=g:=λx J=>by
    rw[aF6,U]at J;rcases aFf.mp J with h | h
    .exact .inl h
    .exact .inr (by simpa using h)
   refine iG (λhc=>?_) (λhc=>?_)
   .refine⟨_,rfl,g8,by rw[aFK,kd];omega,ns++[g.1],by rw[aFQ];rfl,λn hn=>?_,λx J G hl=>?_⟩
    .rcases aFf.mp hn with h | h
     .exact bf n h
     .exact⟨g,bg,ba,by simpa using h,by omega⟩
    .rcases cc x J with h | h
     .exact aFU _ (a_ x h G hl)
     .rw[h];exact aFF _ (by simp)
   .refine⟨g8,by omega,ns,rfl,bf,λx J G hl=>?_⟩;rcases cc x J with h | h
    .exact a_ x h G hl
    .subst h;exact absurd (by omega) hc
  .rintro ys H7 ⟨g7,b_,ns,rfl,bf,a_⟩ D hD;have cf:D≠d:=λz=>by rw[z,g7 _ _ ed]at hD;cases hD
   have dc:(upd H7 D (.lst (ns.map V.int))) d=some (.frz od (.dK (kvG gs))):=by rw[aE (jh cf)];exact g7 _ _ ed
   have eD:(upd (upd H7 D (.lst (ns.map V.int))) d (.dK (kvG gs))) D=some (.lst (ns.map V.int)):=by rw[aE cf,aD]
   have bh:Same H5 (upd (upd H7 D (.lst (ns.map V.int))) d (.dK (kvG gs))):=λb o q=>by
    by_cases hb:b=d
    .subst hb;rw[aD,<- Y.at_];exact q
    .rw[aE hb];exact(g7.trans (Same.upd hD)) _ _ (sd b o hb q)
   refine⟨od,dc,?_⟩;generalize upd (upd H7 D (.lst (ns.map V.int))) d (.dK (kvG gs))=H9 at eD bh ⊢;have cg:DG H9 d gs:=⟨bh _ _ Y.at_,λg U=>bh _ _ (Y.lst g U),dg.adr,dg.key⟩;have bj:=(cu.trans bq).trans bh;rw[cy,aFP]at a_;obtain⟨s0,es,dq,bb,ci⟩:=m7 gd bf a_;refine⟨_,rfl,D,ns,rfl,SqL.of eD,?_⟩;rw[es];refine⟨λcj H'=>∃ av,cj=[some (.ref d),some (.int p),some (.ref e),some (.ref D),some (.int s0)]/\Same H0 H'/\DG H' d av/\GoodG av/\sto av<=59/\(∀ g∈av,H0 g.2.1=none)/\(s0=0/\av=gs\/1<=s0/\∃ g∈gs,∃ G:g.2.2≠[],g.1=s0/\g.2.2.getLast G=p - 1 - 2 * les (bO gs) s0/\av=shr s0 gs),?_,?_⟩
   .refine⟨_,rfl,_,_,rfl,rfl,_,rfl,?_⟩;refine iG (λhc=>?_) (λhc=>?_)
    .rcases bb with hz | ⟨hz,g,U,G,e1,e2⟩
     .omega
     .subst e1;refine⟨_,rfl,_,rfl,d,gs,g,rfl,cg,U,G,λdr ck cm=>⟨shr g.1 gs,rfl,λb o q=>ck b o (λz=>by rw[z,bu]at q;cases q) (λx J z=>by rw[z,bo x J]at q;cases q) (bj b o q),cm,gd.shr _,?_,λx J=>?_,.inr ⟨hz,g,U,G,rfl,e2,rfl⟩⟩⟩
      .have:sto (shr g.1 gs)=sto gs - g.1:=aBy _ dg.key U G;omega
      .obtain⟨y,hy,ez⟩:=aBz J;rw[ez];exact bo y hy
    .rcases bb with hz | ⟨hz,_⟩
     .exact⟨gs,rfl,bj,cg,gd,bt,bo,.inl ⟨hz,rfl⟩⟩
     .omega
   .rintro cj du ⟨av,rfl,bn,cn,cp,df,bc,hs⟩;obtain⟨dv,dh⟩:=GoodG.bound cp;refine⟨_,rfl,_,rfl,_,_,rfl,rfl,_,rfl,d,av,s0+1,p,rfl,cn,by omega,λx J=>by have:=dh x J;omega,λdi dk cq cr br=>?_⟩;rw[X0]at br;obtain⟨ha,hA,hG⟩:=P7 dg.key gd ac bd hs ci br;refine k di dk (λb o q=>cq b o (λz=>by rw[z,bu]at q;cases q) (λx J z=>by rw[z,bc x J]at q;cases q) (bn b o q)) cr hG hA ha λx J=>?_;rcases aAg br J with ⟨y,hy,ez⟩ | hz
    .rw[ez];exact bc y hy
    .exact bn.free hz
abbrev jP:Stmt:=top 22
def kA:FnScope ["row","offsets","place"] ["row"] (aH jP):=.m
inductive uS (H:Hp) (a:Addr) (d:Addr) (row:List Int) (i:Nat) (σ:St) (H3:Hp):Prop
 | mk (gs:List Grp) (v:Option V) (k0_:σ=[some (.ref a),some (.ref d),v]) (k1_:Same H H3) (k2_:DG H3 d gs) (k3_:GoodG gs) (k4_:Asc gs) (k5_:Lst (row.take i) (bO gs)) (k6_:∀ g∈gs,H g.2.1=none):uS H a d row i σ H3
def R8 {f:Addr} {fd:FuncData} (F:Fun K "list_of" "list_of" jP f fd) (B:Bt mg) (F_look_row:dG P w K mg base "look_row" 1 ["row"] kQ) (F_add_stone:dG P w K mg base "add_stone" 3 ["offsets","place"] nD):FnOk P w K mg base CX0 4 f fd ["row"] eP:=by
 refine F.ok kA (λvs H Q E h=>?_) (λcdv A outer s H vs Q E hr h=>?_)
 .obtain⟨a,row,rfl,_⟩:=h;rfl
 .obtain⟨a,row,rfl,ha,hrow,hrl,k⟩:=h;have hu1:=nV hr;refine⟨_,(aC (aN (bE F_look_row hr rfl (aA (pv 0) aB)))
 (aC (aM 1 kA.nd oM)
 (aC (cS ft rfl (bX (pv 0)) (cJ 2 kA.nd)
 (aG (aN (bE F_add_stone hr rfl (aA (pv 1) (aA (pv 2) aB))))))
 (aG (aY (aAm ["size"] ["offset"] ["offsets"] [1] rfl (.of (show dM (aH jP) _ ["row","offsets","place"] [1] ["offsets"]=true by decide +kernel)) (bX (aJ (gN rfl) (by rfl) B.sorted eA (aA (pv 1) aB))) (λ_ _ _=>(bR (i:=0) (show (["size","offset","offsets"]:List Str).Nodup by decide +kernel) rfl (Or.inl rfl))) (fJ (by decide)) (λ_ _ _=>dW) (λ_ _ _=>(aAn K rfl (iJ hu1 (pv 2) (pv 0) (λ_ _=>rfl)))) (λ_ _ _=>(bR (i:=1) (show (["size","offset","offsets"]:List Str).Nodup by decide +kernel) rfl (Or.inl rfl))) (aCA (by decide) (by decide)) (λ_ _ _=>dW) (λ_ _ _=>(bM (aA (pv 0) (aA (pv 1) aB)))))))))),?_⟩
  refine⟨_,rfl,a,row,rfl,ha,hrow,hrl,?_⟩;refine λd hd=>?_;refine aK hd λH1 g1 ed=>?_;have ed:H1 d=some (.dK (kvG [])):=ed;refine⟨_,rfl,a,rfl,⟨_,SqL.of (g1 _ _ ha)⟩,dP (K:=K) (a:=a) (xs:=row.map V.int) (uS H a d row)
   ⟨[],none,rfl,g1,⟨ed,λg hg=>(nomatch hg),List.Pairwise.nil,List.Pairwise.nil⟩,λg hg=>(nomatch hg),λg hg=>(nomatch hg),.nil,λg hg=>(nomatch hg)⟩ (λi σ H3 _ z_=>by obtain⟨_,_,_,sm,_⟩:=z_;exact SqL.of (sm _ _ ha)) ?_ ?_⟩
  .rintro i x σ H3 hi ⟨gs,v,rfl,sm,dg,gd,ac,hl,hfr⟩;obtain⟨z,rfl,hz⟩:=fS hi;have hil:i<row.length:=(aFd.mp hz).1;have htk:row.take (i+1)=row.take i++[z]:=by rw[aF6,hz];rfl
   have hlt:∀ x∈row.take i,x<z:=λx hx=>by
    have hp:(row.take i++[z]).Pairwise (·<·):=by rw[<- htk];exact vz (List.take_sublist _ _) hrow
    exact(List.pairwise_append.mp hp).2.2 x hx z (by simp)
   have hsz:sto gs=(i:Int):=by
    rw[yI,hl.sizx,aFR];omega
   refine⟨_,rfl,_,rfl,d,gs,z,H,rfl,dg,gd,ac,by omega,hl.bd λx hx=>by have:=hlt x hx;omega,sm,hd,hfr,λgs' H' sm' dg' gd' ac' hadd hfr'=>?_⟩;exact⟨gs',_,rfl,sm',dg',gd',ac',by rw[htk];exact .snoc hl hlt hadd,hfr'⟩
  .rintro σ H3 ⟨gs,v,rfl,sm,dg,gd,ac,hl,hfr⟩;rw[aFB,aFP]at hl;obtain⟨hb1,hb2⟩:=GoodG.bound gd;have hsz:sto gs=(row.length:Int):=by rw[yI,hl.sizx]
   have hks:kF (kvG gs) (gs.map (·.1)):=by unfold kF kvG;simp[Function.comp]
   refine⟨_,rfl,d,kvG gs,gs.map (·.1),rfl,dg.at_,hks,by rw[aFB];omega,λl ms hnl hp hs=>?_⟩;refine aK hnl λH5 g5 el=>?_;have hst:=wQ hp hs dg.key;have dg5:DG H5 d gs:=⟨g5 _ _ dg.at_,λg hg=>g5 _ _ (dg.lst g hg),dg.adr,dg.key⟩;have hsize:∀ i,(laid (ms.take i) gs).length<=60:=λi=>by
    have h1:(laid (ms.take i) gs).length<=(laid ms gs).length:=by
     conv=>rhs;rw[<- wa i ms,qS,aFK]
     omega
    have h2:=(wO gs hp).length_eq;rw[wP dg.key]at h2;have h3:=jW hl.pos;have h4:(szs (bO gs)).sum=siz (bO gs):=rfl;have h5:=yI gs;omega
   refine⟨l,rfl,⟨_,SqL.of el⟩,Q4 (K:=K) (a:=l) (xs:=ms.map V.int) (λi ys H6=>Same H5 H6/\Prs H6 ys (laid (ms.take i) gs)) ⟨Same.refl _,.nil⟩ ?_ ?_ ?_⟩
   .rintro i ys H6 hi ⟨sm6,pr6⟩;exact⟨SqL.of (sm6 _ _ el),by rw[pr6.len];exact aQ (by have:=hsize i;omega)⟩
   .rintro i x ys H6 hi ⟨sm6,pr6⟩;obtain⟨m,rfl,hm⟩:=fS hi;obtain⟨g,hg,hgm⟩:=aFg.mp (hp.mem_iff.mp (aFM hm));have hgm:g.1=m:=hgm;subst hgm;have dg6:DG H6 d gs:=⟨sm6 _ _ dg5.at_,λg hg=>sm6 _ _ (dg5.lst g hg),dg.adr,dg.key⟩;have htk:laid (ms.take (i+1)) gs=laid (ms.take i) gs++g.2.2.map λo=>(g.1,o):=by
     rw[aF6,hm,qS]
     congr 1
     exact aAp dg.key hg
    have hgl:=hsize (i+1);rw[htk,aFK,aFB]at hgl;refine⟨_,rfl,_,rfl,d,_,rfl,dg6.get hg,g.2.1,rfl,⟨_,SqL.of (dg6.lst g hg)⟩,Q5 (K:=K) (a:=g.2.1) (xs:=g.2.2.map V.int) (λj ys H7=>Same H6 H7/\Prs H7 ys (laid (ms.take i) gs++(g.2.2.take j).map λo=>(g.1,o))) ⟨Same.refl _,by rw[List.take_zero,qy,jy];exact pr6⟩ ?_ ?_ ?_⟩
    .rintro j ys H7 hj ⟨sm7,pr7⟩;refine⟨SqL.of (sm7 _ _ (dg6.lst g hg)),?_⟩;rw[pr7.len,aFK,aFB,aFR];exact aQ (by omega)
    .rintro j x ys H7 hj ⟨sm7,pr7⟩;obtain⟨o,rfl,ho⟩:=fS hj;refine⟨_,rfl,_,rfl,(show 2<=sizeLine by decide),λt ht=>⟨sm7.trans (Same.upd ht),?_⟩⟩;rw[aF6,ho,aFQ,<- jq];exact Paired.append' (pr7.mono (TupS.new ht)) (.cons ⟨t,rfl,aD⟩ .nil)
    .rintro ys H7 ⟨sm7,pr7⟩;rw[aFB,aFP]at pr7;rw[htk];exact⟨sm6.trans sm7,pr7⟩
   .rintro ys H6 ⟨sm6,pr6⟩ D hD;rw[aFB,aFP]at pr6;have hpm:(laid ms gs).Perm (bO gs):=by rw[<- wP dg.key];exact wO gs hp
    have sm36:=(sm.trans g5).trans sm6;exact k (laid ms gs) (hl.perm hpm.symm) (qT ac hst) D ys _ (sm36.free hD) (sm36.trans (Same.upd hD)) aD (pr6.mono (TupS.new hD))
def F9 {f:Addr} {fd:FuncData} (F:Fun K "list_of" "list_of" jP f fd) (B:Bt mg) (X:aV K mg) (F_look_row:cN P w K mg base "look_row" 4 ["row"] (jV X)):FnOk P w K mg base (CXR P w) 5 f fd ["row"] (cM X):=by
 refine F.okX kA (λvs H Q E h=>?_) (λcdv A outer s H vs Q E hfr hr h=>?_)
 .obtain⟨a,r,rfl,_⟩:=h;rfl
 .obtain⟨a,row,rfl,ha,hlen,hd,k⟩:=h;have hu1:=nV hr;refine⟨_,(aC (aN (bN F_look_row hr rfl (eW hfr) (aA (pv 0) aB)))
 (aC aP
 (aC aP
 (aG aP)))),?_⟩
  exact⟨_,rfl,a,row,rfl,ha,hlen,jI (λhn=>absurd hn hd) λ_=>k _ (Same.refl _)⟩
abbrev oZ:Stmt:=top 21
def xB:FnScope ["row"] ["row"] (aH oZ):=.m
def u6 {f:Addr} {fd:FuncData} (F:Fun K "trains" "trains" oZ f fd) (B:Bt mg) (z:dG P w K mg base "list_of" 4 ["row"] eP):FnOk P w K mg base CX0 5 f fd ["row"] eP:=by
 refine F.ok xB (λvs H Q E h=>?_) (λL A outer s H vs Q E M h=>?_)
 .obtain⟨a,row,rfl,_⟩:=h;rfl
 .obtain⟨a,row,rfl,U,G,J,k⟩:=h;refine⟨_,(aG (aY (bE z M rfl (aA (pv 0) aB)))),?_⟩;exact⟨_,rfl,a,row,rfl,U,G,J,λY h1 h2 l vs H' a b c d=>k Y h1 h2 l vs H' a b c d⟩
def R9 {f:Addr} {fd:FuncData} (F:Fun K "trains" "trains" oZ f fd) (B:Bt mg) (X:aV K mg) (z:cN P w K mg base "list_of" 5 ["row"] (kY eP (cM X))):FnOk P w K mg base (CXR P w) 6 f fd ["row"] (cM X):=by
 refine F.okX xB (λvs H Q E h=>?_) (λL A outer s H vs Q E G J h=>?_)
 .obtain⟨a,r,rfl,_⟩:=h;rfl
 .obtain⟨a,row,rfl,M,hlen,hd,k⟩:=h;have U:=nV J;refine⟨_,(aG (aY (bN z J rfl (eW G) (aA (pv 0) aB)))),?_⟩;exact⟨_,rfl,.inr (vE (Same.refl _) M hlen hd k)⟩
abbrev gQ:Stmt:=top 27
def mU:FnScope ["creel"] ["creel"] (aH gQ):=.m
def uT {f:Addr} {fd:FuncData} (F:Fun K "look_creel" "look_creel" gQ f fd) (B:Bt mg) (X:aV K mg) (R_BadCreel:hU P w K mg base "BadCreel" X.creel ["self","why"] (O6 "BadCreel" X.creel)):FnOk P w K mg base (CXR P w) 4 f fd ["creel"] (oG X):=by
 refine F.okX mU (λvs H Q E h=>?_) (λcdv A outer s H vs Q E hfr hr h=>?_)
 .obtain⟨c,rfl,_⟩:=h;rfl
 .obtain⟨c,rfl,k1,k2⟩:=h;refine⟨_,(aG (dE (aS kD (pv 0) aF (aZ _))
 (aG (pM (N7 hfr) R_BadCreel rfl rfl hr rfl (aA cV aB)))
 bQ)),?_⟩
  exact⟨_,rfl,_,_,rfl,rfl,_,rfl,iG (λz=>rd0 (k2 z)) λz=>k1 (by omega)⟩
def vG {f:Addr} {fd:FuncData} (F:Fun K "look_creel" "look_creel" gQ f fd) (B:Bt mg):FnOk P w K mg base CX0 1 f fd ["creel"] kT:=by
 refine F.ok mU (λvs H Q E h=>?_) (λcdv A outer s H vs Q E hr h=>?_)
 .obtain⟨c,rfl,_⟩:=h;rfl
 .obtain⟨c,rfl,hc,k⟩:=h;refine⟨_,(aG (dE (aS kD (pv 0) aF (aZ _))
 (aG aP)
 bQ)),?_⟩
  exact⟨_,rfl,_,_,rfl,rfl,_,rfl,jH (by omega) k⟩
abbrev lM:Stmt:=top 28
def dU:FnScope ["row","creel","behind","held","niche","place"] ["row","creel"] (aH lM):=.m
inductive xC (H:Hp) (a:Addr) (l:Addr) (c:Int) (row:List Int) (i:Nat) (σ:St) (H2:Hp):Prop
 | mk (bs:List Int) (h:Nat) (n:Int) (v:Option V) (k0_:σ=[some (.ref a),some (.int c),some (.ref l),some (.int h),some (.int n),v]) (k1_:Same H H2) (k2_:H2 l=some (.lst (bs.map V.int))) (k3_:bs++goM c (row.drop i) h n=kE row c) (k4_:bs.length+h=i):xC H a l c row i σ H2
inductive xD (H:Hp) (a:Addr) (l:Addr) (c:Int) (row:List Int) (i:Nat) (p:Int) (σ:St) (H3:Hp):Prop
 | mk (bs:List Int) (h:Nat) (n:Int) (k0_:σ=[some (.ref a),some (.int c),some (.ref l),some (.int h),some (.int n),some (.int p)]) (k1_:Same H H3) (k2_:H3 l=some (.lst (bs.map V.int))) (k3_:bs++goM c (p :: row.drop (i+1)) h n=kE row c) (k4_:bs.length+h=i):xD H a l c row i p σ H3
inductive xE (H:Hp) (a:Addr) (l:Addr) (c:Int) (row:List Int) (i:Nat) (p:Int) (n:Int) (σ:St) (H4:Hp):Prop
 | mk (bs:List Int) (h:Nat) (k0_:σ=[some (.ref a),some (.int c),some (.ref l),some (.int h),some (.int n),some (.int p)]) (k1_:Same H H4) (k2_:H4 l=some (.lst (bs.map V.int))) (k3_:bs++goM c (row.drop (i+1)) h (p+1)=kE row c) (k4_:bs.length+h=i+1):xE H a l c row i p n σ H4
inductive xF (H:Hp) (a:Addr) (l:Addr) (c:Int) (row:List Int) (i:Nat) (p:Int) (n:Int) (σ:St) (H4:Hp):Prop
 | mk (bs:List Int) (h:Nat) (k0_:σ=[some (.ref a),some (.int c),some (.ref l),some (.int h),some (.int n),some (.int p)]) (k1_:Same H H4) (k2_:H4 l=some (.lst (bs.map V.int))) (k3_:bs++goM c (row.drop (i+1)) h (p+1)=kE row c) (k4_:bs.length+h=i+1):xF H a l c row i p n σ H4
def u7 {f:Addr} {fd:FuncData} (F:Fun K "walked" "walked" lM f fd) (B:Bt mg) (F_look_row:dG P w K mg base "look_row" 1 ["row"] kQ) (F_look_creel:dG P w K mg base "look_creel" 1 ["creel"] kT):FnOk P w K mg base CX0 2 f fd ["row","creel"] oB:=by
 refine F.ok dU (λvs H Q E h=>?_) (λcdv A outer s H vs Q E hr h=>?_)
 .obtain⟨a,r,c,rfl,_⟩:=h;rfl
 .obtain⟨a,row,c,rfl,ha,hrow,hlen,hc,k⟩:=h;refine⟨_,(aC (aN (bE F_look_row hr rfl (aA (pv 0) aB)))
 (aC (aN (bE F_look_creel hr rfl (aA (pv 1) aB)))
 (aC (aM 2 dU.nd (bF aB))
 (aC (aM 3 dU.nd aF)
 (aC (aM 4 dU.nd aF)
 (aC (cS ft rfl (bX (pv 0)) (cJ 5 dU.nd)
 (aC (fF ft (PW.pt (J6 (aS nN (pv 3) aF (aZ _)) (xI (aS kD (pv 4) (pv 5) (aZ _)))))
 (aC (aN (dF aF9 aFa aFb bA (pv 2) (aA (pv 4) aB)))
 (aC (jR (i:=3) dU.nd rfl (Or.inl rfl) aF x6)
 (aG (jR (i:=4) dU.nd rfl (Or.inr rfl) aF mX)))))
 (rL (dE (aS kD (pv 3) (pv 1) (aZ _))
 (aG (jR (i:=3) dU.nd rfl (Or.inl rfl) aF mX))
 (aG (aN (dF aF9 aFa aFb bA (pv 2) (aA (pv 5) aB)))))
 (aG (aM 4 dU.nd (aI bK (pv 5) aF))))))
 (aG (aY (aI pF (pv 2) (eR ["more"] ["niche"] [4] rfl (.of (show dM (aH lM) _ ["row","creel","behind","held","niche","place"] [4] ["niche"]=true by decide +kernel)) (gT rfl B.range (aA (pv 3) aB)) (λ_ _ _=>(bR (i:=0) (show (["more","niche"]:List Str).Nodup by decide +kernel) rfl (Or.inl rfl))) (fJ (by decide)) (λ_ _ _=>dW) (λ_ _ _=>(aI bK (pv 1) (pv 0))))))))))))),?_⟩
  refine⟨_,rfl,a,row,rfl,ha,hrow,hlen,_,rfl,c,rfl,hc,by decide,λl hl=>?_⟩;refine⟨_,rfl,a,rfl,⟨_,SqL.of (Same.upd hl _ _ ha)⟩,dP (K:=K) (a:=a) (xs:=row.map V.int) (xC H a l c row)
   ⟨[],0,0,none,rfl,Same.upd hl,aD,rfl,rfl⟩ (λi σ H2 _ z_=>by obtain⟨bs,h,n,v,_,sm,_⟩:=z_;exact SqL.of (sm _ _ ha)) ?_ ?_⟩
  .rintro i x σ H2 hi ⟨bs,h,n,v,rfl,sm,el,eq,hb⟩;have hil:i<row.length:=by
    have:=(aFd.mp hi).1;simpa using this
   obtain⟨p,rfl,hz⟩:=fS hi;have hd:row.drop i=p :: row.drop (i+1):=by
    obtain⟨h1,rfl⟩:=aFd.mp hz;exact jm h1
   rw[hd]at eq;refine nL (xD H a l c row i p)
    (fun σ _=>match σ with | [_,_,_,some (.int h),_,_]=>h.toNat | _=>0) ⟨bs,h,n,rfl,sm,el,eq,hb⟩ ?_ ?_
   .rintro σ H3 ⟨bs,h,n,rfl,sm3,el3,eq3,hb3⟩;refine⟨_,rfl,_,_,rfl,rfl,_,rfl,iG (λh0=>?_) (λh0=>?_)⟩
    .refine⟨_,rfl,_,rfl,_,_,rfl,rfl,_,rfl,iG (λh1=>?_) (λh1=>?_)⟩
     .obtain⟨h',rfl⟩:∃ h',h=h'+1:=⟨h - 1,by omega⟩;refine⟨_,rfl,.inl ⟨rfl,_,SqL.of el3⟩,_,rfl,l,_,_,rfl,rfl,el3,(by rw[aFB];exact aQ (by omega)),?_⟩;refine⟨_,rfl,_,_,rfl,rfl,_,rfl,_,_,rfl,rfl,?_⟩;rw[aBl h1]at eq3;refine⟨⟨bs++[n],h',n+1,?_,Same.upd' hl sm3,by rw[aD,aFQ];rfl,by rw[jq];exact eq3,by simp;omega⟩,?_⟩
      .have e1:((h'+1:Nat):Int) - 1=(h':Int):=by omega
       show [some (V.ref a),some (V.int c),some (V.ref l),some (V.int (((h'+1:Nat):Int) - 1)),some (V.int (n+1)),some (V.int p)]=_;rw[e1]
      .show (((h'+1:Nat):Int) - 1).toNat<((h'+1:Nat):Int).toNat;omega
     .rw[V5 (.inr (by omega))]at eq3;refine⟨xE H a l c row i p n,?_,?_⟩
      .refine⟨_,rfl,_,rfl,_,_,rfl,rfl,_,rfl,iG (λh2=>?_) (λh2=>?_)⟩
       .rw[da h2]at eq3;exact⟨_,rfl,_,_,rfl,rfl,bs,h+1,rfl,sm3,el3,eq3,by omega⟩
       .rw[bB h2]at eq3;refine⟨_,rfl,.inl ⟨rfl,_,SqL.of el3⟩,_,rfl,l,_,_,rfl,rfl,el3,(by rw[aFB];exact aQ (by omega)),?_⟩;exact⟨bs++[p],h,rfl,Same.upd' hl sm3,by rw[aD,aFQ];rfl,by rw[jq];exact eq3,by simp;omega⟩
      .rintro σ H4 ⟨bs,h,rfl,sm4,el4,eq4,hb4⟩;exact⟨_,rfl,_,_,rfl,rfl,bs,h,p+1,_,rfl,sm4,el4,eq4,hb4⟩
    .have h00:h=0:=by omega
     rw[V5 (.inl h00)]at eq3;refine⟨xF H a l c row i p n,?_,?_⟩
     .refine⟨_,rfl,_,rfl,_,_,rfl,rfl,_,rfl,iG (λh2=>?_) (λh2=>?_)⟩
      .rw[da h2]at eq3;exact⟨_,rfl,_,_,rfl,rfl,bs,h+1,rfl,sm3,el3,eq3,by omega⟩
      .rw[bB h2]at eq3;refine⟨_,rfl,.inl ⟨rfl,_,SqL.of el3⟩,_,rfl,l,_,_,rfl,rfl,el3,(by rw[aFB];exact aQ (by omega)),?_⟩;exact⟨bs++[p],h,rfl,Same.upd' hl sm3,by rw[aD,aFQ];rfl,by rw[jq];exact eq3,by simp;omega⟩
     .rintro σ H4 ⟨bs,h,rfl,sm4,el4,eq4,hb4⟩;exact⟨_,rfl,_,_,rfl,rfl,bs,h,p+1,_,rfl,sm4,el4,eq4,hb4⟩
   .intro σ H3 Q1 Q2 hq h;obtain⟨x,e,i1,j1,e1,e2,b1,e3,h⟩:=h;refine⟨x,e,i1,j1,e1,e2,b1,e3,?_⟩;cases b1 with
    | false=>exact hq _ _ h
    | true =>
     obtain⟨x,e,y,e',i2,j2,e4,e5,b2,e6,h⟩:=h;exact⟨x,e,y,e',i2,j2,e4,e5,b2,e6,hq _ _ h⟩
  .rintro σ H2 ⟨bs,h,n,v,rfl,sm,el,eq,hb⟩;rw[aFB]at eq hb;rw[mu]at eq;refine⟨_,rfl,_,rfl,_,rfl,by omega,by omega,gZ (lo:=0) (n:=h) (λi ys H3=>H3=H2/\ys=((List.range i).map (λ(k:Nat)=>n+(k:Int))).map V.int) ⟨rfl,rfl⟩ ?_ ?_ ?_⟩
   .rintro i ys H3 hi ⟨rfl,rfl⟩;simp only[aFB,jz];exact aQ (by omega)
   .rintro i ys H3 hi ⟨rfl,rfl⟩;refine⟨_,rfl,_,rfl,_,_,rfl,rfl,rfl,?_⟩;rw[pe,aFQ,aFQ];simp
   .rintro ys H3 ⟨rfl,rfl⟩ D hD;have smD:=Same.upd (o:=.lst (((List.range h).map (λ(k:Nat)=>n+(k:Int))).map V.int)) hD;refine⟨l,D,_,_,rfl,rfl,smD _ _ el,aD,?_,λq hq=>?_⟩
    .simp only[aFB,jz];exact nZ (by omega)
    .rw[<- aFQ];have smH:=sm.trans smD;refine k q _ (smH.free hq) (Same.upd' (smH.free hq) smH) ?_;rw[aD,<- eq];rfl
def S0 {f:Addr} {fd:FuncData} (F:Fun K "walked" "walked" lM f fd) (B:Bt mg) (X:aV K mg) (F_look_row:cN P w K mg base "look_row" 4 ["row"] (jV X)) (F_look_creel:cN P w K mg base "look_creel" 4 ["creel"] (oG X)):FnOk P w K mg base (CXR P w) 5 f fd ["row","creel"] (mB X):=by
 refine F.okX dU (λvs H Q E h=>?_) (λcdv A outer s H vs Q E hfr hr h=>?_)
 .obtain⟨a,r,c,rfl,_⟩:=h;rfl
 .obtain⟨a,row,c,rfl,ha,hlen,hd,k⟩:=h;refine⟨_,(aC (aN (bN F_look_row hr rfl (eW hfr) (aA (pv 0) aB)))
 (aC (aN (bN F_look_creel hr rfl (eW hfr) (aA (pv 1) aB)))
 (aC aP
 (aC aP
 (aC aP
 (aC aP
 (aG aP))))))),?_⟩
  refine⟨_,rfl,a,row,rfl,ha,hlen,jI (λhn=>?_) λhn=>by rw[kZ hn]at k;exact k⟩;rw[yD hn]at hd k;refine⟨_,rfl,c,rfl,λh1=>absurd (C4.mpr h1) hd,λh1=>?_⟩;rw[show jJ c=.creel by unfold jJ;rw[da h1]]at k;exact k
abbrev gX:Stmt:=top 29
def uU:FnScope ["row","creel"] ["row","creel"] (aH gX):=.m
def S1 {f:Addr} {fd:FuncData} (F:Fun K "carried" "carried" gX f fd) (B:Bt mg) (G:dG P w K mg base "walked" 2 ["row","creel"] oB):FnOk P w K mg base CX0 3 f fd ["row","creel"] lY:=by
 refine F.ok uU (λvs H Q E h=>?_) (λav A outer s H vs Q E hr h=>?_)
 .obtain⟨a,r,c,rfl,_⟩:=h;rfl
 .obtain⟨a,row,c,rfl,Y,J,hl,hc,k⟩:=h;refine⟨_,(aG (aY (aJ aL (by rfl) B.len jg (aA (eR ["place"] ["row"] [0] rfl (.of (show dM (aH gX) _ ["row","creel"] [0] ["row"]=true by decide +kernel)) (bX (bE G hr rfl (aA (pv 0) (aA (pv 1) aB)))) (λ_ _ _=>(bR (i:=0) (show (["place","row"]:List Str).Nodup by decide +kernel) rfl (Or.inl rfl))) (fJ (by decide)) (λ_ _ _=>rH (aS (mQ K rfl) (pv 0) (pv 1) (by with_unfolding_all rfl))) (λ_ _ _=>(pv 0))) aB)))),?_⟩;refine⟨_,rfl,_,rfl,a,row,c,rfl,Y,J,hl,hc,λl H1 aw g1 el=>?_⟩;have U:=g1 _ _ Y;refine⟨l,rfl,⟨_,SqL.of el⟩,gW (K:=K) (a:=l) (xs:=(kE row c).map V.int) (λi ys L=>L=H1/\ys=(((kE row c).take i).filter λx=>decide (x∉row)).map V.int) ⟨rfl,rfl⟩ ?_ ?_ ?_⟩
  .rintro i ys L hi ⟨rfl,rfl⟩;refine⟨SqL.of el,?_⟩;rw[aFB];have h1:=ph (λx=>decide (x∉row)) ((kE row c).take i);exact aQ (by rw[aFR,wB]at h1;omega)
  .rintro i x ys L hi ⟨rfl,rfl⟩;obtain⟨z,rfl,hz⟩:=fS hi;have sn:=C2 (λx=>decide (x∉row)) hz;refine⟨_,rfl,_,rfl,a,_,rfl,.inl (SqL.of U),rfl,j0 _,_,rfl,?_⟩;rw[show (if true=true then !inV (V.int z) (row.map V.int)else inV (V.int z) (row.map V.int))=!decide (z∈row)by rw[da rfl,aAT]]
   by_cases M:z∈row
   .rw[aFX M];rw[bB (by simpa using M),jy]at sn;exact⟨rfl,sn.symm⟩
   .rw[aFW M];rw[da (aFX M)]at sn;exact⟨_,rfl,rfl,sn.symm⟩
  .rintro ys L ⟨rfl,rfl⟩ D hD;refine⟨D,_,rfl,.inl (SqL.of aD),?_⟩;rw[aFB,aFB,aFP];exact k _ (g1.trans (Same.upd hD))
def J0 {f:Addr} {fd:FuncData} (F:Fun K "carried" "carried" gX f fd) (B:Bt mg) (X:aV K mg) (z:cN P w K mg base "walked" 5 ["row","creel"] (kY oB (mB X))):FnOk P w K mg base (CXR P w) 6 f fd ["row","creel"] (mB X):=by
 refine F.okX uU (λvs H Q E h=>?_) (λJ A outer s H vs Q E G L h=>?_)
 .obtain⟨a,r,c,rfl,_⟩:=h;rfl
 .obtain⟨a,row,c,rfl,M,hlen,hd,k⟩:=h;refine⟨_,(aG (aY (aJ aL (by rfl) B.len jg (aA (eR ["place"] ["row"] [0] rfl (.of (show dM (aH gX) _ ["row","creel"] [0] ["row"]=true by decide +kernel)) (bX (bN z L rfl (eW G) (aA (pv 0) (aA (pv 1) aB)))) (λ_ _ _=>(bR (i:=0) (show (["place","row"]:List Str).Nodup by decide +kernel) rfl (Or.inl rfl))) (fJ (by decide)) (λ_ _ _=>rH (aS (mQ K rfl) (pv 0) (pv 1) (by with_unfolding_all rfl))) (λ_ _ _=>(pv 0))) aB)))),?_⟩;exact⟨_,rfl,_,rfl,.inr ⟨a,row,c,rfl,M,hlen,hd,k⟩⟩
abbrev iR:Stmt:=top 31
def cT:FnScope ["row","pairs","first","last","start","end","length"] ["row"] (aH iR):=.m
def zE {f:Addr} {fd:FuncData} (F:Fun K "is_ranked" "is_ranked" iR f fd) (B:Bt mg) (G:dG P w K mg base "stretches" 2 ["row"] cL):FnOk P w K mg base CX0 3 f fd ["row"] tF:=by
 refine F.ok cT (λvs H Q E h=>?_) (λbg A outer s H vs Q E hr h=>?_)
 .obtain⟨a,r,rfl,_⟩:=h;rfl
 .obtain⟨a,row,rfl,ha,Y,hlen,k⟩:=h;refine⟨_,(aC (aM 1 cT.nd (bE G hr rfl (aA (pv 0) aB)))
 (aC (cS ft rfl (aA1 rfl B.zip (aA (pv 1) (aA (eM gA (pv 1) (fZ aF) fY) aB))) (fE rfl (aR (fE rfl (aR (cJ 2 cT.nd) (aR (cJ 3 cT.nd) cR))) (aR (fE rfl (aR (cJ 4 cT.nd) (aR (cJ 5 cT.nd) cR))) cR)))
 (aC (aM 6 cT.nd (aI bK (aI bC (pv 3) (pv 2)) aF))
 (aG (dE (PW.pt (S8 (aS kD (aI bK (aI bC (pv 5) (pv 4)) aF) (pv 6) (aZ _)) (xJ (aS kD (aI bC (aI bC (pv 4) (pv 3)) aF) (pv 6) (aZ _)))))
 (aG (aY vM))
 bQ))))
 (aG (aY vM)))),?_⟩
  refine⟨_,rfl,a,row,rfl,ha,Y,hlen,λl us H1 hl g1 el pr=>?_⟩;refine⟨_,rfl,_,rfl,_,rfl,l,_,rfl,SqL.of el,λp L=>?_⟩;rw[show iE us (some 1) none=us.drop 1 from pP us 1];refine aK L λH2 g2 ep=>?_;have av:=g2 _ _ el;have aw:Prs H2 us (bD row):=pr.mono (TupS.same g2);have s2:=g1.trans g2;have e:us.length=(bD row).length:=pr.len;refine⟨l,p,us,us.drop 1,rfl,SqL.of av,SqL.of ep,W2 (K:=K) (a:=l) (b:=p) (xs:=us) (ys:=us.drop 1) (us.length - 1) (by simp) (λi σ H3=>∃ v2 v3 v4 v5 v6,σ=[some (.ref a),some (.ref l),v2,v3,v4,v5,v6]/\Same H2 H3/\∀ j,j<i->∀ p q,(bD row)[j]?=some p->(bD row)[j+1]?=some q->rkP p q)
   ⟨none,none,none,none,none,rfl,Same.refl _,λj hj=>absurd hj (ss _)⟩ (λi σ H3 _ ⟨_,_,_,_,_,_,M,_⟩=>⟨SqL.of (M _ _ av),SqL.of (M _ _ ep)⟩) ?_ ?_⟩
  .rintro i x y σ H3 t hx hy ⟨v2,v3,v4,v5,v6,rfl,M,hj⟩ hn;obtain⟨p1,t1,a_,rfl,bb⟩:=dR aw hx;have bc:us[i+1]?=some y:=by rw[ub]at hy;rw[xb];exact hy
   obtain⟨p2,t2,ba,rfl,bf⟩:=dR aw bc;have J:=M.trans (Same.upd (o:=.tup [V.ref t1,V.ref t2]) hn);have f1:=J _ _ bb;have f2:=J _ _ bf;refine⟨t,_,rfl,SqT.of aD,rfl,_,_,rfl,t1,_,rfl,SqT.of f1,rfl,_,_,rfl,_,_,rfl,rfl,_,_,rfl,t2,_,rfl,SqT.of f2,rfl,_,_,rfl,_,_,rfl,rfl,rfl,?_⟩;refine⟨_,rfl,_,rfl,_,_,rfl,rfl,_,_,rfl,rfl,?_⟩;have no:¬ rkP p1 p2->(false=true↔Rnk (bD row)):=λh=>⟨λz=>(by cases z),λz=>absurd (z i p1 p2 a_ ba) h⟩;refine⟨_,rfl,_,rfl,_,_,rfl,rfl,_,_,rfl,rfl,_,rfl,_,_,rfl,rfl,_,rfl,iG (λh1=>?_) (λh1=>?_)⟩
   .exact k false _ (no λz=>by have:=z.1;omega) (s2.trans J)
   .refine⟨_,rfl,_,rfl,_,_,rfl,rfl,_,_,rfl,rfl,_,rfl,_,_,rfl,rfl,_,rfl,iG (λh2=>?_) (λh2=>?_)⟩
    .exact k false _ (no λz=>by have:=z.2;omega) (s2.trans J)
    .refine⟨_,_,_,_,_,rfl,J,λj bh p q L U=>?_⟩
     by_cases ej:j=i
     .subst ej;rw[a_]at L;rw[ba]at U;cases L;cases U;exact⟨by omega,by omega⟩
     .exact hj j (by omega) p q L U
  .rintro σ H3 ⟨v2,v3,v4,v5,v6,rfl,M,hj⟩;refine k true _ ⟨λ_ j p q L U=>hj j ?_ p q L U,λ_=>rfl⟩ (s2.trans M);have:=(aFd.mp U).1;omega
def vH {f:Addr} {fd:FuncData} (F:Fun K "is_ranked" "is_ranked" iR f fd) (B:Bt mg) (X:aV K mg) (z:cN P w K mg base "stretches" 5 ["row"] (kY cL (cM X))):FnOk P w K mg base (CXR P w) 6 f fd ["row"] (cM X):=by
 refine F.okX cT (λvs H Q E h=>?_) (λJ A outer s H vs Q E G L h=>?_)
 .obtain⟨a,r,rfl,_⟩:=h;rfl
 .obtain⟨a,row,rfl,M,hlen,hd,k⟩:=h;refine⟨_,(aC (aM 1 cT.nd (bN z L rfl (eW G) (aA (pv 0) aB)))
 (aC aP
 (aG aP))),?_⟩
  exact⟨_,rfl,.inr (vE (Same.refl _) M hlen hd k)⟩
abbrev gR:Stmt:=top 32
def bP:FnScope ["row","pairs","count","size","offset","longer","other","lack"] ["row"] (aH gR):=.m
def vI {f:Addr} {fd:FuncData} (F:Fun K "rank_count" "rank_count" gR f fd) (B:Bt mg) (F_list_of:dG P w K mg base "list_of" 4 ["row"] eP):FnOk P w K mg base CX0 5 f fd ["row"] R5:=by
 refine F.ok bP (λvs H Q E h=>?_) (λcdv A outer s H vs Q E hr h=>?_)
 .obtain⟨a,r,rfl,_⟩:=h;rfl
 .obtain⟨a,row,rfl,ha,hrow,hlen,k⟩:=h;refine⟨_,(aC (aM 1 bP.nd (bE F_list_of hr rfl (aA (pv 0) aB)))
 (aC (aM 2 bP.nd aF)
 (aC (cS ft rfl (aA1 rfl B.zip (aA (pv 1) (aA (eM gA (pv 1) (fZ aF) fY) aB))) (fE rfl (aR (fE rfl (aR (cJ 3 bP.nd) (aR (cJ 4 bP.nd) cR))) (aR (fE rfl (aR (cJ 5 bP.nd) (aR (cJ 6 bP.nd) cR))) cR)))
 (aG (dE (aS kD (pv 3) (pv 5) (aZ _))
 (aC (aM 7 bP.nd (aI bC (aI bC (aI bK (pv 3) (pv 4)) (pv 5)) (pv 6)))
 (aG (aM 2 bP.nd (aJ (Z5 rfl) (by rfl) B.max sQ (aA (pv 2) (aA (mO iU (aI nM (mO iU (pv 7)) (aI bC (pv 5) (pv 3)))) aB))))))
 bQ)))
 (aG (aY (pv 2)))))),?_⟩
  refine⟨_,rfl,a,row,rfl,ha,hrow,hlen,λqs hq1 hq2 l us H1 hl g1 el pr=>?_⟩;refine⟨_,rfl,_,rfl,_,rfl,l,_,rfl,SqL.of el,λp hp=>?_⟩;rw[show iE us (some 1) none=us.drop 1 from pP us 1];refine aK hp λH2 g2 ep=>?_;have el2:=g2 _ _ el;have pr2:Prs H2 us qs:=pr.mono (TupS.same g2);have s2:=g1.trans g2;have e:us.length=qs.length:=pr.len;have hsz:=hq1.sizx;refine⟨l,p,us,us.drop 1,rfl,SqL.of el2,SqL.of ep,W2 (K:=K) (a:=l) (b:=p) (xs:=us) (ys:=us.drop 1) (us.length - 1) (by simp) (λi σ H3=>∃ (c:Int) (v3 v4 v5 v6 v7:Option V),σ=[some (.ref a),some (.ref l),some (.int c),v3,v4,v5,v6,v7]/\Same H2 H3)
   ⟨0,none,none,none,none,none,rfl,Same.refl _⟩ (λi σ H3 _ ⟨_,_,_,_,_,_,_,sm⟩=>⟨SqL.of (sm _ _ el2),SqL.of (sm _ _ ep)⟩) ?_ ?_⟩
  .rintro i x y σ H3 t hx hy ⟨c,v3,v4,v5,v6,v7,rfl,sm⟩ hn;obtain⟨p1,t1,hp1,rfl,et1⟩:=dR pr2 hx;have hy':us[i+1]?=some y:=by rw[ub]at hy;rw[xb];exact hy
   obtain⟨p2,t2,hp2,rfl,et2⟩:=dR pr2 hy';have sm3:=sm.trans (Same.upd (o:=.tup [V.ref t1,V.ref t2]) hn);have f1:=sm3 _ _ et1;have f2:=sm3 _ _ et2;refine⟨t,_,rfl,SqT.of aD,rfl,_,_,rfl,t1,_,rfl,SqT.of f1,rfl,_,_,rfl,_,_,rfl,rfl,_,_,rfl,t2,_,rfl,SqT.of f2,rfl,_,_,rfl,_,_,rfl,rfl,rfl,?_⟩;refine⟨_,rfl,_,rfl,_,_,rfl,rfl,_,rfl,iG (λh1=>?_) (λh1=>?_)⟩
   .have k1:=F4 hq1.pos (aFM hp2);have k2:=hq1.pos p1 (aFM hp1);refine⟨_,rfl,_,rfl,_,_,rfl,rfl,_,rfl,_,_,rfl,rfl,_,rfl,_,_,rfl,rfl,?_⟩;refine⟨_,rfl,_,rfl,_,rfl,_,rfl,_,rfl,_,_,rfl,rfl,_,_,rfl,rfl,⟨?_,?_⟩,_,rfl,_,_,rfl,_,_,_,_,_,_,rfl,sm3⟩
    .show 0<p2.1 - p1.1;omega
    .show p2.1 - p1.1<1073741824;omega
   .exact⟨c,_,_,_,_,_,rfl,sm3⟩
  .rintro σ H3 ⟨c,v3,v4,v5,v6,v7,rfl,sm⟩;exact⟨_,rfl,k c H3 (s2.trans sm)⟩
def uV {f:Addr} {fd:FuncData} (F:Fun K "rank_count" "rank_count" gR f fd) (B:Bt mg) (X:aV K mg) (F_list_of:cN P w K mg base "list_of" 5 ["row"] (kY eP (cM X))):FnOk P w K mg base (CXR P w) 6 f fd ["row"] (cM X):=by
 refine F.okX bP (λvs H Q E h=>?_) (λcdv A outer s H vs Q E hfr hr h=>?_)
 .obtain⟨a,r,rfl,_⟩:=h;rfl
 .obtain⟨a,row,rfl,ha,hlen,hd,k⟩:=h;have hu1:=nV hr;refine⟨_,(aC (aM 1 bP.nd (bN F_list_of hr rfl (eW hfr) (aA (pv 0) aB)))
 (aC aP
 (aC aP
 (aG aP)))),?_⟩
  exact⟨_,rfl,.inr (vE (Same.refl _) ha hlen hd k)⟩
abbrev iB:Stmt:=top 35
def gI:FnScope ["gains","greatest","steps","size","counts"] ["gains"] (aH iB):=.m
def J3 {f:Addr} {fd:FuncData} (F:Fun K "walks_of" "walks_of" iB f fd) (B:Bt mg):FnOk P w K mg base CX0 1 f fd ["gains"] pW:=by
 refine F.ok gI (λvs H Q E h=>?_) (λa_ A outer s H vs Q E hr h=>?_)
 .obtain⟨d,z,rfl,_⟩:=h;rfl
 .obtain⟨d,z,rfl,hd,hk,kk⟩:=h;have aw:=nV hr;obtain⟨eG,hG,_,_⟩:=aAy hk;refine⟨_,(aC (aM 1 gI.nd (Q6 rfl rfl B.max (pv 0) aF))
 (aC (aM 2 gI.nd (bF (aA aF aB)))
 (aC (cS ft rfl (jC rfl B.range (aA aF (aA (aI bK (pv 1) aF) aB))) (cJ 3 gI.nd)
 (aG (aN (dF aF9 aFa aFb bA (pv 2) (aA (tJ aw (pv 0) (pv 3) (aX aW (pv 2) (mO iU aF) (λ_ _=>rfl)) ⟨rfl,rfl,rfl,rfl⟩) aB)))))
 (aC (aN (dF aF9 aFa aFb bA (pv 2) (aA (aX aW (pv 2) (mO iU aF) (λ_ _=>rfl)) aB)))
 (aC (rK (i:=4) ["creel"] ["steps"] [2] rfl gI.nd rfl rfl (.of (show dM (aH iB) _ ["gains","greatest","steps","size","counts"] [2] ["steps"]=true by decide +kernel)) (jC rfl B.range (aA aF (aA (aI bK (pv 1) aF) aB))) (λ_ _ _=>(bR (i:=0) (show (["creel","steps"]:List Str).Nodup by decide +kernel) rfl (Or.inl rfl))) (fJ (by decide)) (λ_ _ _=>dW) (λ_ _ _=>(bM (aA (pv 0) (aA (aI bC (aI bC (aI fP aF (aX (bW K rfl) (pv 1) (pv 0) (λ_ _=>rfl))) (aX (bW K rfl) (pv 1) (aI bC (pv 0) aF) (λ_ _=>rfl))) (aX (bW K rfl) (pv 1) (aI bK (pv 0) aF) (λ_ _=>rfl))) aB)))) (by first | rfl | decide +kernel))
 (aG (aY (eR ["creel","count"] [] [] rfl (.of (show dM (aH iB) _ ["gains","greatest","steps","size","counts"] [] []=true by decide +kernel)) (bX (pv 4)) (λ_ _ _=>(lW (n:=2) K rfl rfl (aR (bR (i:=0) (show (["creel","count"]:List Str).Nodup by decide +kernel) rfl (Or.inl rfl)) (aR (bR (i:=1) (show (["creel","count"]:List Str).Nodup by decide +kernel) rfl (Or.inl rfl)) cR)))) (pI (dQ (by decide) (dQ (by decide) lV))) (λ_ _ _=>rH (aS aAM (pv 1) aF (aZ _))) (λ_ _ _=>(bM (aA (pv 0) (aA (pv 1) aB)))))))))))),?_⟩
  refine⟨_,rfl,d,_,_,rfl,hd,aBA z,?_⟩;rw[eG];generalize grt z=G at hG kk ⊢;refine⟨(show 1<=sizeLine by decide),λp hp=>?_⟩;refine aK hp λH1 g1 ep=>?_;have ep:H1 p=some (.lst (((List.range (0+1)).map (tY z)).map V.int)):=ep;refine⟨_,rfl,_,_,rfl,rfl,_,_,rfl,⟨by decide,by decide,by omega,by omega⟩,fO (lo:=1) (λi σ M=>∃ v,σ=[some (.ref d),some (.int G),some (.ref p),v,none]/\Same H M/\M p=some (.lst (((List.range (i+1)).map (tY z)).map V.int))) ⟨none,rfl,g1,ep⟩ ?_ ?_⟩
  .rintro i σ M hi ⟨v,rfl,sm,ex⟩;have U:=sm _ _ hd;refine⟨_,rfl,.inl ⟨rfl,_,SqL.of ex⟩,_,rfl,d,rfl,.inl ⟨_,.inl U⟩,_,rfl,_,rfl,_,rfl,p,_,_,_,rfl,rfl,SqL.of ex,X8 _ _,_,DGet.k (k:=Sum.inl (1+(i:Int))) U,p,_,_,rfl,rfl,ex,by rw[aFB,aFB,jz];exact aQ (by omega),?_⟩;refine⟨_,rfl,Same.upd' hp sm,?_⟩;rw[aD,lJ];have e:((lkI z (1+(i:Int))).map V.int).getD (V.int (tY z i))=V.int (tY z (i+1)):=by
    show _=V.int ((lkI z ((i:Int)+1)).getD (tY z i));rw[Int.add_comm 1];cases lkI z ((i:Int)+1) <;> rfl
   rw[e,X9]
  .rintro σ M ⟨v,rfl,sm,ex⟩;have eN:((G:Int)+1 - 1).toNat=G:=by omega
   rw[eN]at ex;refine⟨_,rfl,.inl ⟨rfl,_,SqL.of ex⟩,_,rfl,_,rfl,p,_,_,_,rfl,rfl,SqL.of ex,X8 _ _,p,_,_,rfl,rfl,ex,by rw[aFB,aFB,jz];exact aQ (by omega),?_⟩;rw[aDX];have s2:=Same.upd' (o:=.lst (((List.range (G+2)).map (stf z G)).map V.int)) hp sm;have e2:(upd M p (.lst (((List.range (G+2)).map (stf z G)).map V.int))) p=some (.lst (((List.range (G+2)).map (stf z G)).map V.int)):=aD;generalize upd M p (.lst (((List.range (G+2)).map (stf z G)).map V.int))=H2 at s2 e2 ⊢;refine⟨_,rfl,_,_,rfl,rfl,_,_,rfl,⟨by decide,by decide,by omega,by omega⟩,gZ (lo:=1) (λi ys Y=>Same H2 Y/\Prs Y ys (Q7 (stf z G) i)/\ys.length=i) ⟨Same.refl _,.nil,rfl⟩ ?_ ?_ ?_⟩
   .rintro i ys Y hi ⟨_,_,J⟩;rw[J];exact aQ (by omega)
   .rintro i ys Y hi ⟨sy,L,J⟩;have ey:=sy _ _ e2;refine⟨_,rfl,_,rfl,_,rfl,p,_,_,_,rfl,rfl,SqL.of ey,aAz (by omega) (by omega),_,_,rfl,rfl,.inl ⟨by decide,by decide⟩,_,rfl,_,rfl,_,_,rfl,rfl,p,_,_,_,rfl,rfl,SqL.of ey,aAz (by omega) (by omega),_,_,rfl,rfl,_,rfl,_,rfl,_,_,rfl,rfl,p,_,_,_,rfl,rfl,SqL.of ey,aAz (by omega) (by omega),_,_,rfl,rfl,(show 2<=sizeLine by decide),λt ht=>?_⟩;refine⟨sy.trans (Same.upd ht),?_,by rw[aFK,J];rfl⟩;rw[aAx];refine wt (Prs.mono (TupS.same (Same.upd ht)) L) ⟨t,rfl,?_⟩;rw[aD,show (1+(i:Int)).toNat=i+1 by omega,show (1+(i:Int) - 1).toNat=i by omega,show (1+(i:Int)+1).toNat=i+1+1 by omega,Int.add_comm 1];rfl
   rintro ys Y ⟨sy,L,J⟩ l hl;rw[eN]at L J;refine aK hl λH3 g3 el=>?_;have L:=Prs.mono (TupS.same g3) L;refine⟨_,rfl,l,rfl,⟨_,SqL.of el⟩,gW (K:=K) (a:=l) (xs:=ys) (λi zs Hz=>Same H3 Hz/\Prs Hz zs (((Q7 (stf z G) G).take i).filter λq=>decide (q.2≠0))/\zs.length<=i) ⟨Same.refl _,.nil,ah _⟩ ?_ ?_ ?_⟩
   .rintro i zs Hz hi ⟨sz,_,av⟩;exact⟨SqL.of (sz _ _ el),aQ (by omega)⟩
   .rintro i x zs Hz hi ⟨sz,pz,av⟩;obtain⟨q,t',hq,rfl,et⟩:=dR L hi;have sn:=o5 (λq:Int×Int=>decide (q.2≠0)) hq;refine⟨t',_,rfl,SqT.of (sz _ _ et),rfl,_,_,rfl,_,_,rfl,rfl,_,rfl,_,_,rfl,rfl,_,rfl,?_⟩
    by_cases c:q.2=0
    .refine zO c ⟨sz,?_,by omega⟩;rw[sn,bB (by simpa using c),jy];exact pz
    .rw[aFW c];show (if (!false)=true then _ else _);rw[da (show (!false)=true from rfl)];refine⟨_,rfl,_,rfl,(show 2<=sizeLine by decide),λt ht=>⟨sz.trans (Same.upd ht),?_,by rw[aFK];simp;omega⟩⟩;rw[sn,da (by simpa using c)];exact wt (Prs.mono (TupS.same (Same.upd ht)) pz) ⟨t,rfl,aD⟩
   .rintro zs Hz ⟨sz,pz,av⟩ D hD;have e:ys.length=(Q7 (stf z G) G).length:=L.len;rw[e,aFP]at pz;have s3:=(s2.trans sy).trans (g3.trans sz);exact kk D zs _ (s3.free hD) (s3.trans (Same.upd hD)) aD (Prs.mono (TupS.same (Same.upd hD)) pz)
abbrev J4:Stmt:=top 34
def iY:FnScope ["one","other","starts","ends","size","gains","offsets"] ["one","other"] (aH J4):=.m
def aD9 {f:Addr} {fd:FuncData} (F:Fun K "kin" "kin" J4 f fd) (B:Bt mg) (av:dG P w K mg base "list_of" 4 ["row"] eP) (aw:dG P w K mg base "by_size" 1 ["trains"] mG) (bf:dG P w K mg base "walks_of" 1 ["gains"] pW) :
 FnOk P w K mg base CX0 5 f fd ["one","other"] aBD:=by
 refine F.ok iY (λvs H Q E h=>?_) (λg_ A outer s H vs Q E hr h=>?_)
 .obtain⟨a,b,r1,r2,rfl,_⟩:=h;rfl
 .obtain⟨a,b,r1,r2,rfl,ha,fg,cm,hb,cn,cx,kk⟩:=h;have hu:=hr.units;have bi:=nV hr;refine⟨_,(aC (aM 2 iY.nd (bE aw hr rfl (aA (bE av hr rfl (aA (pv 0) aB)) aB)))
 (aC (aM 3 iY.nd (bE aw hr rfl (aA (bE av hr rfl (aA (pv 1) aB)) aB)))
 (aC (cS ft rfl (bX (aI pF (aJ (gN rfl) (by rfl) B.sorted eA (aA (pv 2) aB)) (aJ (gN rfl) (by rfl) B.sorted eA (aA (pv 3) aB)))) (cJ 4 iY.nd)
 (aG (dE (aS aAM (aJ aL (by rfl) B.len jg (aA (tJ bi (pv 2) (pv 4) (bF aB) ⟨rfl,rfl,rfl,rfl⟩) aB)) (aJ aL (by rfl) B.len jg (aA (tJ bi (pv 3) (pv 4) (bF aB) ⟨rfl,rfl,rfl,rfl⟩) aB)) (aZ _))
 (aG (aY (bM (aA cV (aA (pv 4) aB)))))
 bQ)))
 (aC (aM 5 iY.nd oM)
 (aC (cS ft rfl (tK (pv 2)) (fE rfl (aR (cJ 4 iY.nd) (aR (cJ 6 iY.nd) cR)))
 (aC (W6 bi (pv 5) (pv 4) (aI bC (aX aW (iJ bi (pv 3) (pv 4) (λ_ _=>rfl)) aF (λ_ _=>rfl)) (aX aW (pv 6) aF (λ_ _=>rfl))) rfl)
 (aG (dE (aS (xU hu) (eR ["offset"] ["gains","size"] [5,4] rfl (.of (show dM (aH J4) _ ["one","other","starts","ends","size","gains","offsets"] [5,4] ["gains","size"]=true by decide +kernel)) (bX (pv 6)) (λ_ _ _=>(bR (i:=0) (show (["offset","gains","size"]:List Str).Nodup by decide +kernel) rfl (Or.inl rfl))) (fJ (by decide)) (λ_ _ _=>dW) (λ_ _ _=>(aI bK (pv 0) (iJ bi (pv 1) (pv 2) (λ_ _=>rfl))))) (iJ bi (pv 3) (pv 4) (λ_ _=>rfl)) (aZ _))
 (aG (aY (bM (aA cV (aA (pv 4) aB)))))
 bQ))))
 (aG (aY (bM (aA cV (aA (bE bf hr rfl (aA (pv 5) aB)) aB)))))))))),?_⟩
  refine⟨_,rfl,a,r1,rfl,ha,fg,cm,λG bn bo la fh H1 h_ g1 fi fj=>?_⟩;have cp:=Lst.few bn cm;refine⟨la,G,rfl,⟨fh,fi,fj⟩,cp,λd1 Y H2 fk g2 L b_ cy cz=>?_⟩;refine⟨_,rfl,b,r2,rfl,(g1.trans g2) _ _ hb,cn,cx,λM ca bq lb fm H3 ia g3 fq fu=>?_⟩;have c_:=Lst.few ca cx;refine⟨lb,M,rfl,⟨fm,fq,fu⟩,c_,λd2 bh H4 fw g4 bb cb dc fz=>?_⟩;have df:d1≠d2:=λe=>by
   have h:=g3 _ _ L.at_;rw[e,fw]at h;cases h
  have s4:=((g1.trans g2).trans g3).trans g4;have L:=L.keep (g3.trans g4);have cg:H d1=none:=g1.free fk;have c1:Y.length<=60:=jf (yP λg U=>(cz g U).1) (by rw[b_.length_eq];exact cp);have c2:bh.length<=60:=jf (yP λg U=>(fz g U).1) (by rw[cb.length_eq];exact c_);have k1:∀ s,cG G s≠[]->∃ g∈Y,g.1=s:=λs h=>E6 b_ h;have k2:∀ s,cG M s≠[]->∃ g∈bh,g.1=s:=λs h=>E6 cb h;refine⟨_,rfl,d1,_,Y.map (·.1),rfl,L.at_,wT Y,by rw[aFB];omega,λl5 cq dh di _=>?_⟩;refine aK dh λH5 g5 dk=>?_;refine⟨_,rfl,d2,_,bh.map (·.1),rfl,g5 _ _ bb.at_,wT bh,by rw[aFB];omega,λl6 cr dm dn _=>?_⟩;refine aK dm λH6 g6 dq=>?_;have ib:cq.length<=60:=by rw[di.length_eq,aFB];exact c1
  have ic:cr.length<=60:=by rw[dn.length_eq,aFB];exact c2
  refine⟨l5,l6,_,_,rfl,rfl,g6 _ _ dk,dq,by rw[aFB,aFB];exact nZ (by omega),λp hp=>?_⟩;rw[<- aFQ];refine aK hp λH7 g7 ep=>?_;have cc:=(g5.trans g6).trans g7;have s7:=s4.trans cc;have L:=L.keep cc;have bb:=bb.keep cc;refine⟨p,rfl,⟨_,SqL.of ep⟩,dP (K:=K) (a:=p) (xs:=(cq++cr).map V.int) (λi σ Hx=>∃ v4,σ=[some (.ref a),some (.ref b),some (.ref d1),some (.ref d2),v4,none,none]/\Same H7 Hx/\∀ s∈(cq++cr).take i,(cG G s).length=(cG M s).length) ⟨none,rfl,Same.refl _,λs hs=>by simp at hs⟩ (λi σ Hx _ ⟨_,_,sm,_⟩=>SqL.of (sm _ _ ep)) ?_ ?_⟩
  .rintro i x σ Hx hi ⟨v4,rfl,sm,hc⟩;obtain⟨z,rfl,hz⟩:=fS hi;have J:=L.keep sm;have a_:=bb.keep sm;refine⟨_,rfl,d1,rfl,.inl ⟨_,.inl J.at_⟩,_,rfl,by decide,λq hq=>?_⟩;refine aK hq λHq gq eq=>?_;have br:=J.keep gq;have ci:=a_.keep gq;obtain⟨r,er,cf⟩:=E5 (d:=d1) br.lst br.key b_ cy bo z eq;refine⟨_,DGet.k (k:=Sum.inl z) br.at_,r,_,by rw[er],.inl (SqL.of cf),?_⟩;refine⟨_,rfl,d2,rfl,.inl ⟨_,.inl ci.at_⟩,_,rfl,by decide,λq2 f_=>?_⟩;refine aK f_ λie dr gb=>?_;have bt:=ci.keep dr;obtain⟨r',gc,du⟩:=E5 (d:=d2) bt.lst bt.key cb dc bq z gb;refine⟨_,DGet.k (k:=Sum.inl z) bt.at_,r',_,by rw[gc],.inl (SqL.of du),_,_,rfl,rfl,_,rfl,?_⟩;rw[aFB,aFB];have sq:=(sm.trans gq).trans dr
   by_cases c:(((cG G z).length:Int))=((cG M z).length:Int)
   .refine zO c ⟨_,rfl,sq,λs hs=>?_⟩;rw[aF6,hz]at hs;rcases aFf.mp hs with h | h
    .exact hc s h
    .rw[show s=z by simpa using h];omega
   .rw[aFW c];show (if (!false)=true then _ else _);rw[da (show (!false)=true from rfl)];have bg:=s7.trans sq;refine⟨_,rfl,(show 2<=sizeLine by decide),λt ht=>kk G M t _ _ bn bo ca bq (bg.free ht) (bg.trans (Same.upd ht)) aD (.sizes z (λe=>c (by omega)))⟩
  rintro σ Hx ⟨v4,rfl,sm,hc⟩;rw[aFB,aFP]at hc;have cnt:∀ s,(cG G s).length=(cG M s).length:=λs=>by
   by_cases h1:cG G s=[]
   .by_cases h2:cG M s=[]
    .rw[h1,h2]
    .obtain⟨g,U,rfl⟩:=k2 s h2;exact hc _ (aFF _ (dn.mem_iff.mpr (aFg.mpr ⟨g,U,rfl⟩)))
   .obtain⟨g,U,rfl⟩:=k1 s h1;exact hc _ (aFU _ (di.mem_iff.mpr (aFg.mpr ⟨g,U,rfl⟩)))
  have J:=L.keep sm;have a_:=bb.keep sm;have sx:=s7.trans sm;clear hc sm L bb cc g7 g6 g5 ep dk dq dh dm hp;refine λd5 bc=>?_;refine aK bc λH8 g8 cu=>?_;have cu:H8 d5=some (.dK (kvI [])):=cu;have dv:d5≠d1:=λe=>by rw[e,J.at_]at bc;cases bc
  have dw:d5≠d2:=λe=>by rw[e,a_.at_]at bc;cases bc
  have cj:H d5=none:=sx.free bc;have m1:∀ g∈Y,g.2.1≠d5:=λg U e=>by rw[<- e,J.lst g U]at bc;cases bc
  have m2:∀ g∈bh,g.2.1≠d5:=λg U e=>by rw[<- e,a_.lst g U]at bc;cases bc
  have gg:∀ g∈Y,g.2.1≠d1:=λg U e=>by have h:=J.lst g U;rw[e,J.at_]at h;cases h
  have gh:∀ g∈bh,g.2.1≠d1:=λg U e=>by have h:=a_.lst g U;rw[e,J.at_]at h;cases h
  have L:=J.keep g8;have bb:=a_.keep g8;have s8:=sx.trans g8;clear J a_ g8 sx;refine⟨_,rfl,d1,_,rfl,L.at_,λod=>?_⟩;refine o4 (d:=d1) (od:=od) (kvs:=kvG Y) (aEQ H8 G M Y a b d1 d2 d5 od) ⟨_,_,[],rfl,aD,by rw[aE dv];exact cu,λx o h1 _ e=>by rw[aE h1];exact e,λg U=>by simp at U,λs v e=>(nomatch e),λm hm=>(nomatch hm),ah _⟩ (λi σ Hy _ h=>by obtain⟨_,_,_,_,e,_⟩:=h;exact e) ?_ ?_
  .rintro i ky x σ Hy t hx ⟨v4,v6,ms,rfl,e1,e5,kp,hA,hB,hC,hD⟩ ht;obtain⟨g,U,gj⟩:∃ g,Y[i]?=some g/\((Sum.inl g.1:Key),V.ref g.2.1)=(ky,x):=by
    unfold kvG at hx;rw[aFZ]at hx;obtain⟨g,h1,h2⟩:=aFc.mp hx;exact⟨g,h1,h2⟩
   cases gj;have bj:=aFM U;have hi:i<Y.length:=(aFd.mp U).1;have eo:g.2.2=cG G g.1:=aDY L.key b_ cy bo bj;have cv:cG G g.1≠[]:=by rw[<- eo];exact(cz g bj).1
   have dy:cG M g.1≠[]:=λz=>cv (aF8 (by rw[cnt,z];rfl));refine aK ht λHz gt et=>?_;have gk:=gt _ _ e1;have gl:=gt _ _ e5;have bu:∀ x o,x≠d1->x≠d5->H8 x=some o->Hz x=some o:=λx o h1 h2 e=>gt _ _ (kp x o h1 h2 e);have l1:Hz g.2.1=some (.lst ((cG G g.1).map V.int)):=by rw[<- eo];exact bu _ _ (gg g bj) (m1 g bj) (L.lst g bj)
   have dz:Hz d2=some (.dK (kvG bh)):=bu _ _ (jh df) (jh dw) bb.at_;obtain⟨r,er,cf,bv,d_,rfl⟩:=o9 (H:=Hz) (λg U=>bu _ _ (gh g U) (m2 g U) (bb.lst g U)) bb.key cb dc bq dy;obtain⟨x1,gm,eh⟩:=Y0 cv;obtain⟨x2,gn,e_⟩:=Y0 dy;have fb:DGet Hz d2 (.int g.1) (some (.ref bv.2.1)):=by rw[<- er];exact DGet.k (k:=(Sum.inl g.1:Key)) dz
   refine⟨t,_,rfl,SqT.of et,rfl,_,_,rfl,_,_,rfl,rfl,?_⟩;refine⟨_,rfl,_,rfl,d2,_,rfl,fb,bv.2.1,_,_,_,rfl,rfl,SqL.of cf,gn,_,rfl,g.2.1,_,_,_,rfl,rfl,SqL.of l1,gm,_,_,rfl,rfl,_,rfl,_,rfl,d5,_,rfl,DPut.k (k:=Sum.inl g.1) gl (by simp only[kvI,aFB];exact aQ (by omega)),?_⟩;have n2:bv.2.1≠d5:=m2 bv d_;have bw:(upd Hz d5 (.dK (hV (kvI ms) (Sum.inl g.1:Key) (V.int (x2 - x1))))) d5=some (.dK (kvI (tX ms g.1 (x2 - x1)))):=by rw[aD,X7]
   have ba:∀ x o,x≠d5->Hz x=some o->(upd Hz d5 (.dK (hV (kvI ms) (Sum.inl g.1:Key) (V.int (x2 - x1))))) x=some o:=λx o h e=>by rw[aE h];exact e
   generalize upd Hz d5 (.dK (hV (kvI ms) (Sum.inl g.1:Key) (V.int (x2 - x1))))=Hw at bw ba ⊢;have fc:=ba _ _ (m1 g bj) l1;have hlen:=aFB (f:=(V.int)) (as:=cG G g.1);have gw:(cG G g.1).length<=60:=by
    unfold cG;rw[aFB];exact jf (ph ..) cp
   have gp:DGet Hw d5 (.int g.1) (some (.int (x2 - x1))):=by
    have h:=DGet.k (k:=(Sum.inl g.1:Key)) bw;rw[lJ,yN,da rfl]at h;exact h
   refine⟨_,rfl,g.2.1,rfl,⟨_,SqL.of fc⟩,gW (K:=K) (a:=g.2.1) (xs:=(cG G g.1).map V.int) (λj ys Hv=>Hv=Hw/\ys=(((cG G g.1).take j).map (·+(x2 - x1))).map V.int) ⟨rfl,rfl⟩ ?_ ?_ ?_⟩
   .rintro j ys Hv hj ⟨rfl,rfl⟩;exact⟨SqL.of fc,by rw[aFB,aFB,aFR];exact aQ (by omega)⟩
   .rintro j y ys Hv hj ⟨rfl,rfl⟩;obtain⟨z,rfl,hz⟩:=fS hj;exact⟨_,rfl,_,rfl,_,rfl,d5,_,rfl,gp,_,_,rfl,rfl,rfl,sU (·+(x2 - x1)) hz⟩
   rintro ys Hv ⟨rfl,rfl⟩ D gr;rw[aFB,aFP];refine aK gr λHu gD eD=>?_;have cw:DGet Hu d2 (.int g.1) (some (.ref bv.2.1)):=by rw[<- er];exact DGet.k (k:=(Sum.inl g.1:Key)) (gD _ _ (ba _ _ (jh dw) dz))
   have cn:=gD _ _ (ba _ _ n2 cf);refine⟨_,rfl,_,rfl,d2,_,rfl,cw,_,_,Den.ints eD,Den.ints cn,shaped_ints _,shaped_ints _,_,rfl,?_⟩;rw[o6];have bg:Same H Hu:=λx o e=>by
    have n1:x≠d1:=λz=>by rw[z,cg]at e;cases e
    have n5:x≠d5:=λz=>by rw[z,cj]at e;cases e
    exact gD _ _ (ba _ _ n5 (bu _ _ n1 n5 (s8 _ _ e)))
   by_cases c:(cG G g.1).map (·+(x2 - x1))=cG M g.1
   .refine zO c ⟨_,_,tX ms g.1 (x2 - x1),rfl,gD _ _ (ba _ _ (jh dv) gk),gD _ _ bw,λx o h1 h2 e=>gD _ _ (ba _ _ h2 (bu x o h1 h2 e)),λg0 fe=>?_,λs v e=>?_,λm hm=>?_,by have:=aCH ms g.1 (x2 - x1);omega⟩
    .rw[aF6,U]at fe;rw[yN]
     by_cases q:g0.1=g.1
     .exact⟨_,da q⟩
     .rw[bB q];rcases aFf.mp fe with h | h
      .exact hA g0 h
      .exact absurd (by rw[show g0=g by simpa using h]) q
    .rw[yN]at e
     by_cases q:s=g.1
     .rw[da q]at e;cases e;rw[q];exact c.symm
     .rw[bB q]at e;exact hB s v e
    .rcases aCI hm with h | h
     .rw[h];exact cv
     .exact hC m h
   .rw[aFW c];show (if (!false)=true then _ else _);rw[da (show (!false)=true from rfl)];refine⟨_,rfl,(show 2<=sizeLine by decide),λt2 ff=>kk G M t2 _ _ bn bo ca bq (bg.free ff) (bg.trans (Same.upd ff)) aD (.apart g.1 cnt λg0 h=>c (Q8 eh e_ h))⟩
  .rintro σ Hy ⟨v4,v6,ms,rfl,e1,e5,kp,hA,hB,hC,hD⟩;have gv:(kvG Y).length=Y.length:=by simp[kvG]
   rw[gv,aFP]at hA;have ck:∀ m∈ms,1<=m.1/\m.1<=60:=λm hm=>Q9 bn cm (hC m hm);have kg:aEP G M ms:=⟨λs h=>by obtain⟨g,U,rfl⟩:=k1 s h;exact hA g U,hB,cnt,ck⟩;have sy:Same H Hy:=λx o e=>by
    have n1:x≠d1:=λz=>by rw[z,cg]at e;cases e
    have n5:x≠d5:=λz=>by rw[z,cj]at e;cases e
    exact kp _ _ n1 n5 (s8 _ _ e)
   refine⟨_,rfl,d5,ms,rfl,e5,ck,λl us Hz hl gz el pr=>?_⟩;refine⟨(show 2<=sizeLine by decide),λt ht=>?_⟩;have gt:=Same.upd (o:=.tup [V.str "walks",V.ref l]) ht;exact kk G M t _ _ bn bo ca bq ((sy.trans gz).free ht) ((sy.trans gz).trans gt) aD (.walks l us ms kg hC (sy.free hl) (gt _ _ el) (Prs.mono (TupS.same gt) pr))
def aCZ {f:Addr} {fd:FuncData} (F:Fun K "kin" "kin" J4 f fd) (B:Bt mg) (X:aV K mg) (z:cN P w K mg base "list_of" 5 ["row"] (kY eP (cM X))) (G:dG P w K mg base "by_size" 1 ["trains"] mG):FnOk P w K mg base (CXR P w) 6 f fd ["one","other"] (aBW X):=by
 refine F.okX iY (λvs H Q E h=>?_) (λaw A outer s H vs Q E J U h=>?_)
 .obtain⟨a,b,r,r',rfl,_⟩:=h;rfl
 .obtain⟨a,b,one,other,rfl,ha,hb,Y,av,hd,k⟩:=h;refine⟨_,(aC (aM 2 iY.nd (bE G U rfl (aA (bN z U rfl (eW J) (aA (pv 0) aB)) aB)))
 (aC (aM 3 iY.nd (bE G U rfl (aA (bN z U rfl (eW J) (aA (pv 1) aB)) aB)))
 (aC aP
 (aC aP
 (aC aP
 (aG aP)))))),?_⟩
  by_cases d1:aO one=.ok
  .rw[uM d1]at hd k;obtain⟨r1,M⟩:=cP.mp d1;exact⟨_,rfl,.inl ⟨a,one,rfl,ha,r1,M,λqs L hp l us H1 hl g1 el pr=>⟨l,qs,rfl,⟨us,el,pr⟩,Lst.few L M,λd gs H2 a_ g2 _ _ _ _=>⟨_,rfl,.inr (vE (g1.trans g2) hb av hd k)⟩⟩⟩⟩
  .rw[uL d1]at hd k;exact⟨_,rfl,.inr (vE (Same.refl _) ha Y d1 k)⟩
abbrev jQ:Stmt:=top 37
def eX:FnScope ["row","lasts","stays","ahead","place"] ["row"] (aH jQ):=.m
def u8 {f:Addr} {fd:FuncData} (F:Fun K "peeled" "peeled" jQ f fd) (B:Bt mg) (J:dG P w K mg base "stretches" 2 ["row"] cL):FnOk P w K mg base CX0 3 f fd ["row"] lH:=by
 refine F.ok eX (λvs H Q E h=>?_) (λbg A outer s H vs Q E hr h=>?_)
 .obtain⟨a,r,rfl,_⟩:=h;rfl
 .obtain⟨a,row,rfl,ha,av,hlen,k⟩:=h;refine⟨_,(aC (rK (i:=1) ["first","last"] [] [] rfl eX.nd rfl rfl (.of (show dM (aH jQ) _ ["row","lasts","stays","ahead","place"] [] []=true by decide +kernel)) (bX (bE J hr rfl (aA (pv 0) aB))) (λ_ _ _=>(lW (n:=2) K rfl rfl (aR (bR (i:=0) (show (["first","last"]:List Str).Nodup by decide +kernel) rfl (Or.inl rfl)) (aR (bR (i:=1) (show (["first","last"]:List Str).Nodup by decide +kernel) rfl (Or.inl rfl)) cR)))) (pI (dQ (by decide) (dQ (by decide) lV))) (λ_ _ _=>dW) (λ_ _ _=>(pv 1)) (by first | rfl | decide +kernel))
 (aC (aM 2 eX.nd (bF aB))
 (aC (aM 3 eX.nd aF)
 (aC (cS ft rfl (bX (pv 0)) (cJ 4 eX.nd)
 (aG (dE (aS mZ (pv 4) (aX aW (pv 1) (pv 3) (λ_ _=>rfl)) (aZ _))
 (aG (jR (i:=3) eX.nd rfl (Or.inl rfl) aF mX))
 (aG (aN (dF aF9 aFa aFb bA (pv 2) (aA (aI bC (pv 4) (aI fP aF (pv 3))) aB)))))))
 (aG (aY (pv 2))))))),?_⟩
  refine⟨_,rfl,a,row,rfl,ha,av,hlen,λl us H1 hl g1 el pr=>?_⟩;have e:us.length=(bD row).length:=pr.len;have bh:=lX row;refine⟨l,rfl,⟨_,SqL.of el⟩,gW (K:=K) (a:=l) (xs:=us) (λj ys H2=>H2=H1/\ys=(((bD row).take j).map (·.2)).map V.int) ⟨rfl,rfl⟩ ?_ ?_ ?_⟩
  .rintro j ys H2 hj ⟨rfl,rfl⟩;exact⟨SqL.of el,by rw[aFB,aFB,aFR];exact aQ (by omega)⟩
  .rintro j x ys H2 hj ⟨rfl,rfl⟩;obtain⟨q,t2,hq,rfl,bb⟩:=dR pr hj;exact⟨t2,_,rfl,SqT.of bb,rfl,_,_,rfl,_,_,rfl,rfl,_,rfl,rfl,tE (·.2) hq⟩
  rintro ys H2 ⟨rfl,rfl⟩ ll bc;rw[e,aFP,m9];refine aK bc λH3 g2 a_=>?_;refine⟨by decide,λls U=>?_⟩;refine aK U λH4 g3 aw=>?_;have aw:H4 ls=some (.lst (([]:List Int).map V.int)):=aw;have bi:ls≠ll:=λz=>by rw[z,a_]at U;cases U
  have ba:H3 ls=none:=U;have Y:=g1.trans g2;have s4:=Y.trans g3;refine⟨_,rfl,a,rfl,⟨_,SqL.of (s4 _ _ ha)⟩,dP (K:=K) (a:=a) (xs:=row.map V.int) (λi σ H5=>∃ (L:Nat) (st:List Int) (v4:Option V),σ=[some (.ref a),some (.ref ll),some (.ref ls),some (.int (L:Int)),v4]/\Same H3 H5/\H5 ls=some (.lst (st.map V.int))/\(dX row).drop L=dX (row.drop i)/\st++dA L (row.drop i)=dA 0 row/\st.length<=i/\L<=i)
   ⟨0,[],none,rfl,g3,aw,rfl,rfl,ah _,ah _⟩ (λi σ H5 _ ⟨_,_,_,_,sm,_⟩=>SqL.of ((Y.trans sm) _ _ ha)) ?_ ?_⟩
  .rintro i x σ H5 hi ⟨L,st,v4,rfl,sm,G,h1,h2,h3,h4⟩;have bj:i<row.length:=by
    have:=(aFd.mp hi).1;simpa using this
   obtain⟨z,rfl,hz⟩:=fS hi;obtain⟨q,hq,M⟩:=aCG av hz h1 h2;have bf:atI ((dX row).map V.int) (L:Int)=some (V.int q):=gL (by rw[aFZ,hq];rfl);refine⟨_,rfl,_,rfl,_,rfl,ll,_,_,_,rfl,rfl,SqL.of (sm _ _ a_),bf,_,_,rfl,rfl,_,rfl,iG (λc=>?_) (λc=>?_)⟩
   .rcases M with ⟨_,k1,k2⟩ | ⟨ne,_⟩
    .exact⟨_,rfl,_,_,rfl,rfl,L+1,st,_,rfl,sm,G,k1,k2,by omega,by omega⟩
    .exact absurd c ne
   .rcases M with ⟨e,_⟩ | ⟨_,k1,k2⟩
    .exact absurd e c
    .refine⟨_,rfl,.inl ⟨rfl,_,SqL.of G⟩,_,rfl,_,rfl,_,_,rfl,rfl,.inl ⟨by decide,by decide⟩,_,_,rfl,rfl,ls,_,_,rfl,rfl,G,by rw[aFB];exact aQ (by omega),?_⟩;exact⟨L,st++[z - 2 * (L:Int)],_,rfl,Same.upd' ba sm,by rw[aD,aFQ];rfl,k1,k2,by simp;omega,by omega⟩
  .rintro σ H5 ⟨L,st,v4,rfl,sm,G,h1,h2,h3,h4⟩;rw[aFB,mu]at h2;rw[show st++dA (L:Int) []=st from jy st]at h2;rw[h2]at G;exact⟨_,rfl,k ls H5 (Y.free ba) (Y.trans sm) G⟩
def S2 {f:Addr} {fd:FuncData} (F:Fun K "peeled" "peeled" jQ f fd) (B:Bt mg) (X:aV K mg) (z:cN P w K mg base "stretches" 5 ["row"] (kY cL (cM X))):FnOk P w K mg base (CXR P w) 6 f fd ["row"] (cM X):=by
 refine F.okX eX (λvs H Q E h=>?_) (λJ A outer s H vs Q E G L h=>?_)
 .obtain⟨a,r,rfl,_⟩:=h;rfl
 .obtain⟨a,row,rfl,M,hlen,hd,k⟩:=h;refine⟨_,(aC (rK (i:=1) ["first","last"] [] [] rfl eX.nd rfl rfl (.of (show dM (aH jQ) _ ["row","lasts","stays","ahead","place"] [] []=true by decide +kernel)) (bX (bN z L rfl (eW G) (aA (pv 0) aB))) (λ_ _ _=>(lW (n:=2) K rfl rfl (aR (bR (i:=0) (show (["first","last"]:List Str).Nodup by decide +kernel) rfl (Or.inl rfl)) (aR (bR (i:=1) (show (["first","last"]:List Str).Nodup by decide +kernel) rfl (Or.inl rfl)) cR)))) (pI (dQ (by decide) (dQ (by decide) lV))) (λ_ _ _=>dW) (λ_ _ _=>(pv 1)) (by first | rfl | decide +kernel))
 (aC aP
 (aC aP
 (aC aP
 (aG aP))))),?_⟩
  exact⟨_,rfl,.inr (vE (Same.refl _) M hlen hd k)⟩
abbrev pA:Stmt:=top 38
def eY:FnScope ["row","found","rest"] ["row"] (aH pA):=.m
inductive rdW (H0:Hp) (row:List Int) (a l:Addr) (m:Nat) (σ:St) (Hx:Hp):Prop
 | mk (n:Nat) (rl:Addr) (h0_:σ=[some (.ref a),some (.ref l),some (.ref rl)]) (h1_:Same H0 Hx) (h2_:Hx rl=some (.lst ((cU n row).map V.int))) (h3_:rl≠l) (h4_:Hx l=some (.lst (((List.range n).map λk=>(stG (cU k row):Int)).map V.int))) (h5_:∀ k,k<n->cU k row≠[]) (h6_:m=(cU n row).length) (h7_:m+n<=60):rdW H0 row a l m σ Hx
def u9 {f:Addr} {fd:FuncData} (F:Fun K "rounds" "rounds" pA f fd) (B:Bt mg) (z:dG P w K mg base "stretches" 2 ["row"] cL) (G:dG P w K mg base "peeled" 3 ["row"] lH):FnOk P w K mg base CX0 4 f fd ["row"] lI:=by
 refine F.ok eY (λvs H Q E h=>?_) (λbo A outer s H vs Q E hr h=>?_)
 .obtain⟨a,r,rfl,_⟩:=h;rfl
 .obtain⟨a,row,rfl,ha,av,hlen,k⟩:=h;refine⟨_,(aC (aM 1 eY.nd (bF aB))
 (aC (aM 2 eY.nd (pv 0))
 (aC (fF ft (fG (pv 2) (λ_=>rfl))
 (aC (aN (dF aF9 aFa aFb bA (pv 1) (aA (aJ aL (by rfl) B.len jg (aA (bE z hr rfl (aA (pv 2) aB)) aB)) aB)))
 (aG (aM 2 eY.nd (bE G hr rfl (aA (pv 2) aB))))))
 (aG (aY (pv 1)))))),?_⟩
  refine⟨by decide,λl hl=>?_⟩;refine aK hl λH1 g1 el=>?_;have bf:a≠l:=λe=>by rw[e,hl]at ha;cases ha
  refine⟨_,rfl,?_⟩;refine⟨rdW H row a l,⟨row.length,0,a,rfl,g1,g1 _ _ ha,bf,el,λk hk=>absurd hk (ss _),rfl,by omega⟩,?_⟩;rintro m σ H2 ⟨n,rl,rfl,sm,L,bg,U,aw,rfl,hm⟩;have a_:=wR av n
  by_cases hz:cU n row=[]
  .refine⟨_,rfl,false,.inl ⟨_,SqL.of L,by rw[hz];rfl⟩,?_⟩;exact⟨_,rfl,k n hz aw l H2 hl sm U⟩
  .refine⟨_,rfl,true,.inl ⟨_,SqL.of L,by cases e:cU n row with | nil=>exact absurd e hz | cons x r=>rfl⟩,?_⟩;have bq:1<=stG (cU n row):=by
    cases e:cU n row with
    | nil=>exact absurd e hz
    | cons x r=>exact aAv r x
   have hpl:=lG (cU n row) 0;refine⟨λba H'=>∃ m',m'<(cU n row).length/\rdW H row a l m' ba H',λba H' h=>h,?_⟩;refine⟨_,rfl,.inl ⟨rfl,_,SqL.of U⟩,_,rfl,rl,_,rfl,L,a_,by omega,λl2 J H3 br g3 bh bi=>?_⟩;have bb:=g3 _ _ U;have bj:J.length=stG (cU n row):=by rw[bi.len,aCF]
   refine⟨l2,_,rfl,.inl (SqL.of bh),l,_,_,rfl,rfl,bb,by rw[aFB,aFB,jz];exact aQ (by omega),?_⟩;have M:(upd H3 l (.lst (((List.range n).map λk=>(stG (cU k row):Int)).map V.int++[V.int (J.length:Int)]))) rl=some (.lst ((cU n row).map V.int)):=by rw[aE bg];exact g3 _ _ L
   have Y:(upd H3 l (.lst (((List.range n).map λk=>(stG (cU k row):Int)).map V.int++[V.int (J.length:Int)]))) l=some (.lst (((List.range (n+1)).map λk=>(stG (cU k row):Int)).map V.int)):=by
    rw[aD,bj,pe,aFQ,aFQ];rfl
   have s4:Same H (upd H3 l (.lst (((List.range n).map λk=>(stG (cU k row):Int)).map V.int++[V.int (J.length:Int)]))):=Same.upd' hl (sm.trans g3);generalize upd H3 l (.lst (((List.range n).map λk=>(stG (cU k row):Int)).map V.int++[V.int (J.length:Int)]))=H4 at M Y s4 ⊢;refine⟨_,rfl,rl,_,rfl,M,a_,by omega,λl3 H5 bc g5 bn=>?_⟩;refine⟨(dA 0 (cU n row)).length,by omega,n+1,l3,rfl,s4.trans g5,bn,(λe=>by rw[e,Y]at bc;cases bc),g5 _ _ Y,λj hj=>?_,rfl,by omega⟩
   by_cases e:j=n
   .rw[e];exact hz
   .exact aw j (by omega)
def S3 {f:Addr} {fd:FuncData} (F:Fun K "rounds" "rounds" pA f fd) (B:Bt mg) (X:aV K mg) (G:cN P w K mg base "stretches" 5 ["row"] (kY cL (cM X))) (J:cN P w K mg base "peeled" 6 ["row"] (kY lH (cM X))):FnOk P w K mg base (CXR P w) 7 f fd ["row"] (cM X):=by
 refine F.okX eY (λvs H Q E h=>?_) (λav A outer s H vs Q E L hr h=>?_)
 .obtain⟨a,r,rfl,_⟩:=h;rfl
 .obtain⟨a,row,rfl,ha,hlen,hd,k⟩:=h;refine⟨_,(aC (aM 1 eY.nd (bF aB))
 (aC (aM 2 eY.nd (pv 0))
 (aC (fF aAE (fG (pv 2) (λ_=>rfl))
 (aC (aN (dF aF9 aFa aFb bA (pv 1) (aA (aJ aL (by rfl) B.len jg (aA (bN G hr rfl (eW L) (aA (pv 2) aB)) aB)) aB)))
 (aG (aM 2 eY.nd (bN J hr rfl (eW L) (aA (pv 2) aB))))))
 (aG (aY (pv 1)))))),?_⟩
  have M:row≠[]:=λz=>hd (cP.mpr (by rw[z];exact⟨List.Pairwise.nil,by simp⟩));refine⟨by decide,λlf U=>?_⟩;refine aK U λH1 g1 Y=>?_;refine⟨_,rfl,λm σ Hx=>m=0/\σ=[some (.ref a),some (.ref lf),some (.ref a)]/\Hx=H1,⟨0,rfl,rfl,rfl⟩,?_⟩;rintro m σ Hx ⟨rfl,rfl,rfl⟩;refine⟨_,rfl,true,.inl ⟨_,SqL.of (g1 _ _ ha),by cases row with | nil=>exact absurd rfl M | cons x r=>rfl⟩,?_⟩;exact⟨λ_ _=>False,λ_ _ h=>h.elim,_,rfl,.inl ⟨rfl,_,SqL.of Y⟩,_,rfl,.inr (vE g1 ha hlen hd k)⟩
abbrev fM:Stmt:=top 41
def cY:FnScope ["counts","sizes","size","many","longer"] ["counts"] (aH fM):=.m
def S4 {f:Addr} {fd:FuncData} (F:Fun K "sizes_by_counts" "sizes_by_counts" fM f fd) (B:Bt mg):FnOk P w K mg base CX0 1 f fd ["counts"] jO:=by
 refine F.ok cY (λvs H Q E h=>?_) (λba A outer s H vs Q E hr h=>?_)
 .obtain⟨a,cs,rfl,_⟩:=h;rfl
 .obtain⟨a,cs,rfl,ha,a_,G,k⟩:=h;refine⟨_,(aC (aM 1 cY.nd (bF aB))
 (aC (cS ft rfl (aD0 rfl B.enumerate (aA (pv 0) aB) aF) (fE rfl (aR (cJ 2 cY.nd) (aR (cJ 3 cY.nd) cR)))
 (aC (aM 4 cY.nd (sS (kI (aS kD (pv 2) (aJ aL (by rfl) B.len jg (aA (pv 0) aB)) (aZ _)) (aX aW (pv 0) (pv 2) (λ_ _=>rfl)) aF)))
 (aG (aN (dF aF9 ur ut vU (pv 1) (aA (aI aCy (bF (aA (pv 2) aB)) (aI bC (pv 3) (pv 4))) aB))))))
 (aG (aY (pv 1))))),?_⟩
  refine⟨by decide,λl hl=>?_⟩;refine aK hl λH1 g1 el=>?_;refine⟨_,rfl,a,_,rfl,SqL.of (g1 _ _ ha),aCM (K:=K) (m:=1) (a:=a) (xs:=cs.map V.int) (λi σ H2=>∃ (us:List V) (v2 v3 v4:Option V),σ=[some (.ref a),some (.ref l),v2,v3,v4]/\Same H H2/\H2 l=some (.lst us)/\us.length<=60 * i)
   ⟨[],none,none,none,rfl,g1,el,by simp⟩ (λi σ H2 _ ⟨_,_,_,_,_,J,_⟩=>SqL.of (J _ _ ha)) ?_ ?_⟩
  .rintro i x σ H2 t hx ⟨us,v2,v3,v4,rfl,J,L,bb⟩ ht;obtain⟨z,rfl,hz⟩:=fS hx;have bc:i<cs.length:=(aFd.mp hz).1;have bf:=G z (aFM hz);refine aK ht λH3 g3 et=>?_;have M:=J.trans g3;have U:=M _ _ ha;have Y:=g3 _ _ L;refine⟨t,_,rfl,SqT.of et,rfl,_,_,rfl,_,_,rfl,rfl,?_⟩;refine⟨λv H4=>∃ y:Int,v=.int y/\H4=H3/\0<=y/\y<=60,?_,?_⟩
   .refine⟨_,rfl,_,rfl,a,_,rfl,.inl (SqL.of U),_,_,rfl,rfl,_,rfl,iG (λc=>?_) (λc=>?_)⟩
    .rw[aFB]at c;obtain⟨y,hy,_,ey⟩:=cX (ns:=cs) (i:=1+(i:Int)) (by omega) (by omega);have:=G y hy;exact⟨_,rfl,_,rfl,a,_,_,_,rfl,rfl,SqL.of U,ey,y,rfl,rfl,by omega,by omega⟩
    .exact⟨0,rfl,rfl,by omega,by omega⟩
   rintro v H4 ⟨y,rfl,rfl,bg,bh⟩;refine⟨_,rfl,.inl ⟨rfl,_,SqL.of Y⟩,_,rfl,(show 1<=sizeLine by decide),λp hp=>?_⟩;refine aK hp λH5 g5 ep=>?_;refine⟨_,rfl,_,rfl,_,_,rfl,rfl,p,_,_,rfl,rfl,ep,by omega,by omega,by rw[kd,Nat.one_mul];exact nZ (show (z - y).toNat<=10000 by omega),λr aw=>?_⟩;rw[List.flatten_replicate_singleton];refine aK aw λH6 g6 err=>?_;have av:=g5.trans g6;refine⟨l,r,_,_,rfl,rfl,av _ _ Y,err,by rw[aFV];exact nZ (show us.length+(z - y).toNat<=10000 by omega),?_⟩;refine⟨_,_,_,_,rfl,Same.upd' hl (M.trans av),aD,?_⟩;rw[aFK,aFV];omega
  .rintro σ H2 ⟨us,v2,v3,v4,rfl,J,L,_⟩;exact⟨_,rfl,k _ H2 J⟩
abbrev dZ:Stmt:=top 39
def iC:FnScope ["row"] ["row"] (aH dZ):=.m
def qG {f:Addr} {fd:FuncData} (F:Fun K "sizes_by_rounds" "sizes_by_rounds" dZ f fd) (B:Bt mg) (G:dG P w K mg base "rounds" 4 ["row"] lI) (z:dG P w K mg base "sizes_by_counts" 1 ["counts"] jO):FnOk P w K mg base CX0 5 f fd ["row"] yV:=by
 refine F.ok iC (λvs H Q E h=>?_) (λU A outer s H vs Q E M h=>?_)
 .obtain⟨a,r,rfl,_⟩:=h;rfl
 .obtain⟨a,row,rfl,Y,J,hlen,k⟩:=h;refine⟨_,(aG (aY (bE z M rfl (aA (bE G M rfl (aA (pv 0) aB)) aB)))),?_⟩;refine⟨_,rfl,a,row,rfl,Y,J,hlen,λn hn L l H1 hl g1 el=>?_⟩;obtain⟨c1,c2⟩:=aCW hlen L;exact⟨l,_,rfl,el,c1,c2,λv H2 g2=>k v H2 (g1.trans g2)⟩
def mM {f:Addr} {fd:FuncData} (F:Fun K "sizes_by_rounds" "sizes_by_rounds" dZ f fd) (B:Bt mg) (X:aV K mg) (G:cN P w K mg base "rounds" 7 ["row"] (kY lI (cM X))) (z:dG P w K mg base "sizes_by_counts" 1 ["counts"] jO):FnOk P w K mg base (CXR P w) 8 f fd ["row"] (cM X):=by
 refine F.okX iC (λvs H Q E h=>?_) (λM A outer s H vs Q E J L h=>?_)
 .obtain⟨a,r,rfl,_⟩:=h;rfl
 .obtain⟨a,row,rfl,U,hlen,hd,k⟩:=h;refine⟨_,(aG (aY (bE z L rfl (aA (bN G L rfl (eW J) (aA (pv 0) aB)) aB)))),?_⟩;exact⟨_,rfl,.inr (vE (Same.refl _) U hlen hd k)⟩
abbrev eI:Stmt:=top 40
def cB:FnScope ["row","counts","load"] ["row"] (aH eI):=.m
inductive ldA (H0:Hp) (a l:Addr) (m:Nat) (σ:St) (Hx:Hp):Prop
 | mk (cs:List Int) (ld:Int) (h0_:σ=[some (.ref a),some (.ref l),some (.int ld)]) (h1_:Same H0 Hx) (h2_:Hx l=some (.lst (cs.map V.int))) (h3_:(m:Int)=60 - cs.sum) (h4_:∀ c∈cs,0<=c/\c<=60) (h5_:(cs.length:Int)<=cs.sum) (h6_:0<=ld/\ld<=60):ldA H0 a l m σ Hx
def rF {f:Addr} {fd:FuncData} (F:Fun K "sizes_by_loads" "sizes_by_loads" eI f fd) (B:Bt mg) (G:dG P w K mg base "carried" 3 ["row","creel"] lY) (z:dG P w K mg base "sizes_by_counts" 1 ["counts"] jO):FnOk P w K mg base CX0 4 f fd ["row"] yV:=by
 refine F.ok cB (λvs H Q E h=>?_) (λav A outer s H vs Q E hr h=>?_)
 .obtain⟨a,r,rfl,_⟩:=h;rfl
 .obtain⟨a,row,rfl,ha,L,hlen,k⟩:=h;refine⟨_,(aC (aM 1 cB.nd (bF aB))
 (aC (aM 2 cB.nd (bE G hr rfl (aA (pv 0) (aA aF aB))))
 (aC (fF ft (aS nN (pv 2) (aJ (kX rfl) (by rfl) B.sum kU (aA (pv 1) aB)) (aZ _))
 (aC (aN (dF aF9 aFa aFb bA (pv 1) (aA (aI bC (pv 2) (aJ (kX rfl) (by rfl) B.sum kU (aA (pv 1) aB))) aB)))
 (aG (aM 2 cB.nd (bE G hr rfl (aA (pv 0) (aA (aI bK (aJ aL (by rfl) B.len jg (aA (pv 1) aB)) aF) aB)))))))
 (aG (aY (bE z hr rfl (aA (pv 1) aB))))))),?_⟩
  refine⟨by decide,λl hl=>?_⟩;refine aK hl λH1 g1 el=>?_;refine⟨_,rfl,a,row,1,rfl,g1 _ _ ha,L,hlen,by decide,λH2 g2=>?_⟩;have aw:=Y7 hlen 1;refine⟨ldA H a l,⟨60,[],_,rfl,g1.trans g2,g2 _ _ el,by simp,(λc hc=>(nomatch hc)),by simp,by omega⟩,?_⟩;rintro m σ H3 ⟨cs,ld,rfl,sm,J,hm,U,a_,ba⟩;refine⟨_,rfl,_,rfl,l,_,rfl,J,_,_,rfl,rfl,_,rfl,iG (λc=>?_) (λc=>?_)⟩
  .refine⟨λY H'=>∃ m',m'<m/\ldA H a l m' Y H',λY H' h=>h,?_⟩;have c':cs.sum<ld:=c;refine⟨_,rfl,.inl ⟨rfl,_,SqL.of J⟩,_,rfl,_,rfl,l,_,rfl,J,_,_,rfl,rfl,l,_,_,rfl,rfl,J,by rw[aFB];exact aQ (by omega),?_⟩;have M:(upd H3 l (.lst (cs.map V.int++[V.int (ld - cs.sum)]))) l=some (.lst ((cs++[ld - cs.sum]).map V.int)):=by
    rw[aD,aFQ];rfl
   have s4:Same H (upd H3 l (.lst (cs.map V.int++[V.int (ld - cs.sum)]))):=Same.upd' hl sm;generalize upd H3 l (.lst (cs.map V.int++[V.int (ld - cs.sum)]))=H4 at M s4 ⊢;have bb:=Y7 hlen ((((cs++[ld - cs.sum]).map V.int).length:Int)+1);have es:(cs++[ld - cs.sum]).sum=ld:=by rw[pi,List.sum_singleton];omega
   refine⟨_,rfl,_,rfl,l,_,rfl,.inl (SqL.of M),_,_,rfl,rfl,a,row,(((cs++[ld - cs.sum]).map V.int).length:Int)+1,rfl,s4 _ _ ha,L,hlen,by omega,λH5 g5=>?_⟩;refine⟨(60 - ld).toNat,by omega,cs++[ld - cs.sum],_,rfl,s4.trans g5,g5 _ _ M,by rw[es];omega,λq hq=>?_,by rw[es,aFK,kd];omega,by omega⟩;rcases aFf.mp hq with h | h
   .exact U q h
   .rw[aF7.mp h];have:0<=cs.sum:=by omega
    omega
  .exact⟨_,rfl,l,cs,rfl,J,by omega,U,λv H4 g4=>k v H4 (sm.trans g4)⟩
def nI {f:Addr} {fd:FuncData} (F:Fun K "sizes_by_loads" "sizes_by_loads" eI f fd) (B:Bt mg) (X:aV K mg) (z:cN P w K mg base "carried" 6 ["row","creel"] (kY lY (mB X))):FnOk P w K mg base (CXR P w) 7 f fd ["row"] (cM X):=by
 refine F.okX cB (λvs H Q E h=>?_) (λL A outer s H vs Q E G M h=>?_)
 .obtain⟨a,r,rfl,_⟩:=h;rfl
 .obtain⟨a,row,rfl,U,hlen,hd,k⟩:=h;refine⟨_,(aC (aM 1 cB.nd (bF aB))
 (aC (aM 2 cB.nd (bN z M rfl (eW G) (aA (pv 0) (aA aF aB))))
 (aC aP
 (aG aP)))),?_⟩
  exact⟨by decide,λl J=>⟨_,rfl,.inr ⟨a,row,1,rfl,Same.upd J _ _ U,hlen,by rw[kZ hd];exact hd,by rw[kZ hd];exact k _ (Same.upd J)⟩⟩⟩
abbrev gS:Stmt:=top 45
def vJ:FnScope ["run"] ["run"] (aH gS):=.m
def vK {f:Addr} {fd:FuncData} (F:Fun K "run_length" "run_length" gS f fd) (B:Bt mg):FnOk P w K mg base CX0 1 f fd ["run"] oT:=by
 refine F.ok vJ (λvs H Q E h=>?_) (λM A outer s H vs Q E hr h=>?_)
 .obtain⟨a,ps,rfl,_⟩:=h;rfl
 .obtain⟨a,ps,rfl,⟨us,J,L⟩,hl,U⟩:=h;refine⟨_,(aG (aY (aJ (kX rfl) (by rfl) B.sum kU (aA (eR ["first","last"] [] [] rfl (.of (show dM (aH gS) _ ["run"] [] []=true by decide +kernel)) (bX (pv 0)) (λ_ _ _=>(lW (n:=2) K rfl rfl (aR (bR (i:=0) (show (["first","last"]:List Str).Nodup by decide +kernel) rfl (Or.inl rfl)) (aR (bR (i:=1) (show (["first","last"]:List Str).Nodup by decide +kernel) rfl (Or.inl rfl)) cR)))) (pI (dQ (by decide) (dQ (by decide) lV))) (λ_ _ _=>dW) (λ_ _ _=>(aI bK (aI bC (pv 1) (pv 0)) aF))) aB)))),?_⟩;have e:us.length=ps.length:=L.len;refine⟨_,rfl,a,rfl,⟨_,SqL.of J⟩,gW (K:=K) (a:=a) (xs:=us) (λj ys H2=>H2=H/\ys=((ps.take j).map λp=>p.2 - p.1+1).map V.int) ⟨rfl,rfl⟩ ?_ ?_ ?_⟩
  .rintro j ys H2 hj ⟨rfl,rfl⟩;exact⟨SqL.of J,by rw[aFB,aFB,aFR];exact aQ (by omega)⟩
  .rintro j x ys H2 hj ⟨rfl,rfl⟩;obtain⟨q,t2,Y,rfl,z⟩:=dR L hj;exact⟨t2,_,rfl,SqT.of z,rfl,_,_,rfl,_,_,rfl,rfl,_,rfl,_,rfl,_,_,rfl,rfl,_,_,rfl,rfl,rfl,tE (λp=>p.2 - p.1+1) Y⟩
  rintro ys H2 ⟨rfl,rfl⟩ ll G;rw[e,aFP];exact⟨ll,_,rfl,aD,U _ (Same.upd G)⟩
abbrev qH:Stmt:=top 46
def fW:FnScope ["run","many","niches","rest","first","last","taken"] ["run","many"] (aH qH):=.m
inductive aEX (H0:Hp) (ps:Trs) (m:Int) (a n r:Addr) (i:Nat) (σ:St) (Hx:Hp):Prop
 | mk (v4 v5 v6:Option V) (us:List V) (h0_:σ=[some (.ref a),some (.int m),some (.ref n),some (.ref r),v4,v5,v6]) (h1_:Same H0 Hx) (h2_:Hx n=some (.lst ((dN m (ps.take i)).1.map V.int))) (h3_:Hx r=some (.lst us)) (h4_:Prs Hx us (dN m (ps.take i)).2):aEX H0 ps m a n r i σ Hx
def S5 {f:Addr} {fd:FuncData} (F:Fun K "cut_run" "cut_run" qH f fd) (B:Bt mg):FnOk P w K mg base CX0 1 f fd ["run","many"] uC:=by
 refine F.ok fW (λvs H Q E h=>?_) (λbr A outer s H vs Q E hr h=>?_)
 .obtain⟨a,ps,m,rfl,_⟩:=h;rfl
 .obtain⟨a,ps,m,rfl,⟨us,ha,pr⟩,hl,bb,hm,kk⟩:=h;refine⟨_,(aC (aM 2 fW.nd (bF aB))
 (aC (aM 3 fW.nd (bF aB))
 (aC (cS ft rfl (bX (pv 0)) (fE rfl (aR (cJ 4 fW.nd) (aR (cJ 5 fW.nd) cR)))
 (aC (aM 6 fW.nd (aJ (vN rfl) (by rfl) B.min sR (aA (aI bK (aI bC (pv 5) (pv 4)) aF) (aA (aI bC (pv 1) (aJ aL (by rfl) B.len jg (aA (pv 2) aB))) aB))))
 (aC (aN (dF aF9 ur ut vU (pv 2) (aA (eV (uI rfl) (by rfl) B.list fR (aA (i9 rfl B.range (aA (pv 4) (aA (aI bK (pv 4) (pv 6)) aB))) aB)) aB)))
 (aG (dE (aS T5 (aI bK (pv 4) (pv 6)) (pv 5) (aZ _))
 (aG (aN (dF aF9 aFa aFb bA (pv 3) (aA (bM (aA (aI bK (pv 4) (pv 6)) (aA (pv 5) aB))) aB))))
 bQ)))))
 (aG (aY (bM (aA (pv 2) (aA (pv 3) aB)))))))),?_⟩
  have e:us.length=ps.length:=pr.len;refine⟨by decide,λn hn=>?_⟩;refine aK hn λH1 g1 en=>?_;refine⟨by decide,λr Y=>?_⟩;refine aK Y λH2 g2 er=>?_;have bc:n≠r:=λz=>by rw[<- z,en]at Y;cases Y
  have fr:H r=none:=g1.free Y;refine⟨_,rfl,a,rfl,⟨_,SqL.of ((g1.trans g2) _ _ ha)⟩,dP (K:=K) (a:=a) (xs:=us) (aEX H ps m a n r) ⟨none,none,none,[],rfl,g1.trans g2,g2 _ _ en,er,.nil⟩ (λi σ Hx _ h=>?_) ?_ ?_⟩
  .obtain⟨_,_,_,_,_,sm,_⟩:=h;exact SqL.of (sm _ _ ha)
  .rintro i x σ Hx hi ⟨v4,v5,v6,ws,rfl,sm,G,av,L⟩;obtain⟨q,t',hq,rfl,et⟩:=dR pr hi;have bt:i<ps.length:=(aFd.mp hq).1;have bh:=aFM hq;have bu:=bb q bh;have bi:ps.take (i+1)=ps.take i++[q]:=by rw[List.take_add_one,hq];rfl
   have CF:=pY hm.1 (ps.take i) λp hp=>bb p (se hp);obtain⟨c0,c1,c2,c3,c4⟩:=CF;have bf:dN m (ps.take (i+1))=yR m (dN m (ps.take i)) q:=by rw[bi,jL]
   generalize dN m (ps.take i)=st at G av L c1 c2 c3 c4 bf;have bv:ws.length=st.2.length:=L.len;have bw:st.2.length<=1000:=by rw[aFR]at c4;omega
   refine⟨t',_,rfl,SqT.of (sm _ _ et),rfl,_,_,rfl,_,_,rfl,rfl,?_⟩;refine⟨_,rfl,_,rfl,_,_,rfl,rfl,_,_,rfl,rfl,_,rfl,_,rfl,n,_,rfl,.inl (SqL.of G),_,_,rfl,rfl,_,_,rfl,?_⟩;rw[aFB];obtain⟨tt,bg⟩:∃ tt,tt=tkn m st.1.length q:=⟨_,rfl⟩;have ev:(if m - (st.1.length:Int)<q.2 - q.1+1 then m - (st.1.length:Int)else q.2 - q.1+1)=tt:=bg.symm;have b_:0<=tt/\tt<=1000:=by rw[<- ev];split <;> omega
   have J:dN m (ps.take (i+1))=(st.1++kH q.1 tt.toNat,st.2++(if q.1+tt<=q.2 then [(q.1+tt,q.2)]else [])):=by rw[bf];unfold yR;rw[<- bg]
   rw[show (V.int (if m - (st.1.length:Int)<q.2 - q.1+1 then m - (st.1.length:Int)else q.2 - q.1+1))=V.int tt from congrArg V.int ev];refine⟨_,rfl,.inl ⟨rfl,_,SqL.of G⟩,_,rfl,_,rfl,_,rfl,_,_,rfl,rfl,_,_,rfl,λrr bj=>?_⟩;refine aK bj λH3 g3 err=>?_;refine⟨rr,_,_,rfl,err,by omega,λll bn=>?_⟩;rw[show q.1+tt - q.1=tt by omega];refine aK bn λH4 g4 bo=>?_;have U:=g3.trans g4;refine⟨n,ll,_,_,rfl,rfl,U _ _ G,bo,?_,?_⟩
   .rw[aFB,aFB,E8];exact km (aQ (by omega))
   rw[<- aFQ];have aw:Same H (upd H4 n (.lst ((st.1++kH q.1 tt.toNat).map V.int))):=Same.upd' hn (sm.trans U);have a_:(upd H4 n (.lst ((st.1++kH q.1 tt.toNat).map V.int))) n=some (.lst ((st.1++kH q.1 tt.toNat).map V.int)):=aD;have M:(upd H4 n (.lst ((st.1++kH q.1 tt.toNat).map V.int))) r=some (.lst ws):=by rw[aE (jh bc)];exact U _ _ av
   have ba:Prs (upd H4 n (.lst ((st.1++kH q.1 tt.toNat).map V.int))) ws st.2:=L.mono ((TupS.same U).trans (TupS.lst (U _ _ G)));generalize upd H4 n (.lst ((st.1++kH q.1 tt.toNat).map V.int))=H5 at aw a_ M ba ⊢;refine⟨_,rfl,_,rfl,_,_,rfl,rfl,_,rfl,_,_,rfl,rfl,_,rfl,iG (λhc=>?_) (λhc=>?_)⟩
   .refine⟨_,rfl,.inl ⟨rfl,_,SqL.of M⟩,_,rfl,_,rfl,_,_,rfl,rfl,_,rfl,(show 2<=sizeLine by decide),λt ht=>?_⟩;refine aK ht λH6 g6 bq=>?_;refine⟨r,_,_,rfl,rfl,g6 _ _ M,aQ (by omega),?_⟩;refine⟨_,_,_,ws++[V.ref t],rfl,Same.upd' fr (aw.trans g6),?_,aD,?_⟩
    .rw[aE bc,g6 _ _ a_,J]
    .rw[J,da hc];exact Paired.append' (ba.mono ((TupS.same g6).trans (TupS.lst (g6 _ _ M)))) (.cons ⟨t,rfl,TupS.lst (g6 _ _ M) _ _ bq⟩ .nil)
   .refine⟨_,_,_,ws,rfl,aw,by rw[a_,J],M,?_⟩;rw[J,bB hc,jy];exact ba
  .rintro σ Hx ⟨v4,v5,v6,ws,rfl,sm,G,av,L⟩;rw[e,aFP]at G L;refine⟨_,rfl,_,rfl,(show 2<=sizeLine by decide),λt ht=>?_⟩;have g3:=Same.upd (o:=.tup [V.ref n,V.ref r]) ht;exact kk t n r _ fr (sm.trans g3) aD (g3 _ _ G) ⟨ws,g3 _ _ av,L.mono (TupS.same g3)⟩
abbrev lN:Stmt:=top 44
def kB:FnScope ["runs","at"] ["runs"] (aH lN):=.m
inductive aDa (H0:Hp) (a:Addr) (n:Nat) (m:Nat) (σ:St) (Hx:Hp):Prop
 | mk (j:Nat) (h0_:σ=[some (.ref a),some (.int j)]) (h1_:Same H0 Hx) (h2_:1<=j) (h3_:j<=n) (h4_:m=n - j):aDa H0 a n m σ Hx
def zF {f:Addr} {fd:FuncData} (F:Fun K "found_run" "found_run" lN f fd) (B:Bt mg) (z:dG P w K mg base "run_length" 1 ["run"] oT):FnOk P w K mg base CX0 2 f fd ["runs"] nF:=by
 refine F.ok kB (λvs H Q E h=>?_) (λav A outer s H vs Q E hr h=>?_)
 .obtain⟨a,rs,n,rfl,_⟩:=h;rfl
 .obtain⟨a,rs,n,rfl,⟨us,ha,pr⟩,hl,hpl,hF,kk⟩:=h;refine⟨_,(aC (aM 1 kB.nd aF)
 (aC (fF ft (aS kD (bE z hr rfl (aA (aX aW (pv 0) (pv 1) (λ_ _=>rfl)) aB)) (bE z hr rfl (aA (aX aW (pv 0) (aI bC (pv 1) aF) (λ_ _=>rfl)) aB)) (aZ _))
 (aG (jR (i:=1) kB.nd rfl (Or.inl rfl) aF mX)))
 (aG (aY (pv 1))))),?_⟩
  obtain⟨L,aw,a_,M⟩:=hF;refine⟨aDa H a n,⟨n - 1,1,rfl,Same.refl _,ah _,L,rfl⟩,?_⟩;rintro m σ H1 ⟨j,rfl,U,Y,ba,rfl⟩;have hj:j<rs.length:=by omega
  have get:∀ i:Nat,i<rs.length->∃ b ps,atI us (i:Int)=some (.ref b)/\LP H b ps/\bL ps=rl rs i/\ps.length<=1000:=λi hi=>by
   obtain⟨v,h1,b,rfl,h2⟩:=rR (i:=i) (r:=rs[i]) pr (aFL hi);exact⟨b,rs[i],gL h1,h2,by unfold rl;rw[fy,aFL hi];rfl,hpl _ (rg hi)⟩
  obtain⟨b1,p1,a1,l1,e1,k1⟩:=get j hj;obtain⟨b2,p2,a2,l2,e2,k2⟩:=get (j - 1) (by omega);have ej:((j - 1:Nat):Int)=(j:Int) - 1:=by omega
  rw[ej]at a2;refine⟨_,rfl,_,rfl,a,_,_,_,rfl,rfl,SqL.of (U _ _ ha),a1,b1,p1,rfl,l1.mono U,k1,λH2 g2=>?_⟩;have s2:=U.trans g2;refine⟨_,rfl,_,rfl,_,_,rfl,rfl,a,_,_,_,rfl,rfl,SqL.of (s2 _ _ ha),a2,b2,p2,rfl,l2.mono s2,k2,λH3 g3=>?_⟩;have s3:=s2.trans g3;refine⟨_,_,rfl,rfl,_,rfl,?_⟩;rw[e1,e2]
  by_cases G:j=n
  .subst G;rw[aFW (by omega)];exact⟨_,rfl,kk _ s3⟩
  .rw[aFX (M j Y (by omega))];refine⟨λJ H'=>∃ m',m'<n - j/\aDa H a n m' J H',λJ H' h=>h,?_⟩;refine⟨_,rfl,_,_,rfl,rfl,n - (j+1),by omega,j+1,rfl,s3,by omega,by omega,rfl⟩
abbrev iT:Stmt:=top 43
def bU:FnScope ["row","runs","niche","first","last"] ["row"] (aH iT):=.m
inductive aCi (H0:Hp) (row:List Int) (ps:Trs) (a r:Addr) (i:Nat) (σ:St) (Hx:Hp):Prop
 | mk (v3 v4:Option V) (us:List V) (h0_:σ=[some (.ref a),some (.ref r),some (.int (dB row (ps.take i)).2),v3,v4]) (h1_:Same H0 Hx) (h2_:Hx r=some (.lst us)) (h3_:Paired (RunV r Hx) us (dB row (ps.take i)).1):aCi H0 row ps a r i σ Hx
def zG {f:Addr} {fd:FuncData} (F:Fun K "road_runs" "road_runs" iT f fd) (B:Bt mg) (z:dG P w K mg base "stretches" 2 ["row"] cL):FnOk P w K mg base CX0 3 f fd ["row"] uE:=by
 refine F.ok bU (λvs H Q E h=>?_) (λcq A outer s H vs Q E hr h=>?_)
 .obtain⟨a,row,rfl,_⟩:=h;rfl
 .obtain⟨a,row,rfl,ha,bu,cg,kk⟩:=h;refine⟨_,(aC (aM 1 bU.nd (bF aB))
 (aC (aM 2 bU.nd (aI bC (aI bC (wE rfl rfl B.min (pv 0) aF) (aJ aL (by rfl) B.len jg (aA (pv 0) aB))) aF))
 (aC (cS ft rfl (bX (bE z hr rfl (aA (pv 0) aB))) (fE rfl (aR (cJ 3 bU.nd) (aR (cJ 4 bU.nd) cR)))
 (aC (aN (dF aF9 aFa aFb bA (pv 1) (aA (bF (aA (bM (aA (pv 2) (aA (aI bC (pv 3) aF) aB))) aB)) aB)))
 (aC (aN (dF aF9 aFa aFb bA (pv 1) (aA (bF (aA (bM (aA (pv 3) (aA (pv 4) aB))) aB)) aB)))
 (aG (aM 2 bU.nd (aI bK (pv 4) aF))))))
 (aC (aN (dF aF9 aFa aFb bA (pv 1) (aA (bF (aA (bM (aA (pv 2) (aA (aI bC (aI bK (pv 2) (aJ aL (by rfl) B.len jg (aA (pv 0) aB))) aF) aB))) aB)) aB)))
 (aG (aY (pv 1))))))),?_⟩
  refine⟨by decide,λr Y=>?_⟩;refine aK Y λH1 g1 er=>?_;refine⟨_,rfl,a,row,rfl,SqL.of (g1 _ _ ha),_,rfl,a,_,rfl,.inl (SqL.of (g1 _ _ ha)),?_⟩;rw[aAU];refine⟨_,_,rfl,rfl,_,_,rfl,rfl,?_⟩;refine⟨_,rfl,a,row,rfl,g1 _ _ ha,bu,cg,λls ws H2 bv g2 bw b_=>?_⟩;have s2:=g1.trans g2;have el:ws.length=(bD row).length:=b_.len;have cr:=lX row;have ca:ls≠r:=λe=>by rw[e,er]at bv;cases bv
  refine⟨ls,rfl,⟨_,SqL.of bw⟩,dP (K:=K) (a:=ls) (xs:=ws) (λi σ Hx=>aCi H row (bD row) a r i σ Hx/\Hx ls=some (.lst ws)/\Prs Hx ws (bD row)) ⟨⟨none,none,[],?_,s2,g2 _ _ er,.nil⟩,bw,b_⟩ (λi σ Hx _ h=>SqL.of h.2.1) ?_ ?_⟩
  .rw[aFB];rfl
  .rintro i x σ Hx hi ⟨⟨v3,v4,us,rfl,sm,L,pv⟩,bb,av⟩;obtain⟨q,t',hq,rfl,et⟩:=dR av hi;have cu:i<(bD row).length:=(aFd.mp hq).1;have ci:(bD row).take (i+1)=(bD row).take i++[q]:=by rw[List.take_add_one,hq];rfl
   have bg:dB row ((bD row).take (i+1))=uD (dB row ((bD row).take i)) q:=by rw[ci,hZ]
   have a_:=jN row ((bD row).take i);rw[aFR]at a_;have bh:us.length=(dB row ((bD row).take i)).1.length:=mI pv;generalize dB row ((bD row).take i)=st at pv bg a_ bh ⊢;refine⟨t',_,rfl,SqT.of et,rfl,_,_,rfl,_,_,rfl,rfl,?_⟩;refine⟨_,rfl,.inl ⟨rfl,_,SqL.of L⟩,_,rfl,_,rfl,_,_,rfl,rfl,(show 2<=sizeLine by decide),λt1 bi=>?_⟩;refine aK bi λH3 g3 bj=>?_;refine⟨(show 1<=sizeLine by decide),λJ M=>?_⟩;refine aK M λH4 g4 bn=>?_;have G:=g3.trans g4;have U:=G _ _ L;have bo:J≠r:=λe=>by rw[e,g3 _ _ L]at M;cases M
   have bq:Paired (RunV r H4) (us++[V.ref J]) (st.1++[[(st.2,q.1 - 1)]]):=Paired.append' (pv.mono λ_ _ h=>h.same G) (.cons ⟨J,rfl,bo,_,bn,.cons ⟨t1,rfl,g4 _ _ bj⟩ .nil⟩ .nil);refine⟨r,_,_,rfl,rfl,U,aQ (by omega),?_⟩;have cb:Same H (upd H4 r (.lst (us++[V.ref J]))):=Same.upd' Y (sm.trans G);have ba:(upd H4 r (.lst (us++[V.ref J]))) r=some (.lst (us++[V.ref J])):=aD;have cc:Paired (RunV r (upd H4 r (.lst (us++[V.ref J])))) (us++[V.ref J]) (st.1++[[(st.2,q.1 - 1)]]):=bq.mono λ_ _ h=>RunV.upd U h;have bc:(upd H4 r (.lst (us++[V.ref J]))) ls=some (.lst ws):=by rw[aE ca];exact G _ _ bb
   have bf:Prs (upd H4 r (.lst (us++[V.ref J]))) ws (bD row):=av.mono ((TupS.same G).trans (TupS.lst U));generalize upd H4 r (.lst (us++[V.ref J]))=H5 at cb ba cc bc bf ⊢;refine⟨_,rfl,.inl ⟨rfl,_,SqL.of ba⟩,_,rfl,_,rfl,(show 2<=sizeLine by decide),λt2 cj=>?_⟩;refine aK cj λH6 g6 ck=>?_;refine⟨(show 1<=sizeLine by decide),λb2 br=>?_⟩;refine aK br λH7 g7 cm=>?_;have aw:=g6.trans g7;have bt:=aw _ _ ba;have cn:b2≠r:=λe=>by rw[e,g6 _ _ ba]at br;cases br
   have cp:Paired (RunV r H7) (us++[V.ref J]++[V.ref b2]) (st.1++[[(st.2,q.1 - 1)]]++[[q]]):=Paired.append' (cc.mono λ_ _ h=>h.same aw) (.cons ⟨b2,rfl,cn,_,cm,.cons ⟨t2,rfl,g7 _ _ ck⟩ .nil⟩ .nil);refine⟨r,_,_,rfl,rfl,bt,aQ (by rw[aFK];show us.length+1<=10000;omega),?_⟩;refine⟨_,rfl,_,_,rfl,rfl,⟨some (.int q.1),some (.int q.2),_,?_,Same.upd' Y (cb.trans aw),aD,?_⟩,by rw[aE ca];exact aw _ _ bc,bf.mono ((TupS.same aw).trans (TupS.lst bt))⟩
   .rw[bg];rfl
   .rw[bg];have e2:(uD st q).1=st.1++[[(st.2,q.1 - 1)]]++[[q]]:=by unfold uD;rw[jq];rfl
    rw[e2];exact cp.mono λ_ _ h=>RunV.upd bt h
  .rintro σ Hx ⟨⟨v3,v4,us,rfl,sm,L,pv⟩,bb,av⟩;rw[el,aFP]at pv;have a_:=jN row (bD row);have bh:us.length=(dB row (bD row)).1.length:=mI pv;rw[el,aFP];obtain⟨st,cf⟩:∃ st,st=dB row (bD row):=⟨_,rfl⟩;rw[<- cf]at pv a_ bh ⊢;refine⟨_,rfl,.inl ⟨rfl,_,SqL.of L⟩,_,rfl,_,rfl,_,rfl,a,_,rfl,.inl (SqL.of (sm _ _ ha)),_,_,rfl,rfl,_,_,rfl,rfl,(show 2<=sizeLine by decide),λt1 bi=>?_⟩;rw[aFB];refine aK bi λH3 g3 bj=>?_;refine⟨(show 1<=sizeLine by decide),λJ M=>?_⟩;refine aK M λH4 g4 bn=>?_;have G:=g3.trans g4;have U:=G _ _ L;have bo:J≠r:=λe=>by rw[e,g3 _ _ L]at M;cases M
   have bq:Paired (RunV r H4) (us++[V.ref J]) (st.1++[[(st.2,st.2+(row.length:Int) - 1)]]):=Paired.append' (pv.mono λ_ _ h=>h.same G) (.cons ⟨J,rfl,bo,_,bn,.cons ⟨t1,rfl,g4 _ _ bj⟩ .nil⟩ .nil);refine⟨r,_,_,rfl,rfl,U,aQ (by omega),?_⟩;refine⟨_,rfl,kk r _ Y (Same.upd' Y (sm.trans G)) ⟨_,aD,?_⟩⟩;have e2:eK row=st.1++[[(st.2,st.2+(row.length:Int) - 1)]]:=by rw[cf];rfl
   rw[e2];exact bq.mono λ_ _ h=>by
    obtain⟨b,k1,_,k3⟩:=RunV.upd (ys:=us++[V.ref J]) U h;exact⟨b,k1,k3⟩
def vL {f:Addr} {fd:FuncData} (F:Fun K "road_runs" "road_runs" iT f fd) (B:Bt mg) (X:aV K mg) (z:cN P w K mg base "stretches" 5 ["row"] (kY cL (cM X))):FnOk P w K mg base (CXR P w) 6 f fd ["row"] (cM X):=by
 refine F.okX bU (λvs H Q E h=>?_) (λM A outer s H vs Q E G U h=>?_)
 .obtain⟨a,r,rfl,_⟩:=h;rfl
 .obtain⟨a,row,rfl,J,hlen,hd,k⟩:=h;refine⟨_,(aC (aM 1 bU.nd (bF aB))
 (aC (aM 2 bU.nd (aI bC (aI bC (wE rfl rfl B.min (pv 0) aF) (aJ aL (by rfl) B.len jg (aA (pv 0) aB))) aF))
 (aC (cS aAE rfl (bX (bN z U rfl (eW G) (aA (pv 0) aB))) (fE rfl (aR (cJ 3 bU.nd) (aR (cJ 4 bU.nd) cR)))
 (aC (aN (dF aF9 aFa aFb bA (pv 1) (aA (bF (aA (bM (aA (pv 2) (aA (aI bC (pv 3) aF) aB))) aB)) aB)))
 (aC (aN (dF aF9 aFa aFb bA (pv 1) (aA (bF (aA (bM (aA (pv 3) (aA (pv 4) aB))) aB)) aB)))
 (aG (aM 2 bU.nd (aI bK (pv 4) aF))))))
 (aC (aN (dF aF9 aFa aFb bA (pv 1) (aA (bF (aA (bM (aA (pv 2) (aA (aI bC (aI bK (pv 2) (aJ aL (by rfl) B.len jg (aA (pv 0) aB))) aF) aB))) aB)) aB)))
 (aG (aY (pv 1))))))),?_⟩
  refine⟨by decide,λr L=>?_⟩;refine aK L λH1 g1 _=>?_;refine⟨_,rfl,a,row,rfl,SqL.of (g1 _ _ J),_,rfl,a,_,rfl,.inl (SqL.of (g1 _ _ J)),?_⟩;rw[aAU];exact⟨_,_,rfl,rfl,_,_,rfl,rfl,_,rfl,.inr (vE g1 J hlen hd k)⟩
abbrev rY:Stmt:=top 42
def eE:FnScope ["row","runs","pairs","at","size","ahead","found","rest"] ["row"] (aH rY):=.m
inductive hdW (H0:Hp) (a lp:Addr) (rs0:List Trs) (m:Nat) (σ:St) (Hx:Hp):Prop
 | mk (lr:Addr) (rs:List Trs) (us:List V) (v3 v4 v5 v6 v7:Option V) (h0_:σ=[some (.ref a),some (.ref lr),some (.ref lp),v3,v4,v5,v6,v7]) (h1_:Same H0 Hx) (h2_:R1 lp Hx lr rs) (h3_:rs.length=1\/HI rs) (h4_:eZ false rs<=60) (h5_:Hx lp=some (.lst us)) (its:List LL) (h6_:Paired (IsPp Hx) us its) (h7_:2 * us.length+rs.length<=121) (h8_:∀ more,HdR rs more->HdR rs0 (its++more)) (h9_:(rs.map List.length).sum<=200) (h10_:m=rs.length):hdW H0 a lp rs0 m σ Hx
def rZ {rs:List Trs} {r:Trs} (h:r∈rs):r.length<=(rs.map List.length).sum:=by
 induction rs with
 | nil=>cases h
 | cons a t z =>
  simp only[aF0,aF3];rcases aFe.mp h with rfl | h
  .omega
  .have:=z h;omega
def aB3 {f c PT:Addr} {fd:FuncData} (F:FunC K "heads" "heads" rY f fd c) (hC:PySem.W.CodeHd base c PT) (ff:jG mg base) (B:Bt mg) (Y:dG P w K mg base "road_runs" 3 ["row"] uE) (av:dG P w K mg base "found_run" 2 ["runs"] nF) (M:dG P w K mg base "run_length" 1 ["run"] oT) (G:dG P w K mg base "cut_run" 1 ["run","many"] uC):FnOk P w K mg base CX0 5 f fd ["row"] (uK PT ⟨224,29,224,62⟩):=by
 refine F.ok eE (λvs H Q E h=>?_) (λA outer s H vs Q E hr h=>?_)
 .obtain⟨a,row,rfl,_⟩:=h;rfl
 .obtain⟨a,row,rfl,ha,bh,fg,fh,kk⟩:=h;refine⟨_,(aC (aM 1 eE.nd (bE Y hr rfl (aA (pv 0) aB)))
 (aC (aM 2 eE.nd (bF aB))
 (aC (fF ft (aS nN (aJ aL (by rfl) B.len jg (aA (pv 1) aB)) aF (aZ _))
 (aC (aM 3 eE.nd (bE av hr rfl (aA (pv 1) aB)))
 (aC (aM 4 eE.nd (bE M hr rfl (aA (aX aW (pv 1) (aI bC (pv 3) aF) (λ_ _=>rfl)) aB)))
 (aC (aM 5 eE.nd (aX mY (bE G hr rfl (aA (aX aW (pv 1) (aI bC (pv 3) aF) (λ_ _=>rfl)) (aA (pv 4) aB))) aF (λ_ _=>rfl)))
 (aC (M3 (bE G hr rfl (aA (aX aW (pv 1) (pv 3) (λ_ _=>rfl)) (aA (pv 4) aB))) (fE rfl (aR (cJ 6 eE.nd) (aR (cJ 7 eE.nd) cR))))
 (aC (aN (dF aF9 aFa aFb bA (pv 2) (aA (sS (kI (aS mZ (aI dL (pv 3) aF) aF (aZ _)) (bM (aA (eV gB (by rfl) B.tuple eU (aA (pv 5) aB)) (aA (eV gB (by rfl) B.tuple eU (aA (pv 6) aB)) aB))) (bM (aA (eV gB (by rfl) B.tuple eU (aA (pv 6) aB)) (aA (eV gB (by rfl) B.tuple eU (aA (pv 5) aB)) aB))))) aB)))
 (aG (aM 1 eE.nd (aI pF (aI pF (eM gA (pv 1) fY (fZ (aI bC (pv 3) aF))) (bF (aA (aI pF (aX aW (pv 1) (aI bC (pv 3) aF) (λ_ _=>rfl)) (pv 7)) aB))) (eM gA (pv 1) (fZ (aI bK (pv 3) aF)) fY))))))))))
 (aG (aY (aAu (k:=1) (x:="pair") (N:=["pair"]) hr (by rfl) B.sorted (pv 2) ⟨rfl,rfl,rfl⟩ rfl hC ff rfl rfl ⟨rfl,rfl,rfl,(show (["pair"]:List Str).Nodup by decide +kernel),rfl,(λy hy=>by rw[aF7.mp hy];exact Or.inl rfl),by decide +kernel⟩ (λ_ _ _ _=>rfl) (λ_ _ _ _ _ _ _ hr=>(bM (aA (aJ (iX K rfl) (by rfl) B.len jg (aA (aX (aBk K rfl) (pv 0) aF (λ_ _=>rfl)) aB)) (aA (pv 0) aB)))))))))),?_⟩
  refine⟨_,rfl,a,row,rfl,ha,bh,fg,λcq H1 cr g1 RA=>?_⟩;refine⟨by decide,λU hlp=>?_⟩;refine aK hlp λH2 g2 aw=>?_;have s2:=g1.trans g2;have fi:H U=none:=g1.free hlp;have R2:R1 U H2 cq (eK row):=by
   obtain⟨vs,h0,h1⟩:=RA;refine⟨vs,(λe=>by rw[e,hlp]at h0;cases h0),g2 _ _ h0,h1.mono λv ps hb=>?_⟩;obtain⟨b,e,l⟩:=hb;refine⟨b,e,λe'=>?_,l.mono g2⟩;obtain⟨us,l1,_⟩:=l;rw[e',hlp]at l1;cases l1
  have cu:∀ x∈row,loM row<=x:=aD7 row;refine⟨hdW H a U (eK row),⟨_,cq,eK row,[],none,none,none,none,none,rfl,s2,R2,?_,?_,aw,[],.nil,?_,λmore h=>h,?_,rfl⟩,?_⟩
  .rcases Y3 bh cu with h | h
   .exact .inl h
   .exact .inr h.1
  .rcases Y3 bh cu with h | h
   .exact aBM h
   .omega
  .have:=p6 row;show 2 * 0+(eK row).length<=121;omega
  .have:=F0 row;omega
  clear RA R2 g1 g2 aw s2 cr;rintro m σ Hx ⟨lr,rs,us,v3,v4,v5,v6,v7,rfl,sm,RP,hI,ik,aw,its,bq,ij,cv,cw,rfl⟩;obtain⟨vs,fj,bf,pr⟩:=RP;have il:vs.length=rs.length:=mI pr;refine⟨_,rfl,lr,_,rfl,.inl (SqL.of bf),_,_,rfl,rfl,_,rfl,?_⟩
  by_cases fk:1<rs.length
  .rw[aFX (show (1:Int)<(vs.length:Int)by omega)];refine⟨λcx H'=>∃ m',m'<rs.length/\hdW H a U (eK row) m' cx H',λcx H' h=>h,?_⟩;have bg:HI rs:=hI.resolve_left (by omega);obtain⟨n,hF,fm⟩:=bg.found fk;obtain⟨A',x,y,z,B',J,hA⟩:=aD3 fm hF.few;have get:∀ (i:Nat) (r:Trs),rs[i]?=some r->∃ b,atI vs (i:Int)=some (.ref b)/\b≠U/\LP Hx b r:=λi r hi=>by
    obtain⟨v,h1,b,rfl,h2,h3⟩:=rR pr hi;exact⟨b,gL h1,h2,h3⟩
   have ix:rs[n - 2]?=some x:=by rw[J,<- hA];simp
   have iy:rs[n - 1]?=some y:=by rw[J,show n - 1=A'.length+1 by omega];simp
   have iz:rs[n]?=some z:=by rw[J,show n=A'.length+2 by omega];simp
   obtain⟨bx,ax,nx,Lx⟩:=get _ _ ix;obtain⟨cy,ay,ny,Ly⟩:=get _ _ iy;obtain⟨bz,az,nz,Lz⟩:=get _ _ iz;have mx:=aFM ix;have my:=aFM iy;have mz:=aFM iz;have im:=rZ my;have io:=rZ mz;have ip:=rZ mx;have iq:bL y<=bL z:=by
    have h1:=hF.ge;unfold rl at h1;rw[fy,fy,iy,iz]at h1;exact h1
   have cz:=bg.rn y my;have c_:=bg.rn z mz;have y0:=mJ cz;have ir:bL y<=60:=by
    have k1:rl rs (n - 1)=bL y:=by unfold rl;rw[fy,iy];rfl
    have k2:rl rs n=bL z:=by unfold rl;rw[fy,iz];rfl
    rcases tj n with h | h
    .have:=bg.le (i:=n - 1) (by have:=hF.few;omega) (by omega);omega
    .have:=bg.le (i:=n) hF.few h;omega
   have fq:((n - 1:Nat):Int)=(n:Int) - 1:=by omega
   have bw:((n - 2:Nat):Int)=(n:Int) - 2:=by omega
   rw[fq]at ay;rw[bw]at ax;refine⟨_,rfl,lr,rs,n,rfl,⟨vs,bf,pr.mono λ_ _ ⟨b,e,_,l⟩=>⟨b,e,l⟩⟩,by omega,(λps fu=>by have:=rZ fu;omega),hF,λH1 g1=>?_⟩;refine⟨_,rfl,_,rfl,_,_,rfl,rfl,lr,_,_,_,rfl,rfl,SqL.of (g1 _ _ bf),ay,cy,y,rfl,Ly.mono g1,by omega,λH2 g2=>?_⟩;have t2:=g1.trans g2;refine⟨_,rfl,_,rfl,_,_,rfl,rfl,lr,_,_,_,rfl,rfl,SqL.of (t2 _ _ bf),ay,_,rfl,cy,y,bL y,rfl,Ly.mono t2,by omega,cz,⟨y0,by omega⟩,λq1 l1 l2 H3 _ g3 fw dc _=>?_⟩;have t3:=t2.trans g3;refine⟨q1,_,_,_,rfl,rfl,SqT.of fw,rfl,?_⟩;refine⟨_,rfl,_,rfl,lr,_,_,_,rfl,rfl,SqL.of (t3 _ _ bf),az,_,rfl,bz,z,bL y,rfl,Lz.mono t3,by omega,c_,⟨y0,by omega⟩,λq2 l3 l4 H4 df g4 fz dh Lr=>?_⟩;have t4:=t3.trans g4;refine⟨q2,_,rfl,SqT.of fz,rfl,_,_,rfl,_,_,rfl,rfl,?_⟩;have ba:=t4 _ _ aw;refine⟨_,rfl,.inl ⟨rfl,_,SqL.of ba⟩,λv Hc=>∃ t,v=.ref t/\IsPp Hc (.ref t) (qB n y z)/\Same H4 Hc,?_,?_⟩
   .refine⟨_,rfl,_,_,rfl,rfl,(by show (0:Int)<2;decide),_,_,rfl,rfl,_,rfl,iG (λhc=>?_) (λhc=>?_)⟩
    .skip
     refine⟨_,rfl,l1,_,rfl,.inl ⟨SqL.of (g4 _ _ dc),λw1 b_=>?_⟩⟩;refine aK b_ λH5 k1 ca=>?_;refine⟨_,rfl,l3,_,rfl,.inl ⟨SqL.of (k1 _ _ (dh)),λw2 cb=>?_⟩⟩;refine aK cb λH6 k2 cc=>?_;refine⟨(show 2<=sizeLine by decide),λw3 cf=>?_⟩;have k3:=Same.upd (o:=.tup [V.ref w1,V.ref w2]) cf;exact⟨w3,rfl,(by unfold qB;rw[da (by omega)];exact⟨w3,_,_,rfl,aD,⟨w1,rfl,(k2.trans k3) _ _ ca⟩,⟨w2,rfl,k3 _ _ cc⟩⟩),(k1.trans k2).trans k3⟩
    .skip
     refine⟨_,rfl,l3,_,rfl,.inl ⟨SqL.of (dh),λw1 b_=>?_⟩⟩;refine aK b_ λH5 k1 ca=>?_;refine⟨_,rfl,l1,_,rfl,.inl ⟨SqL.of (k1 _ _ (g4 _ _ dc)),λw2 cb=>?_⟩⟩;refine aK cb λH6 k2 cc=>?_;refine⟨(show 2<=sizeLine by decide),λw3 cf=>?_⟩;have k3:=Same.upd (o:=.tup [V.ref w1,V.ref w2]) cf;exact⟨w3,rfl,(by unfold qB;rw[bB (by omega)];exact⟨w3,_,_,rfl,aD,⟨w1,rfl,(k2.trans k3) _ _ ca⟩,⟨w2,rfl,k3 _ _ cc⟩⟩),(k1.trans k2).trans k3⟩
   rintro v Hc ⟨t,rfl,f_,g5⟩;have t5:=t4.trans g5;refine⟨U,_,_,rfl,rfl,g5 _ _ ba,aQ (by omega),?_⟩;have bb:(upd Hc U (.lst (us++[V.ref t]))) U=some (.lst (us++[V.ref t])):=aD;have bi:TupS Hc (upd Hc U (.lst (us++[V.ref t]))):=TupS.lst (g5 _ _ ba);have di:Same H (upd Hc U (.lst (us++[V.ref t]))):=Same.upd' fi (sm.trans t5);have bc:(upd Hc U (.lst (us++[V.ref t]))) lr=some (.lst vs):=by rw[aE fj];exact t5 _ _ bf
   have br:Paired (RunV U (upd Hc U (.lst (us++[V.ref t])))) vs rs:=pr.mono λ_ _ h=>RunV.upd (g5 _ _ ba) (h.same t5);have bu:Paired (IsPp (upd Hc U (.lst (us++[V.ref t])))) (us++[V.ref t]) (its++[qB n y z]) :=
    Paired.append' (bq.mono λ_ _ h=>IsPp.tup ((TupS.same t5).trans bi) h) (.cons (IsPp.tup bi f_) .nil)
   have gb:l4≠U:=λe=>by rw[e,t3 _ _ aw]at df;cases df
   have dk:LP (upd Hc U (.lst (us++[V.ref t]))) l4 (dN (bL y) z).2:=by
    obtain⟨ws,h1,h2⟩:=Lr.mono g5;exact⟨ws,by rw[aE gb];exact h1,h2.mono bi⟩
   generalize upd Hc U (.lst (us++[V.ref t]))=H6 at bb di bc br bu dk ⊢;obtain⟨gc,gg,iu,gh⟩:∃ b,atI vs ((n:Int) - 2)=some (.ref b)/\b≠U/\LP H6 b x:=by
    obtain⟨v,h1,b,rfl,h2,h3⟩:=rR br ix;rw[<- bw];exact⟨b,gL h1,h2,h3⟩
   obtain⟨xs,ex,dm⟩:=gh;obtain⟨zs,ez,dn⟩:=dk;have CF:=pY y0 z c_;have iw:xs.length=x.length:=dm.len;have i_:zs.length=(dN (bL y) z).2.length:=dn.len;have ja:=CF.few;refine⟨_,rfl,_,rfl,_,_,rfl,rfl,_,rfl,lr,_,rfl,SqL.of bc,λs1 gj=>?_⟩;rw[show iE vs none (some ((n:Int) - 2))=vs.take (n - 2)by rw[<- bw];exact aBs vs (n - 2)];refine aK gj λH7 j1 gk=>?_;refine⟨_,rfl,_,rfl,_,_,rfl,rfl,lr,_,_,_,rfl,rfl,SqL.of (j1 _ _ bc),gg,_,rfl,gc,l4,_,_,rfl,rfl,j1 _ _ ex,j1 _ _ ez,km (aQ (by omega)),λc1 cg=>?_⟩;refine aK cg λH8 j2 gl=>?_;refine⟨(show 1<=sizeLine by decide),λd1 gm=>?_⟩;refine aK gm λH9 j3 gn=>?_;refine⟨s1,d1,_,_,rfl,rfl,(j2.trans j3) _ _ gk,gn,(by rw[aFR];exact km (aQ (show min (n - 2) vs.length+1<=10000 by omega))),λe1 gp=>?_⟩;refine aK gp λjb j4 gr=>?_;have ci:=((j1.trans j2).trans j3).trans j4;refine⟨_,rfl,_,rfl,_,_,rfl,rfl,_,rfl,lr,_,rfl,SqL.of (ci _ _ bc),λs2 gv=>?_⟩;rw[show iE vs (some ((n:Int)+1)) none=vs.drop (n+1) from pP vs (n+1)];refine aK gv λjc j5 gw=>?_;have jd:=hF.few;refine⟨e1,s2,_,_,rfl,rfl,j5 _ _ gr,gw,(by rw[aFK,aFR,vg];exact km (aQ (show min (n - 2) vs.length+1+(vs.length - (n+1))<=10000 by omega))),λdq bj=>?_⟩;refine aK bj λdr j6 du=>?_;have a_:=(ci.trans j5).trans j6;have hrest:bL (dN (bL y) z).2=bL z - bL y:=by have:=CF.rest;omega
   obtain⟨g_,dv⟩:=HI.step (A:=A') (B:=B') (x:=x) (y:=y) (z:=z) (rest:=(dN (bL y) z).2) (by rw[<- J];exact bg) hrest CF.rn;rw[<- J]at dv;have h_:rs.take (n - 2)=A':=by rw[J,<- hA];simp
   have ia:rs.drop (n+1)=B':=by rw[J,show n+1=A'.length+3 by omega];simp
   have dw:rs.length=A'.length+3+B'.length:=by rw[J];simp;omega
   have ib:=((j3.trans j4).trans j5).trans j6;have ic:c1≠U:=λe=>by rw[e,j1 _ _ bb]at cg;cases cg
   have dy:dq≠U:=λe=>by rw[e,(ci.trans j5) _ _ bb]at bj;cases bj
   have ie:Prs dr (xs++zs) (x++(dN (bL y) z).2):=Paired.append' (dm.mono (TupS.same a_)) (dn.mono (TupS.same a_));have ig:Paired (RunV U dr) (vs.take (n - 2)++[V.ref c1]++vs.drop (n+1)) (A'++(x++(dN (bL y) z).2) :: B'):=by
    have p1:=wU (n - 2) (br.mono λ_ _ h=>RunV.same a_ h);have p2:=wV (n+1) (br.mono λ_ _ h=>RunV.same a_ h);rw[h_]at p1;rw[ia]at p2;have p3:=Paired.append' (Paired.append' p1 (.cons (b:=x++(dN (bL y) z).2) ⟨c1,rfl,ic,_,ib _ _ gl,ie⟩ .nil)) p2;have e:A'++(x++(dN (bL y) z).2) :: B'=A'++[x++(dN (bL y) z).2]++B':=by simp
    rw[e];exact p3
   refine⟨(A'++(x++(dN (bL y) z).2) :: B').length,?_,dq,A'++(x++(dN (bL y) z).2) :: B',us++[V.ref t],_,_,_,_,_,rfl,di.trans a_,⟨_,dy,du,ig⟩,.inr g_,by omega,a_ _ _ bb,its++[qB n y z],bu.mono λ_ _ h=>IsPp.tup (TupS.same a_) h,?_,?_,?_,rfl⟩
   .rw[dw];simp;omega
   .rw[aFK];simp only[aFK,aF4,oi];omega
   .intro more hm;rw[jq];refine cv _ ?_;have dz:=hF;rw[J,show n=A'.length+2 by omega]at dz;have hh:=HdR.step dz hm;rw[J,show n=A'.length+2 by omega];exact hh
   .rw[J]at cw;simp only[aFQ,aF0,pi,aF3,aFK]at cw ⊢;omega
  .rw[aFW (show ¬ (1:Int)<(vs.length:Int)by omega)];have hH:=cv [] (.nil (by omega));rw[jy]at hH;have je:us.length=its.length:=ol bq;refine⟨_,rfl,?_⟩;have bv:=(λ(n:Nat) (h:n+16 * 4+200<cLine)=>(show n+74<cLine by omega)) _ hr.un;have bn:us.length<64:=by omega
   rcases fh with e0 | ⟨c',e1,e2⟩
   .have bt:=sm _ _ e0;refine⟨_,bt,True.intro,.inl ⟨rfl,λc' f' cj bo d_=>?_⟩⟩;have eh:c'≠PT:=λe=>by rw[e,bt]at cj;cases cj
    have e_:f'≠PT:=λe=>by rw[e,bt]at bo;cases bo
    have fb:∀ {b:Addr} {o:HO} {d:Addr},Hx b=some o->Hx d=none->b≠d:=λh1 h2 e=>by rw[e,h2]at h1;cases h1
    have k2:∀ (T C L:HO),SameP PT Hx (upd (upd (upd Hx PT T) c' C) f' L):=λT C L b o n e=>by
     rw[aE (fb e bo),aE (fb e cj),aE n];exact e
    have nT:∀ {b:Addr} {o:HO},Hx b=some o->(∀ qs,o≠.tbl qs)->b≠PT:=λh1 h2=>pN bt h1 h2;refine aBP (its:=its) bv (λv p H' Q' hp k=>?_) aD (by rw[aE (jh d_)];exact aD) (k2 _ _ _ _ _ (nT aw λ_ z=>by cases z) aw) bn (bq.mono λ_ _ h=>IsPp.tup (λb xs e=>k2 _ _ _ _ _ (nT e λ_ z=>by cases z) e) h) λqs ck l H' hS g hl el cm=>?_
    .obtain⟨t,x,y,rfl,h1,⟨lx,rfl,hx⟩,_⟩:=hp;exact⟨_,rfl,t,_,_,_,rfl,rfl,SqT.of h1,rfl,lx,_,rfl,.inr (SqT.of hx),_,rfl,(show 2<=sizeLine by decide),λt' cn=>by rw[aFB];exact k t' cn⟩
    .have ii:Hx l=none:=by
      cases e:Hx l with
      | none=>rfl
      | some o =>
       by_cases fc:l=PT
       .rw[fc,aE (jh e_),aE (jh eh),aD]at hl;cases hl
       .rw[k2 _ _ _ _ _ fc e]at hl;cases hl
     refine kk its qs ck l H' hH hS (sm.toP.trans ((k2 _ _ _).trans g.toP)) (sm.free ii) el cm (.inr ⟨c',g _ _ ?_,g _ _ ?_⟩)
     .rw[aE (jh e_),aE (jh eh),aD];rfl
     .rw[aE (jh d_),aD];rfl
   .have fe:=sm _ _ e1;have cp:=sm _ _ e2;refine⟨_,fe,True.intro,.inr ⟨c',rfl,cp,λf' bo=>?_⟩⟩;have k2:∀ (L:HO),Same Hx (upd Hx f' L):=λL=>Same.upd bo;refine aBP (its:=its) bv (λv p H' Q' hp k=>?_) aD (k2 _ _ _ cp) (k2 _ _ _ aw) bn (bq.mono λ_ _ h=>IsPp.tup (TupS.same (k2 _)) h) λqs ck l H' hS g hl el cm=>?_
    .obtain⟨t,x,y,rfl,h1,⟨lx,rfl,hx⟩,_⟩:=hp;exact⟨_,rfl,t,_,_,_,rfl,rfl,SqT.of h1,rfl,lx,_,rfl,.inr (SqT.of hx),_,rfl,(show 2<=sizeLine by decide),λt' cn=>by rw[aFB];exact k t' cn⟩
    .exact kk its qs ck l H' hH hS (sm.trans ((k2 _).trans g)).toP ((sm.trans (k2 _)).free hl) el cm (.inr ⟨c',g _ _ (k2 _ _ _ fe),g _ _ (k2 _ _ _ cp)⟩)
def v8 {f:Addr} {fd:FuncData} (F:Fun K "heads" "heads" rY f fd) (B:Bt mg) (X:aV K mg) (z:cN P w K mg base "road_runs" 6 ["row"] (kY uE (cM X))):FnOk P w K mg base (CXR P w) 7 f fd ["row"] (cM X):=by
 refine F.okX eE (λvs H Q E h=>?_) (λJ A outer s H vs Q E G L h=>?_)
 .obtain⟨a,r,rfl,_⟩:=h;rfl
 .obtain⟨a,row,rfl,M,hlen,hd,k⟩:=h;refine⟨_,(aC (aM 1 eE.nd (bN z L rfl (eW G) (aA (pv 0) aB)))
 (aC aP
 (aC aP
 (aG aP)))),?_⟩
  exact⟨_,rfl,.inr (vE (Same.refl _) M hlen hd k)⟩
abbrev iZ:Stmt:=top 48
def cE:FnScope ["_law_script","_law_many","_law_row_here","_law_seed","_law_cell","_law_rest","_law_k"] ["_law_script","_law_many"] (aH iZ):=.m
inductive lO (H:Hp) (a:Addr) (l:Addr) (p:Addr) (m:Nat) (ms:List Int) (i:Nat) (σ:St) (H2:Hp):Prop
 | mk (seed:Int) (xs:List Int) (v1 v2 v3:Option V) (k0_:σ=[some (.ref a),some (.int m),some (.ref l),some (.int seed),v1,v2,v3]) (k1_:Same H H2) (k2_:H2 p=some (.lst (ms.map V.int))) (k3_:H2 l=some (.lst (xs.map V.int))) (k4_:b9 xs) (k5_:xs.length<=61 * i) (k6_:0<=seed) (k7_:seed<2147483629):lO H a l p m ms i σ H2
inductive lP (H:Hp) (a:Addr) (l:Addr) (p:Addr) (m:Nat) (ms:List Int) (i:Nat) (seed:Int) (z:Int) (v3:Option V) (σ:St) (H3:Hp):Prop
 | mk (ys:List Int) (k0_:σ=[some (.ref a),some (.int m),some (.ref l),some (.int (sd1 seed z)),some (.int z),some (.int (rs1 z)),v3]) (k1_:Same H H3) (k2_:H3 p=some (.lst (ms.map V.int))) (k3_:H3 l=some (.lst (ys.map V.int))) (k4_:b9 ys) (k5_:ys.length<=61 * i+1):lP H a l p m ms i seed z v3 σ H3
inductive lQ (H:Hp) (a:Addr) (l:Addr) (p:Addr) (m:Nat) (ms:List Int) (i:Nat) (seed:Int) (z:Int) (j:Nat) (σ:St) (H4:Hp):Prop
 | mk (r:Int) (ys:List Int) (v:Option V) (k0_:σ=[some (.ref a),some (.int m),some (.ref l),some (.int (sd1 seed z)),some (.int z),some (.int r),v]) (k1_:Same H H4) (k2_:H4 p=some (.lst (ms.map V.int))) (k3_:H4 l=some (.lst (ys.map V.int))) (k4_:b9 ys) (k5_:ys.length<=61 * i+1+j):lQ H a l p m ms i seed z j σ H4
inductive lR (H:Hp) (a:Addr) (l:Addr) (m:Nat) (v1:Option V) (v2:Option V) (v3:Option V) (σ:St) (H3:Hp):Prop
 | mk (seed:Int) (ys:List Int) (k0_:σ=[some (.ref a),some (.int m),some (.ref l),some (.int seed),v1,v2,v3]) (k1_:Same H H3) (k2_:H3 l=some (.lst (ys.map V.int))) (k3_:b9 ys) (k4_:ys.length<=5000) (k5_:0<=seed) (k6_:seed<2147483629):lR H a l m v1 v2 v3 σ H3
def S6 {f:Addr} {fd:FuncData} (F:Fun K "_law_numbers" "_law_numbers" iZ f fd) (B:Bt mg):FnOk P w K mg base CX0 1 f fd ["_law_script","_law_many"] (pJ K):=by
 refine F.ok cE (λvs H Q E h=>?_) (λbj A outer s H vs Q E hr h=>?_)
 .obtain⟨a,sc,m,rfl,_⟩:=h;rfl
 .obtain⟨a,sc,m,rfl,hS,hlen,hm,k⟩:=h;refine⟨_,(fU (aM 2 cE.nd (bF aB))
 (fU (aM 3 cE.nd aF)
 (fU (cS ft rfl (bX (eM gA (pv 0) fY (fZ aF))) (cJ 4 cE.nd)
 (fU (aM 3 cE.nd (aI dL (aI bK (aI bK (aI fP (pv 3) aF) (aI dL (pv 4) aF)) aF) aF))
 (fU (aM 5 cE.nd (aI bC (pv 4) (aI y3 aF aF)))
 (rL (dE (aS kD (pv 5) aF (aZ _))
 (aG (aN (dF aF9 aFa aFb bA (pv 2) (aA (aI dL (pv 4) aF) aB))))
 bQ)
 (aG (cS ft rfl (gT rfl B.range (aA aF aB)) (cJ 6 cE.nd)
 (aG (dE (aS nN (pv 5) aF (aZ _))
 (fU (aN (dF aF9 aFa aFb bA (pv 2) (aA (aI dL (pv 5) aF) aB)))
 (aG (aM 5 cE.nd (aI nM (pv 5) aF))))
 bQ))))))))
 (aC (fF ft (aS kD (aJ aL (by rfl) B.len jg (aA (pv 2) aB)) (pv 1) (aZ _))
 (fU (aM 3 cE.nd (aI dL (aI bK (aI bK (aI bK (aI fP (pv 3) (pv 3)) (aI fP aF (pv 3))) (aI fP aF (aJ aL (by rfl) B.len jg (aA (pv 2) aB)))) aF) aF))
 (aG (aN (dF aF9 aFa aFb bA (pv 2) (aA (aI dL (aI nM (pv 3) aF) aF) aB))))))
 (aG (aY (eM gA (pv 2) fY (fZ (pv 1))))))))),?_⟩
  refine λM1 J=>?_;refine⟨by decide,λl hl=>?_⟩;refine J [some (.ref a),some (.int m),some (.ref l),none,none,none,none] _ ?_;clear J M1;refine λM1 J=>?_;refine J [some (.ref a),some (.int m),some (.ref l),some (.int 59),none,none,none] _ ?_;clear J M1;refine λM1 J=>?_;refine⟨_,rfl,_,rfl,a,sc.map V.int,rfl,(Same.upd hl).seq hS,λp hp=>?_⟩;obtain⟨ms,ec,bn,bo⟩:=e8 sc none (some 63);rw[ec];have hpl:p≠l:=λe=>by subst e;rw[aD]at hp;cases hp
  have bc:H p=none:=by rw[<- hp,aE hpl]
  refine⟨p,rfl,⟨_,SqL.of aD⟩,dP (K:=K) (a:=p) (xs:=ms.map V.int) (lO H a l p m ms) ?_ ?_ ?_ ?_⟩
  .exact⟨59,[],none,none,none,rfl,Same.upd' bc (Same.upd hl),aD,by rw[aE (jh hpl),aD];rfl,λ_ h=>(by cases h),ah _,by decide,by decide⟩
  .rintro i σ H2 _ ⟨G,xs,v1,v2,v3,_,_,e,_⟩;exact SqL.of e
  .rintro i x σ H2 hi ⟨G,xs,v1,v2,v3,rfl,sm,ep,el,nx,lx,s0,s1⟩;have bq:i<ms.length:=by
    have:=(aFd.mp hi).1;simpa using this
   obtain⟨z,rfl⟩:∃ z,x=V.int z:=by
    rw[aFZ]at hi;cases e:ms[i]? with
    | none=>rw[e]at hi;cases hi
    | some z=>rw[e]at hi;exact⟨z,(jk hi).symm⟩
   clear J;refine λM2 L=>?_;refine⟨_,rfl,_,_,rfl,rfl,.inr ⟨by decide,by decide⟩,_,rfl,_,_,rfl,rfl,(by show (0:Int)<999983;decide),_,_,rfl,rfl,_,_,rfl,rfl,_,_,rfl,rfl,(by show (0:Int)<2147483563;decide),?_⟩;have t0:0<=sd1 G z:=jw _ (by decide);have t1:sd1 G z<2147483563:=jo _ (by decide);refine L [some (.ref a),some (.int m),some (.ref l),some (.int (sd1 G z)),some (.int z),v2,v3] _ ?_;clear L M2;refine λM2 L=>?_;refine⟨_,rfl,_,_,rfl,rfl,⟨by decide,by decide,by decide⟩,_,_,rfl,rfl,?_⟩;refine L [some (.ref a),some (.int m),some (.ref l),some (.int (sd1 G z)),some (.int z),some (.int (rs1 z)),v3] _ ?_;clear L M2;refine⟨lP H a l p m ms i G z v3,?_,?_⟩
   .refine⟨_,rfl,_,_,rfl,rfl,_,rfl,iG (λ_=>?_) (λ_=>⟨xs,rfl,sm,ep,el,nx,by omega⟩)⟩;refine⟨_,rfl,.inl ⟨rfl,_,SqL.of el⟩,_,rfl,_,_,rfl,rfl,(by show (0:Int)<9967;decide),l,_,_,rfl,rfl,el,(by rw[aFB];exact aQ (by omega)),?_⟩;refine⟨xs++[z % 9967],rfl,Same.upd' hl sm,by rw[aE hpl];exact ep,by rw[aD];simp,?_,by simp;omega⟩;intro n hn;rcases aFf.mp hn with h | h
    .exact nx n h
    .rw[aF7.mp h];exact⟨jw _ (by decide),jo _ (by decide)⟩
   .rintro σ H3 ⟨ys,rfl,U,bf,M,av,bg⟩;refine⟨60,rfl,by decide,by decide,fO (lo:=0) (n:=60) (lQ H a l p m ms i G z)
     ⟨rs1 z,ys,v3,rfl,U,bf,M,av,by omega⟩ ?_ ?_⟩
    .rintro j σ H4 hj ⟨r,ys,v,rfl,aw,a_,Y,ba,bh⟩;refine⟨_,rfl,_,_,rfl,rfl,_,rfl,iG (λbr=>?_) (λ_=>⟨r,ys,_,rfl,aw,a_,Y,ba,by omega⟩)⟩;refine λM2 L=>?_;refine⟨_,rfl,.inl ⟨rfl,_,SqL.of Y⟩,_,rfl,_,_,rfl,rfl,(by show (0:Int)<1013;decide),l,_,_,rfl,rfl,Y,(by rw[aFB];exact aQ (by omega)),?_⟩;refine L [some (.ref a),some (.int m),some (.ref l),some (.int (sd1 G z)),some (.int z),some (.int r),some (.int (0+(j:Int)))] _ ?_;clear L M2;refine⟨_,rfl,_,_,rfl,rfl,⟨by decide,by decide⟩,?_⟩;refine⟨r / 1013,ys++[r % 1013],_,rfl,Same.upd' hl aw,by rw[aE hpl];exact a_,by rw[aD];simp,?_,by simp;omega⟩;intro n hn;rcases aFf.mp hn with h | h
     .exact ba n h
     .rw[aF7.mp h];have a1:=jw r (show (1013:Int)≠0 by decide);have a2:=jo r (show (0:Int)<1013 by decide);exact⟨a1,by omega⟩
    .rintro σ H4 ⟨r,ys,v,rfl,aw,a_,Y,ba,bh⟩;exact⟨sd1 G z,ys,_,_,_,rfl,aw,a_,Y,ba,by omega,t0,by omega⟩
  .rintro σ H2 ⟨G,xs,v1,v2,v3,rfl,sm,ep,el,nx,lx,s0,s1⟩;have bt:xs.length<=61 * 63:=by
    have:(ms.map V.int).length<=63:=by rw[aFB];omega
    omega
   refine J [some (.ref a),some (.int m),some (.ref l),some (.int G),v1,v2,v3] _ ?_;clear J M1;refine nL (lR H a l m v1 v2 v3)
    (λ_ H3=>match H3 l with | some (.lst ys)=>m - ys.length | _=>0) ⟨G,xs,rfl,sm,el,nx,by omega,s0,s1⟩ ?_ ?_
   .rintro σ H3 ⟨G,ys,rfl,U,M,av,bg,q0,q1⟩;refine⟨_,rfl,l,_,rfl,.inl (SqL.of M),_,rfl,_,_,rfl,rfl,_,rfl,iG (λhc=>?_) (λhc=>?_)⟩
    .rw[aFB]at hc;refine λM1 J=>?_;refine⟨_,rfl,_,rfl,_,_,rfl,rfl,.inl ⟨by omega,by omega⟩,_,rfl,_,_,rfl,rfl,.inl ⟨by decide,by decide⟩,_,_,rfl,rfl,_,rfl,l,_,rfl,.inl (SqL.of M),_,_,rfl,rfl,.inl ⟨by decide,by decide⟩,_,_,rfl,rfl,_,_,rfl,rfl,_,_,rfl,rfl,(by show (0:Int)<2147483629;decide),?_⟩;refine J [some (.ref a),some (.int m),some (.ref l),some (.int (sd2 G ys)),v1,v2,v3] _ ?_;clear J M1;have t0:0<=sd2 G ys:=jw _ (by decide);have t1:sd2 G ys<2147483629:=jo _ (by decide);refine⟨_,rfl,.inl ⟨rfl,_,SqL.of M⟩,_,rfl,_,_,rfl,rfl,⟨by decide,by decide⟩,_,_,rfl,rfl,(by show (0:Int)<9967;decide),l,_,_,rfl,rfl,M,(by rw[aFB];exact aQ (by omega)),?_⟩;refine⟨⟨sd2 G ys,ys++[sd2 G ys / 1019 % 9967],rfl,Same.upd' hl U,by rw[aD,aFQ];rfl,?_,by simp;omega,t0,t1⟩,?_⟩
     .intro n hn;rcases aFf.mp hn with h | h
      .exact av n h
      .rw[aF7.mp h];exact⟨jw _ (by decide),jo _ (by decide)⟩
     .simp only[aD,M,aFK,aFB,kd];omega
    .rw[aFB]at hc;refine⟨_,rfl,_,rfl,_,rfl,l,_,rfl,SqL.of M,λp2 bb=>?_⟩;rw[aDJ ys m (by omega)];exact k p2 (ys.take m) _ (by simp;omega) (λn hn=>av n (se hn)) (U.free bb) (Same.upd' (U.free bb) U) aD
   .intro σ H3 Q1 Q2 hq h;obtain⟨x,e,p2,ys,e2,bi,z,e3,i,j,e4,e5,b,e6,q⟩:=h;exact⟨x,e,p2,ys,e2,bi,z,e3,i,j,e4,e5,b,e6,hq _ _ q⟩
abbrev iD:Stmt:=top 49
def J5:FnScope ["_law_found","_law_due"] ["_law_found","_law_due"] (aH iD):=.m
def xG {f:Addr} {fd:FuncData} {n k:Nat} {spR:Sp} (F:Fun K "_law_same" "_law_same" iD f fd) (B:Bt mg) (M:dG P w K mg base "_law_same" k ["_law_found","_law_due"] spR)
 (ba:∀ m,m+1=n->∀ vs H Q E,sV m vs H Q E->spR vs H Q E):FnOk P w K mg base CX0 (k+1) f fd ["_law_found","_law_due"] (sV n):=by
 refine F.ok J5 (λvs H Q E h=>?_) (λbj A outer s H vs Q E hr h=>?_)
 .obtain⟨x,y,d,rfl,_⟩:=h;rfl
 .obtain⟨x,y,d,rfl,h1,h2,av,G,bb,kk⟩:=h;have hu:=hr.units;refine⟨_,(aC (dE (aS y6 (pv 1) w8 (aZ _))
 (aG (aY (nO y6 (pv 0) w8 (aZ _))))
 bQ)
 (aC (dE (fG (aJ b0 (by rfl) B.isinstance bG (aA (pv 1) (aA (bM (aA (eQ (v:=.ty "list") rfl B.list fR rfl) (aA (eQ (v:=.ty "tuple") rfl B.tuple eU rfl) aB))) aB))) (λ_=>rfl))
 (aC (dE (PW.pt (S8 (aS T4 (aJ eO (by rfl) B.isinstance bG (aA (pv 0) (aA (eQ (v:=.ty "list") rfl B.list fR rfl) aB))) (aJ eO (by rfl) B.isinstance bG (aA (pv 1) (aA (eQ (v:=.ty "list") rfl B.list fR rfl) aB))) (aZ _)) (xJ (aS T4 (aJ eO (by rfl) B.isinstance bG (aA (pv 0) (aA (eQ (v:=.ty "tuple") rfl B.tuple eU rfl) aB))) (aJ eO (by rfl) B.isinstance bG (aA (pv 1) (aA (eQ (v:=.ty "tuple") rfl B.tuple eU rfl) aB))) (aZ _)))))
 (aG (aY vM))
 bQ)
 (aG (aY (J9 (nO mZ (aJ aL (by rfl) B.len jg (aA (pv 0) aB)) (aJ aL (by rfl) B.len jg (aA (pv 1) aB)) (aZ _)) (J8 (aJ (aAI rfl) (by rfl) B.all aAL (aA (eR ["_law_k"] ["_law_found","_law_due"] [0,1] rfl (.of (show dM (aH iD) _ ["_law_found","_law_due"] [0,1] ["_law_found","_law_due"]=true by decide +kernel)) (gT rfl B.range (aA (aJ aL (by rfl) B.len jg (aA (pv 1) aB)) aB)) (λ_ _ _=>(bR (i:=0) (show (["_law_k","_law_found","_law_due"]:List Str).Nodup by decide +kernel) rfl (Or.inl rfl))) (fJ (by decide)) (λ_ _ _=>dW) (λ_ _ _=>(bE M hr rfl (aA (aX (V4 K rfl) (pv 1) (pv 0) (λ_ _=>rfl)) (aA (aX (V4 K rfl) (pv 2) (pv 0) (λ_ _=>rfl)) aB)) (hj:=ah _)))) aB)))))))
 bQ)
 (aC (dE (PW.pt (S8 (aS T4 (aJ eO (by rfl) B.isinstance bG (aA (pv 0) (aA (eQ (v:=.ty "bool") rfl B.bool wA rfl) aB))) (aJ eO (by rfl) B.isinstance bG (aA (pv 1) (aA (eQ (v:=.ty "bool") rfl B.bool wA rfl) aB))) (aZ _)) (xJ (aS T4 (aJ eO (by rfl) B.isinstance bG (aA (pv 0) (aA (eQ (v:=.ty "str") rfl B.str A0 rfl) aB))) (aJ eO (by rfl) B.isinstance bG (aA (pv 1) (aA (eQ (v:=.ty "str") rfl B.str A0 rfl) aB))) (aZ _)))))
 (aG (aY vM))
 bQ)
 (aG (aY (J9 (nO aDo (aJ eO (by rfl) B.isinstance bG (aA (pv 0) (aA (eQ (v:=.ty "int") rfl B.int B0 rfl) aB))) (aJ eO (by rfl) B.isinstance bG (aA (pv 1) (aA (eQ (v:=.ty "int") rfl B.int B0 rfl) aB))) (aZ _)) (J8 (nO (aAH hu) (pv 0) (pv 1) (aZ _))))))))),?_⟩
  cases h1 with
  | non =>
   cases h2;exact⟨_,rfl,rfl,_,rfl,qO rfl ⟨_,rfl,rfl,kk H (Same.refl H)⟩⟩
  | bl b =>
   cases h2;refine⟨_,rfl,rfl,_,rfl,jH (by intro h;cases h) ?_⟩;refine⟨_,rfl,(show 2<=sizeLine by decide),λtp J=>⟨_,tp,["list","tuple"],.bool b,false,rfl,aD,.bl b,rfl,false,rfl,?_⟩⟩;refine⟨_,rfl,_,"bool",.bool b,true,rfl,.bl b,rfl,_,rfl,_,"bool",.bool b,true,rfl,.bl b,rfl,rfl,_,rfl,?_⟩;refine⟨_,rfl,_,"str",.bool b,false,rfl,.bl b,rfl,_,rfl,_,"str",.bool b,false,rfl,.bl b,rfl,rfl,_,rfl,?_⟩;refine⟨_,rfl,_,"int",.bool b,true,rfl,.bl b,rfl,_,rfl,_,"int",.bool b,true,rfl,.bl b,rfl,rfl,_,rfl,?_⟩;refine⟨_,rfl,_,rfl,_,_,.bl b,.bl b,G,G,?_⟩;rw[kR G];exact kk _ (Same.upd J)
  | int b =>
   cases h2;refine⟨_,rfl,rfl,_,rfl,jH (by intro h;cases h) ?_⟩;refine⟨_,rfl,(show 2<=sizeLine by decide),λtp J=>⟨_,tp,["list","tuple"],.int b,false,rfl,aD,.int b,rfl,false,rfl,?_⟩⟩;refine⟨_,rfl,_,"bool",.int b,false,rfl,.int b,rfl,_,rfl,_,"bool",.int b,false,rfl,.int b,rfl,rfl,_,rfl,?_⟩;refine⟨_,rfl,_,"str",.int b,false,rfl,.int b,rfl,_,rfl,_,"str",.int b,false,rfl,.int b,rfl,rfl,_,rfl,?_⟩;refine⟨_,rfl,_,"int",.int b,true,rfl,.int b,rfl,_,rfl,_,"int",.int b,true,rfl,.int b,rfl,rfl,_,rfl,?_⟩;refine⟨_,rfl,_,rfl,_,_,.int b,.int b,G,G,?_⟩;rw[kR G];exact kk _ (Same.upd J)
  | str b =>
   cases h2;refine⟨_,rfl,rfl,_,rfl,jH (by intro h;cases h) ?_⟩;refine⟨_,rfl,(show 2<=sizeLine by decide),λtp J=>⟨_,tp,["list","tuple"],.str b,false,rfl,aD,.str b,rfl,false,rfl,?_⟩⟩;refine⟨_,rfl,_,"bool",.str b,false,rfl,.str b,rfl,_,rfl,_,"bool",.str b,false,rfl,.str b,rfl,rfl,_,rfl,?_⟩;refine⟨_,rfl,_,"str",.str b,true,rfl,.str b,rfl,_,rfl,_,"str",.str b,true,rfl,.str b,rfl,rfl,_,rfl,?_⟩;refine⟨_,rfl,_,"int",.str b,false,rfl,.str b,rfl,_,rfl,_,"int",.str b,false,rfl,.str b,rfl,rfl,_,rfl,?_⟩;refine⟨_,rfl,_,rfl,_,_,.str b,.str b,G,G,?_⟩;rw[kR G];exact kk _ (Same.upd J)
  | @lst a1 us ds ea ta =>
   cases h2 with
   | @lst a2 ws _ eb tb =>
    have bc:=ta.length;have bf:=tb.length;have U:=bb;simp only[sml,jl,oj]at U;have aw:ws.length<=5000:=by omega
    have bg:(5000:Nat)<sizeLine:=by decide
    refine⟨_,rfl,rfl,_,rfl,jH (by intro h;cases h) ?_⟩;refine⟨_,rfl,(show 2<=sizeLine by decide),λtp J=>?_⟩;have z:=Same.upd (o:=.tup [V.ty "list",V.ty "tuple"]) J;refine⟨_,tp,["list","tuple"],.list ds,true,rfl,aD,(Den.lst eb tb).mono z,rfl,true,rfl,?_⟩;generalize upd H tp (.tup [V.ty "list",V.ty "tuple"])=H0 at z ⊢;have d1:=(Den.lst ea ta).mono z;have d2:=(Den.lst eb tb).mono z;refine⟨_,rfl,_,"list",.list ds,true,rfl,d1,rfl,_,rfl,_,"list",.list ds,true,rfl,d2,rfl,rfl,_,rfl,?_⟩;refine⟨_,rfl,_,"tuple",.list ds,false,rfl,d1,rfl,_,rfl,_,"tuple",.list ds,false,rfl,d2,rfl,rfl,_,rfl,?_⟩;refine⟨_,rfl,a1,_,rfl,.inl (SqL.of (z _ _ ea)),_,rfl,a2,_,rfl,.inl (SqL.of (z _ _ eb)),_,_,rfl,rfl,_,rfl,qO (by omega) ?_⟩;refine⟨_,rfl,a2,_,rfl,.inl (SqL.of (z _ _ eb)),_,rfl,by omega,by omega,gZ (lo:=0) (λi ys H2=>Same H0 H2/\ys=List.replicate i (V.bl true)) ⟨Same.refl _,rfl⟩ ?_ ?_ ?_⟩
    .rintro i ys H2 hi ⟨sm,rfl⟩;rw[aFV];omega
    .rintro i ys H2 hi ⟨sm,rfl⟩;have Y:i<ds.length:=by omega
     obtain⟨v1,e1,q1⟩:=ta.get (i:=i) (d:=ds[i]) (by simp[Y]);obtain⟨v2,e2,q2⟩:=tb.get (i:=i) (d:=ds[i]) (by simp[Y]);have em:ds[i]∈ds:=rg Y;have L:Same H H2:=z.trans sm;have ez:(0:Int)+(i:Int)=(i:Int):=by omega
     refine⟨_,rfl,_,rfl,.inl ⟨a1,_,_,_,rfl,rfl,SqL.of (L _ _ ea),(by rw[ez];exact gL e1),_,rfl,_,rfl,.inl ⟨a2,_,_,_,rfl,rfl,SqL.of (L _ _ eb),(by rw[ez];exact gL e2),?_⟩⟩⟩;have bh:=wC em;have bi:PyData.depthAll ds+1<=n:=av;refine ba (n - 1) (by omega) _ _ _ _ ⟨v1,v2,ds[i],rfl,q1.mono L,q2.mono L,by omega,?_,V6 em U.2,λH3 a_=>⟨sm.trans a_,by rw[wj]⟩⟩;have c1:PyData.canLayAll0 ds=true:=md G;have c2:=rb G;have c3:PyData.depthAll ds+1<=64:=c2;simp only[SeqAt.shaped,sW em c1,Bool.true_and];exact aFX (by omega)
    .rintro ys H2 ⟨sm,rfl⟩ D hD;refine⟨D,List.replicate _ true,rfl,by rw[aD,List.map_replicate],?_⟩;have:∀ k:Nat,(List.replicate k true).all id=true:=λk=>by simp
     rw[this];exact kk _ ((z.trans sm).trans (Same.upd hD))
  | @tup a1 us ds ea ta =>
   cases h2 with
   | @tup a2 ws _ eb tb =>
    have bc:=ta.length;have bf:=tb.length;have U:=bb;simp only[sml,jl,oj]at U;have aw:ws.length<=5000:=by omega
    have bg:(5000:Nat)<sizeLine:=by decide
    refine⟨_,rfl,rfl,_,rfl,jH (by intro h;cases h) ?_⟩;refine⟨_,rfl,(show 2<=sizeLine by decide),λtp J=>?_⟩;have z:=Same.upd (o:=.tup [V.ty "list",V.ty "tuple"]) J;refine⟨_,tp,["list","tuple"],.tuple ds,true,rfl,aD,(Den.tup eb tb).mono z,rfl,true,rfl,?_⟩;generalize upd H tp (.tup [V.ty "list",V.ty "tuple"])=H0 at z ⊢;have d1:=(Den.tup ea ta).mono z;have d2:=(Den.tup eb tb).mono z;refine⟨_,rfl,_,"list",.tuple ds,false,rfl,d1,rfl,_,rfl,_,"list",.tuple ds,false,rfl,d2,rfl,rfl,_,rfl,?_⟩;refine⟨_,rfl,_,"tuple",.tuple ds,true,rfl,d1,rfl,_,rfl,_,"tuple",.tuple ds,true,rfl,d2,rfl,rfl,_,rfl,?_⟩;refine⟨_,rfl,a1,_,rfl,.inr (SqT.of (z _ _ ea)),_,rfl,a2,_,rfl,.inr (SqT.of (z _ _ eb)),_,_,rfl,rfl,_,rfl,qO (by omega) ?_⟩;refine⟨_,rfl,a2,_,rfl,.inr (SqT.of (z _ _ eb)),_,rfl,by omega,by omega,gZ (lo:=0) (λi ys H2=>Same H0 H2/\ys=List.replicate i (V.bl true)) ⟨Same.refl _,rfl⟩ ?_ ?_ ?_⟩
    .rintro i ys H2 hi ⟨sm,rfl⟩;rw[aFV];omega
    .rintro i ys H2 hi ⟨sm,rfl⟩;have Y:i<ds.length:=by omega
     obtain⟨v1,e1,q1⟩:=ta.get (i:=i) (d:=ds[i]) (by simp[Y]);obtain⟨v2,e2,q2⟩:=tb.get (i:=i) (d:=ds[i]) (by simp[Y]);have em:ds[i]∈ds:=rg Y;have L:Same H H2:=z.trans sm;have ez:(0:Int)+(i:Int)=(i:Int):=by omega
     refine⟨_,rfl,_,rfl,.inr (.inl ⟨a1,_,_,_,rfl,rfl,SqT.of (L _ _ ea),(by rw[ez];exact gL e1),_,rfl,_,rfl,.inr (.inl ⟨a2,_,_,_,rfl,rfl,SqT.of (L _ _ eb),(by rw[ez];exact gL e2),?_⟩)⟩)⟩;have bh:=wC em;have bi:PyData.depthAll ds+1<=n:=av;refine ba (n - 1) (by omega) _ _ _ _ ⟨v1,v2,ds[i],rfl,q1.mono L,q2.mono L,by omega,?_,V6 em U.2,λH3 a_=>⟨sm.trans a_,by rw[wj]⟩⟩;have c1:PyData.canLayAll0 ds=true:=md G;have c2:=rb G;have c3:PyData.depthAll ds+1<=64:=c2;simp only[SeqAt.shaped,sW em c1,Bool.true_and];exact aFX (by omega)
    .rintro ys H2 ⟨sm,rfl⟩ D hD;refine⟨D,List.replicate _ true,rfl,by rw[aD,List.map_replicate],?_⟩;have:∀ k:Nat,(List.replicate k true).all id=true:=λk=>by simp
     rw[this];exact kk _ ((z.trans sm).trans (Same.upd hD))
def aC0 {f:Addr} {fd:FuncData} (F:Fun K "_law_same" "_law_same" iD f fd) (B:Bt mg) (z:mg "_law_same"=some (.ref f)) (G:Binds K fd ["_law_found","_law_due"] []) :
 ∀ n,FnOk P w K mg base CX0 (n+1) f fd ["_law_found","_law_due"] (sV n):=by
 intro n
 induction n with
 | zero =>
  refine xG (k:=0) (spR:=λ_ _ _ _=>False) F B ⟨f,fd,⟨λ_ _ _ _ h=>h.elim,λ_ _ _ _ _ _ _ _ _ _ _ _ _ h=>h.elim⟩,z,F.kp,G⟩ λm J=>?_;omega
 | succ n L =>
  refine xG F B ⟨f,fd,L,z,F.kp,G⟩ λm J vs H Q E h=>?_;obtain rfl:m=n:=by omega
  exact h
abbrev qI:Stmt:=top 50
def fX:FnScope ["_law_d","_law_most","_law_place","_law_row_here","_law_k","_law_step"] ["_law_d","_law_most"] (aH qI):=.m
inductive uW (H:Hp) (a:Addr) (l:Addr) (m:Nat) (i:Nat) (σ:St) (H2:Hp):Prop
 | mk (place:Int) (row:List Int) (v1 v2:Option V) (k0_:σ=[some (.ref a),some (.int m),some (.int place),some (.ref l),v1,v2]) (k1_:Same H H2) (k2_:H2 l=some (.lst (row.map V.int))) (k3_:Row row) (k4_:row.length=i) (k5_:-15<=place) (k6_:place<=15+12 * i) (k7_:∀ x∈row,-15<=x/\x<=place):uW H a l m i σ H2
def aDb {f:Addr} {fd:FuncData} (F:Fun K "_law_row" "_law_row" qI f fd) (B:Bt mg):FnOk P w K mg base CX0 1 f fd ["_law_d","_law_most"] aAP:=by
 refine F.ok fX (λvs H Q E h=>?_) (λbc A outer s H vs Q E hr h=>?_)
 .obtain⟨a,ns,m,rfl,_⟩:=h;rfl
 .obtain⟨a,ns,m,rfl,ha,bf,hlen,hm,k⟩:=h;refine⟨_,(aC (aM 2 fX.nd (aI bC (aI dL (aX aW (pv 0) aF (λ_ _=>rfl)) aF) aF))
 (aC (aM 3 fX.nd (bF aB))
 (aC (cS ft rfl (gT rfl B.range (aA (aI dL (aX aW (pv 0) aF (λ_ _=>rfl)) (aI bK (pv 1) aF)) aB)) (cJ 4 fX.nd)
 (aC (aM 5 fX.nd (aX aW (pv 0) (aI bK aF (pv 4)) (λ_ _=>rfl)))
 (aC (aM 2 fX.nd (aI bK (aI bK (pv 2) aF) (sS (kI (aS mZ (aI dL (pv 5) aF) aF (aZ _)) aF (aI dL (aI nM (pv 5) aF) (aX aW (bF (aA aF (aA aF (aA aF (aA aF aB))))) (aI dL (aX aW (pv 0) aF (λ_ _=>rfl)) aF) (λ_ _=>rfl)))))))
 (aG (aN (dF aF9 aFa aFb bA (pv 3) (aA (pv 2) aB)))))))
 (aG (aY (pv 3)))))),?_⟩
  obtain⟨n0,m0,_,e0⟩:=cX (ns:=ns) (i:=0) (by omega) (by omega);obtain⟨n1,m1,_,e1⟩:=cX (ns:=ns) (i:=1) (by omega) (by omega);obtain⟨n2,m2,_,e2⟩:=cX (ns:=ns) (i:=2) (by omega) (by omega);have p1:(0:Int)<(m:Int)+1:=by omega
  have q1:=jw n1 (show ((m:Int)+1)≠0 by omega);have q2:=jo n1 p1;have r1:=jw n0 (show (31:Int)≠0 by decide);have r2:=jo n0 (show (0:Int)<31 by decide);refine⟨_,rfl,a,_,_,_,rfl,rfl,SqL.of ha,e0,_,_,rfl,rfl,(by show (0:Int)<31;decide),_,_,rfl,rfl,by decide,λl hl=>?_⟩;have a_:=Same.upd (o:=.lst []) hl _ _ ha;refine⟨_,rfl,a,_,_,_,rfl,rfl,SqL.of a_,e1,_,rfl,_,_,rfl,rfl,_,_,rfl,rfl,p1,_,rfl,by omega,by omega,
   fO (lo:=0) (n:=(n1 % ((m:Int)+1)).toNat) (uW H a l m) ⟨_,[],none,none,rfl,Same.upd hl,aD,List.Pairwise.nil,rfl,by omega,by omega,λx J=>by cases J⟩ ?_ ?_⟩
  .rintro i σ H2 hi ⟨place,row,v1,v2,rfl,G,M,z,U,h1,h2,J⟩;obtain⟨st,ms,_,es⟩:=cX (ns:=ns) (i:=3+(0+(i:Int))) (by omega) (by omega);refine⟨_,rfl,_,rfl,_,_,rfl,rfl,a,_,_,_,rfl,rfl,SqL.of (G _ _ ha),es,?_⟩;refine⟨_,rfl,_,_,rfl,rfl,λv Y=>∃ d:Int,v=.int d/\0<=d/\d<=11/\(Y=H2\/∃ p xs,H2 p=none/\Y=upd H2 p (.lst xs)),?_,?_⟩
   .refine⟨_,rfl,_,_,rfl,rfl,(by show (0:Int)<3;decide),_,_,rfl,rfl,_,rfl,iG (λ_=>⟨0,rfl,by decide,by decide,.inl rfl⟩) (λ_=>?_)⟩;refine⟨_,rfl,_,_,rfl,rfl,⟨by decide,by decide⟩,(by show 4<=sizeLine;decide),λp L=>?_⟩;obtain⟨w',mw,_,ew⟩:=cX (ns:=[2,3,5,12]) (i:=n2 % 4) (jw _ (by decide)) (jo _ (by decide));refine⟨_,rfl,a,_,_,_,rfl,rfl,SqL.of ((Same.upd L) _ _ (G _ _ ha)),e2,_,_,rfl,rfl,(by show (0:Int)<4;decide),p,_,_,_,rfl,rfl,SqL.of aD,ew,_,_,rfl,rfl,?_,_,rfl,?_,?_,.inr ⟨p,_,L,rfl⟩⟩
    .simp at mw;omega
    .exact jw _ (by simp at mw;omega)
    .have:=jo (st / 3) (show (0:Int)<w' by simp at mw;omega);simp at mw;show st / 3 % w'<=11;omega
   .rintro v Y ⟨d,rfl,d0,d1,av⟩;have ba:Same H Y:=by
     rcases av with e | ⟨p,xs,L,e⟩
     .rw[e];exact G
     .rw[e];exact Same.upd' (G.free L) G
    have aw:Y l=some (.lst (row.map V.int)):=by
     rcases av with e | ⟨p,xs,L,e⟩
     .rw[e];exact M
     .rw[e,aE (aU M L)];exact M
    refine⟨_,_,rfl,rfl,_,rfl,.inl ⟨rfl,_,SqL.of aw⟩,_,rfl,l,_,_,rfl,rfl,aw,(by rw[aFB];exact aQ (by omega)),?_⟩;refine⟨place+1+d,row++[place+1+d],_,_,rfl,Same.upd' hl ba,by rw[aD,aFQ];rfl,aAQ z λy hy=>?_,by simp[U],by omega,by omega,λx bb=>?_⟩
    .have:=J y hy;omega
    .rcases aFf.mp bb with h | h
     .have:=J x h;omega
     .rw[aF7.mp h];omega
  .rintro σ H2 ⟨place,row,v1,v2,rfl,G,M,z,U,h1,h2,J⟩;exact⟨_,rfl,k row z (by omega) (λx h=>by have:=J x h;omega) l H2 hl G M⟩
abbrev qJ:Stmt:=top 51
def cF:FnScope ["_law_ask","_law_why_here","e"] ["_law_ask"] (aH qJ):=.m
def aDc {f:Addr} {fd:FuncData} {U:Nat} (X:aV K mg) (Z:Sees X) (F:Fun K "_law_why" "_law_why" qJ f fd):vW P w K mg base (CXR P w) (U+1) f fd ["_law_ask"] (W0 P w base X U):=by
 refine F.okS cF (λs o vs H Q E h=>?_) (λY A outer s H vs Q E av hr h=>?_)
 .obtain⟨f,D,J,rfl,_⟩:=h;rfl
 .obtain⟨f,D,J,rfl,L,mono,fo,laid,k⟩:=h;refine⟨_,(aC (aM 1 cF.nd (bM (aA cV (aA aF aB))))
   (aC (aDE ⟨rfl,rfl,rfl⟩ (aDG (i:=0) ⟨rfl,rfl,rfl⟩ hr rfl (Or.inl rfl))
    (sM (i:=2) rfl X.m_row cF.nd rfl rfl (λe=>(aG (aM 1 cF.nd (bM (aA cV (aA (xX K rfl (pv 2) rfl) aB))))))
    (sM (i:=2) rfl X.m_trains cF.nd rfl rfl (λe=>(aG (aM 1 cF.nd (bM (aA cV (aA (xX K rfl (pv 2) rfl) aB))))))
    (sM (i:=2) rfl X.m_sizes cF.nd rfl rfl (λe=>(aG (aM 1 cF.nd (bM (aA cV (aA (xX K rfl (pv 2) rfl) aB))))))
    (pH rfl X.m_many (λe=>(aG (aM 1 cF.nd (bM (aA cV (aA aF aB))))))
    (pH rfl X.m_creel (λe=>(aG (aM 1 cF.nd (bM (aA cV (aA aF aB))))))
    (pH rfl X.m_number (λe=>(aG (aM 1 cF.nd (bM (aA cV (aA aF aB))))))
    (pH rfl X.m_near (λe=>(aG (aM 1 cF.nd (bM (aA cV (aA aF aB))))))
    (pH rfl X.m_bare (λe=>(aG (aM 1 cF.nd (bM (aA cV (aA aF aB))))))
    (pH rfl X.m_err (λe=>(aG (aM 1 cF.nd (bM (aA cV (aA aF aB))))))
    aDD))))))))))
   (aG (aY (pv 1))))),?_⟩
  refine⟨by show 2<=sizeLine;decide,λt ht=>⟨f,D,J,rfl,L,fo,laid,mono _ _ _ _ _ (λv H' q=>⟨_,rfl,q⟩) (λcls od H' q e he=>?_) (k t ht)⟩⟩;obtain⟨nm,i,W,q⟩:=q;cases W with
  | row hd M =>
   refine⟨true,Z.t0,?_⟩;rw[da rfl];exact⟨_,rfl,e,X.row,_,_,_,rfl,aD,(by rw[aE (λz=>by rw[z,he]at hd;cases hd)];exact hd),aAV Z.g1,M,(by show 2<=sizeLine;decide),λt' G=>⟨_,rfl,q _ t' (aDN he G) aD⟩⟩
  | trains hd M =>
   refine⟨false,Z.f10,?_⟩;rw[bB (by decide)];refine⟨true,Z.t1,?_⟩;rw[da rfl];exact⟨_,rfl,e,X.trains,_,_,_,rfl,aD,(by rw[aE (λz=>by rw[z,he]at hd;cases hd)];exact hd),aAV Z.g2,M,(by show 2<=sizeLine;decide),λt' G=>⟨_,rfl,q _ t' (aDN he G) aD⟩⟩
  | sizes hd M =>
   refine⟨false,Z.f20,?_⟩;rw[bB (by decide)];refine⟨false,Z.f21,?_⟩;rw[bB (by decide)];refine⟨true,Z.t2,?_⟩;rw[da rfl];exact⟨_,rfl,e,X.sizes,_,_,_,rfl,aD,(by rw[aE (λz=>by rw[z,he]at hd;cases hd)];exact hd),aAV Z.g3,M,(by show 2<=sizeLine;decide),λt' G=>⟨_,rfl,q _ t' (aDN he G) aD⟩⟩
  | many =>
   refine⟨false,Z.f30,?_⟩;rw[bB (by decide)];refine⟨false,Z.f31,?_⟩;rw[bB (by decide)];refine⟨false,Z.f32,?_⟩;rw[bB (by decide)];refine⟨true,Z.t3,?_⟩;rw[da rfl];exact⟨(by show 2<=sizeLine;decide),λt' G=>⟨_,rfl,q _ t' (aAW G) aD⟩⟩
  | creel =>
   refine⟨false,Z.f40,?_⟩;rw[bB (by decide)];refine⟨false,Z.f41,?_⟩;rw[bB (by decide)];refine⟨false,Z.f42,?_⟩;rw[bB (by decide)];refine⟨false,Z.f43,?_⟩;rw[bB (by decide)];refine⟨true,Z.t4,?_⟩;rw[da rfl];exact⟨(by show 2<=sizeLine;decide),λt' G=>⟨_,rfl,q _ t' (aAW G) aD⟩⟩
  | number =>
   refine⟨false,Z.f50,?_⟩;rw[bB (by decide)];refine⟨false,Z.f51,?_⟩;rw[bB (by decide)];refine⟨false,Z.f52,?_⟩;rw[bB (by decide)];refine⟨false,Z.f53,?_⟩;rw[bB (by decide)];refine⟨false,Z.f54,?_⟩;rw[bB (by decide)];refine⟨true,Z.t5,?_⟩;rw[da rfl];exact⟨(by show 2<=sizeLine;decide),λt' G=>⟨_,rfl,q _ t' (aAW G) aD⟩⟩
  | near =>
   refine⟨false,Z.f60,?_⟩;rw[bB (by decide)];refine⟨false,Z.f61,?_⟩;rw[bB (by decide)];refine⟨false,Z.f62,?_⟩;rw[bB (by decide)];refine⟨false,Z.f63,?_⟩;rw[bB (by decide)];refine⟨false,Z.f64,?_⟩;rw[bB (by decide)];refine⟨false,Z.f65,?_⟩;rw[bB (by decide)];refine⟨true,Z.t6,?_⟩;rw[da rfl];exact⟨(by show 2<=sizeLine;decide),λt' G=>⟨_,rfl,q _ t' (aAW G) aD⟩⟩
  | bare =>
   refine⟨false,Z.f70,?_⟩;rw[bB (by decide)];refine⟨false,Z.f71,?_⟩;rw[bB (by decide)];refine⟨false,Z.f72,?_⟩;rw[bB (by decide)];refine⟨false,Z.f73,?_⟩;rw[bB (by decide)];refine⟨false,Z.f74,?_⟩;rw[bB (by decide)];refine⟨false,Z.f75,?_⟩;rw[bB (by decide)];refine⟨false,Z.f76,?_⟩;rw[bB (by decide)];refine⟨true,Z.t7,?_⟩;rw[da rfl];exact⟨(by show 2<=sizeLine;decide),λt' G=>⟨_,rfl,q _ t' (aAW G) aD⟩⟩
abbrev jA:Stmt:=top 52
def lS:FnScope ["_law_row_here","_law_at"] ["_law_row_here"] (aH jA):=.m
def S7 {f:Addr} {fd:FuncData} (F:Fun K "_law_row_bad" "_law_row_bad" jA f fd) (B:Bt mg):FnOk P w K mg base CX0 1 f fd ["_law_row_here"] B7:=by
 refine F.ok lS (λvs H Q E h=>?_) (λav A outer s H vs Q E hr h=>?_)
 .obtain⟨a,r,rfl,_⟩:=h;rfl
 .obtain⟨a,row,rfl,G,hlen,M⟩:=h;have k1:=λz=>M _ _ (.many z);have k2:row.length<=60->(vB row->∀ t,H t=none->Q (.ref t) (upd H t (.tup [.str "",.int 0])))/\∀ i:Nat,mR row i->∀ t,H t=none->Q (.ref t) (upd H t (.tup [.str "BadRow",.int i])):=λz=>⟨λg=>M _ _ (.good z g),λi b=>M _ _ (.bad z b)⟩;refine⟨_,(aC (dE (aS nN (aJ aL (by rfl) B.len jg (aA (pv 0) aB)) aF (aZ _))
 (aG (aY (bM (aA cV (aA aF aB)))))
 bQ)
 (aC (cS ft rfl (jC rfl B.range (aA aF (aA (aJ aL (by rfl) B.len jg (aA (pv 0) aB)) aB))) (cJ 1 lS.nd)
 (aG (dE (aS T5 (aX aW (pv 0) (pv 1) (λ_ _=>rfl)) (aX aW (pv 0) (aI bC (pv 1) aF) (λ_ _=>rfl)) (aZ _))
 (aG (aY (bM (aA cV (aA (pv 1) aB)))))
 bQ)))
 (aG (aY (bM (aA cV (aA aF aB))))))),?_⟩
  by_cases U:60<row.length
  .refine⟨_,rfl,a,_,rfl,.inl (SqL.of G),_,_,rfl,rfl,_,rfl,qO (by rw[aFB];omega) ?_⟩;exact⟨by show 2<=sizeLine;decide,λt J=>k1 U t J⟩
  .obtain⟨k2,k3⟩:=k2 (by omega);refine⟨_,rfl,a,_,rfl,.inl (SqL.of G),_,_,rfl,rfl,_,rfl,jH (by rw[aFB];omega) ?_⟩;refine⟨_,rfl,a,_,rfl,.inl (SqL.of G),_,_,rfl,⟨by decide,by decide,by omega,by rw[aFB];omega⟩,fO (lo:=1) (λi σ H2=>(∃ v,σ=[some (.ref a),v]/\H2=H)/\∀ j,1<=j->j<1+i->row.getD (j - 1) 0<row.getD j 0) ⟨⟨none,rfl,rfl⟩,λj h1 h2=>by omega⟩ ?_ ?_⟩
   .rintro i σ H2 hi ⟨⟨v,rfl,rfl⟩,L⟩;rw[aFB]at hi;obtain⟨x,_,hx,ex⟩:=cX (ns:=row) (i:=1+(i:Int)) (by omega) (by omega);obtain⟨y,_,hy,ey⟩:=cX (ns:=row) (i:=1+(i:Int) - 1) (by omega) (by omega);refine⟨_,rfl,_,rfl,a,_,_,_,rfl,rfl,SqL.of G,ex,_,rfl,_,rfl,_,_,rfl,rfl,a,_,_,_,rfl,rfl,SqL.of G,ey,_,_,rfl,rfl,_,rfl,?_⟩;have gx:row.getD (1+i) 0=x:=by rw[fy,show 1+i=(1+(i:Int)).toNat from by omega,hx];rfl
    have gy:row.getD (1+i - 1) 0=y:=by rw[fy,show 1+i - 1=(1+(i:Int) - 1).toNat from by omega,hy];rfl
    by_cases Y:x<=y
    .refine qO Y ⟨_,rfl,by show 2<=sizeLine;decide,λt J=>?_⟩;have:=k3 (1+i) ⟨by omega,by omega,by rw[gx,gy];exact Y,λj h1 h2=>L j h1 h2⟩ t J
     rwa [show ((1+i:Nat):Int)=1+(i:Int) from by omega]at this
    .refine jH Y ⟨⟨_,rfl,rfl⟩,λj h1 h2=>?_⟩
     by_cases hj:j<1+i
     .exact L j h1 hj
     .obtain rfl:j=1+i:=by omega
      rw[gx,gy];omega
   .rintro σ H2 ⟨⟨v,rfl,rfl⟩,L⟩;rw[aFB]at L;exact⟨by show 2<=sizeLine;decide,λt J=>k2 (λj h1 h2=>L j h1 (by omega)) t J⟩
abbrev eJ:Stmt:=top 53
def dD:FnScope ["_law_row_here","_law_d","_law_k","_law_at"] ["_law_row_here","_law_d"] (aH eJ):=.m
def v9 {f:Addr} {fd:FuncData} (F:Fun K "_law_spoilt_row" "_law_spoilt_row" eJ f fd) (B:Bt mg):FnOk P w K mg base CX0 1 f fd ["_law_row_here","_law_d"] B8:=by
 refine F.ok dD (λvs H Q E h=>?_) (λbf A outer s H vs Q E hr h=>?_)
 .obtain⟨a,b,row,ds,rfl,_⟩:=h;rfl
 .obtain⟨a,b,row,ds,rfl,ha,bg,hb,bh,k⟩:=h;refine⟨_,(aC (aM 0 dD.nd (eV jT (by rfl) B.list fR (aA (pv 0) aB)))
 (rL (dE (aS mZ (aI dL (aX aW (pv 1) aF (λ_ _=>rfl)) aF) aF (aZ _))
 (aG (aM 0 dD.nd (aI pF (pv 0) (eR ["_law_k"] [] [] rfl (.of (show dM (aH eJ) _ ["_law_row_here","_law_d","_law_k","_law_at"] [] []=true by decide +kernel)) (gT rfl B.range (aA (aI bC aF (aI dL (aX aW (pv 1) aF (λ_ _=>rfl)) aF)) aB)) (λ_ _ _=>(bR (i:=0) (show (["_law_k"]:List Str).Nodup by decide +kernel) rfl (Or.inl rfl))) (fJ (by decide)) (λ_ _ _=>dW) (λ_ _ _=>(aI bK (aI y3 aF aF) (pv 0)))))))
 bQ)
 (aC (cS ft rfl (gT rfl B.range (aA (aI dL (aI nM (aX aW (pv 1) aF (λ_ _=>rfl)) aF) aF) aB)) (cJ 2 dD.nd)
 (aG (dE (aS nN (aJ aL (by rfl) B.len jg (aA (pv 0) aB)) aF (aZ _))
 (aC (aM 3 dD.nd (aI dL (aX aW (pv 1) (aI bK aF (aI fP aF (pv 2))) (λ_ _=>rfl)) (aJ aL (by rfl) B.len jg (aA (pv 0) aB))))
 (aG (M3 (aX aW (bF (aA (aX aW (pv 0) (aI bC (pv 3) aF) (λ_ _=>rfl)) (aA (aI bC (aX aW (pv 0) (pv 3) (λ_ _=>rfl)) aF) (aA (aX aW (pv 0) (mO iU aF) (λ_ _=>rfl)) (aA (aX aW (pv 0) aF (λ_ _=>rfl)) (aA (aI bK (aX aW (pv 0) (pv 3) (λ_ _=>rfl)) aF) aB)))))) (aI dL (aX aW (pv 1) (aI bK aF (aI fP aF (pv 2))) (λ_ _=>rfl)) aF) (λ_ _=>rfl)) (x5 (pv 0) (pv 3) zM))))
 bQ)))
 (aG (aY (pv 0)))))),?_⟩
  obtain⟨d0,_,_,e0⟩:=cX (ns:=ds) (i:=0) (by omega) (by omega);obtain⟨d1,_,_,e1⟩:=cX (ns:=ds) (i:=1) (by omega) (by omega);refine⟨_,rfl,a,_,rfl,.inl (SqL.of ha),λl hl=>?_⟩;refine aK hl λH1 g1 el=>?_;refine⟨fun σ H2=>∃ (L:Addr) (r2:List Int),σ=[some (.ref L),some (.ref b),none,none]/\Same H H2/\H L=none/\H2 L=some (.lst (r2.map V.int))/\r2.length<=200,?_,?_⟩
  .refine⟨_,rfl,b,_,_,_,rfl,rfl,SqL.of (g1 _ _ hb),e0,_,_,rfl,rfl,(by show (0:Int)<7;decide),_,_,rfl,rfl,_,rfl,iG (λ_=>?_) (λ_=>⟨l,row,rfl,g1,hl,el,by omega⟩)⟩;have q1:=jw d1 (show (3:Int)≠0 by decide);have q2:=jo d1 (show (0:Int)<3 by decide);refine⟨_,rfl,_,rfl,b,_,_,_,rfl,rfl,SqL.of (g1 _ _ hb),e1,_,_,rfl,rfl,(by show (0:Int)<3;decide),_,_,rfl,rfl,_,rfl,(by omega),(by omega),
    gZ (lo:=0) (n:=(61 - d1 % 3).toNat) (λi ys H2=>H2=H1/\∃ zs:List Int,ys=zs.map V.int/\zs.length=i) ⟨rfl,[],rfl,rfl⟩ ?_ ?_ ?_⟩
   .rintro i ys H2 hi ⟨rfl,zs,rfl,hz⟩;rw[aFB];exact aQ (by omega)
   .rintro i ys H2 hi ⟨rfl,zs,rfl,hz⟩;exact⟨_,_,rfl,rfl,⟨by decide,by decide,by decide⟩,_,rfl,_,_,rfl,rfl,rfl,zs++[(10:Int) ^ 45+(0+(i:Int))],by rw[aFQ];rfl,by simp[hz]⟩
   .rintro ys H2 ⟨rfl,zs,rfl,hz⟩ D hD;have g2:=Same.upd (o:=.lst (zs.map V.int)) hD;refine⟨l,D,_,_,rfl,rfl,g2 _ _ el,aD,?_,λp hp=>?_⟩
    .rw[aFB,aFB];exact nZ (by omega)
    rw[<- aFQ];have g3:=Same.upd (o:=.lst ((row++zs).map V.int)) hp;exact⟨p,row++zs,rfl,(g1.trans g2).trans g3,(g1.trans g2).free hp,aD,by rw[aFK];omega⟩
  .rintro σ H2 ⟨L,r2,rfl,g2,av,a_,ba⟩;have q1:=jw (d0 / 7) (show (3:Int)≠0 by decide);have q2:=jo (d0 / 7) (show (0:Int)<3 by decide);refine⟨_,rfl,b,_,_,_,rfl,rfl,SqL.of (g2 _ _ hb),e0,_,_,rfl,rfl,⟨by decide,by decide⟩,_,_,rfl,rfl,(by show (0:Int)<3;decide),_,rfl,(by omega),(by omega),
    fO (lo:=0) (n:=(d0 / 7 % 3).toNat) (λi σ H3=>∃ (J:List Int) (v1 v2:Option V),σ=[some (.ref L),some (.ref b),v1,v2]/\Same H H3/\H3 L=some (.lst (J.map V.int))/\J.length<=200) ⟨r2,none,none,rfl,g2,a_,ba⟩ ?_ ?_⟩
   .rintro i σ H3 hi ⟨J,v1,v2,rfl,g3,G,U⟩;refine⟨_,rfl,L,_,rfl,.inl (SqL.of G),_,_,rfl,rfl,_,rfl,iG (λhc=>?_) (λ_=>⟨J,_,_,rfl,g3,G,U⟩)⟩;rw[aFB]at hc;have bi:(1:Int)<(J.length:Int):=hc;obtain⟨Y,_,_,ea⟩:=cX (ns:=ds) (i:=2+2 * (0+(i:Int))) (by omega) (by omega);obtain⟨db,_,_,eb⟩:=cX (ns:=ds) (i:=3+2 * (0+(i:Int))) (by omega) (by omega);have M:(0:Int)<(J.length:Int):=by omega
    have c0:=jw Y (Int.ne_of_gt M);have c1:=jo Y M;obtain⟨x1,ex1⟩:=xY (ns:=J) (i:=Y % (J.length:Int) - 1) (by omega) (by omega);obtain⟨x2,aw⟩:=xY (ns:=J) (i:=Y % (J.length:Int)) (by omega) (by omega);obtain⟨x3,bb⟩:=xY (ns:=J) (i:=-1) (by omega) (by omega);obtain⟨x4,ex4⟩:=xY (ns:=J) (i:=0) (by omega) (by omega);refine⟨_,rfl,_,rfl,_,_,rfl,rfl,.inl ⟨by decide,by decide⟩,_,_,rfl,rfl,b,_,_,_,rfl,rfl,SqL.of (g3 _ _ hb),ea,_,rfl,L,_,rfl,.inl (SqL.of G),_,_,rfl,rfl,(by rw[aFB];exact M),?_⟩;rw[show (λi j:Int=>V.int (i % j)) Y ((J.map V.int).length:Int)=V.int (Y % (J.length:Int))by rw[aFB]];obtain⟨z,_,_,ez⟩:=cX (ns:=[x1,x2 - 13,x3,x4,x2+40]) (i:=db % 5) (jw _ (by decide)) (jo _ (by decide));refine⟨_,rfl,_,rfl,_,_,rfl,rfl,L,_,_,_,rfl,rfl,SqL.of G,ex1,_,rfl,_,rfl,L,_,_,_,rfl,rfl,SqL.of G,aw,_,_,rfl,rfl,_,rfl,_,rfl,L,_,_,_,rfl,rfl,SqL.of G,bb,_,rfl,L,_,_,_,rfl,rfl,SqL.of G,ex4,
     _,rfl,_,rfl,L,_,_,_,rfl,rfl,SqL.of G,aw,_,_,rfl,rfl,(show 5<=sizeLine by decide),λp hp=>?_⟩
    refine aK hp λH4 g4 ep=>?_;have ep:H4 p=some (.lst ([x1,x2 - 13,x3,x4,x2+40].map V.int)):=ep;have bc:ixN (J.map V.int).length (Y % (J.length:Int))=some (Y % (J.length:Int)).toNat:=by
     unfold ixN;rw[aFB,da c0,da c1]
    refine⟨_,rfl,_,rfl,_,_,rfl,rfl,.inl ⟨by decide,by decide⟩,_,_,rfl,rfl,b,_,_,_,rfl,rfl,SqL.of ((g3.trans g4) _ _ hb),eb,_,_,rfl,rfl,(by show (0:Int)<5;decide),p,_,_,_,rfl,rfl,SqL.of ep,ez,
     _,rfl,_,rfl,L,_,_,_,rfl,rfl,g4 _ _ G,bc,?_⟩
    exact⟨J.set (Y % (J.length:Int)).toNat z,_,_,rfl,Same.upd' av (g3.trans g4),by rw[aD,List.map_set],by rw[List.length_set];exact U⟩
   .rintro σ H3 ⟨J,v1,v2,rfl,g3,G,U⟩;exact⟨_,rfl,k J U L H3 av g3 G⟩
abbrev aB4:Stmt:=top 54
def jB:FnScope ["_law_script","_law_numbers_here","_law_row_here","_law_other","_law_handed","_law_asks","_law_due","_law_ask","_law_both"] ["_law_script"] (aH aB4):=.m
def aDd {f c PT PH:Addr} {fd:FuncData} {X:aV K mg} (F:FunC K "law" "law" aB4 f fd c) (hC:PySem.W.CodeHd base c PT) (hbm:jG mg base) (B:Bt mg) (W:aAX P w K mg base X 9)
 (F_stretches:cN P w K mg base "stretches" 5 ["row"] (fV X)) (F_mirrored:cN P w K mg base "mirrored" 5 ["row"] (fV X)) (F_moved:cN P w K mg base "moved" 5 ["row","by"] (rS X)) (F_closings:cN P w K mg base "closings" 5 ["row"] (fV X)) (F_peeled:cN P w K mg base "peeled" 6 ["row"] (fV X)) (F_rounds:cN P w K mg base "rounds" 7 ["row"] (fV X))
 (F_sizes_by_rounds:cN P w K mg base "sizes_by_rounds" 8 ["row"] (fV X)) (F_sizes_by_loads:cN P w K mg base "sizes_by_loads" 7 ["row"] (fV X)) (F_heads:cN P w K mg base "heads" 7 ["row"] (rT X PH)) (F_trains:cN P w K mg base "trains" 6 ["row"] (fV X)) (F_is_ranked:cN P w K mg base "is_ranked" 6 ["row"] (fV X)) (F_rank_count:cN P w K mg base "rank_count" 6 ["row"] (fV X)) (F_kin:cN P w K mg base "kin" 6 ["one","other"] (uN X))
 (F_law_numbers:dG P w K mg base "_law_numbers" 1 ["_law_script","_law_many"] (pJ K)) (F_law_row:dG P w K mg base "_law_row" 1 ["_law_d","_law_most"] aAP) (F_law_spoilt_row:dG P w K mg base "_law_spoilt_row" 1 ["_law_row_here","_law_d"] B8) (F_law_row_bad:dG P w K mg base "_law_row_bad" 1 ["_law_row_here"] B7) (F_law_same:dG P w K mg base "_law_same" 4 ["_law_found","_law_due"] (sV 3)) :
 FnOk P w K mg base CX0 11 f fd ["_law_script"] (rV K PT PH):=by
 refine F.ok jB (λvs H Q E h=>?_) (λA outer s H vs Q E hr h=>?_)
 .obtain⟨a,ns,rfl,_⟩:=h;rfl
 .obtain⟨a,sc,rfl,hP,hH,hPH,hS,hlen,kk⟩:=h;have hu:=hr.units;refine⟨_,(aC (aM 1 jB.nd (bE F_law_numbers hr rfl (aA (pv 0) (aA aF aB))))
 (aC (aM 2 jB.nd (bE F_law_spoilt_row hr rfl (aA (bE F_law_row hr rfl (aA (eM gA (pv 1) (fZ aF) fY) (aA (aX aW (bF (aA aF (aA aF (aA aF aB)))) (aI dL (aX aW (pv 1) aF (λ_ _=>rfl)) aF) (λ_ _=>rfl)) aB))) (aA (eM gA (pv 1) (fZ aF) fY) aB))))
 (aC (aM 3 jB.nd (bE F_law_spoilt_row hr rfl (aA (bE F_law_row hr rfl (aA (eM gA (pv 1) (fZ aF) fY) (aA (aX aW (bF (aA aF (aA aF (aA aF aB)))) (aI dL (aX aW (pv 1) aF (λ_ _=>rfl)) aF) (λ_ _=>rfl)) aB))) (aA (eM gA (pv 1) (fZ aF) fY) aB))))
 (aC (aM 4 jB.nd (bF (aA (eV jT (by rfl) B.list fR (aA (pv 2) aB)) (aA (eV jT (by rfl) B.list fR (aA (pv 3) aB)) aB))))
 (aC (aM 5 jB.nd (bF (aA (dY (k:=8) ["_law_handed"] [4] hC hbm rfl rfl λ_ _ _ _ _ _ _ _ _ hfr hr h=>⟨_,(bN F_stretches hr rfl (iH hfr) (aA (aX (bW K rfl) (pv 0) aF (λ_ _=>rfl)) aB)),h⟩) (aA (dY (k:=8) ["_law_handed"] [4] hC hbm rfl rfl λ_ _ _ _ _ _ _ _ _ hfr hr h=>⟨_,(bN F_mirrored hr rfl (iH hfr) (aA (aX (bW K rfl) (pv 0) aF (λ_ _=>rfl)) aB)),h⟩) (aA (dY (k:=8) ["_law_handed"] [4] hC hbm rfl rfl λ_ _ _ _ _ _ _ _ _ hfr hr h=>⟨_,(bN F_moved hr rfl (iH hfr) (aA (aX (bW K rfl) (pv 0) aF (λ_ _=>rfl)) (aA aF aB))),h⟩) (aA (dY (k:=8) ["_law_handed"] [4] hC hbm rfl rfl λ_ _ _ _ _ _ _ _ _ hfr hr h=>⟨_,(bN F_closings hr rfl (iH hfr) (aA (aX (bW K rfl) (pv 0) aF (λ_ _=>rfl)) aB)),h⟩) (aA (dY (k:=8) ["_law_handed"] [4] hC hbm rfl rfl λ_ _ _ _ _ _ _ _ _ hfr hr h=>⟨_,(bN F_peeled hr rfl (iH hfr) (aA (aX (bW K rfl) (pv 0) aF (λ_ _=>rfl)) aB)),h⟩) (aA (dY (k:=8) ["_law_handed"] [4] hC hbm rfl rfl λ_ _ _ _ _ _ _ _ _ hfr hr h=>⟨_,(bN F_rounds hr rfl (iH hfr) (aA (aX (bW K rfl) (pv 0) aF (λ_ _=>rfl)) aB)),h⟩) (aA (dY (k:=8) ["_law_handed"] [4] hC hbm rfl rfl λ_ _ _ _ _ _ _ _ _ hfr hr h=>⟨_,(bN F_sizes_by_rounds hr rfl (iH hfr) (aA (aX (bW K rfl) (pv 0) aF (λ_ _=>rfl)) aB)),h⟩) (aA (dY (k:=8) ["_law_handed"] [4] hC hbm rfl rfl λ_ _ _ _ _ _ _ _ _ hfr hr h=>⟨_,(bN F_sizes_by_loads hr rfl (iH hfr) (aA (aX (bW K rfl) (pv 0) aF (λ_ _=>rfl)) aB)),h⟩) (aA (dY (k:=8) ["_law_handed"] [4] hC hbm rfl rfl λ_ _ _ _ _ _ _ _ _ hfr hr h=>⟨_,(bN F_heads hr rfl (iH hfr) (aA (aX (bW K rfl) (pv 0) aF (λ_ _=>rfl)) aB)),h⟩) (aA (dY (k:=8) ["_law_handed"] [4] hC hbm rfl rfl λ_ _ _ _ _ _ _ _ _ hfr hr h=>⟨_,(bN F_trains hr rfl (iH hfr) (aA (aX (bW K rfl) (pv 0) aF (λ_ _=>rfl)) aB)),h⟩) (aA (dY (k:=8) ["_law_handed"] [4] hC hbm rfl rfl λ_ _ _ _ _ _ _ _ _ hfr hr h=>⟨_,(bN F_is_ranked hr rfl (iH hfr) (aA (aX (bW K rfl) (pv 0) aF (λ_ _=>rfl)) aB)),h⟩) (aA (dY (k:=8) ["_law_handed"] [4] hC hbm rfl rfl λ_ _ _ _ _ _ _ _ _ hfr hr h=>⟨_,(bN F_rank_count hr rfl (iH hfr) (aA (aX (bW K rfl) (pv 0) aF (λ_ _=>rfl)) aB)),h⟩) aB))))))))))))))
 (aC (aM 6 jB.nd (bE F_law_row_bad hr rfl (aA (pv 2) aB)))
 (aC (cS ft rfl (bX (pv 5)) (cJ 7 jB.nd)
 (aG (dE (PW.pt (S8 (J7 (fG (bE F_law_same hr rfl (aA (yW (k:=8) ⟨rfl,rfl,rfl⟩ W hr rfl (pv 7)) (aA (pv 6) aB))) (λ_=>rfl))) (xJ (aS (xU hu) (pv 4) (bF (aA (pv 2) (aA (pv 3) aB))) (aZ _)))))
 (aG (aY vM))
 bQ)))
 (aC (aM 8 jB.nd (sS (kI (aS (xU hu) (aX mY (pv 6) aF (λ_ _=>rfl)) cV (aZ _)) (pv 6) (bE F_law_row_bad hr rfl (aA (pv 3) aB)))))
 (aC (dE (J7 (fG (bE F_law_same hr rfl (aA (yW (k:=8) ⟨rfl,rfl,rfl⟩ W hr rfl (dY (k:=8) ["_law_handed"] [4] hC hbm rfl rfl λ_ _ _ _ _ _ _ _ _ hfr hr h=>⟨_,(bN F_kin hr rfl (iH hfr) (aA (aX (bW K rfl) (pv 0) aF (λ_ _=>rfl)) (aA (aX (bW K rfl) (pv 0) aF (λ_ _=>rfl)) aB))),h⟩)) (aA (pv 8) aB))) (λ_=>rfl)))
 (aG (aY vM))
 bQ)
 (aC (aM 8 jB.nd (sS (kI (aS (xU hu) (aX mY (bE F_law_row_bad hr rfl (aA (pv 3) aB)) aF (λ_ _=>rfl)) cV (aZ _)) (bE F_law_row_bad hr rfl (aA (pv 3) aB)) (pv 6))))
 (aG (aY (J9 (bE F_law_same hr rfl (aA (yW (k:=8) ⟨rfl,rfl,rfl⟩ W hr rfl (dY (k:=8) ["_law_handed"] [4] hC hbm rfl rfl λ_ _ _ _ _ _ _ _ _ hfr hr h=>⟨_,(bN F_kin hr rfl (iH hfr) (aA (aX (bW K rfl) (pv 0) aF (λ_ _=>rfl)) (aA (aX (bW K rfl) (pv 0) aF (λ_ _=>rfl)) aB))),h⟩)) (aA (pv 8) aB))) (J8 (nO (aAH hu) (pv 4) (bF (aA (pv 2) (aA (pv 3) aB))) (aZ _)))))))))))))))),?_⟩
  refine⟨_,rfl,a,sc,140,rfl,hS,hlen,by decide,λl1 nums H1 hnl hnums hl1 sm1 el1=>?_⟩;have hP1:=sm1 _ _ hP;have hH1:=sm1 _ _ hH;obtain⟨n0,m0,_,e0⟩:=cX (ns:=nums) (i:=0) (by omega) (by omega);obtain⟨n1,m1,_,e1⟩:=cX (ns:=nums) (i:=1) (by omega) (by omega);refine⟨_,rfl,_,rfl,l1,_,rfl,SqL.of el1,λp1a hp1a=>?_⟩;rw[show iE (nums.map V.int) (some 10) none=(nums.drop 10).map V.int from oA nums 10 (by omega)];refine aK hp1a λH2a sp1a ep1a=>?_;refine⟨(show 3<=sizeLine by decide),λp2a hp2a=>?_⟩;refine aK hp2a λH3a sp2a ep2a=>?_;have ep2a:H3a p2a=some (.lst ([5,12,40].map V.int)):=ep2a;obtain⟨mma,hmma,_,ema⟩:=cX (ns:=[5,12,40]) (i:=n0 % 3) (jw _ (by decide)) (jo _ (by decide));obtain⟨ma,rfl,hma⟩:∃ m:Nat,mma=(m:Int)/\m<=40:=⟨mma.toNat,by simp at hmma;omega,by simp at hmma;omega⟩;have s13a:=sp1a.trans sp2a;refine⟨_,rfl,l1,_,_,_,rfl,rfl,SqL.of (s13a _ _ el1),e0,_,_,rfl,rfl,(by show (0:Int)<3;decide),p2a,_,_,_,rfl,rfl,SqL.of ep2a,ema,?_⟩;refine⟨p1a,nums.drop 10,ma,rfl,sp2a _ _ ep1a,λn hn=>hnums n (rq hn),by simp;omega,by omega,λrow0a hrow0a hrl0a hbd0a lra H4a hlra sm4a elra=>?_⟩;have s14a:=s13a.trans sm4a;refine⟨_,rfl,_,rfl,l1,_,rfl,SqL.of (s14a _ _ el1),λp3a hp3a=>?_⟩;rw[show iE (nums.map V.int) (some 1) none=(nums.drop 1).map V.int from oA nums 1 (by omega)];refine aK hp3a λH5a sp3a ep3a=>?_;refine⟨lra,p3a,row0a,nums.drop 1,rfl,sp3a _ _ elra,by omega,ep3a,by simp;omega,λrow hrla l2 H6 hll2 sm6a el2=>?_⟩;have s16a:=(s14a.trans sp3a).trans sm6a;clear sp1a ep1a hp1a sp2a ep2a hp2a s13a sm4a elra hlra s14a sp3a ep3a hp3a sm6a;have el16:=s16a _ _ el1;refine⟨_,rfl,_,rfl,l1,_,rfl,SqL.of el16,λp1b hp1b=>?_⟩;rw[show iE (nums.map V.int) (some 70) none=(nums.drop 70).map V.int from oA nums 70 (by omega)];refine aK hp1b λH2b sp1b ep1b=>?_;refine⟨(show 3<=sizeLine by decide),λp2b hp2b=>?_⟩;refine aK hp2b λH3b sp2b ep2b=>?_;have ep2b:H3b p2b=some (.lst ([5,12,40].map V.int)):=ep2b;obtain⟨mmb,hmmb,_,emb⟩:=cX (ns:=[5,12,40]) (i:=n1 % 3) (jw _ (by decide)) (jo _ (by decide));obtain⟨mb,rfl,hmb⟩:∃ m:Nat,mmb=(m:Int)/\m<=40:=⟨mmb.toNat,by simp at hmmb;omega,by simp at hmmb;omega⟩;have s13b:=sp1b.trans sp2b;refine⟨_,rfl,l1,_,_,_,rfl,rfl,SqL.of (s13b _ _ el16),e1,_,_,rfl,rfl,(by show (0:Int)<3;decide),p2b,_,_,_,rfl,rfl,SqL.of ep2b,emb,?_⟩;refine⟨p1b,nums.drop 70,mb,rfl,sp2b _ _ ep1b,λn hn=>hnums n (rq hn),by simp;omega,by omega,λrow0b hrow0b hrl0b hbd0b lrb H4b hlrb sm4b elrb=>?_⟩;have s14b:=s13b.trans sm4b;refine⟨_,rfl,_,rfl,l1,_,rfl,SqL.of (s14b _ _ el16),λp3b hp3b=>?_⟩;rw[show iE (nums.map V.int) (some 60) none=(nums.drop 60).map V.int from oA nums 60 (by omega)];refine aK hp3b λH5b sp3b ep3b=>?_;refine⟨lrb,p3b,row0b,nums.drop 60,rfl,sp3b _ _ elrb,by omega,ep3b,by simp;omega,λoth hrlb l3 H7 hll3 sm6b el3=>?_⟩;have s16b:=(s14b.trans sp3b).trans sm6b;clear sp1b ep1b hp1b sp2b ep2b hp2b s13b sm4b elrb hlrb s14b sp3b ep3b hp3b sm6b;have el27:=s16b _ _ el2;have hP7:=(s16a.trans s16b) _ _ hP1;have hH7:=(s16a.trans s16b) _ _ hH1;clear el16 s16a s16b;refine⟨_,rfl,l2,_,rfl,.inl (SqL.of el27),λh1 hh1=>?_⟩;refine aK hh1 λH8 g8 eh1=>?_;refine⟨_,rfl,l3,_,rfl,.inl (SqL.of (g8 _ _ el3)),λh2 hh2=>?_⟩;refine aK hh2 λH9 g9 eh2=>?_;refine⟨(show 2<=sizeLine by decide),λlh hlh=>?_⟩;refine aK hlh λK0 g10 elh=>?_;have g710:=(g8.trans g9).trans g10;have hP0:=g710 _ _ hP7;have hH0:=g710 _ _ hH7;have eh10:=(g9.trans g10) _ _ eh1;have eh20:=g10 _ _ eh2;have el20:=g710 _ _ el27;have el30:=g710 _ _ el3;clear g8 g9 g10 g710 eh1 eh2 hh1 hh2 hlh hP7 hH7 el27 el3;have U0:=TabU.nil;have G0:SameP PT K0 K0:=λ_ _ _ e=>e;refine⟨_,hP0,U0.tr,U0.no _ (by decide),λf1 c1 K1 hf1 g1 hq1 L1=>?_⟩;obtain⟨ps1,hP1,U1⟩:=iM hq1 (U0.snoc ⟨330,0,330,33⟩ c1);clear hq1;have A1:=AllL.snoc (PT:=PH) (LS:=[]) AllL.nil hP0 g1 L1 mT;have G1:=G0.trans g1
  clear G0;refine⟨_,hP1,U1.tr,U1.no _ (by decide),λf2 c2 K2 hf2 g2 hq2 L2=>?_⟩;obtain⟨ps2,hP2,U2⟩:=iM hq2 (U1.snoc ⟨331,0,331,32⟩ c2);clear hq2;have A2:=A1.snoc hP1 g2 L2 mT;have G2:=G1.trans g2;clear A1 G1;refine⟨_,hP2,U2.tr,U2.no _ (by decide),λf3 c3 K3 hf3 g3 hq3 L3=>?_⟩;obtain⟨ps3,hP3,U3⟩:=iM hq3 (U2.snoc ⟨332,0,332,32⟩ c3);clear hq3;have A3:=A2.snoc hP2 g3 L3 aEU;have G3:=G2.trans g3;clear A2 G2;refine⟨_,hP3,U3.tr,U3.no _ (by decide),λf4 c4 K4 hf4 g4 hq4 L4=>?_⟩;obtain⟨ps4,hP4,U4⟩:=iM hq4 (U3.snoc ⟨333,0,333,32⟩ c4);clear hq4;have A4:=A3.snoc hP3 g4 L4 mT;have G4:=G3.trans g4;clear A3 G3;refine⟨_,hP4,U4.tr,U4.no _ (by decide),λf5 c5 K5 hf5 g5 hq5 L5=>?_⟩;obtain⟨ps5,hP5,U5⟩:=iM hq5 (U4.snoc ⟨334,0,334,30⟩ c5);clear hq5;have A5:=A4.snoc hP4 g5 L5 mT;have G5:=G4.trans g5;clear A4 G4;refine⟨_,hP5,U5.tr,U5.no _ (by decide),λf6 c6 K6 hf6 g6 hq6 L6=>?_⟩;obtain⟨ps6,hP6,U6⟩:=iM hq6 (U5.snoc ⟨335,0,335,30⟩ c6);clear hq6;have A6:=A5.snoc hP5 g6 L6 mT;have G6:=G5.trans g6;clear A5 G5;refine⟨_,hP6,U6.tr,U6.no _ (by decide),λf7 c7 K7 hf7 g7 hq7 L7=>?_⟩;obtain⟨ps7,hP7,U7⟩:=iM hq7 (U6.snoc ⟨336,0,336,39⟩ c7);clear hq7;have A7:=A6.snoc hP6 g7 L7 mT;have G7:=G6.trans g7;clear A6 G6;refine⟨_,hP7,U7.tr,U7.no _ (by decide),λf8 c8 K8 hf8 g8 hq8 L8=>?_⟩;obtain⟨ps8,hP8,U8⟩:=iM hq8 (U7.snoc ⟨337,0,337,38⟩ c8);clear hq8;have A8:=A7.snoc hP7 g8 L8 mT;have G8:=G7.trans g8;clear A7 G7;refine⟨_,hP8,U8.tr,U8.no _ (by decide),λf9 c9 K9 hf9 g9 hq9 L9=>?_⟩;obtain⟨ps9,hP9,U9⟩:=iM hq9 (U8.snoc ⟨338,0,338,29⟩ c9);clear hq9;have A9:=A8.snoc hP8 g9 L9 aEV;have G9:=G8.trans g9;clear A8 G8;refine⟨_,hP9,U9.tr,U9.no _ (by decide),λf10 c10 K10 hf10 g10 hq10 L10=>?_⟩;obtain⟨ps10,hP10,U10⟩:=iM hq10 (U9.snoc ⟨339,0,339,30⟩ c10);clear hq10;have A10:=A9.snoc hP9 g10 L10 mT;have G10:=G9.trans g10;clear A9 G9;refine⟨_,hP10,U10.tr,U10.no _ (by decide),λf11 c11 K11 hf11 g11 hq11 L11=>?_⟩;obtain⟨ps11,hP11,U11⟩:=iM hq11 (U10.snoc ⟨340,0,340,33⟩ c11);clear hq11;have A11:=A10.snoc hP10 g11 L11 mT;have G11:=G10.trans g11;clear A10 G10;refine⟨_,hP11,U11.tr,U11.no _ (by decide),λf12 c12 K12 hf12 g12 hq12 L12=>?_⟩;obtain⟨ps12,hP12,U12⟩:=iM hq12 (U11.snoc ⟨341,0,341,34⟩ c12);clear hq12;have A12:=A11.snoc hP11 g12 L12 mT;have G12:=G11.trans g12;clear A11 G11;refine⟨(show 12<=sizeLine by decide),λla hla=>?_⟩;obtain⟨LS,eLS,eFl,AL⟩:∃ LS:List aCX,LS.map (λp=>V.ref p.1)=[V.ref f1,V.ref f2,V.ref f3,V.ref f4,V.ref f5,V.ref f6,V.ref f7,V.ref f8,V.ref f9,V.ref f10,V.ref f11,V.ref f12]/\LS.map (λp=>p.2.2)=[false,false,false,false,false,false,false,false,true,false,false,false]/\AllL _ 8 [4] X PH K12 LS:=⟨_,rfl,rfl,A12⟩;clear A12 L1 L2 L3 L4 L5 L6 L7 L8 L9 L10 L11 L12 g1 g2 g3 g4 g5 g6 g7 g8 g9 g10 g11 g12 hf1 hf2 hf3 hf4 hf5 hf6 hf7 hf8 hf9 hf10 hf11 hf12 U0 U1 U2 U3 U4 U5 U6 U7 U8 U9 U10 U11 hP1 hP2 hP3 hP4 hP5 hP6 hP8 hP9 hP10 hP11;have gla:=Same.upd (o:=.lst [V.ref f1,V.ref f2,V.ref f3,V.ref f4,V.ref f5,V.ref f6,V.ref f7,V.ref f8,V.ref f9,V.ref f10,V.ref f11,V.ref f12]) hla;have ela:(upd K12 la (.lst [V.ref f1,V.ref f2,V.ref f3,V.ref f4,V.ref f5,V.ref f6,V.ref f7,V.ref f8,V.ref f9,V.ref f10,V.ref f11,V.ref f12])) la=some (.lst (LS.map λp=>V.ref p.1)):=by rw[aD,eLS]
  generalize upd K12 la (.lst [V.ref f1,V.ref f2,V.ref f3,V.ref f4,V.ref f5,V.ref f6,V.ref f7,V.ref f8,V.ref f9,V.ref f10,V.ref f11,V.ref f12])=M0 at gla ela ⊢;have hLl:LS.length=12:=by have:=congrArg List.length eFl;simpa using this
  have nl:∀ {b:Addr} {o:HO},K0 b=some o->(∀ qs,o≠.tbl qs)->M0 b=some o:=λe n=>gla _ _ (G12 _ _ (pN hP0 e n) e);have elhM:=nl elh λ_ z=>by cases z
  have eh1M:=nl eh10 λ_ z=>by cases z
  have eh2M:=nl eh20 λ_ z=>by cases z
  have el2M:=nl el20 λ_ z=>by cases z
  have el3M:=nl el30 λ_ z=>by cases z
  have hPM:=gla _ _ hP12;have hHM:=gla _ _ (G12 _ _ (jh hPH) hH0);have ALM:=AL.keep hP12 gla.toP;clear AL nl gla G12 hla elh eh10 eh20 el20 el30 hP0 hP12 hH0 eLS;refine⟨_,rfl,l2,row,rfl,el2M,hrla,λnm i Wy tD htD=>?_⟩;obtain⟨rfl,rfl⟩:=gE Wy (fT row);refine aK htD λN0 gD etD=>?_;have elhN:=gD _ _ elhM;have eh1N:=gD _ _ eh1M;have eh2N:=gD _ _ eh2M;have el2N:=gD _ _ el2M;have el3N:=gD _ _ el3M;have elaN:=gD _ _ ela;have hPN:=gD _ _ hPM;have hHN:=gD _ _ hHM;have ALN:=ALM.keep hPM gD.toP;clear ALM hHM hPM el3M el2M eh2M eh1M elhM ela gD htD;have hshw:=nB (aO row).at (Ref.strOk (aO row));have hsh:=p0 row oth;have nlP:∀ {b:Addr} {o:HO},N0 b=some o->(∀ qs,o≠.tbl qs)->b≠PH:=λe n=>pN hHN e n;refine⟨_,rfl,la,rfl,⟨_,SqL.of elaN⟩,dP (K:=K) (a:=la) (xs:=LS.map λp=>V.ref p.1) (λi σ Hx=>∃ v7:Option V,σ=[some (.ref a),some (.ref l1),some (.ref l2),some (.ref l3),some (.ref lh),some (.ref la),some (.ref tD),v7,none]/\SameP PH N0 Hx/\(i<=8->Hx PH=some (.tbl #[]))) ⟨none,rfl,λ_ _ _ e=>e,λ_=>hHN⟩ (λi σ Hx _ ⟨_,_,kp,_⟩=>SqL.of (kp _ _ (nlP elaN λ_ z=>by cases z) elaN)) ?_ ?_⟩
  .rintro i x σ Hx hi ⟨v7,rfl,kp,hh⟩;rw[aFZ]at hi;cases hp:LS[i]? with
   | none=>rw[hp]at hi;cases hi
   | some p =>
   rw[hp]at hi;cases hi;obtain⟨LK0,DR⟩:=ALN p (aFM hp);have LK:=LamK.keep (λb φ e=>kp _ _ (nlP e λ_ z=>by cases z) e) LK0;have hfl:p.2.2=true->i=8:=λh=>aEW i (by rw[<- eFl,aFZ,hp];exact congrArg some h);have elhx:=kp _ _ (nlP elhN λ_ z=>by cases z) elhN;have eh1x:=kp _ _ (nlP eh1N λ_ z=>by cases z) eh1N;have eh2x:=kp _ _ (nlP eh2N λ_ z=>by cases z) eh2N;have el2x:=kp _ _ (nlP el2N λ_ z=>by cases z) el2N;have el3x:=kp _ _ (nlP el3N λ_ z=>by cases z) el3N;have etDx:=kp _ _ (nlP etD λ_ z=>by cases z) etD;refine⟨_,rfl,p.1,[4],p.2.1,rfl,LK,uO (PT:=PH) p.2.2 (aO row).nm (aO row).at (DR.mono lh) (λH' t0 Q' g et0 k=>DR.go lh h1 h2 t0 row H' Q' (g _ _ (λ_ z=>by cases z) elhx) (g _ _ (λ_ z=>by cases z) eh1x) hrla (λhd=>g _ _ (λ_ z=>by cases z) (hh (by rw[hfl hd];exact ah _))) et0 k) λtv H4 g4 g4' etv=>?_⟩;have s4:∀ {b:Addr} {o:HO},N0 b=some o->(∀ qs,o≠.tbl qs)->H4 b=some o:=λe n=>g4 _ _ (nlP e n) (kp _ _ (nlP e n) e);refine⟨_,rfl,_,_,.tuple [.str (aO row).nm,.int (aO row).at],rfl,.tup etv (.cons (.str _) (.cons (.int _) .nil)),.tup (s4 etD λ_ z=>by cases z) (.cons (.str _) (.cons (.int _) .nil)),pO _ _,hshw,yA _ _,λH5 g5=>⟨true,rfl,?_⟩⟩;refine⟨_,rfl,_,rfl,_,rfl,(show 2<=sizeLine by decide),λq hq=>?_⟩;have g6:=g5.trans (Same.upd (o:=.lst [V.ref l2,V.ref l3]) hq);have eq:(upd H5 q (.lst [V.ref l2,V.ref l3])) q=some (.lst [V.ref l2,V.ref l3]):=aD;generalize upd H5 q (.lst [V.ref l2,V.ref l3])=H6 at g6 eq ⊢;have s6:∀ {b:Addr} {o:HO},N0 b=some o->(∀ qs,o≠.tbl qs)->H6 b=some o:=λe n=>g6 _ _ (s4 e n);refine⟨_,_,.lst (s6 elhN λ_ z=>by cases z) (.cons (Den.ints (s6 eh1N λ_ z=>by cases z)) (.cons (Den.ints (s6 eh2N λ_ z=>by cases z)) .nil)),.lst eq (.cons (Den.ints (s6 el2N λ_ z=>by cases z)) (.cons (Den.ints (s6 el3N λ_ z=>by cases z)) .nil)),hsh,hsh,_,rfl,?_⟩;rw[kR hsh];refine⟨_,rfl,kp.trans (g4.trans g6.toP),λh9=>g6 _ _ (g4' ?_ _ _ (hh (by omega)))⟩;cases hb:p.2.2 with
   | false=>rfl
   | true=>have:=hfl hb;omega
  rintro σ Hx ⟨v7,rfl,kp,_⟩;have elhx:=kp _ _ (nlP elhN λ_ z=>by cases z) elhN;have eh1x:=kp _ _ (nlP eh1N λ_ z=>by cases z) eh1N;have eh2x:=kp _ _ (nlP eh2N λ_ z=>by cases z) eh2N;have el2x:=kp _ _ (nlP el2N λ_ z=>by cases z) el2N;have el3x:=kp _ _ (nlP el3N λ_ z=>by cases z) el3N;have etDx:=kp _ _ (nlP etD λ_ z=>by cases z) etD;have hPx:=kp _ _ hPH hPN;clear ALN elaN elhN eh1N eh2N el2N el3N etD hPN hHN kp nlP eFl hLl;refine⟨λv Hv=>∃ t,v=.ref t/\Hv t=some (.tup [.str (bZ row oth).nm,.int (bZ row oth).at])/\Same Hx Hv,?_,?_⟩
  .refine⟨_,rfl,tD,_,_,_,rfl,rfl,SqT.of etDx,rfl,_,_,.str _,.str _,rQ (Ref.strOk (aO row)),rQ (Ref.strOk .ok),_,rfl,?_⟩;rw[aER]
   by_cases hn:(aO row).nm=""
   .refine zO hn ?_;refine⟨_,rfl,l3,oth,rfl,el3x,hrlb,λnm i Wy t ht=>?_⟩;obtain⟨rfl,rfl⟩:=gE Wy (fT oth);exact⟨t,rfl,by rw[aD,mL,da hn],Same.upd ht⟩
   .refine aCh hn ?_;exact⟨_,rfl,tD,rfl,by rw[mL,bB hn];exact etDx,Same.refl _⟩
  rintro v Hy ⟨tB,rfl,etBy,gy⟩;have elhy:=gy _ _ elhx;have eh1y:=gy _ _ eh1x;have eh2y:=gy _ _ eh2x;have el2y:=gy _ _ el2x;have el3y:=gy _ _ el3x;have etDy:=gy _ _ etDx;have hPy:=gy _ _ hPx;clear gy elhx eh1x eh2x el2x el3x etDx hPx;refine⟨_,hPy,U12.tr,U12.no _ (by decide),λfky cky Hky hfky gky hqky Lky=>?_⟩;have nky:∀ {b:Addr} {o:HO},Hy b=some o->(∀ qs,o≠.tbl qs)->Hky b=some o:=λe n=>gky _ _ (pN hPy e n) e;obtain⟨psky,hPky,Uky⟩:=iM hqky (U12.snoc ⟨348,0,348,43⟩ cky);have elhky:=nky elhy λ_ z=>by cases z
  have eh1ky:=nky eh1y λ_ z=>by cases z
  have eh2ky:=nky eh2y λ_ z=>by cases z
  have el2ky:=nky el2y λ_ z=>by cases z
  have el3ky:=nky el3y λ_ z=>by cases z
  have etDky:=nky etDy λ_ z=>by cases z
  have etBky:=nky etBy λ_ z=>by cases z
  clear nky hqky gky hfky;refine⟨fky,[4],_,rfl,Lky,uO (PT:=PH) false (bZ row oth).nm (bZ row oth).at Y9 (λH' t0 Q' g et0 k=>⟨_,rfl,lh,_,_,_,rfl,rfl,SqL.of (g _ _ (λ_ z=>by cases z) elhky),rfl,_,rfl,lh,_,_,_,rfl,rfl,SqL.of (g _ _ (λ_ z=>by cases z) elhky),rfl,Z0 (g _ _ (λ_ z=>by cases z) eh1ky) (g _ _ (λ_ z=>by cases z) eh2ky) hrla hrlb et0 λtv H3 g3 e=>k tv H3 g3.toP (λ_=>g3) e⟩) λtvy Hvy _ gvy etvy=>?_⟩;have gvy':=gvy rfl;have hshky:=nB (bZ row oth).at (Ref.strOk (bZ row oth));refine⟨_,rfl,_,_,.tuple [.str (bZ row oth).nm,.int (bZ row oth).at],rfl,.tup etvy (.cons (.str _) (.cons (.int _) .nil)),.tup (gvy' _ _ etBky) (.cons (.str _) (.cons (.int _) .nil)),pO _ _,hshky,yA _ _,λHwy gwy=>⟨true,rfl,?_⟩⟩;have gzy:=gvy'.trans gwy;have elhz:=gzy _ _ elhky;have eh1z:=gzy _ _ eh1ky;have eh2z:=gzy _ _ eh2ky;have el2z:=gzy _ _ el2ky;have el3z:=gzy _ _ el3ky;have etDz:=gzy _ _ etDky;have hPz:=gzy _ _ hPky;clear gzy gvy gvy' gwy elhky eh1ky eh2ky el2ky el3ky etDky etBky hPky;refine⟨λv Hv=>∃ t,v=.ref t/\Hv t=some (.tup [.str (bZ oth row).nm,.int (bZ oth row).at])/\Same Hwy Hv,?_,?_⟩
  .refine⟨_,rfl,l3,oth,rfl,el3z,hrlb,λnm i Wy t ht=>?_⟩;obtain⟨rfl,rfl⟩:=gE Wy (fT oth);have gt:=Same.upd (o:=.tup [.str (aO oth).nm,.int (aO oth).at]) ht;refine⟨t,_,_,_,rfl,rfl,SqT.of aD,rfl,_,_,.str _,.str _,rQ (Ref.strOk (aO oth)),rQ (Ref.strOk .ok),_,rfl,?_⟩;rw[aER]
   by_cases hn:(aO oth).nm=""
   .refine zO hn ?_;exact⟨_,rfl,tD,rfl,by rw[mL,da hn];exact gt _ _ etDz,gt⟩
   .refine aCh hn ?_;refine⟨_,rfl,l3,oth,rfl,gt _ _ el3z,hrlb,λnm i Wy t2 ht2=>?_⟩;obtain⟨rfl,rfl⟩:=gE Wy (fT oth);exact⟨t2,rfl,by rw[aD,mL,bB hn],gt.trans (Same.upd ht2)⟩
  rintro v Hu ⟨tU,rfl,etBu,gu⟩;have elhu:=gu _ _ elhz;have eh1u:=gu _ _ eh1z;have eh2u:=gu _ _ eh2z;have el2u:=gu _ _ el2z;have el3u:=gu _ _ el3z;have etDu:=gu _ _ etDz;have hPu:=gu _ _ hPz;clear gu elhz eh1z eh2z el2z el3z etDz hPz;refine⟨_,hPu,Uky.tr,Uky.no _ (by decide),λfku cku Hku hfku gku hqku Lku=>?_⟩;have nku:∀ {b:Addr} {o:HO},Hu b=some o->(∀ qs,o≠.tbl qs)->Hku b=some o:=λe n=>gku _ _ (pN hPu e n) e;obtain⟨psku,hPku,Uku⟩:=iM hqku (Uky.snoc ⟨352,0,352,43⟩ cku);have elhku:=nku elhu λ_ z=>by cases z
  have eh1ku:=nku eh1u λ_ z=>by cases z
  have eh2ku:=nku eh2u λ_ z=>by cases z
  have el2ku:=nku el2u λ_ z=>by cases z
  have el3ku:=nku el3u λ_ z=>by cases z
  have etDku:=nku etDu λ_ z=>by cases z
  have etBku:=nku etBu λ_ z=>by cases z
  clear nku hqku gku hfku;refine⟨fku,[4],_,rfl,Lku,uO (PT:=PH) false (bZ oth row).nm (bZ oth row).at Y9 (λH' t0 Q' g et0 k=>⟨_,rfl,lh,_,_,_,rfl,rfl,SqL.of (g _ _ (λ_ z=>by cases z) elhku),rfl,_,rfl,lh,_,_,_,rfl,rfl,SqL.of (g _ _ (λ_ z=>by cases z) elhku),rfl,Z0 (g _ _ (λ_ z=>by cases z) eh2ku) (g _ _ (λ_ z=>by cases z) eh1ku) hrlb hrla et0 λtv H3 g3 e=>k tv H3 g3.toP (λ_=>g3) e⟩) λtvu Hvu _ gvu etvu=>?_⟩;have gvu':=gvu rfl;have hshku:=nB (bZ oth row).at (Ref.strOk (bZ oth row));refine⟨_,rfl,_,_,.tuple [.str (bZ oth row).nm,.int (bZ oth row).at],rfl,.tup etvu (.cons (.str _) (.cons (.int _) .nil)),.tup (gvu' _ _ etBku) (.cons (.str _) (.cons (.int _) .nil)),pO _ _,hshku,yA _ _,λHwu gwu=>⟨true,rfl,?_⟩⟩;have gzu:=gvu'.trans gwu;refine⟨_,rfl,_,rfl,_,rfl,(show 2<=sizeLine by decide),λq hq=>?_⟩;have g6:=gzu.trans (Same.upd (o:=.lst [V.ref l2,V.ref l3]) hq);have eq:(upd Hwu q (.lst [V.ref l2,V.ref l3])) q=some (.lst [V.ref l2,V.ref l3]):=aD;generalize upd Hwu q (.lst [V.ref l2,V.ref l3])=H6 at g6 eq ⊢;refine⟨_,_,.lst (g6 _ _ elhku) (.cons (Den.ints (g6 _ _ eh1ku)) (.cons (Den.ints (g6 _ _ eh2ku)) .nil)),.lst eq (.cons (Den.ints (g6 _ _ el2ku)) (.cons (Den.ints (g6 _ _ el3ku)) .nil)),hsh,hsh,?_⟩;rw[kR hsh];exact kk _
end
def all_mk {l:PySem.W.OpenLaw} {w:World} {K:PySem.W.Frag} {h:Heap} {mg:Str->Option Value} {fa:Addr} {ts:List Addr} {PT:Addr} (hts:PT∈ts) {P2:Addr} (hts2:P2∈ts) (hPP:PT≠P2) (X:K.In h) (G:h.Ns mainGlobals mg) (hfa:mg "law"=some (.ref fa))
 {C_BadRow:Addr}
 {C_BadTrains:Addr}
 {C_BadSizes:Addr}
 {C_TooMany:Addr}
 {C_BadCreel:Addr}
 {C_BadNumber:Addr}
 {C_TooNear:Addr}
 {C_Bare:Addr}
 {C_CreelError:Addr}
 {I_CreelError:Addr} {od_CreelError an_CreelError:Option Addr} {sl_CreelError:Array (Option Value)} {oc_CreelError kV_CreelError dc_CreelError pm_CreelError cd_CreelError ct_CreelError:Value}
 {T_CreelError:Addr} {uc_CreelError:Value} {ud_CreelError:Option Addr} {un_CreelError:Nat} {us_CreelError:Array (Option Value)} {ta_CreelError:Tok} {tb_CreelError:Tok}
 {I_TooMany:Addr} {od_TooMany an_TooMany:Option Addr} {sl_TooMany:Array (Option Value)} {oc_TooMany kV_TooMany dc_TooMany pm_TooMany cd_TooMany ct_TooMany:Value}
 {T_TooMany:Addr} {uc_TooMany:Value} {ud_TooMany:Option Addr} {un_TooMany:Nat} {us_TooMany:Array (Option Value)} {ta_TooMany:Tok}
 {I_BadRow:Addr} {od_BadRow an_BadRow:Option Addr} {sl_BadRow:Array (Option Value)} {oc_BadRow kV_BadRow dc_BadRow pm_BadRow cd_BadRow ct_BadRow:Value}
 {I_BadCreel:Addr} {od_BadCreel an_BadCreel:Option Addr} {sl_BadCreel:Array (Option Value)} {oc_BadCreel kV_BadCreel dc_BadCreel pm_BadCreel cd_BadCreel ct_BadCreel:Value}
 {T_BadCreel:Addr} {uc_BadCreel:Value} {ud_BadCreel:Option Addr} {un_BadCreel:Nat} {us_BadCreel:Array (Option Value)} {ta_BadCreel:Tok}
 {f0:Addr} {d0:FuncData}
 {f1:Addr} {d1:FuncData}
 {f2:Addr} {d2:FuncData}
 {f3:Addr} {d3:FuncData}
 {f4:Addr} {d4:FuncData}
 {f5:Addr} {d5:FuncData}
 {f6:Addr} {d6:FuncData}
 {f7:Addr} {d7:FuncData}
 {f8:Addr} {d8:FuncData}
 {f9:Addr} {d9:FuncData}
 {f10:Addr} {d10:FuncData}
 {f11:Addr} {d11:FuncData}
 {f12:Addr} {d12:FuncData}
 {f13:Addr} {d13:FuncData}
 {f14:Addr} {d14:FuncData}
 {f15:Addr} {d15:FuncData}
 {f16:Addr} {d16:FuncData}
 {f17:Addr} {d17:FuncData}
 {f18:Addr} {d18:FuncData}
 {f19:Addr} {d19:FuncData}
 {f20:Addr} {d20:FuncData}
 {f21:Addr} {d21:FuncData}
 {f22:Addr} {d22:FuncData}
 {f23:Addr} {d23:FuncData}
 {f24:Addr} {d24:FuncData}
 {f25:Addr} {d25:FuncData}
 {f26:Addr} {d26:FuncData}
 {f27:Addr} {d27:FuncData}
 {f28:Addr} {d28:FuncData}
 {cD:Addr}
 {f29:Addr} {d29:FuncData}
 {f30:Addr} {d30:FuncData}
 {f31:Addr} {d31:FuncData}
 {f32:Addr} {d32:FuncData}
 {f33:Addr} {d33:FuncData}
 {f34:Addr} {d34:FuncData}
 {f35:Addr} {d35:FuncData}
 {cC:Addr}
 {f36:Addr} {d36:FuncData}
 {t_MOST_STONES:Tok}
 (ac_BadRow:PySem.W.nsIn K mainGlobals "BadRow"=some (some (.ref C_BadRow)))
 (ac_BadTrains:PySem.W.nsIn K mainGlobals "BadTrains"=some (some (.ref C_BadTrains)))
 (ac_BadSizes:PySem.W.nsIn K mainGlobals "BadSizes"=some (some (.ref C_BadSizes)))
 (ac_TooMany:PySem.W.nsIn K mainGlobals "TooMany"=some (some (.ref C_TooMany)))
 (ac_BadCreel:PySem.W.nsIn K mainGlobals "BadCreel"=some (some (.ref C_BadCreel)))
 (ac_BadNumber:PySem.W.nsIn K mainGlobals "BadNumber"=some (some (.ref C_BadNumber)))
 (ac_TooNear:PySem.W.nsIn K mainGlobals "TooNear"=some (some (.ref C_TooNear)))
 (ac_Bare:PySem.W.nsIn K mainGlobals "Bare"=some (some (.ref C_Bare)))
 (ac_CreelError:PySem.W.nsIn K mainGlobals "CreelError"=some (some (.ref C_CreelError)))
 (ai_CreelError:PySem.W.findIn K (.ref C_CreelError) "__init__"=some (some (.ref I_CreelError)))
 (li_CreelError:K.lookup I_CreelError=some ⟨oc_CreelError,od_CreelError,.func (PySem.W.fnOf "__init__" "CreelError.__init__" (bS bJ) (bH bJ) (aH bJ) (.ref T_CreelError) kV_CreelError dc_CreelError pm_CreelError an_CreelError cd_CreelError ct_CreelError),sl_CreelError⟩)
 (co_CreelError:PySem.W.codeIn K cd_CreelError "CreelError.__init__"=true)
 (ke_CreelError:PySem.W.keepIn K (.ref I_CreelError)=true)
 (lt_CreelError:K.lookup T_CreelError=some ⟨uc_CreelError,ud_CreelError,.seq #[.str "" ta_CreelError,.str "CreelError" tb_CreelError] un_CreelError,us_CreelError⟩)
 (ai_TooMany:PySem.W.findIn K (.ref C_TooMany) "__init__"=some (some (.ref I_TooMany)))
 (li_TooMany:K.lookup I_TooMany=some ⟨oc_TooMany,od_TooMany,.func (PySem.W.fnOf "__init__" "TooMany.__init__" (bS cA) (bH cA) (aH cA) (.ref T_TooMany) kV_TooMany dc_TooMany pm_TooMany an_TooMany cd_TooMany ct_TooMany),sl_TooMany⟩)
 (co_TooMany:PySem.W.codeIn K cd_TooMany "TooMany.__init__"=true)
 (ke_TooMany:PySem.W.keepIn K (.ref I_TooMany)=true)
 (lt_TooMany:K.lookup T_TooMany=some ⟨uc_TooMany,ud_TooMany,.seq #[.str "" ta_TooMany] un_TooMany,us_TooMany⟩)
 (fi_TooMany:PySem.W.isFn K (.ref I_TooMany)=true)
 (xi_TooMany:sL K C_TooMany (some (.ref I_TooMany))=true)
 (xw_TooMany:j8 K C_TooMany C_CreelError "word"=true)
 (ai_BadRow:PySem.W.findIn K (.ref C_BadRow) "__init__"=some (some (.ref I_BadRow)))
 (li_BadRow:K.lookup I_BadRow=some ⟨oc_BadRow,od_BadRow,.func (PySem.W.fnOf "__init__" "BadRow.__init__" (bS dS) (bH dS) (aH dS) .none kV_BadRow dc_BadRow pm_BadRow an_BadRow cd_BadRow ct_BadRow),sl_BadRow⟩)
 (co_BadRow:PySem.W.codeIn K cd_BadRow "BadRow.__init__"=true)
 (ke_BadRow:PySem.W.keepIn K (.ref I_BadRow)=true)
 (fi_BadRow:PySem.W.isFn K (.ref I_BadRow)=true)
 (xi_BadRow:sL K C_BadRow (some (.ref I_BadRow))=true)
 (xw_BadRow:j8 K C_BadRow C_CreelError "word"=true)
 (xa_BadRow:j8 K C_BadRow C_CreelError "at"=true)
 (ai_BadCreel:PySem.W.findIn K (.ref C_BadCreel) "__init__"=some (some (.ref I_BadCreel)))
 (li_BadCreel:K.lookup I_BadCreel=some ⟨oc_BadCreel,od_BadCreel,.func (PySem.W.fnOf "__init__" "BadCreel.__init__" (bS bT) (bH bT) (aH bT) (.ref T_BadCreel) kV_BadCreel dc_BadCreel pm_BadCreel an_BadCreel cd_BadCreel ct_BadCreel),sl_BadCreel⟩)
 (co_BadCreel:PySem.W.codeIn K cd_BadCreel "BadCreel.__init__"=true)
 (ke_BadCreel:PySem.W.keepIn K (.ref I_BadCreel)=true)
 (lt_BadCreel:K.lookup T_BadCreel=some ⟨uc_BadCreel,ud_BadCreel,.seq #[.str "" ta_BadCreel] un_BadCreel,us_BadCreel⟩)
 (fi_BadCreel:PySem.W.isFn K (.ref I_BadCreel)=true)
 (xi_BadCreel:sL K C_BadCreel (some (.ref I_BadCreel))=true)
 (xw_BadCreel:j8 K C_BadCreel C_CreelError "word"=true)
 (oga:PySem.W.specialIn K (.ref C_CreelError) "__getattribute__"=some (some (.builtin "type.__getattribute__")))
 (ore:PySem.W.readsIn K C_CreelError (.type "type")=true)
 (ofi:PySem.W.findCls K (.ref C_CreelError) (.type "type") "__init__"=some (.val (.ref I_CreelError)))
 (met:V9 K [C_BadRow,C_BadTrains,C_BadSizes,C_TooMany,C_BadCreel,C_BadNumber,C_TooNear,C_Bare]=true)
 (g1:B5 K C_BadRow "at"=true)
 (g2:B5 K C_BadTrains "at"=true)
 (g3:B5 K C_BadSizes "at"=true)
 (ex1:PySem.W.exmOne K (.ref C_BadRow) (.ref C_CreelError)=some true)
 (ex4:PySem.W.exmOne K (.ref C_TooMany) (.ref C_CreelError)=some true)
 (z_VE:PySem.W.nsIn K mainGlobals "ValueError"=some none)
 (h0:DefIn K "look_row" jX f0 d0)
 (h1:DefIn K "stretches" iP f1 d1)
 (h2:DefIn K "mirrored" iA f2 d2)
 (h3:DefIn K "moved" oW f3 d3)
 (h4:DefIn K "closings" jY f4 d4)
 (h5:DefIn K "by_size" qF f5 d5)
 (h6:DefIn K "crowd" rX f6 d6)
 (h7:DefIn K "crowds" oX f7 d7)
 (h8:DefIn K "drop_last" lK f8 d8)
 (h9:DefIn K "add_train" lL f9 d9)
 (h10:DefIn K "add_stone" iQ f10 d10)
 (h11:DefIn K "list_of" jP f11 d11)
 (h12:DefIn K "trains" oZ f12 d12)
 (h13:DefIn K "look_creel" gQ f13 d13)
 (h14:DefIn K "walked" lM f14 d14)
 (h15:DefIn K "carried" gX f15 d15)
 (h16:DefIn K "is_ranked" iR f16 d16)
 (h17:DefIn K "rank_count" gR f17 d17)
 (h18:DefIn K "walks_of" iB f18 d18)
 (h19:DefIn K "kin" J4 f19 d19)
 (h20:DefIn K "peeled" jQ f20 d20)
 (h21:DefIn K "rounds" pA f21 d21)
 (h22:DefIn K "sizes_by_counts" fM f22 d22)
 (h23:DefIn K "sizes_by_rounds" dZ f23 d23)
 (h24:DefIn K "sizes_by_loads" eI f24 d24)
 (h25:DefIn K "run_length" gS f25 d25)
 (h26:DefIn K "cut_run" qH f26 d26)
 (h27:DefIn K "found_run" lN f27 d27)
 (h28:DefIn K "road_runs" iT f28 d28)
 (h29:DefC K "heads" rY f29 d29 cD)
 (h30:DefIn K "_law_numbers" iZ f30 d30)
 (h31:DefIn K "_law_same" iD f31 d31)
 (h32:DefIn K "_law_row" qI f32 d32)
 (h33:DefIn K "_law_why" qJ f33 d33)
 (h34:DefIn K "_law_row_bad" jA f34 d34)
 (h35:DefIn K "_law_spoilt_row" eJ f35 d35)
 (h36:DefC K "law" aB4 f36 d36 cC)
 (z_len:PySem.W.nsIn K mainGlobals "len"=some none)
 (z_range:PySem.W.nsIn K mainGlobals "range"=some none)
 (z_list:PySem.W.nsIn K mainGlobals "list"=some none)
 (z_tuple:PySem.W.nsIn K mainGlobals "tuple"=some none)
 (z_bool:PySem.W.nsIn K mainGlobals "bool"=some none)
 (z_str:PySem.W.nsIn K mainGlobals "str"=some none)
 (z_int:PySem.W.nsIn K mainGlobals "int"=some none)
 (z_isinstance:PySem.W.nsIn K mainGlobals "isinstance"=some none)
 (z_all:PySem.W.nsIn K mainGlobals "all"=some none)
 (z_sorted:PySem.W.nsIn K mainGlobals "sorted"=some none)
 (z_max:PySem.W.nsIn K mainGlobals "max"=some none)
 (z_min:PySem.W.nsIn K mainGlobals "min"=some none)
 (z_set:PySem.W.nsIn K mainGlobals "set"=some none)
 (z_reversed:PySem.W.nsIn K mainGlobals "reversed"=some none)
 (z_sum:PySem.W.nsIn K mainGlobals "sum"=some none)
 (z_enumerate:PySem.W.nsIn K mainGlobals "enumerate"=some none)
 (z_zip:PySem.W.nsIn K mainGlobals "zip"=some none)
 (z_any:PySem.W.nsIn K mainGlobals "any"=some none)
 (z_abs:PySem.W.nsIn K mainGlobals "abs"=some none)
 (y_MOST_STONES:PySem.W.nsIn K mainGlobals "MOST_STONES"=some (some (.int 60 t_MOST_STONES)))
 (hcp:PySem.W.codeHdIn K cC PT=true)
 (hlp:K.lookup PT=none)
 (hcp2:PySem.W.codeHdIn K cD P2=true)
 (hlp2:K.lookup P2=none) :
 ∃ (fd:FuncData) (c P c2 P2:Addr),P∈ts/\P2∈ts/\P≠P2/\PySem.W.codeHdIn K c P=true/\K.lookup P=none/\PySem.W.codeHdIn K c2 P2=true/\K.lookup P2=none/\(∀ (s:Shared) (v:Value),BindsTo s fd ⟨[v],[]⟩ [("_law_script",v)])/\∀ base:Heap,K.In base->base.Ns mainGlobals mg->jG mg base->PySem.W.CodeHd base c P->PySem.W.CodeHd base c2 P2->FnOk l.prog w K mg base CX0 11 fa fd ["_law_script"] (rV K P P2):=by
 have e:=hfa.symm.trans (kx X G h36.a);cases e;have B:Bt mg:=⟨jj X G z_len,jj X G z_range,jj X G z_list,jj X G z_tuple,jj X G z_bool,jj X G z_str,jj X G z_int,jj X G z_isinstance,jj X G z_all,jj X G z_sorted,jj X G z_max,jj X G z_min,jj X G z_set,jj X G z_reversed,jj X G z_sum,jj X G z_enumerate,jj X G z_zip,jj X G z_any,jj X G z_abs⟩;have mV:=jj X G z_VE;have C:Cn mg t_MOST_STONES:=⟨kx X G y_MOST_STONES⟩;have FI_CreelError:=xS (st:=bJ) li_CreelError co_CreelError ke_CreelError;have BI_CreelError:Binds K (PySem.W.fnOf "__init__" "CreelError.__init__" (bS bJ) (bH bJ) (aH bJ) (.ref T_CreelError) kV_CreelError dc_CreelError pm_CreelError an_CreelError cd_CreelError ct_CreelError) ["self","why","word"] []:=λs us kin hl=>match us,hl with | [_,_,_],_=>wb (T:=T_CreelError) kin rfl lt_CreelError rfl rfl rfl
 have FI_TooMany:=xS (st:=cA) li_TooMany co_TooMany ke_TooMany;have BI_TooMany:Binds K (PySem.W.fnOf "__init__" "TooMany.__init__" (bS cA) (bH cA) (aH cA) (.ref T_TooMany) kV_TooMany dc_TooMany pm_TooMany an_TooMany cd_TooMany ct_TooMany) ["self","why"] []:=λs us kin hl=>match us,hl with | [_,_],_=>wb (T:=T_TooMany) kin rfl lt_TooMany rfl rfl rfl
 have FI_BadRow:=z8 (st:=dS) li_BadRow co_BadRow ke_BadRow;have BI_BadRow:=FI_BadRow.binds2 (p1:="self") (p2:="at") λ_ _ _ _ _ _ _ _=>rfl;have FI_BadCreel:=xS (st:=bT) li_BadCreel co_BadCreel ke_BadCreel;have BI_BadCreel:Binds K (PySem.W.fnOf "__init__" "BadCreel.__init__" (bS bT) (bH bT) (aH bT) (.ref T_BadCreel) kV_BadCreel dc_BadCreel pm_BadCreel an_BadCreel cd_BadCreel ct_BadCreel) ["self","why"] []:=λs us kin hl=>match us,hl with | [_,_],_=>wb (T:=T_BadCreel) kin rfl lt_BadCreel rfl rfl rfl
 let E:aV K mg:=⟨C_BadRow,C_BadTrains,C_BadSizes,C_TooMany,C_BadCreel,C_BadNumber,C_TooNear,C_Bare,C_CreelError,kx X G ac_BadRow,kx X G ac_BadTrains,kx X G ac_BadSizes,kx X G ac_TooMany,kx X G ac_BadCreel,kx X G ac_BadNumber,kx X G ac_TooNear,kx X G ac_Bare,kx X G ac_CreelError⟩
 have Z:Sees E:=⟨met,g1,g2,g3,ex1,ex4⟩;have OI:zZ K C_CreelError I_CreelError:=⟨oga,ore,ofi,ke_CreelError⟩;have bl:∀ (s:Shared) (v:Value),BindsTo s d36 ⟨[v],[]⟩ [("_law_script",v)]:=by
  obtain⟨_,_,_,_,_,_,_,_,rfl,_,_⟩:=h36.G.ex;exact λs v=>.of_eq rfl
 refine⟨d36,cC,PT,cD,P2,hts,hts2,hPP,hcp,hlp,hcp2,hlp2,bl,λbase _ _ hbm hC hC2=>?_⟩;have t0:=h0.d1 l.prog w base X G "row";have t1:=h1.d1 l.prog w base X G "row";have t2:=h2.d1 l.prog w base X G "row";have t3:=h3.d2 l.prog w base X G "row" "by"
 have t4:=h4.d1 l.prog w base X G "row";have t5:=h5.d1 l.prog w base X G "trains";have t6:=h6.d2 l.prog w base X G "offsets" "size";have t7:=h7.d1 l.prog w base X G "offsets";have t8:=h8.d2 l.prog w base X G "offsets" "size";have t9:=h9.d3 l.prog w base X G "offsets" "size" "place";have t10:=h10.d2 l.prog w base X G "offsets" "place";have t11:=h11.d1 l.prog w base X G "row";have t12:=h12.d1 l.prog w base X G "row";have t13:=h13.d1 l.prog w base X G "creel";have t14:=h14.d2 l.prog w base X G "row" "creel";have t15:=h15.d2 l.prog w base X G "row" "creel";have t16:=h16.d1 l.prog w base X G "row";have t17:=h17.d1 l.prog w base X G "row";have t18:=h18.d1 l.prog w base X G "gains";have t19:=h19.d2 l.prog w base X G "one" "other";have t20:=h20.d1 l.prog w base X G "row";have t21:=h21.d1 l.prog w base X G "row";have t22:=h22.d1 l.prog w base X G "counts";have t23:=h23.d1 l.prog w base X G "row";have t24:=h24.d1 l.prog w base X G "row";have t25:=h25.d1 l.prog w base X G "run";have t26:=h26.d2 l.prog w base X G "run" "many";have t27:=h27.d1 l.prog w base X G "runs";have t28:=h28.d1 l.prog w base X G "row";have t29:=h29.D.d1 l.prog w base X G "row";have t30:=h30.d2 l.prog w base X G "_law_script" "_law_many";have t31:=h31.d2 l.prog w base X G "_law_found" "_law_due";have t32:=h32.d2 l.prog w base X G "_law_d" "_law_most";have t33:=h33.d1 l.prog w base X G "_law_ask";have t34:=h34.d1 l.prog w base X G "_law_row_here";have t35:=h35.d2 l.prog w base X G "_law_row_here" "_law_d";have OB:=nH (P:=l.prog) (w:=w) (mg:=mg) (base:=base) FI_CreelError mV;have R_TooMany:hU l.prog w K mg base "TooMany" E.many ["self","why"] (O6 "TooMany" C_TooMany):=⟨E.m_many,I_TooMany,_,lT xi_TooMany,fi_TooMany,rE FI_TooMany OI OB BI_CreelError E.m_err (lT xi_TooMany) (V8 xw_TooMany),BI_TooMany⟩;have R_BadRow:hU l.prog w K mg base "BadRow" E.row ["self","at"] (aBq "BadRow" C_BadRow):=⟨E.m_row,I_BadRow,_,lT xi_BadRow,fi_BadRow,uQ FI_BadRow OI OB BI_CreelError E.m_err (lT xi_BadRow) (V8 xw_BadRow) (V8 xa_BadRow),BI_BadRow⟩;have R_BadCreel:hU l.prog w K mg base "BadCreel" E.creel ["self","why"] (O6 "BadCreel" C_BadCreel):=⟨E.m_creel,I_BadCreel,_,lT xi_BadCreel,fi_BadCreel,qE FI_BadCreel OI OB BI_CreelError E.m_err (lT xi_BadCreel) (V8 xw_BadCreel),BI_BadCreel⟩;have A0_look_row:=t0.fn (aCY h0.F B C);have A_look_row:=t0.fx (aBZ h0.F B C E R_TooMany R_BadRow);have A0_stretches_ok:=yX h1.F B A0_look_row;have A0_stretches:=t1.fn A0_stretches_ok;have AX_stretches_ok:=gF A0_stretches_ok (vF h1.F B E A_look_row);have AX_stretches:=t1.fx AX_stretches_ok;have A_stretches:=t1.fx (eT F2 AX_stretches_ok);have A0_mirrored_ok:=F6 h2.F B A0_look_row;have A0_mirrored:=t2.fn A0_mirrored_ok;have AX_mirrored_ok:=gF A0_mirrored_ok (yY h2.F B E A_look_row);have AX_mirrored:=t2.fx AX_mirrored_ok;have A_mirrored:=t2.fx (eT R3 AX_mirrored_ok);have A0_moved_ok:=aB0 h3.F B A0_look_row;have A0_moved:=t3.fn A0_moved_ok;have AX_moved_ok:=gF A0_moved_ok (r9 h3.F B E A_look_row);have AX_moved:=t3.fx AX_moved_ok;have A_moved:=t3.fx (aBR aCV AX_moved_ok);have A0_closings_ok:=F8 h4.F B A0_look_row;have A0_closings:=t4.fn A0_closings_ok;have AX_closings_ok:=gF A0_closings_ok (yZ h4.F B E A_look_row);have AX_closings:=t4.fx AX_closings_ok;have A_closings:=t4.fx (eT R4 AX_closings_ok);have A_by_size:=t5.fn (R7 h5.F B);have A_crowd:=t6.fn (aB2 h6.F B);have A_crowds:=t7.fn (u3 h7.F B);have A_drop_last:=t8.fn (zB h8.F B);have A_add_train:=t9.fn (zC h9.F B A_crowd);have A_add_stone:=t10.fn (zD h10.F B A_crowds A_drop_last A_add_train);have A0_list_of_ok:=R8 h11.F B A0_look_row A_add_stone;have A0_list_of:=t11.fn A0_list_of_ok
 have AX_list_of_ok:=gF A0_list_of_ok (F9 h11.F B E A_look_row);have AX_list_of:=t11.fx AX_list_of_ok;have A_list_of:=t11.fx (eT F3 AX_list_of_ok);have A0_trains_ok:=u6 h12.F B A0_list_of;have A0_trains:=t12.fn A0_trains_ok;have AX_trains_ok:=gF A0_trains_ok (R9 h12.F B E AX_list_of);have AX_trains:=t12.fx AX_trains_ok;have A_trains:=t12.fx (eT F3 AX_trains_ok);have A0_look_creel:=t13.fn (vG h13.F B);have A_look_creel:=t13.fx (uT h13.F B E R_BadCreel);have A0_walked_ok:=u7 h14.F B A0_look_row A0_look_creel;have A0_walked:=t14.fn A0_walked_ok;have A_walked:=t14.fx (gF A0_walked_ok (S0 h14.F B E A_look_row A_look_creel));have A0_carried_ok:=S1 h15.F B A0_walked;have A0_carried:=t15.fn A0_carried_ok;have A_carried:=t15.fx (gF A0_carried_ok (J0 h15.F B E A_walked));have A0_is_ranked_ok:=zE h16.F B A0_stretches;have A0_is_ranked:=t16.fn A0_is_ranked_ok;have AX_is_ranked_ok:=gF A0_is_ranked_ok (vH h16.F B E AX_stretches);have AX_is_ranked:=t16.fx AX_is_ranked_ok;have A_is_ranked:=t16.fx (eT aBV AX_is_ranked_ok);have A0_rank_count_ok:=vI h17.F B A0_list_of;have A0_rank_count:=t17.fn A0_rank_count_ok;have AX_rank_count_ok:=gF A0_rank_count_ok (uV h17.F B E AX_list_of);have AX_rank_count:=t17.fx AX_rank_count_ok;have A_rank_count:=t17.fx (eT aET AX_rank_count_ok);have A_walks_of:=t18.fn (J3 h18.F B);have A0_kin_ok:=aD9 h19.F B A0_list_of A_by_size A_walks_of;have A0_kin:=t19.fn A0_kin_ok;have AX_kin_ok:=gF A0_kin_ok (aCZ h19.F B E AX_list_of A_by_size);have AX_kin:=t19.fx AX_kin_ok;have A_kin:=t19.fx (aBY AX_kin_ok);have A0_peeled_ok:=u8 h20.F B A0_stretches;have A0_peeled:=t20.fn A0_peeled_ok;have AX_peeled_ok:=gF A0_peeled_ok (S2 h20.F B E AX_stretches);have AX_peeled:=t20.fx AX_peeled_ok;have A_peeled:=t20.fx (eT aBT AX_peeled_ok);have A0_rounds_ok:=u9 h21.F B A0_stretches A0_peeled;have A0_rounds:=t21.fn A0_rounds_ok;have AX_rounds_ok:=gF A0_rounds_ok (S3 h21.F B E AX_stretches AX_peeled);have AX_rounds:=t21.fx AX_rounds_ok;have A_rounds:=t21.fx (eT aBU AX_rounds_ok);have A_sizes_by_counts:=t22.fn (S4 h22.F B);have A0_sizes_by_rounds_ok:=qG h23.F B A0_rounds A_sizes_by_counts;have A0_sizes_by_rounds:=t23.fn A0_sizes_by_rounds_ok;have AX_sizes_by_rounds_ok:=gF A0_sizes_by_rounds_ok (mM h23.F B E AX_rounds A_sizes_by_counts);have AX_sizes_by_rounds:=t23.fx AX_sizes_by_rounds_ok;have A_sizes_by_rounds:=t23.fx (eT aCg AX_sizes_by_rounds_ok);have A0_sizes_by_loads_ok:=rF h24.F B A0_carried A_sizes_by_counts;have A0_sizes_by_loads:=t24.fn A0_sizes_by_loads_ok;have AX_sizes_by_loads_ok:=gF A0_sizes_by_loads_ok (nI h24.F B E A_carried);have AX_sizes_by_loads:=t24.fx AX_sizes_by_loads_ok;have A_sizes_by_loads:=t24.fx (eT aCg AX_sizes_by_loads_ok);have A_run_length:=t25.fn (vK h25.F B);have A_cut_run:=t26.fn (S5 h26.F B);have A_found_run:=t27.fn (zF h27.F B A_run_length);have A0_road_runs_ok:=zG h28.F B A0_stretches;have A0_road_runs:=t28.fn A0_road_runs_ok;have AX_road_runs_ok:=gF A0_road_runs_ok (vL h28.F B E AX_stretches);have AX_road_runs:=t28.fx AX_road_runs_ok;have A_road_runs:=t28.fx (eT aD8 AX_road_runs_ok);have A0_heads_ok:=aB3 h29.G hC2 hbm B A0_road_runs A_found_run A_run_length A_cut_run;have A0_heads:=t29.fn A0_heads_ok;have AX_heads_ok:=gF A0_heads_ok (v8 h29.F B E AX_road_runs);have AX_heads:=t29.fx AX_heads_ok;have A_heads:=t29.fx (aBS AX_heads_ok);have A_law_numbers:=t30.fn (S6 h30.F B);have A_law_same:=t31.fn (aC0 h31.F B t31.m t31.b 3);have A_law_row:=t32.fn (aDb h32.F B);have W:aAX l.prog w K mg base E 9:=⟨f33,_,aDc E Z h33.F,t33.m,t33.k,t33.b⟩
 have A_law_row_bad:=t34.fn (S7 h34.F B);have A_law_spoilt_row:=t35.fn (v9 h35.F B);exact aDd h36.G hC hbm B W A_stretches A_mirrored A_moved A_closings A_peeled A_rounds A_sizes_by_rounds A_sizes_by_loads A_heads A_trains A_is_ranked A_rank_count A_kin A_law_numbers A_law_row A_law_spoilt_row A_law_row_bad A_law_same
def walk {l:PySem.W.OpenLaw} {q:Program} {loose:List Str} {XP:(Str->Option Value)->Heap->Prop} {YP:World->Heap->Prop} {d:DefRec} {K:Params->PySem.W.Frag} (hn:l.most=some 63) (hdf:d.params.defaults=[]) {ts:List Addr}
 (hY:∀ (w:World) (h:Heap),YP w h->(K w.params).In h) (hTab:∀ (w:World) (h:Heap),YP w h->∀ P∈ts,h.get? P=some (PySem.W.tabObj #[]))
 (F:∀ (w:World) (mg:Str->Option Value) (fa:Addr) (h:Heap),(K w.params).In h->h.Ns mainGlobals mg->mg d.name=some (.ref fa) ->
  ∃ (fd:FuncData) (c P c2 P2:Addr),P∈ts/\P2∈ts/\P≠P2/\PySem.W.codeHdIn (K w.params) c P=true/\(K w.params).lookup P=none/\PySem.W.codeHdIn (K w.params) c2 P2=true/\(K w.params).lookup P2=none/\(∀ (s:Shared) (v:Value),BindsTo s fd ⟨[v],[]⟩ [("_law_script",v)])/\∀ base:Heap,(K w.params).In base->base.Ns mainGlobals mg->jG mg base->PySem.W.CodeHd base c P->PySem.W.CodeHd base c2 P2->FnOk l.prog w (K w.params) mg base CX0 11 fa fd ["_law_script"] (rV (K w.params) P P2)) :
 PySem.W.WalkO q loose XP YP l.row.toRowW d [] (λf vs=>PySem.call f vs) :=
 L2.walk_ofT2 (n:=63) (k:=11) (x:="_law_script") (CX:=λ_=>CX0) (sp:=λw P P2=>rV (K w.params) P P2) hn (by decide) hdf ⟨rfl,by decide,by decide⟩ hY hTab F (λ_ P P2 H a ns hl hP hP2 hne hS=>⟨a,ns,rfl,hP,hP2,hne,hS,hl,λ_=>rfl⟩) λ_ _ _ _ _ z=>z
end CW
namespace PySem.W.Fast
def tw11083003745412001797:=()
def tw7230788018117350395:=()
def tw13859576143349377670:=()
def tw6087879769643379007:=()
def tw1378679417851587414:=()
def tw17652548323539924582:=()
def tw3210310822872145939:=()
def tw6309956936140718948:=()
def tw602806286116919962:=()
def tw11395930810103116941:=()
def tw16296077405506762444:=()
def tw6473972010940944672:=()
def tw18279264538334903392:=()
def tw13663073879763210128:=()
def tw15632928502502953850:=()
def tw10391328253799487971:=()
def tw2186334476014019832:=()
def tw4319880575369001336:=()
def tw10839122466022752318:=()
def tw10573150826230509709:=()
def tw4906519896091537185:=()
def tw9473683786077185660:=()
def tw3235910605057476102:=()
def tw9640395679461600047:=()
def tw9406787159498344602:=()
def tw2956188681874349038:=()
def tw1707086287062420134:=()
def tw2883475571750298779:=()
def tw15329071013636609067:=()
def tw4002575805160586254:=()
def tw8273612597370472029:=()
def tw12270603838988249724:=()
def tw9994728785130561355:=()
def tw13277282834662810607:=()
def tw12526346956590725944:=()
def tw12469187475341890373:=()
def tw590818730071360107:=()
def tw15410748910319846322:=()
def tw14053353941834023423:=()
def tw13152926325071494183:=()
def tw9910363533698965723:=()
def tw6589770866752239501:=()
def tw3909165284937824571:=()
def tw3072073507545657907:=()
def tw7634275435510837505:=()
def tw8197265728122883465:=()
def tw13654126652087489768:=()
def tw17963418288058210344:=()
def tw278154576344940577:=()
def tw4694988667479088222:=()
def tw10848415812445715864:=()
def tw2560074994551994442:=()
def tw2231321976048042726:=()
def tw2008769712548392444:=()
def tw5702453314692478406:=()
def tw291128682021744335:=()
def tw11180756851876053661:=()
def tw13665329012274692953:=()
def tw12519880002868630245:=()
def tw10501507989890292882:=()
def tw5378031090244084924:=()
def tw4263180706468004353:=()
def tw11900149035226272447:=()
def tw8804117785944473168:=()
def tw3065590958770240265:=()
def tw1313441388465746846:=()
def tw2690721909596946086:=()
def tw5937590875753889014:=()
def tw5607022631057465480:=()
def tw5616220314274630473:=()
def tw15683498816592373682:=()
def tw10246170679077324123:=()
def tw9081033391551567035:=()
def tw3144814287253871568:=()
def tw11510240321725380789:=()
def tw9122893291976299496:=()
def tw2833434898903892946:=()
def tw2444533644857437047:=()
def tw4797630806366116408:=()
def tw15746467962334059143:=()
def tw5596954070065249766:=()
def tw13897483487422453988:=()
def tw3402718468567709712:=()
def tw16684471135059935522:=()
def tw14949601689655613762:=()
def tw14635209468219236487:=()
def tw12401634195023543412:=()
def tw8389810397742213906:=()
def tw8508227760973040111:=()
def tw3316394368318155952:=()
def tw16012366507712978084:=()
def tw14665670113582273513:=()
def tw12722999626603744749:=()
def tw13358871407420004084:=()
def tw6867902089780069789:=()
def tw9213572939911967150:=()
def tw18368111412884565346:=()
def tw9491605042653299194:=()
def tw12252279964848260959:=()
def tw16663388910815837077:=()
def tw17014107099664097399:=()
def tw4378529375970195809:=()
def tw6776747735293554205:=()
def tw14795917669381071288:=()
def tw17896005409186310326:=()
def tw4409951922222382817:=()
def tw2331472297072180792:=()
def tw6050737487817319230:=()
def tw17384362713927841316:=()
def tw13028868927889139275:=()
def tw16786708475007875256:=()
def tw3225919809062650638:=()
def tw53159349242240345:=()
def tw9981222243506164615:=()
def tw6968232616326007439:=()
def tw5465887095799877613:=()
def tw3619776451979532571:=()
def tw14426881050378456591:=()
def tw15290478492958668446:=()
def tw3163242445217116595:=()
def tw11191897594167770414:=()
def tw710884316595098737:=()
def tw3688627805930636375:=()
def tw9022241153880839455:=()
def tw15347829030621515643:=()
def tw1884851977579235786:=()
def tw15634606601197537976:=()
def tw4980125857794859351:=()
def tw3736825494253330803:=()
def tw15578998688190789486:=()
def tw6926427109431480620:=()
def tw6815023286475116734:=()
def tw4737982765779249746:=()
def tw12896333829352845392:=()
def tw8342867816423804422:=()
def tw17832709920946351820:=()
def tw15537300701979617644:=()
def tw7464029605908275860:=()
def tw7070777148536060882:=()
def tw269095630159709431:=()
def tw9331640771124883615:=()
def tw13923854557366965085:=()
def tw13154615734941409597:=()
def tw8741889789980711831:=()
def tw12398732228282403733:=()
def tw18282538179594950458:=()
def tw18418826472499570158:=()
def tw17643563703778246656:=()
def tw15444001984209889793:=()
def tw500483744343441650:=()
def tw5783509643289680392:=()
def tw3856333893283950187:=()
def tw93817229644853677:=()
def tw13482654429849245471:=()
def tw355433930254230823:=()
def tw14844778813043201979:=()
def tw16044717590139043661:=()
def tw5576668854280003314:=()
def tw11953689545145886190:=()
def tw1276179723139599557:=()
def tw14656703300755096639:=()
def tw13504565729553357724:=()
def tw561816154751369062:=()
def tw4730854634900652545:=()
def tw5147229025116372903:=()
def tw3891738141621891270:=()
def tw16222918993611130713:=()
def tw2314755525401900919:=()
def tw14827392878177486931:=()
def tw18107240811867019102:=()
def tw4421912765834113297:=()
def tw16389582484329030741:=()
def tw7171261389407653546:=()
def tw6366298320868906958:=()
def tw17824915297206786679:=()
def tw5609597250033689967:=()
def tw8300004448500212392:=()
def tw5889321041409534923:=()
def tw4032780905550211069:=()
def tw8020575323241960056:=()
def tw11839832601804985614:=()
end PySem.W.Fast
open PySem PySem.W PyProof.Rows
set_option maxRecDepth 100000 in
set_option maxHeartbeats 0 in
theorem PySem.Challenge.cw_creelway_k58_rows_refused_at_every_door_holds : PySem.Challenge.rw_creelway_k58_rows_refused_at_every_door.Holds := by
 w_on;o_law;k_head;(case hw=>w_witness2)
 k_fill
 refine CW.walk (l:=PySem.Challenge.rw_creelway_k58_rows_refused_at_every_door) rfl rfl (fun w h Y=>PySem.W.km_in_of Y) (fun w h Y=>PySem.W.km_tabs_of Y) ?F
 case F =>
  intro w mg fa h KX G hmg;refine' CW.all_mk (List.Mem.tail _ (List.Mem.head _)) (List.Mem.head _) (by decide) KX G hmg ?ac_BadRow ?ac_BadTrains ?ac_BadSizes ?ac_TooMany ?ac_BadCreel ?ac_BadNumber ?ac_TooNear ?ac_Bare ?ac_CreelError ?ai_CreelError ?li_CreelError ?co_CreelError ?ke_CreelError ?lt_CreelError ?ai_TooMany ?li_TooMany ?co_TooMany ?ke_TooMany ?lt_TooMany ?fi_TooMany ?xi_TooMany ?xw_TooMany ?ai_BadRow ?li_BadRow ?co_BadRow ?ke_BadRow ?fi_BadRow ?xi_BadRow ?xw_BadRow ?xa_BadRow ?ai_BadCreel ?li_BadCreel ?co_BadCreel ?ke_BadCreel ?lt_BadCreel ?fi_BadCreel ?xi_BadCreel ?xw_BadCreel ?oga ?ore ?ofi ?met ?g1 ?g2 ?g3 ?ex1 ?ex4 ?z_VE ?h0 ?h1 ?h2 ?h3 ?h4 ?h5 ?h6 ?h7 ?h8 ?h9 ?h10 ?h11 ?h12 ?h13 ?h14 ?h15 ?h16 ?h17 ?h18 ?h19 ?h20 ?h21 ?h22 ?h23 ?h24 ?h25 ?h26 ?h27 ?h28 ?h29 ?h30 ?h31 ?h32 ?h33 ?h34 ?h35 ?h36 ?z_len ?z_range ?z_list ?z_tuple ?z_bool ?z_str ?z_int ?z_isinstance ?z_all ?z_sorted ?z_max ?z_min ?z_set ?z_reversed ?z_sum ?z_enumerate ?z_zip ?z_any ?z_abs ?y_MOST_STONES ?hcp ?hlp ?hcp2 ?hlp2
  (case ac_BadRow=>k_is)
  (case ac_BadTrains=>k_is)
  (case ac_BadSizes=>k_is)
  (case ac_TooMany=>k_is)
  (case ac_BadCreel=>k_is)
  (case ac_BadNumber=>k_is)
  (case ac_TooNear=>k_is)
  (case ac_Bare=>k_is)
  (case ac_CreelError=>k_is)
  (case ai_CreelError=>k_is)
  (case li_CreelError=>k_is)
  (case co_CreelError=>k_is)
  (case ke_CreelError=>k_is)
  (case lt_CreelError=>k_is)
  (case ai_TooMany=>k_is)
  (case li_TooMany=>k_is)
  (case co_TooMany=>k_is)
  (case ke_TooMany=>k_is)
  (case lt_TooMany=>k_is)
  (case fi_TooMany=>k_is)
  (case xi_TooMany=>kernel_rfl)
  (case xw_TooMany=>kernel_rfl)
  (case ai_BadRow=>k_is)
  (case li_BadRow=>k_is)
  (case co_BadRow=>k_is)
  (case ke_BadRow=>k_is)
  (case fi_BadRow=>k_is)
  (case xi_BadRow=>kernel_rfl)
  (case xw_BadRow=>kernel_rfl)
  (case xa_BadRow=>kernel_rfl)
  (case ai_BadCreel=>k_is)
  (case li_BadCreel=>k_is)
  (case co_BadCreel=>k_is)
  (case ke_BadCreel=>k_is)
  (case lt_BadCreel=>k_is)
  (case fi_BadCreel=>k_is)
  (case xi_BadCreel=>kernel_rfl)
  (case xw_BadCreel=>kernel_rfl)
  (case oga=>k_is)
  (case ore=>k_is)
  (case ofi=>k_is)
  (case met=>kernel_rfl)
  (case g1=>kernel_rfl)
  (case g2=>kernel_rfl)
  (case g3=>kernel_rfl)
  (case ex1=>kernel_rfl)
  (case ex4=>kernel_rfl)
  (case z_VE=>k_is)
  (case h0=>exact L2.defIn (by k_is) (by k_is) (by k_is) (by k_is))
  (case h1=>exact L2.defIn (by k_is) (by k_is) (by k_is) (by k_is))
  (case h2=>exact L2.defIn (by k_is) (by k_is) (by k_is) (by k_is))
  (case h3=>exact L2.defIn (by k_is) (by k_is) (by k_is) (by k_is))
  (case h4=>exact L2.defIn (by k_is) (by k_is) (by k_is) (by k_is))
  (case h5=>exact L2.defIn (by k_is) (by k_is) (by k_is) (by k_is))
  (case h6=>exact L2.defIn (by k_is) (by k_is) (by k_is) (by k_is))
  (case h7=>exact L2.defIn (by k_is) (by k_is) (by k_is) (by k_is))
  (case h8=>exact L2.defIn (by k_is) (by k_is) (by k_is) (by k_is))
  (case h9=>exact L2.defIn (by k_is) (by k_is) (by k_is) (by k_is))
  (case h10=>exact L2.defIn (by k_is) (by k_is) (by k_is) (by k_is))
  (case h11=>exact L2.defIn (by k_is) (by k_is) (by k_is) (by k_is))
  (case h12=>exact L2.defIn (by k_is) (by k_is) (by k_is) (by k_is))
  (case h13=>exact L2.defIn (by k_is) (by k_is) (by k_is) (by k_is))
  (case h14=>exact L2.defIn (by k_is) (by k_is) (by k_is) (by k_is))
  (case h15=>exact L2.defIn (by k_is) (by k_is) (by k_is) (by k_is))
  (case h16=>exact L2.defIn (by k_is) (by k_is) (by k_is) (by k_is))
  (case h17=>exact L2.defIn (by k_is) (by k_is) (by k_is) (by k_is))
  (case h18=>exact L2.defIn (by k_is) (by k_is) (by k_is) (by k_is))
  (case h19=>exact L2.defIn (by k_is) (by k_is) (by k_is) (by k_is))
  (case h20=>exact L2.defIn (by k_is) (by k_is) (by k_is) (by k_is))
  (case h21=>exact L2.defIn (by k_is) (by k_is) (by k_is) (by k_is))
  (case h22=>exact L2.defIn (by k_is) (by k_is) (by k_is) (by k_is))
  (case h23=>exact L2.defIn (by k_is) (by k_is) (by k_is) (by k_is))
  (case h24=>exact L2.defIn (by k_is) (by k_is) (by k_is) (by k_is))
  (case h25=>exact L2.defIn (by k_is) (by k_is) (by k_is) (by k_is))
  (case h26=>exact L2.defIn (by k_is) (by k_is) (by k_is) (by k_is))
  (case h27=>exact L2.defIn (by k_is) (by k_is) (by k_is) (by k_is))
  (case h28=>exact L2.defIn (by k_is) (by k_is) (by k_is) (by k_is))
  (case h29=>exact L2.defC (by k_is) (by k_is) (by k_is) (by k_is))
  (case h30=>exact L2.defIn (by k_is) (by k_is) (by k_is) (by k_is))
  (case h31=>exact L2.defIn (by k_is) (by k_is) (by k_is) (by k_is))
  (case h32=>exact L2.defIn (by k_is) (by k_is) (by k_is) (by k_is))
  (case h33=>exact L2.defIn (by k_is) (by k_is) (by k_is) (by k_is))
  (case h34=>exact L2.defIn (by k_is) (by k_is) (by k_is) (by k_is))
  (case h35=>exact L2.defIn (by k_is) (by k_is) (by k_is) (by k_is))
  (case h36=>exact L2.defC (by k_is) (by k_is) (by k_is) (by k_is))
  (case z_len=>k_is)
  (case z_range=>k_is)
  (case z_list=>k_is)
  (case z_tuple=>k_is)
  (case z_bool=>k_is)
  (case z_str=>k_is)
  (case z_int=>k_is)
  (case z_isinstance=>k_is)
  (case z_all=>k_is)
  (case z_sorted=>k_is)
  (case z_max=>k_is)
  (case z_min=>k_is)
  (case z_set=>k_is)
  (case z_reversed=>k_is)
  (case z_sum=>k_is)
  (case z_enumerate=>k_is)
  (case z_zip=>k_is)
  (case z_any=>k_is)
  (case z_abs=>k_is)
  (case y_MOST_STONES=>k_is)
  (case hcp=>kernel_rfl)
  (case hlp=>kernel_rfl)
  (case hcp2=>kernel_rfl)
  (case hlp2=>kernel_rfl)
