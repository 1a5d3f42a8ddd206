import PyProof.Rows.All
import Wide.All
import OpenK.AllK
import Wide.FinOn
import Lean
import PyProof.EqAt
import PyProof.EqKinds
import PyProof.TupleCall
import PySem.Challenge.RW_creelway_k55_refusals_apart
set_option Elab.async false
set_option linter.all false
set_option maxRecDepth 100000
set_option maxHeartbeats 4000000
section
open PySem PySem.Spec PyProof.Rows
def ah:=@Nat.le_refl
def dt:=@if_neg
def eH:=@if_pos
def ew:=@PySem.wpAny_mono
def fy:=@PySem.wpAny_holding
def g0:=@Nat.le_trans
def ge:=@PySem.W.mg_none_of
def gf:=@Bool.and_eq_true
def gh:=@PySem.F.plain_max_loop
def gi:=@Ne.symm
def gj:=@PySem.boot_len
def gk:=@PySem.wpAny_loadPart_at
def gm:=@List.length_singleton
def gq:=@List.lookup_cons
def gr:=@Nat.zero_le
def gu:=@Option.some.inj
def gv:=@List.append_nil
def gw:=@PySem.wpAny_standAt
def gz:=@List.contains_cons
def ia:=@PySem.PassesOwn.never
def ib:=@PySem.wpAny_Call_Name_kw
def ic:=@List.getD_eq_getElem?_getD
def ie:=@Nat.lt_irrefl
def ig:=@Array.length_toList
def ii:=@List.map_congr_left
def ij:=@List.pairwise_singleton
def ik:=@PySem.W.mg_of
def il:=@Nat.lt_succ_self
def im:=@PySem.Heap.size_push
def io:=@PySem.Calls.callWith_builtin
def ip:=@PySem.mem_of_lookup
def iq:=@PySem.Calls.spliced_cons
def ir:=@Bool.false_eq_true
def iu:=@PySem.F.entry_max_loop
def iw:=@Bool.eq_iff_iff
def iy:=@PyProof.Rows.callWith_type1
def iz:=@PySem.W.callWith_K
def ja:=@PySem.Around.frames_deeper
def jb:=@PySem.Calls.evalArgs_plain
def jc:=@List.take_of_length_le
def jd:=@PySem.wpAny_truthy_bool
def je:=@PyProof.Rows.slot_tuple_getitem
def jf:=@PySem.wpAny_newObj_type
def jg:=@Nat.lt_succ_of_lt
def jh:=@List.append_assoc
def ji:=@Nat.le_of_lt
def jj:=@List.find?_cons
def jk:=@PySem.wpAny_field
def jl:=@List.getElem?_set_ne
def jm:=@PySem.W.looks_findIn
def jo:=@PySem.F.plainAttrs_dict
def jp:=@PySem.codeAny_mono
def jq:=@PySem.wpAny_tryCatch
def jr:=@PySem.codeAny_builtin
def jt:=@PySem.wpAny_isSubtype_exc
def ju:=@PySem.wpAny_pyNext_list_item
def jv:=@PySem.Calls.Name_function_global
def jw:=@PySem.F.excBase_ValueError
def jx:=@PySem.wpAny_call
def jy:=@List.length_drop
def jz:=@PySem.W.methodCall_KW
def ka:=@PySem.sizeLine_eq
def kc:=@List.mem_of_find?_eq_some
def kd:=@PySem.W.hideAll_none
def ke:=@PySem.codeAny_call_builtin
def kf:=@PySem.wpAny_passesOwn
def kh:=@PySem.plainObj_wpAny_Assign_Attribute
def ki:=@PySem.Calls.spliced_nil
def kj:=@List.nil_append
def km:=@PySem.wpAny_comprehension_free
def kn:=@PyProof.Rows.KeyOrd.kle_refl
def ko:=@List.length_range
def kr:=@PySem.W.looks_clsIn
def kt:=@PySem.wpAny_Call_method0_late
def ku:=@PySem.plainId_quiet
def kx:=@PySem.Heap.get?_update_ne
def kz:=@PySem.F.slot_dict_items
def la:=@PySem.wpAny_seqItems
def lb:=@PySem.W.cellsFrom_some
def lg:=@PySem.W.of_hideAll
def lh:=@PySem.tupleKind_room_in1
def lj:=@List.dropLast_concat_getLast
def ll:=@Int.emod_lt_of_pos
def lm:=@PySem.wpAny_execs_nil
def ln:=@PySem.wpAny_pyNext_list_end
def lq:=@Nat.le_succ
def lr:=@List.map_nil
def ls:=@PySem.wpAny_updateSeq
def lu:=@Array.Perm.refl
def lv:=@Bool.or_true
def lw:=@PySem.Paired.length
def ly:=@PySem.wpAny_pyIter_list
def lz:=@List.getElem?_append_right
def ma:=@PySem.wpAny_newFunctionEnv_cells
def md:=@PySem.Heap.get?_none_of_le
def mf:=@List.drop_eq_getElem_cons
def mh:=@PySem.wpAny_execs_cons
def mi:=@if_false
def mj:=@PyProof.Rows.KeyOrd.kle_trans
def ml:=@PySem.W.hideAll_get
def mn:=@List.filterMap_cons
def mq:=@PySem.evalArgs_none
def mr:=@PySem.wpAny_letGo
def mu:=@PySem.F.args_tuple_add_2
def mv:=@PySem.call_meetsIn
def mw:=@PySem.Calls.loadGlobal_global
def mx:=@List.of_mem_zip
def my:=@PySem.F.entry_tuple_add
def mz:=@List.any_cons
def nc:=@PySem.W.KasT.kasWp_bind
def ng:=@Int.emod_nonneg
def ni:=@List.getElem?_set_self
def nj:=@PySem.F.slot_tuple_add
def nk:=@PyProof.Rows.KeyOrd.kle_of_klt
def nn:=@decide_eq_true_eq
def nr:=@Int.le_refl
def nu:=@List.nodup_append
def nv:=@List.drop_zero
def ny:=@PySem.codeAny_call_function
def oa:=@Array.getElem?_toList
def og:=@PySem.F.slot_dict_get
def oh:=@Classical.choose_spec
def oj:=@PySem.wpAny_call_entry
def om:=@List.all_eq_true
def oo:=@List.filter_cons
def oq:=@List.perm_middle
def ot:=@PySem.wpAny_loadName_local
def ou:=@PySem.wpAny_newFunctionEnv
def ow:=@PySem.W.handedOut_of
def oy:=@PySem.wpAny_newList
def oz:=@PySem.F.slot_dict_setdefault
def ph:=@PySem.wpAny_rule
def pk:=@PySem.wpAny_loadName_cell
def pp:=@PySem.W.plainGet_of
def pq:=@Array.getD_eq_getD_getElem?
def pw:=@Option.map_some
def px:=@PySem.wpAny_loadPart'
def py:=@ne_true_of_eq_false
def pz:=@PySem.F.attrBase_ValueError
def qa:=@PySem.W.codeRec_of
def qb:=@Nat.lt_of_le_of_lt
def qc:=@PySem.F.args_str_split_2
def qd:=@PySem.wpAny_keeperOf_exc
def qe:=@PySem.W.looks_hook
def qf:=@PySem.wpAny_loadPart
def qg:=@List.getElem?_append_left
def qh:=@if_true
def qi:=@PySem.Calls.call_function_entry
def qj:=@PySem.F.slot_dict_delitem
def qk:=@PySem.F.args_dict_items_1
def qm:=@PySem.wpAny_setField
def qo:=@PySem.wpAny_Name
def qp:=@PySem.W.set_plain
def qq:=@bne_self_eq_false
def qr:=@Option.isSome_map
def qt:=@PySem.F.entry_dict_items
def qu:=@PySem.F.slot_dict_values
def qv:=@PySem.F.entry_str_split
def qw:=@PySem.wpAny_Call_ofName
def qx:=@PySem.F.store_ValueError
def qy:=@beq_iff_eq
def qz:=@List.getElem?_replicate
def r6:=@PySem.wpAny_callSpecial?_slot
def r8:=@PySem.wpAny_list_append_plain
def ra:=@PySem.F.args_dict_get_3
def rb:=@PySem.F.type_dict_items
def rc:=@PySem.wpAny_eqBool_int
def rf:=@PySem.wpAny_lookBehind
def rg:=@PySem.pastItsLine_dict
def rh:=@PySem.noFill_tuple_add
def ri:=@beq_self_eq_true
def rj:=@PySem.F.slot_str_split
def rk:=@PySem.W.Looks.ld
def rm:=@PySem.codeAny_compStart_list
def rn:=@PySem.F.entry_dict_get
def ro:=@PySem.W.funFrames_hide
def rp:=@PySem.wpAny_noteFrame_againW
def rq:=@PyProof.Rows.boot_dict
def se:=@PySem.wpAny_isTrue_Compare1
def sf:=@PySem.wpAny_typeOf
def sh:=@Nat.sub_zero
def sj:=@Nat.min_eq_left
def sk:=@List.length_nil
def so:=@PySem.wpAny_specialOf
def sr:=@Nat.zero_add
def ss:=@List.find?_some
def su:=@List.perm_append_comm
def sv:=@List.lookup_cons_self
def sw:=@PySem.codeAny_handlers_test
def sx:=@PySem.F.entry_bexc_ga
def sy:=@PySem.W.Looks.of_pure
def tj:=@List.range_succ
def tm:=@PySem.typeIs_str
def tq:=@PySem.call_meets
def tu:=@List.length_dropLast
def tw:=@List.mem_of_mem_take
def tz:=@PySem.F.args_bexc_ga
def ua:=@Bool.false_and
def ub:=@Bool.and_false
def uc:=@Sum.inr.inj
def ue:=@Int.mul_one
def uf:=@PySem.W.findObj_own
def ug:=@PySem.W.callWith_K0
def uh:=@Int.mul_add
def ui:=@PySem.wpAt_of_wpAny
def uj:=@PySem.W.looks_mroIn
def uk:=@PySem.W.looks_subIn
def ul:=@List.reverse_append
def um:=@PySem.seq_tuple_add
def uo:=@PySem.eval_ListComp
def uq:=@PySem.wpAny_attempt
def ur:=@PySem.wpAny_nsSet1
def ut:=@PySem.codeAny_func
def uu:=@PySem.concat_meets
def uv:=@PySem.codeAny_loop
def uw:=@Nat.lt_trans
def ux:=@PySem.wpAny_landsW
def uy:=@Int.zero_add
def uz:=@Sum.inl.inj
def aGT:=@wpAny_bind
def aGU:=@wpAny_pure
def aGV:=@List.length_map
def aGW:=@Heap.get?_push_of_some
def aGX:=@List.mem_cons_self
def aGY:=@List.mem_cons_of_mem
def aGZ:=@List.mem_append_right
def aG0:=@Heap.get?_update_other
def aG1:=@Heap.lt_size
def aG2:=@Heap.get?_push_size
def aG3:=@List.size_toArray
def aG4:=@List.length_append
def aG5:=@List.getElem?_eq_getElem
def aG6:=@List.mem_of_getElem?
def aG7:=@Around.under_plainId
def aG8:=@Bool.false_ne_true
def aG9:=@List.take_length
def aGa:=@List.map_append
def aGb:=@List.length_take
def aGc:=@Nat.lt_of_lt_of_le
def aGd:=@Heap.get?_update_self
def aGe:=@List.mem_append_left
def aGf:=@List.length_replicate
def aGg:=@decide_eq_false
def aGh:=@decide_eq_true
def aGi:=@Nat.ne_of_lt
def aGj:=@List.getElem?_map
def aGk:=@List.map_cons
def aGl:=@Nat.ne_of_gt
def aGm:=@List.foldl_cons
def aGn:=@List.sum_cons
def aGo:=@List.length_cons
def aGp:=@List.map_map
def aGq:=@List.take_succ
def aGr:=@List.mem_singleton
def aGs:=@PySem.F.plainAttrs_list
def aGt:=@PySem.F.slot_list_append
def aGu:=@PySem.F.type_list_append
def aGv:=@Option.map_eq_some_iff
def aGw:=@List.getElem?_eq_some_iff
def aGx:=@List.mem_cons
def aGy:=@List.mem_append
def aGz:=@List.mem_map
def aHA:=@List.mem_filter
end
namespace L2
open PySem PySem.Spec PyProof.Rows
abbrev Key:=Sum Int Str
def rY:Key->Value->Bool
 | .inl k,v=>Value.isInt k v
 | .inr x,v=>Value.isStrOf x v
def aFk (w:World):Key->Int
 | .inl k=>hashInt k
 | .inr x=>hashStr w x
def cJ:∀ {k:Key} {v:Value},rY k v=true->(∃ i t,k=Sum.inl i/\v=Value.int i t)\/(∃ x t,k=Sum.inr x/\v=Value.str x t)
 | .inl i,v,h=>by
  obtain⟨t,e⟩:=Value.isInt_shape (k:=i) (v:=v) h;exact .inl ⟨i,t,rfl,e⟩
 | .inr x,v,h=>by
  obtain⟨t,e⟩:=Value.isStrOf_shape (x:=x) (v:=v) h;exact .inr ⟨x,t,rfl,e⟩
def o6 (i:Int) (t:Tok):rY (.inl i) (.int i t)=true:=by simp[rY,Value.isInt]
def o7 (x:Str) (t:Tok):rY (.inr x) (.str x t)=true:=by simp[rY,Value.isStrOf]
def aDm (a b:Int):decide ((Sum.inl a:Key)=Sum.inl b)=(a == b):=by
 by_cases e:a=b
 .subst e;simp
 .have h:¬ (Sum.inl a:Key)=Sum.inl b:=λq=>e (uz q);rw[aGg h];exact(beq_eq_false_iff_ne.mpr e).symm
def aDn (a b:Str):decide ((Sum.inr a:Key)=Sum.inr b)=decide (a=b):=by
 by_cases e:a=b
 .subst e;simp
 .have h:¬ (Sum.inr a:Key)=Sum.inr b:=λq=>e (uc q);rw[aGg h,aGg e]
def aDo (a:Int) (b:Str):decide ((Sum.inl a:Key)=Sum.inr b)=false:=aGg (λq=>nomatch q)
def aDp (a:Str) (b:Int):decide ((Sum.inr a:Key)=Sum.inl b)=false:=aGg (λq=>nomatch q)
def bF (prog:Program) (w:World):PySem.KeyKind prog w Key where
 is:=rY
 hash:=aFk w
 inj:=λv a b ha hb=>by
  rcases cJ ha with ⟨i,t,rfl,rfl⟩ | ⟨x,t,rfl,rfl⟩
  .rcases cJ hb with ⟨j,u,rfl,e⟩ | ⟨y,u,rfl,e⟩
   .injection e with e1 _;rw[e1]
   .exact nomatch e
  .rcases cJ hb with ⟨j,u,rfl,e⟩ | ⟨y,u,rfl,e⟩
   .exact nomatch e
   .injection e with e1 _;rw[e1]
 byValue:=λk v h=>by
  rcases cJ h with ⟨i,t,rfl,rfl⟩ | ⟨x,t,rfl,rfl⟩ <;> rfl
 pyHash:=λhv h=>by
  rcases cJ hv with ⟨i,t,rfl,rfl⟩ | ⟨x,t,rfl,rfl⟩
  .exact wpAny_pyHash_int h
  .exact wpAny_pyHash_str h
 eqBool:=λhu hv h=>by
  rcases cJ hu with ⟨i,t,rfl,rfl⟩ | ⟨x,t,rfl,rfl⟩
  .rcases cJ hv with ⟨j,u,rfl,rfl⟩ | ⟨y,u,rfl,rfl⟩
   .rw[aDm]at h;exact rc h
   .rw[aDo]at h;exact SeqAt.EqAt.int_str i t y u _ _ _ _ h
  .rcases cJ hv with ⟨j,u,rfl,rfl⟩ | ⟨y,u,rfl,rfl⟩
   .rw[aDp]at h;exact SeqAt.EqAt.str_int x t j u _ _ _ _ h
   .rw[aDn]at h;exact wpAny_eqBool_str h
 «strs»:=λk x t v h=>by
  rcases cJ h with ⟨i,u,rfl,e⟩ | ⟨y,u,rfl,e⟩
  .exact nomatch e
  .injection e with e1 _
   subst e1;cases v <;> rfl
def uD (prog:Program) (w:World) (k:Key) (v:Value):(bF prog w).is k v=rY k v:=rfl
def G2 (prog:Program) (w:World) (i:Int) (t:Tok):(bF prog w).is (.inl i) (.int i t)=true:=o6 i t
def G3 (prog:Program) (w:World) (x:Str) (t:Tok):(bF prog w).is (.inr x) (.str x t)=true:=o7 x t
inductive V where
 | non | bl (b:Bool) | int (i:Int) | str (x:Str) | byt (b:Array UInt8) | flt (b:UInt64) | ref (a:Addr) | ty (n:String)
 deriving DecidableEq
def RelV:V->Value->Prop
 | .non,u=>u=Value.none
 | .bl b,u=>u=Value.bool b
 | .int i,u=>∃ t,u=Value.int i t
 | .str x,u=>∃ t,u=Value.str x t
 | .byt b,u=>∃ t,u=Value.bytes b t
 | .flt b,u=>∃ t,u=Value.float b t
 | .ref a,u=>u=Value.ref a
 | .ty n,u=>u=Value.type n
abbrev Vals:List V->List Value->Prop:=Paired RelV
def Vals.length {xs:List V} {us:List Value} (r:Vals xs us):xs.length=us.length:=lw r
def Vals.get:∀ {xs:List V} {us:List Value} {i:Nat} {x:V},Vals xs us->xs[i]?=some x->∃ u,us[i]?=some u/\RelV x u
 | _,_,_,_,.nil,e=>by simp at e
 | _,_,0,_,.cons r _,e=>by simp at e;subst e;exact⟨_,rfl,r⟩
 | _,_,i+1,x,.cons _ t,e=>by
  obtain⟨u,h1,h2⟩:=Vals.get (i:=i) (x:=x) t (by simpa using e);exact⟨u,by simpa using h1,h2⟩
def Vals.append:∀ {xs ys:List V} {us ws:List Value},Vals xs us->Vals ys ws->Vals (xs++ys) (us++ws)
 | _,_,_,_,.nil,s=>s
 | _,_,_,_,.cons r t,s=>.cons r (Vals.append t s)
def Vals.take:∀ {xs:List V} {us:List Value} (n:Nat),Vals xs us->Vals (xs.take n) (us.take n)
 | _,_,0,_=>.nil
 | _,_,_+1,.nil=>.nil
 | _,_,n+1,.cons r t=>.cons r (Vals.take n t)
def Vals.drop:∀ {xs:List V} {us:List Value} (n:Nat),Vals xs us->Vals (xs.drop n) (us.drop n)
 | _,_,0,r=>r
 | _,_,_+1,.nil=>.nil
 | _,_,n+1,.cons _ t=>Vals.drop n t
def RelO:Option V->Option Value->Prop
 | some v,some u=>RelV v u
 | none,none=>True
 | _,_=>False
def KV {κ:Type}:List (κ×V)->List (κ×Value)->Prop:=Paired λ(p:κ×V) (q:κ×Value)=>p.1=q.1/\RelV p.2 q.2
def kV:Key->V
 | .inl i=>.int i
 | .inr x=>.str x
inductive HO where
 | lst (xs:List V)
 | tup (xs:List V)
 | dK (kvs:List (Key×V)) | dT (kvs:List (List Key×V))
 | set (S:Int->Bool) (n:Nat)
 | ins (C dx:Addr) (fs:List (Str×V))
 | own (x:Addr)
 | xd (fs:List (Str×V))
 | met (f x:Addr)
 | rng (lo hi:Int)
 | frz (o:Obj) (u:HO)
 | tbl (ps:Array Value)
 | ext (φ:Heap->Prop)
abbrev Hp:=Addr->Option HO
def upd (H:Hp) (a:Addr) (o:HO):Hp:=λb=>if b=a then some o else H b
def aE {H:Hp} {a:Addr} {o:HO}:upd H a o a=some o:=by unfold upd;rw[eH rfl]
def aF {H:Hp} {a b:Addr} {o:HO} (h:b≠a):upd H a o b=H b:=by unfold upd;rw[dt h]
def iK {H:Hp} {a:Addr} {o u:HO}:upd (upd H a o) a u=upd H a u:=by
 funext b;unfold upd;split <;> rfl
def cI {H:Hp} {a b:Addr} {o u:HO} (h:H a=some o) (h':H b=some u) (d:o≠u):a≠b:=by
 intro e;subst e;rw[h]at h';exact d (gu h')
def aP {H:Hp} {a b:Addr} {o:HO} (h:H a=some o) (h':H b=none):a≠b:=by
 intro e;subst e;rw[h]at h';cases h'
section
variable (P:Program) (w:World)
def ObjOk (H:Hp) (h:Heap) (a:Addr):HO->Prop
 | .lst xs=>xs.length<=sizeLine/\∃ (its:List Value) (n:Nat),Vals xs its/\h.get? a=some { cls:=.type "list",data:=.seq its.toArray n }
 | .tup xs=>xs.length<=sizeLine/\∃ its:List Value,Vals xs its/\IsTup h a its.toArray
 | .dK kvs=>kvs.length<=sizeLine/\(a == sysModules)=false/\∃ vs,KV kvs vs/\h.DictOf (bF P w) a vs
 | .dT kvs=>kvs.length<=sizeLine/\(a == sysModules)=false/\∃ xs:List (List Key×Addr×Value),
  Paired (λ(p:List Key×V) (q:List Key×Addr×Value)=>p.1=q.1/\H q.2.1=some (.tup (p.1.map kV))/\RelV p.2 q.2.2) kvs xs /\
  ∃ o es ep,h.get? a=some o/\o.ExactDict/\o.data=.dict es ep/\es.toList=xs.map (entryOfKey (tupleKind (bF P w)))/\(xs.map (·.1)).Nodup
 | .set S n=>h.SetOf (intKind P w) a S n
 | .ins C dx fs=>H dx=some (.own a)/\fs.length<=1000/\dx≠a/\h.get? a=some (PySem.W.instObj C dx) /\
  ∃ mA,h.Ns1 dx mA/\(∀ f,RelO (fs.lookup f) (mA f))/\PySem.Within mA (fs.map (·.1))
 | .own _=>∃ o,h.get? a=some o
 | .xd fs=>∃ mA,h.Ns1 a mA/\∀ f,RelO (fs.lookup f) (mA f)
 | .rng lo hi=>∃ t u v,h.get? a=some { cls:=.type "range",data:=.fields #[.int lo t,.int hi u,.int 1 v] }
 | .frz o u=>h.get? a=some o/\ObjOk H h a u
 | .tbl ps=>h.get? a=some { cls:=.none,data:=.fields ps }
 | .met f x=>h.get? a=some (PySem.W.methodObj (.ref f) (.ref x))
 | .ext φ=>φ h/\(∃ o,h.get? a=some o)/\∀ h1 h2:Heap,φ h1->(∀ o,h1.get? a=some o->h2.get? a=some o)->φ h2
def HOk (H:Hp) (h:Heap):Prop:=∀ a o,H a=some o->ObjOk P w H h a o
end
section
variable {P:Program} {w:World} {H H':Hp} {h h':Heap} {a:Addr} {o:HO}
def ObjOk.lt (x:ObjOk P w H h a o):a<h.objs.size:=by
 cases o with
 | lst xs=>obtain⟨_,_,_,_,e⟩:=x;exact aG1 e
 | tup xs=>obtain⟨_,_,_,p⟩:=x;exact p.lt
 | dK kvs=>obtain⟨_,_,_,_,o,_,_,e,_⟩:=x;exact aG1 e
 | dT kvs=>obtain⟨_,_,_,_,o,_,_,e,_⟩:=x;exact aG1 e
 | set S n=>obtain⟨o,_,_,_,e,_⟩:=x;exact aG1 e
 | ins C dx fs=>obtain⟨_,_,_,e,_⟩:=x;exact aG1 e
 | own y=>obtain⟨_,e⟩:=x;exact aG1 e
 | xd fs=>obtain⟨_,⟨_,_,_,e,_⟩,_⟩:=x;exact aG1 e
 | rng lo hi=>obtain⟨_,_,_,e⟩:=x;exact aG1 e
 | frz z u=>obtain⟨e,_⟩:=x;exact aG1 e
 | tbl ps=>exact aG1 (show h.get? a=some _ from x)
 | met f y=>exact aG1 (show h.get? a=some _ from x)
 | ext φ=>obtain⟨_,⟨_,e⟩,_⟩:=x;exact aG1 e
def Paired.mapP {z J:Type} {F G:z->J->Prop}:∀ {l₁:List z} {l₂:List J},Paired F l₁ l₂->(∀ a b,F a b->G a b)->Paired G l₁ l₂
 | _,_,.nil,_=>.nil
 | _,_,.cons r t,f=>.cons (f _ _ r) (Paired.mapP t f)
def ObjOk.stay (x:ObjOk P w H h a o) (k:∀ b u,(b=a\/H b=some (.own a))->h.get? b=some u->h'.get? b=some u)
 (L:∀ b,H b=some (.own a)->H' b=some (.own a)) (ht:∀ b xs,H b=some (.tup xs)->H' b=some (.tup xs)):ObjOk P w H' h' a o:=by
 induction o with
 | lst xs=>obtain⟨z,its,n,r,e⟩:=x;exact⟨z,its,n,r,k _ _ (.inl rfl) e⟩
 | tup xs=>obtain⟨z,its,r,J,e,c⟩:=x;exact⟨z,its,r,J,k _ _ (.inl rfl) e,c⟩
 | dK kvs=>obtain⟨z,y,vs,r,J,es,ep,e,c⟩:=x;exact⟨z,y,vs,r,J,es,ep,k _ _ (.inl rfl) e,c⟩
 | dT kvs =>
  obtain⟨z,y,xs,r,J,es,ep,e,c⟩:=x;exact⟨z,y,xs,Paired.mapP r λp q z=>⟨z.1,ht _ _ z.2.1,z.2.2⟩,J,es,ep,k _ _ (.inl rfl) e,c⟩
 | set S n=>obtain⟨J,es,ep,t,e,c⟩:=x;exact⟨J,es,ep,t,k _ _ (.inl rfl) e,c⟩
 | ins C dx fs =>
  obtain⟨d,z,ne,e,mA,⟨od,es,ep,M,c⟩,r⟩:=x;exact⟨L _ d,z,ne,k _ _ (.inl rfl) e,mA,⟨od,es,ep,k _ _ (.inr d) M,c⟩,r⟩
 | own y=>obtain⟨J,e⟩:=x;exact⟨J,k _ _ (.inl rfl) e⟩
 | xd fs=>obtain⟨mA,⟨od,es,ep,e,c⟩,r⟩:=x;exact⟨mA,⟨od,es,ep,k _ _ (.inl rfl) e,c⟩,r⟩
 | rng lo hi=>obtain⟨t,u,v,e⟩:=x;exact⟨t,u,v,k _ _ (.inl rfl) e⟩
 | frz J u U=>obtain⟨e,q⟩:=x;exact⟨k _ _ (.inl rfl) e,U q⟩
 | tbl ps =>
  have e:h.get? a=some { cls:=.none,data:=.fields ps }:=x;show h'.get? a=some { cls:=.none,data:=.fields ps };exact k a _ (.inl rfl) e
 | met f y =>
  have e:h.get? a=some (PySem.W.methodObj (.ref f) (.ref y)):=x;show h'.get? a=some (PySem.W.methodObj (.ref f) (.ref y));exact k a _ (.inl rfl) e
 | ext φ=>obtain⟨p,⟨o,e⟩,st⟩:=x;exact⟨st _ _ p λo q=>k _ _ (.inl rfl) q,⟨o,k _ _ (.inl rfl) e⟩,st⟩
def HOk.lt (x:HOk P w H h) (e:H a=some o):a<h.objs.size:=(x a o e).lt
def HOk.fresh (x:HOk P w H h) (e:h.objs.size<=a):H a=none:=by
 cases q:H a with
 | none=>rfl
 | some u=>exact absurd (aGc (x.lt q) e) (ie _)
def HOk.kept (x:HOk P w H h) (k:∀ b u,h.get? b=some u->h'.get? b=some u):HOk P w H h':=λa o e =>
 (x a o e).stay (λb u _ q=>k b u q) (λ_ q=>q) λ_ _ q=>q
def HOk.laid (x:HOk P w H h) (k:∀ b u,h.get? b=some u->h'.get? b=some u) (L:h.objs.size<=a) (new:ObjOk P w (upd H a o) h' a o):HOk P w (upd H a o) h':=λb u e=>by
 have z:=x.fresh L
 by_cases J:b=a
 .subst J;rw[aE]at e;cases e;exact new
 .rw[aF J]at e;exact(x b u e).stay (λc v _ q=>k c v q) (λc q=>by rw[aF (aP q z)];exact q) λc xs q=>by rw[aF (aP q z)];exact q
end
def Rd (H:Hp) (a:Addr) (u:HO):Prop:=H a=some u\/∃ o,H a=some (.frz o u)
def Rd.of {H:Hp} {a:Addr} {u:HO} (h:H a=some u):Rd H a u:=.inl h
def Rd.ok {P:Program} {w:World} {H:Hp} {h:Heap} {a:Addr} {u:HO} (r:Rd H a u) (x:HOk P w H h):ObjOk P w H h a u:=by
 rcases r with r | ⟨o,r⟩
 .exact x a u r
 .obtain⟨_,q⟩:=x a _ r;exact q
def Mut:Option HO->Prop
 | some (.lst _)=>True
 | some (.dK _)=>True
 | some (.dT _)=>True
 | some (.set _ _)=>True
 | some (.ins _ _ _)=>True
 | some (.ext _)=>True
 | _=>False
section
variable {P:Program} {w:World} {H:Hp} {h h':Heap} {x e:Addr} {o':HO}
def HOk.write (ok:HOk P w H h) (U:Mut (H x)) (he:e=x\/H e=some (.own x)) (k:∀ b u,b≠e->h.get? b=some u->h'.get? b=some u) (aw:∃ u,h'.get? e=some u)
 (new:ObjOk P w (upd H x o') h' x o'):HOk P w (upd H x o') h':=λb u q=>by
 have L:∀ c y,H c=some (.own y)->c≠x:=λc y r z=>by subst z;rw[r]at U;exact U
 have M:∀ c xs,H c=some (.tup xs)->c≠x:=λc xs r z=>by subst z;rw[r]at U;exact U
 by_cases Y:b=x
 .subst Y;rw[aE]at q;cases q;exact new
 .rw[aF Y]at q
  by_cases J:b=e
  .have q':H b=some (.own x):=by
    rcases he with z | z
    .exact absurd (J.trans z) Y
    .rw[J];exact z
   rw[q]at q';cases q';obtain⟨v,hv⟩:=aw;exact⟨v,by rw[J];exact hv⟩
  .refine(ok b u q).stay (λc v hc r=>k c v ?_ r) (λc r=>by rw[aF (L c b r)];exact r) λc xs r=>by rw[aF (M c xs r)];exact r
   rcases hc with rfl | hc
   .exact J
   .rintro rfl;rcases he with z | z
    .exact L c b hc z
    .rw[hc]at z;cases z;exact Y rfl
end
structure Un (fs ex:List Addr) (H H':Hp) (h h':Heap):Prop where
 keep:∀ b o,h.get? b=some o->H b=none->b∉fs->b∉ex->h'.get? b=some o
 slot:∀ b o,h.get? b=some o->H b=none->b∈fs->b∉ex->∃ sl,h'.get? b=some { o with slots:=sl }
 free:∀ b o,h.get? b=some o->H b=none->b∉ex->H' b=none
 there:∀ b o,h.get? b=some o->b∉ex->∃ o',h'.get? b=some o'
 tups:∀ b xs,H b=some (.tup xs)->H' b=some (.tup xs)
 frzs:∀ b o u,H b=some (.frz o u)->H' b=some (.frz o u)
 tbls:∀ b ps,H b=some (.tbl ps)->∃ more,H' b=some (.tbl (ps++more))
section
variable {fs fs' ex ex':List Addr} {H H1 H2:Hp} {h h1 h2 h':Heap} {a x e:Addr} {o:HO}
def Un.any (u:Un fs ex H H1 h h1) {b:Addr} {z:Obj} (q:h.get? b=some z) (n:H b=none) (J:b∉ex):∃ M,h1.get? b=some { z with slots:=M }:=by
 by_cases L:b∈fs
 .exact u.slot b z q n L J
 .exact⟨z.slots,u.keep b z q n L J⟩
def Un.kept (k:∀ b u,h.get? b=some u->h'.get? b=some u):Un fs ex H H h h' :=
 ⟨λb z q _ _ _=>k b z q,λb z q _ _ _=>⟨z.slots,k b z q⟩,λ_ _ _ n _=>n,λb z q _=>⟨z,k b z q⟩,λ_ _ q=>q,λ_ _ _ q=>q,λ_ ps q=>⟨#[],by rw[q];simp⟩⟩
def Un.refl:Un fs ex H H h h:=Un.kept λ_ _ q=>q
def Un.laid (k:∀ b u,h.get? b=some u->h'.get? b=some u) (hp:h.objs.size<=a) (hn:H a=none):Un fs ex H (upd H a o) h h' where
 keep:=λb u q _ _ _=>k b u q
 slot:=λb u q _ _ _=>⟨u.slots,k b u q⟩
 free:=λb u q n _=>by rw[aF (aGi (aGc (aG1 q) hp))];exact n
 there:=λb u q _=>⟨u,k b u q⟩
 tups:=λb xs q=>by rw[aF (aP q hn)];exact q
 frzs:=λb u xs q=>by rw[aF (aP q hn)];exact q
 tbls:=λb ps q=>⟨#[],by rw[aF (aP q hn),q];simp⟩
def Un.write (L:Mut (H x)) (he:e=x\/H e=some (.own x)) (k:∀ b u,b≠e->h.get? b=some u->h'.get? b=some u) (M:∃ u,h'.get? e=some u):Un fs ex H (upd H x o) h h':=by
 have Y:∀ b,H b=none->b≠x:=λb n z=>by subst z;rw[n]at L;exact L
 have hb:∀ b,H b=none->b≠e:=λb n z=>by
  subst z;rcases he with r | r
  .exact Y b n r
  .rw[n]at r;cases r
 have U:∀ b u,H b=some u->¬ Mut (some u)->b≠x:=λb u q nm z=>by subst z;rw[q]at L;exact nm L
 refine⟨λb u q n _ _=>k b u (hb b n) q,λb u q n _ _=>⟨u.slots,k b u (hb b n) q⟩,λb u q n _=>by rw[aF (Y b n)];exact n,λb u q _=>?_,
  λb xs q=>by rw[aF (U b _ q λz=>z)];exact q,λb u xs q=>by rw[aF (U b _ q λz=>z)];exact q,λb ps q=>⟨#[],by rw[aF (U b _ q λz=>z),q];simp⟩⟩
 by_cases J:b=e
 .subst J;exact M
 .exact⟨u,k b u J q⟩
end
def trk (h:Heap) (H:Hp):List Addr:=(List.range h.objs.size).filter λa=>(H a).isSome
def uE (h:Heap) (H:Hp):Heap:=PySem.W.hideAll h (trk h H)
def o8 (h:Heap) (H:Hp):(uE h H).objs.size=h.objs.size:=PySem.W.hideAll_size _ _
def aA0 {h:Heap} {H:Hp} {b:Addr} {o:Obj} (e:h.get? b=some o) (n:H b=none):(uE h H).get? b=some o :=
 ml _ e λz=>by
  have q:(H b).isSome=true:=(aHA.mp z).2;rw[n]at q;simp at q
def aCg {h:Heap} {H:Hp} {b:Addr} {o:Obj} (e:(uE h H).get? b=some o):h.get? b=some o/\H b=none:=by
 have J:h.get? b=some o:=lg (trk h H) e;refine⟨J,?_⟩;cases q:H b with
 | none=>rfl
 | some x =>
  have L:b∈trk h H:=aHA.mpr ⟨List.mem_range.mpr (aG1 J),by simp[q]⟩;have z:(uE h H).get? b=none:=kd (trk h H) L;rw[z]at e;cases e
structure Mod (K:PySem.W.Frag) (mg:Str->Option Value) (base:Heap):Prop where
 kin:K.In base
 glob:base.Ns mainGlobals mg
 blt:∃ mb,base.Ns builtinsNs mb/\∀ x:Str,x≠"__name__"->mb x=bootBuiltins x
 nolimit:base.NoLimit
structure Cx where
 prog:Program
 w:World
 K:PySem.W.Frag
 mg:Str->Option Value
 base:Heap
 A:Around
 N:List Str
 s₀:Shared
 H₀:Hp
 env:Env
 outer:List Env
 stack:List Env
 ex:List Addr
 fn:Str->Bool
 calm:Bool
 pn:List (Addr×Obj)
 xe:Value->Shared->Prop
def frs (l:List Env):List Addr:=l.filterMap (·.frame)
abbrev Cx.fs (X:Cx):List Addr:=frs X.outer
def Vis (z:Scope) (x:Str):Prop:=z.names.lookup x=some .local\/z.names.lookup x=some .cell\/z.names.lookup x=some .free
def Loc (z:Scope) (x:Str):Prop:=z.names.lookup x=some .local\/z.names.lookup x=some .cell
def aFl (env:Env) (h:Heap) (m:Str->Option Value) (x:Str) (u:Value):Prop :=
 (env.kindOf x=some .local/\m x=some u)\/((env.kindOf x=some .cell\/env.kindOf x=some .free)/\∃ c,env.cells.lookup x=some c/\h.IsCell c (some u))
structure Cx.Ok (X:Cx):Prop where
 mod:Mod X.K X.mg X.base
 kind:X.env.scope.kind=.function
 glob:X.env.globals=mainGlobals
 blt:X.env.builtins=builtinsNs
 above:X.s₀.heap.objs.size<=X.env.locals
 inj:∀ x y c,X.env.cells.lookup x=some c->X.env.cells.lookup y=some c->x=y
 has:∀ x,(X.env.kindOf x=some .cell\/X.env.kindOf x=some .free)->∃ c,X.env.cells.lookup x=some c
 cab:∀ x c,X.fn x=true->X.env.cells.lookup x=some c->X.s₀.heap.objs.size<=c
 hd:X.calm=true->X.A.handled=none
 frames:X.A.frames=some X.stack
 stk:X.stack=X.outer\/(X.stack=X.env :: X.outer/\X.env.frame=some X.env.locals)
 exf:∀ b∈X.ex,b≠X.env.locals/\∀ x c,X.env.cells.lookup x=some c->c≠b
 bs:∀ b o,X.base.get? b=some o->X.s₀.heap.get? b=some o/\X.H₀ b=none
 bsz:X.base.objs.size<=X.s₀.heap.objs.size
 noex:∀ b o,X.base.get? b=some o->b∉X.ex
 exfs:∀ b∈X.ex,b∉X.fs
 funs:X.s₀.heap.FunFrames X.base X.outer
 frf:∀ b∈X.fs,X.H₀ b=none
structure Inv (X:Cx) (pins:List (Addr×Obj)) (σ:List (Option V)) (H:Hp) (s:Shared):Prop where
 ok:X.Ok
 os:s.os=X.s₀.os
 bare:AllBare s.gens
 base:Un X.fs X.ex X.H₀ H X.s₀.heap s.heap
 loc:∃ m,s.heap.Ns X.env.locals m/\∀ (i:Nat) (x:Str) (v:V),X.N[i]?=some x->σ[i]?=some (some v)->Vis X.env.scope x->∃ u,RelV v u/\aFl X.env s.heap m x u
 cell:∀ x c,X.env.cells.lookup x=some c->∃ v,s.heap.IsCell c v
 free:H X.env.locals=none
 freeC:∀ x c,X.env.cells.lookup x=some c->H c=none
 pin:∀ p∈X.pn++pins,s.heap.get? p.1=some p.2/\H p.1=none/\p.1≠X.env.locals/\p.1∉X.fs/\∀ v,p.2.data≠.cell v
 hok:HOk X.prog X.w H s.heap
 len:σ.length=X.N.length
section
variable {X:Cx} {pins:List (Addr×Obj)} {σ:List (Option V)} {H H':Hp} {s:Shared} {h':Heap}
def Cx.Ok.nofr (ok:X.Ok) {b:Addr} {o:Obj} (e:X.base.get? b=some o):b∉X.fs:=λz=>by
 have:=(ok.funs.mem z).1;rw[e]at this;cases this
def Inv.bs (I:Inv X pins σ H s):∀ b o,X.base.get? b=some o->s.heap.get? b=some o/\H b=none:=λb o e =>
 ⟨I.base.keep b o (I.ok.bs b o e).1 (I.ok.bs b o e).2 (I.ok.nofr e) (I.ok.noex b o e),I.base.free b o (I.ok.bs b o e).1 (I.ok.bs b o e).2 (I.ok.noex b o e)⟩
def Inv.bk (I:Inv X pins σ H s):∀ b o,X.base.get? b=some o->s.heap.get? b=some o:=λb o e=>(I.bs b o e).1
def Inv.mod (I:Inv X pins σ H s):Mod X.K X.mg X.base:=I.ok.mod
def Inv.kIn (I:Inv X pins σ H s):X.K.In s.heap:=I.ok.mod.kin.keeps I.bk
def Inv.lt (I:Inv X pins σ H s):X.env.locals<s.heap.objs.size:=let ⟨_,z,_⟩:=I.loc;z.lt
def Inv.sz (I:Inv X pins σ H s):X.s₀.heap.objs.size<=s.heap.objs.size:=g0 I.ok.above (ji I.lt)
def Inv.nofs (I:Inv X pins σ H s) {a:Addr} (h:s.heap.objs.size<=a):a∉X.fs:=λz=>by
 obtain⟨_,o,J,_⟩:=I.ok.funs.mem z;exact absurd (aGc (aG1 J) (g0 I.sz h)) (ie _)
def Inv.cne (I:Inv X pins σ H s):∀ x c,X.env.cells.lookup x=some c->c≠X.env.locals:=λx c e z=>by
 obtain⟨v,o,M,hd⟩:=I.cell x c e;obtain⟨m,⟨o',es,ep,J,L,_⟩,_⟩:=I.loc;rw[z,J]at M;cases M;rw[L]at hd;cases hd
def Inv.funs (I:Inv X pins σ H s):s.heap.FunFrames X.base X.outer:=by
 have all:∀ (l:List Env),(∀ b∈frs l,b∈X.fs)->X.s₀.heap.FunFrames X.base l->s.heap.FunFrames X.base l:=by
  intro l
  induction l with
  | nil=>intro _ _;trivial
  | cons env r Y =>
   intro hs hl;obtain⟨hk,⟨L,o,J,hn,ho,hd⟩,hr⟩:=hl;have M:L∈X.fs:=hs L (by unfold frs;rw[mn,J];exact aGX);obtain⟨sl,e⟩:=I.base.slot L o ho (I.ok.frf L M) M λz=>I.ok.exfs L z M;exact⟨hk,⟨L,_,J,hn,e,hd⟩,Y (λb U=>hs b (by unfold frs;rw[mn,J];exact aGY _ U)) hr⟩
 exact all X.outer (λ_ U=>U) I.ok.funs
def Inv.stack (I:Inv X pins σ H s):s.heap.FunFrames X.base X.stack:=by
 rcases I.ok.stk with e | ⟨e,z⟩
 .rw[e];exact I.funs
 .rw[e];obtain⟨m,J,_⟩:=I.loc;refine .cons (by rw[I.ok.kind];decide) z J ?_ I.funs;exact md (g0 I.ok.bsz I.ok.above)
def Inv.stkSub (I:Inv X pins σ H s):∀ b∈frs X.stack,b∈X.env.locals :: X.fs:=λb z=>by
 rcases I.ok.stk with e | ⟨e,J⟩
 .rw[e]at z;exact aGY _ z
 .rw[e]at z;unfold frs at z;rw[mn,J]at z;exact z
def Inv.stkFree (I:Inv X pins σ H s):∀ b∈frs X.stack,H b=none:=λb hb=>by
 rcases aGx.mp (I.stkSub b hb)with e | hb
 .rw[e];exact I.free
 .obtain⟨_,o,J,_⟩:=I.ok.funs.mem hb;exact I.base.free b o J (I.ok.frf b hb) λz=>I.ok.exfs b z hb
def Inv.step {g':Array GenState} {t':Nat} {d':Drawn} {ch:List Addr} (I:Inv X pins σ H s)
 (L:∀ b∈ch,(b∈X.ex\/X.s₀.heap.objs.size<=b)/\b≠X.env.locals/\(∀ x c,X.env.cells.lookup x=some c->c≠b)/\∀ p∈X.pn++pins,p.1≠b)
 (keep:∀ b o,b≠X.env.locals->b∉X.fs->b∉ch->s.heap.get? b=some o->H b=none->h'.get? b=some o)
 (slot:∀ b o,b≠X.env.locals->b∈X.fs->b∉ch->s.heap.get? b=some o->H b=none->∃ sl,h'.get? b=some { o with slots:=sl }) (free:∀ b o,b∉ch->s.heap.get? b=some o->H b=none->H' b=none)
 (there:∀ b o,b∉ch->s.heap.get? b=some o->∃ o',h'.get? b=some o')
 (tups:∀ b xs,H b=some (.tup xs)->H' b=some (.tup xs)) (frzs:∀ b o u,H b=some (.frz o u)->H' b=some (.frz o u)) (tbls:∀ b ps,H b=some (.tbl ps)->∃ more,H' b=some (.tbl (ps++more)))
 (ns:∀ m,s.heap.Ns X.env.locals m->h'.Ns X.env.locals m) (hok:HOk X.prog X.w H' h') (hg:AllBare g') :
 Inv X pins σ H' { s with heap:=h',gens:=g',drawn:=d',toks:=t' }:=by
 have aw:∀ b o,X.s₀.heap.get? b=some o->b≠X.env.locals:=λb o e=>aGi (aGc (aG1 e) I.ok.above);have U:∀ b o,X.s₀.heap.get? b=some o->b∉X.ex->b∉ch:=λb o e J hb=>by
  rcases (L b hb).1 with z | z
  .exact J z
  .exact absurd (aGc (aG1 e) z) (ie _)
 have cellK:∀ x c,X.env.cells.lookup x=some c->∀ v,s.heap.IsCell c v->h'.IsCell c v:=λx c e v ⟨o,ho,hd⟩=>by
  have M:c∉ch:=λz=>(L c z).2.2.1 x c e rfl
  by_cases hc:c∈X.fs
  .obtain⟨sl,q⟩:=slot c o (I.cne x c e) hc M ho (I.freeC x c e);exact⟨_,q,hd⟩
  .exact⟨o,keep c o (I.cne x c e) hc M ho (I.freeC x c e),hd⟩
 refine⟨I.ok,I.os,hg,⟨λb o e n hb J=>?_,λb o e n hb J=>?_,λb o e n J=>?_,λb o e J=>?_,λb xs e=>tups b xs (I.base.tups b xs e),λb o xs e=>frzs b o xs (I.base.frzs b o xs e),λb ps e=>?_⟩,?_,λx c e=>?_,?_,λx c e=>?_,λp hp=>?_,hok,I.len⟩
 .exact keep b o (aw b o e) hb (U b o e J) (I.base.keep b o e n hb J) (I.base.free b o e n J)
 .obtain⟨sl,Y⟩:=I.base.slot b o e n hb J;obtain⟨ax,e2⟩:=slot b _ (aw b o e) hb (U b o e J) Y (I.base.free b o e n J);exact⟨ax,e2⟩
 .obtain⟨o',Y⟩:=I.base.there b o e J;exact free b o' (U b o e J) Y (I.base.free b o e n J)
 .obtain⟨o',Y⟩:=I.base.there b o e J;exact there b o' (U b o e J) Y
 .obtain⟨m1,Y⟩:=I.base.tbls b ps e;obtain⟨m2,e2⟩:=tbls b _ Y;exact⟨m1++m2,by rw[e2,Array.append_assoc]⟩
 .obtain⟨m,hn,hl⟩:=I.loc;refine⟨m,ns m hn,λi x v Y e2 e3=>?_⟩;obtain⟨u,r,l⟩:=hl i x v Y e2 e3;refine⟨u,r,?_⟩;rcases l with l | ⟨k,c,e,z⟩
  .exact .inl l
  .exact .inr ⟨k,c,e,cellK x c e _ z⟩
 .obtain⟨v,z⟩:=I.cell x c e;exact⟨v,cellK x c e v z⟩
 .obtain⟨m,⟨o,_,_,ho,_⟩,_⟩:=I.loc;exact free _ o (λz=>(L _ z).2.1 rfl) ho I.free
 .obtain⟨v,o,ho,hd⟩:=I.cell x c e;exact free c o (λz=>(L c z).2.2.1 x c e rfl) ho (I.freeC x c e)
 .obtain⟨e,n,ne,nf,d⟩:=I.pin p hp;have M:p.1∉ch:=λz=>(L p.1 z).2.2.2 p hp rfl;exact⟨keep p.1 p.2 ne nf M e n,free p.1 p.2 M e n,ne,nf,d⟩
def Inv.un {t':Nat} (I:Inv X pins σ H s) (u:Un X.fs [] H H' s.heap h') (hok:HOk X.prog X.w H' h'):Inv X pins σ H' { s with heap:=h',toks:=t' }:=by
 obtain⟨m,⟨o,es,ep,Y,r⟩,_⟩:=id I.loc;obtain⟨sl,hL⟩:=u.any Y I.free (by simp);exact I.step (g':=s.gens) (d':=s.drawn) (ch:=[]) (λ_ z=>nomatch z) (λb o _ L _ e n=>u.keep b o e n L (by simp)) (λb o _ L _ e n=>u.slot b o e n L (by simp)) (λb o _ e n=>u.free b o e n (by simp)) (λb o _ e=>u.there b o e (by simp)) u.tups u.frzs u.tbls (λm' hm=>by
  obtain⟨o',M,U,J,r'⟩:=hm;rw[Y]at J;cases J;exact⟨_,M,U,hL,r'⟩) hok I.bare
def Inv.call {g':Array GenState} {t':Nat} {d':Drawn} {ch:List Addr} (I:Inv X pins σ H s) (u:Un (frs X.stack) ch H H' s.heap h') (hok:HOk X.prog X.w H' h') (hg:AllBare g')
 (L:∀ b∈ch,(b∈X.ex\/X.s₀.heap.objs.size<=b)/\b≠X.env.locals/\(∀ x c,X.env.cells.lookup x=some c->c≠b)/\∀ p∈X.pn++pins,p.1≠b) :
 Inv X pins σ H' { s with heap:=h',gens:=g',drawn:=d',toks:=t' }:=by
 obtain⟨m,⟨o,es,ep,ho,r⟩,_⟩:=id I.loc;obtain⟨sl,U⟩:=u.any ho I.free λz=>(L _ z).2.1 rfl;exact I.step (ch:=ch) L (λb o U hb J e n=>u.keep b o e n (λz=>(aGx.mp (I.stkSub b z)).elim U hb) J) (λb o _ _ J e n=>u.any e n J) (λb o J e n=>u.free b o e n J) (λb o J e=>u.there b o e J) u.tups u.frzs u.tbls (λm' hm=>by
  obtain⟨o',Y,aw,M,r'⟩:=hm;rw[ho]at M;cases M;exact⟨_,Y,aw,U,r'⟩) hok hg
def Inv.turned {t':Nat} {it:Addr} (I:Inv X pins σ H s) (k:∀ b o,b≠it->s.heap.get? b=some o->h'.get? b=some o) (U:H it=none) (M:it≠X.env.locals)
 (h1:it∈X.ex\/X.s₀.heap.objs.size<=it) (h2:∀ x c,X.env.cells.lookup x=some c->c≠it) (h3:∀ p∈X.pn++pins,p.1≠it):Inv X pins σ H { s with heap:=h',toks:=t' }:=by
 have L:∀ b u,H b=some u->b≠it:=λb u e z=>by rw[z,U]at e;cases e
 refine I.step (g':=s.gens) (d':=s.drawn) (ch:=[it]) (λb Y=>?_) (λb o _ _ J e _=>k b o (λz=>J (by simp[z])) e) (λb o _ _ J e _=>⟨o.slots,k b o (λz=>J (by simp[z])) e⟩) (λ_ _ _ _ n=>n)
  (λb o J e=>⟨o,k b o (λz=>J (by simp[z])) e⟩) (λ_ _ e=>e) (λ_ _ _ e=>e) (λb ps e=>⟨#[],by rw[e];simp⟩) (λm hm=>?_) (λb u e=>?_) I.bare
 .have e:b=it:=by simpa using Y
  subst e;exact⟨h1,M,h2,h3⟩
 .obtain⟨o,es,ep,ho,r⟩:=hm;exact⟨o,es,ep,k _ o (gi M) ho,r⟩
 .refine(I.hok b u e).stay (λc v J q=>k c v ?_ q) (λ_ q=>q) λ_ _ q=>q;rcases J with z | z
  .rw[z];exact L b u e
  .exact L c _ z
def Inv.tok (I:Inv X pins σ H s) (t:Nat):Inv X pins σ H { s with toks:=t }:=I.un (h':=s.heap) (t':=t) Un.refl I.hok
def Inv.kept {t':Nat} (I:Inv X pins σ H s) (k:∀ b u,s.heap.get? b=some u->h'.get? b=some u):Inv X pins σ H { s with heap:=h',toks:=t' }:=I.un (Un.kept k) (I.hok.kept k)
def Inv.laid {a:Addr} {o:HO} {t':Nat} (I:Inv X pins σ H s) (k:∀ b u,s.heap.get? b=some u->h'.get? b=some u) (z:s.heap.objs.size<=a) (new:ObjOk X.prog X.w (upd H a o) h' a o) :
 Inv X pins σ (upd H a o) { s with heap:=h',toks:=t' }:=I.un (Un.laid k z (I.hok.fresh z)) (I.hok.laid k z new)
def Inv.write {x e:Addr} {o:HO} {t':Nat} (I:Inv X pins σ H s) (J:Mut (H x)) (he:e=x\/H e=some (.own x)) (k:∀ b u,b≠e->s.heap.get? b=some u->h'.get? b=some u) (z:∃ u,h'.get? e=some u)
 (new:ObjOk X.prog X.w (upd H x o) h' x o):Inv X pins σ (upd H x o) { s with heap:=h',toks:=t' }:=I.un (Un.write J he k z) (I.hok.write J he k z new)
def Inv.weak {z:List (Option V)} (I:Inv X pins σ H s) (L:z.length=σ.length) (w:∀ (i:Nat) v,z[i]?=some (some v)->σ[i]?=some (some v)):Inv X pins z H s :=
 ⟨I.ok,I.os,I.bare,I.base,let ⟨m,M,J⟩:=I.loc;⟨m,M,λi x v U Y e3=>J i x v U (w i v Y) e3⟩,I.cell,I.free,I.freeC,I.pin,I.hok,L.trans I.len⟩
def Inv.pins_of {J:List (Addr×Obj)} (I:Inv X pins σ H s) (h:∀ p∈J,s.heap.get? p.1=some p.2/\H p.1=none/\p.1≠X.env.locals/\p.1∉X.fs/\∀ v,p.2.data≠.cell v):Inv X J σ H s :=
 ⟨I.ok,I.os,I.bare,I.base,I.loc,I.cell,I.free,I.freeC,λp L=>(aGy.mp L).elim (λz=>I.pin p (aGe _ z)) (h p),I.hok,I.len⟩
def uF {N:List Str} (z:N.Nodup) {i j:Nat} {x:Str} (a:N[i]?=some x) (b:N[j]?=some x):i=j:=by
 obtain⟨h1,J⟩:=aGw.mp a;obtain⟨h2,L⟩:=aGw.mp b;exact(List.getElem_inj z).mp (J.trans L.symm)
def qQ {M:Model} {A:Around} {E:Value->Shared->Prop} {i:Nat} {x:Str} {v:V} {u:Value} {Q:Unit->Shared->Prop} (I:Inv X pins σ H s) (hN:X.N.Nodup) (hi:X.N[i]?=some x) (L:Loc X.env.scope x) (r:RelV v u)
 (h:∀ s',Inv X pins (σ.set i (some v)) H s'->(∃ a,Heap.SameBut a s.heap s'.heap/\(a=X.env.locals\/X.env.cells.lookup x=some a))->Q () s') (hf:X.fn x=true\/X.env.scope.names.lookup x=some .local:=by first | exact .inl rfl | exact .inr rfl | assumption):wpAny M A (storeName X.env x u) Q E s:=by
 obtain⟨m,hn,hl⟩:=id I.loc;have ay:(X.env.scope.kind == .class || (X.env.scope.kind == .module && X.env.locals != X.env.globals))=false:=by rw[I.ok.kind];rfl
 have aw:i<σ.length:=by rw[I.len];exact(aGw.mp hi).1
 have cne:=I.cne;have tracked:∀ {a:Addr} {h':Heap},(∃ o,s.heap.get? a=some o/\H a=none)->Heap.SameBut a s.heap h'->HOk X.prog X.w H h':=λ{a h'} ha hs b ob e=>by
  obtain⟨_,_,U⟩:=ha;refine(I.hok b ob e).stay (λc w' hc q=>(hs.2 c ?_).trans q) (λ_ q=>q) λ_ _ q=>q;rintro rfl;rcases hc with rfl | hc
  .rw[U]at e;cases e
  .rw[U]at hc;cases hc
 rcases L with hk | hk
 .refine wpAny_storeName_local hk hn (λh' bc hs=>?_) ay;obtain⟨oL,_,_,bf,_⟩:=id hn;refine h _ ⟨I.ok,I.os,I.bare,⟨λb o e n hb L=>?_,λb o e n hb L=>?_,I.base.free,λb o e L=>?_,I.base.tups,I.base.frzs,I.base.tbls⟩,⟨_,bc,λj y v' J Y e3=>?_⟩,λy c e=>?_,I.free,I.freeC,λp hp=>?_,tracked ⟨oL,bf,I.free⟩ hs,by simpa using I.len⟩ ⟨_,hs,.inl rfl⟩
  .exact(hs.2 b (aGi (aGc (aG1 e) I.ok.above))).trans (I.base.keep b o e n hb L)
  .obtain⟨sl,J⟩:=I.base.slot b o e n hb L;exact⟨sl,(hs.2 b (aGi (aGc (aG1 e) I.ok.above))).trans J⟩
  .obtain⟨o',J⟩:=I.base.there b o e L;exact⟨o',(hs.2 b (aGi (aGc (aG1 e) I.ok.above))).trans J⟩
  .by_cases hj:j=i
   .subst hj;rw[hi]at J;cases J;rw[ni aw]at Y;cases Y;exact⟨u,r,.inl ⟨hk,by simp⟩⟩
   .rw[jl (gi hj)]at Y;obtain⟨u',r',q⟩:=hl j y v' J Y e3;refine⟨u',r',?_⟩;rcases q with ⟨k,e⟩ | ⟨k,c,e,z⟩
    .refine .inl ⟨k,?_⟩;have:y≠x:=λe=>hj (uF hN J (e ▸ hi));simp[this,e]
    .exact .inr ⟨k,c,e,z.sameBut hs (cne y c e)⟩
  .obtain⟨w',z⟩:=I.cell y c e;exact⟨w',z.sameBut hs (cne y c e)⟩
  .obtain⟨e,n,ne,nf,d⟩:=I.pin p hp;exact⟨(hs.2 p.1 ne).trans e,n,ne,nf,d⟩
 .have ax:X.fn x=true:=by
   rcases hf with z | z
   .exact z
   .rw[z]at hk;cases hk
  obtain⟨c,hc⟩:=I.ok.has x (.inl hk);obtain⟨w',z⟩:=I.cell x c hc;refine wpAny_storeName_cell I.ok.kind hk hc z (λh' az hs=>?_);obtain⟨oc,a_,ba⟩:=id z;refine h { s with heap:=h' } ⟨I.ok,I.os,I.bare,⟨λb o e n hb L=>?_,λb o e n hb L=>?_,I.base.free,λb o e L=>?_,I.base.tups,I.base.frzs,I.base.tbls⟩,⟨m,hn.sameBut hs (gi (cne x c hc)),λj y v' J Y e3=>?_⟩,λy c' e=>?_,I.free,I.freeC,λp hp=>?_,tracked ⟨oc,a_,I.freeC x c hc⟩ hs,by simpa using I.len⟩ ⟨c,hs,.inr hc⟩
  .exact(hs.2 b (aGi (aGc (aG1 e) (I.ok.cab x c ax hc)))).trans (I.base.keep b o e n hb L)
  .obtain⟨sl,J⟩:=I.base.slot b o e n hb L;exact⟨sl,(hs.2 b (aGi (aGc (aG1 e) (I.ok.cab x c ax hc)))).trans J⟩
  .obtain⟨o',J⟩:=I.base.there b o e L;exact⟨o',(hs.2 b (aGi (aGc (aG1 e) (I.ok.cab x c ax hc)))).trans J⟩
  .by_cases hj:j=i
   .subst hj;rw[hi]at J;cases J;rw[ni aw]at Y;cases Y;exact⟨u,r,.inr ⟨.inl hk,c,hc,az⟩⟩
   .rw[jl (gi hj)]at Y;obtain⟨u',r',q⟩:=hl j y v' J Y e3;refine⟨u',r',?_⟩;rcases q with q | ⟨k,c',e,z'⟩
    .exact .inl q
    .refine .inr ⟨k,c',e,z'.sameBut hs ?_⟩;rintro rfl;exact hj (uF hN J (I.ok.inj _ _ _ e hc ▸ hi))
  .by_cases bb:c'=c
   .subst bb;exact⟨_,az⟩
   .obtain⟨w2,z2⟩:=I.cell y c' e;exact⟨w2,z2.sameBut hs bb⟩
  .obtain⟨e,n,ne,nf,d⟩:=I.pin p hp;refine⟨(hs.2 p.1 ?_).trans e,n,ne,nf,d⟩;intro q;rw[q,a_]at e;have q':oc=p.2:=gu e;exact d w' (by rw[<- q'];exact ba)
def uG {M:Model} {A:Around} {E:Value->Shared->Prop} {i:Nat} {x:Str} {v:V} {u:Value} {Q:Unit->Shared->Prop} (I:Inv X pins σ H s) (z:X.N.Nodup) (hi:X.N[i]?=some x) (J:Loc X.env.scope x) (r:RelV v u)
 (h:∀ s',Inv X pins (σ.set i (some v)) H s'->Q () s') (L:X.fn x=true\/X.env.scope.names.lookup x=some .local:=by first | exact .inl rfl | exact .inr rfl | assumption):wpAny M A (storeName X.env x u) Q E s :=
 qQ I z hi J r (λs' U _=>h s' U) L
def Inv.call' {s':Shared} {ch:List Addr} (I:Inv X pins σ H s) (J:s'.os=s.os) (u:Un (frs X.stack) ch H H' s.heap s'.heap) (hok:HOk X.prog X.w H' s'.heap) (L:AllBare s'.gens)
 (z:∀ b∈ch,(b∈X.ex\/X.s₀.heap.objs.size<=b)/\b≠X.env.locals/\(∀ x c,X.env.cells.lookup x=some c->c≠b)/\∀ p∈X.pn++pins,p.1≠b):Inv X pins σ H' s':=by
 obtain⟨h',g',d',t',o'⟩:=s';have e:o'=s.os:=J;subst e;exact I.call (g':=g') (t':=t') (d':=d') u hok L z
end
abbrev XK:=Value->Option Addr->Hp->Prop
abbrev St:=List (Option V)
abbrev VK:=V->Hp->Prop
abbrev TE:=St->Hp->VK->Prop
abbrev TT:=St->Hp->(Bool->Hp->Prop)->Prop
abbrev TA:=St->Hp->(List V->Hp->Prop)->Prop
structure iX where
 nx:St->Hp->Prop
 rt:VK
 bk:St->Hp->Prop:=λ_ _=>False
 ct:St->Hp->Prop:=λ_ _=>False
abbrev TS:=iX->St->Hp->Prop
inductive EP (X:Cx) (pins:List (Addr×Obj)) (σ:St) (Q:VK) (u:Value) (s':Shared):Prop
 | mk (v:_) (H':_) (h0_:Inv X pins σ H' s') (h1_:RelV v u) (h2_:Q v H'):EP X pins σ Q u s'
def TP (X:Cx) (pins:List (Addr×Obj)) (σ:St) (Q:Bool->Hp->Prop) (b:Bool) (s':Shared):Prop:=∃ H',Inv X pins σ H' s'/\Q b H'
inductive AP (X:Cx) (pins:List (Addr×Obj)) (σ:St) (Q:List V->Hp->Prop) (us:List Value) (s':Shared):Prop
 | mk (vs:_) (H':_) (h0_:Inv X pins σ H' s') (h1_:Vals vs us) (h2_:Q vs H'):AP X pins σ Q us s'
def SP (X:Cx) (pins:List (Addr×Obj)) (D:iX) (f:Flow) (s':Shared):Prop :=
 match f with
 | .next=>∃ z H',Inv X pins z H' s'/\D.nx z H'
 | .brk=>∃ z H',Inv X pins z H' s'/\D.bk z H'
 | .cont=>∃ z H',Inv X pins z H' s'/\D.ct z H'
 | .ret u=>∃ v z H',Inv X pins z H' s'/\RelV v u/\D.rt v H'
def PE (X:Cx) (e:Expr) (t:TE):Prop :=
 ∀ (pins:List (Addr×Obj)) (s:Shared) (σ:St) (H:Hp) (Q:VK),Inv X pins σ H s->t σ H Q->wpAny (model X.prog X.w) X.A (eval e X.env) (EP X pins σ Q) X.xe s
def PT (X:Cx) (e:Expr) (t:TT):Prop :=
 ∀ (pins:List (Addr×Obj)) (s:Shared) (σ:St) (H:Hp) (Q:Bool->Hp->Prop),Inv X pins σ H s->t σ H Q->wpAny (model X.prog X.w) X.A (isTrue e X.env (eval e X.env)) (TP X pins σ Q) X.xe s
def PW (X:Cx) (e:Expr) (t:TT):Prop :=
 ∀ (whole:Sem Value) (pins:List (Addr×Obj)) (s:Shared) (σ:St) (H:Hp) (Q:Bool->Hp->Prop),Inv X pins σ H s->t σ H Q->wpAny (model X.prog X.w) X.A (isTrue e X.env whole) (TP X pins σ Q) X.xe s
def PW.pt {X:Cx} {e:Expr} {t:TT} (h:PW X e t):PT X e t:=h _
def PA (X:Cx) (es:List Expr) (t:TA):Prop :=
 ∀ (pos:Pos) (pins:List (Addr×Obj)) (s:Shared) (σ:St) (H:Hp) (Q:List V->Hp->Prop),Inv X pins σ H s->t σ H Q->wpAny (model X.prog X.w) X.A (spliced (backTo pos (starEach es X.env))) (AP X pins σ Q) X.xe s
def PS (X:Cx) (st:Stmt) (t:TS):Prop :=
 ∀ (pins:List (Addr×Obj)) (s:Shared) (σ:St) (H:Hp) (D:iX),Inv X pins σ H s->t D σ H->wpAny (model X.prog X.w) X.A (exec st X.env) (SP X pins D) X.xe s
def PSs (X:Cx) (st:List Stmt) (t:TS):Prop :=
 ∀ (pins:List (Addr×Obj)) (s:Shared) (σ:St) (H:Hp) (D:iX),Inv X pins σ H s->t D σ H->wpAny (model X.prog X.w) X.A (execs st X.env) (SP X pins D) X.xe s
def thn {z:Type} {t:Sem z} {Q J:z->Shared->Prop} {M:Model} {A:Around} {E:Value->Shared->Prop} {s:Shared} (h:wpAny M A t Q E s) (L:∀ a s,Q a s->J a s):wpAny M A t J E s:=ew h L λ_ _ x=>x
section
variable {X:Cx}
inductive aA1 (i:Nat) (σ:St) (H:Hp) (Q:VK):Prop
 | mk (v:_) (h0_:σ[i]?=some (some v)) (h1_:Q v H):aA1 i σ H Q
def aDq (i:Nat):TE:=fun σ H Q=>aA1 i σ H Q
def tC (v:V):TE:=λ_ H Q=>Q v H
def aDr {i:Nat} {x:Str} {pos:Pos} (M:X.N[i]?=some x) (U:Vis X.env.scope x) (hd:(x == ("__debug__":Str))=false:=by decide) (J:(x == ("__classdict__":Str))=false:=by decide):PE X (.Name x pos) (aDq i):=by
 intro pins s σ H Q I h;obtain⟨v,e,h⟩:=h;obtain⟨m,Y,hl⟩:=I.loc;obtain⟨u,r,l⟩:=hl i x v M e U;have fin:EP X pins σ Q u s:=⟨v,H,I,r,h⟩;rcases l with ⟨hk,hm⟩ | ⟨hk,c,L,z⟩
 .exact qo (ot I.ok.kind hk Y hm fin) hd
 .rcases hk with hk | hk
  .exact qo (pk I.ok.kind hk L z fin) hd
  .exact qo (wpAny_loadName_free I.ok.kind hk L z fin J) hd
def aK {i j pos}:PE X (.Constant (.int i) j pos) (tC (.int i)):=λ_ _ _ H _ I h=>wpAny_Constant_int ⟨.int i,H,I.tok _,⟨_,rfl⟩,h⟩
def G4 {b j pos}:PE X (.Constant (.bool b) j pos) (tC (.bl b)):=λ_ _ _ H _ I h=>Constant_bool ⟨.bl b,H,I,rfl,h⟩
def aU {x j pos}:PE X (.Constant (.str x) j pos) (tC (.str x)):=λ_ _ _ H _ I h=>Calls.Constant_str ⟨.str x,H,I.tok _,⟨_,rfl⟩,h⟩
def Gl (X:Cx) (x:Str):Prop:=X.env.kindOf x=some .globalImplicit
def eL {E:Value->Shared->Prop} {pins:List (Addr×Obj)} {s:Shared} {σ:St} {H:Hp} {x:Str} {u:Value} {pos:Pos} {Q:Value->Shared->Prop} (I:Inv X pins σ H s) (z:Gl X x) (J:X.mg x=some u) (h:Q u s)
 (hd:(x == ("__debug__":Str))=false:=by decide):wpAny (model X.prog X.w) X.A (eval (.Name x pos) X.env) Q E s :=
 jv I.ok.kind z (mw (by rw[I.ok.glob];exact I.mod.glob.keeps I.bk) J h) hd
def jX {E:Value->Shared->Prop} {pins:List (Addr×Obj)} {s:Shared} {σ:St} {H:Hp} {x:Str} {u:Value} {pos:Pos} {Q:Value->Shared->Prop} (I:Inv X pins σ H s) (z:Gl X x) (J:X.mg x=none) (L:bootBuiltins x=some u) (h:Q u s)
 (M:x≠"__name__":=by decide) (hd:(x == ("__debug__":Str))=false:=by decide):wpAny (model X.prog X.w) X.A (eval (.Name x pos) X.env) Q E s:=by
 obtain⟨U,h1,h2⟩:=I.mod.blt;exact jv I.ok.kind z (Calls.loadGlobal_builtin (by rw[I.ok.glob];exact I.mod.glob.keeps I.bk) J (by rw[I.ok.blt];exact h1.keeps I.bk) ((h2 x M).trans L) h) hd
def cF {x:Str} {v:V} {u:Value} {pos:Pos} (z:Gl X x) (J:X.mg x=some u) (r:RelV v u) (hd:(x == ("__debug__":Str))=false:=by decide):PE X (.Name x pos) (tC v) :=
 λ_ _ _ H _ I h=>eL I z J ⟨v,H,I,r,h⟩ hd
def aCh {x:Str} {v:V} {u:Value} {pos:Pos} (z:Gl X x) (J:X.mg x=none) (L:bootBuiltins x=some u) (r:RelV v u) (M:x≠"__name__":=by decide) (hd:(x == ("__debug__":Str))=false:=by decide):PE X (.Name x pos) (tC v) :=
 λ_ _ _ H _ I h=>jX I z J L ⟨v,H,I,r,h⟩ M hd
variable {a b:Expr} {ta tb:TE} {pos:Pos}
def PC (X:Cx) (op:CmpOp) (a b:Expr) (t:TE):Prop :=
 ∀ (pins:List (Addr×Obj)) (s:Shared) (σ:St) (H:Hp) (Q:VK),Inv X pins σ H s->t σ H Q ->
  wpAny (model X.prog X.w) X.A (eval a X.env) (λv z=>wpAny (model X.prog X.w) X.A (eval b X.env) (λu J=>wpAny (model X.prog X.w) X.A (compareOp op v u) (EP X pins σ Q) X.xe J) X.xe z) X.xe s
def aA2 (b:Expr) {op:CmpOp} (h:op≠.In) (h2:op≠.NotIn):behindInMarks op b=false:=by
 have z:(op == CmpOp.In)=false:=by cases op <;> first | rfl | exact absurd rfl h
 have J:(op == CmpOp.NotIn)=false:=by cases op <;> first | rfl | exact absurd rfl h2
 cases b <;> simp[behindInMarks,z,J]
inductive aEn (Q:Bool->Hp->Prop) (x:V) (H1:Hp):Prop
 | mk (c:_) (h0_:x=.bl c) (h1_:Q c H1):aEn Q x H1
def tB (t:TE):TT:=fun σ H Q=>t σ H λx H1=>aEn Q x H1
def aA3 {op:CmpOp} {t:TE} (h:PC X op a b t) (h1:behindInMarks op b=false:=by first | exact aA2 _ (by decide) (by decide) | rfl):PT X (.Compare a [op] [b] pos) (tB t):=by
 intro pins s σ H Q I hw;refine se (thn (h pins s σ H _ I hw) λv L h1=>thn h1 λu M h2=>thn h2 λc s3 ⟨x,H1,z,r1,J⟩=>?_) h1;obtain⟨d,rfl,q⟩:=J;cases r1;exact jd ⟨H1,z,q⟩
variable {tA au:TT} {rest:List Expr}
def aFm (t u:TT):TT:=fun σ H Q=>t σ H λc H1=>if c=true then u σ H1 Q else Q false H1
def tOr (t u:TT):TT:=fun σ H Q=>t σ H λc H1=>if c=true then Q true H1 else u σ H1 Q
def aFn (t:TT):TT:=fun σ H Q=>t σ H λc H1=>Q (!c) H1
def aCi (z:PT X a tA):PW X (.BoolOp .And [a] pos) tA:=by
 intro J pins s σ H Q I h;refine isTrue_and (thn (z pins s σ H Q I h) λc L e=>?_);cases c with
 | true=>exact isTrue_and_nil e
 | false=>exact e
def zQ (z:PT X a tA):PW X (.BoolOp .Or [a] pos) tA:=by
 intro J pins s σ H Q I h;refine isTrue_or (thn (z pins s σ H Q I h) λc L e=>?_);cases c with
 | false=>exact isTrue_or_nil e
 | true=>exact e
def aDs (L:PT X a tA) (M:PW X (.BoolOp .And (b :: rest) pos) au):PW X (.BoolOp .And (a :: b :: rest) pos) (aFm tA au):=by
 intro U pins s σ H Q I h;refine isTrue_and (thn (L pins s σ H _ I h) λc Y ⟨H1,z,J⟩=>?_);cases c with
 | true=>exact M U pins Y σ H1 Q z J
 | false=>exact⟨H1,z,J⟩
def X8 (L:PT X a tA) (M:PW X (.BoolOp .Or (b :: rest) pos) au):PW X (.BoolOp .Or (a :: b :: rest) pos) (tOr tA au):=by
 intro U pins s σ H Q I h;refine isTrue_or (thn (L pins s σ H _ I h) λc Y ⟨H1,z,J⟩=>?_);cases c with
 | true=>exact⟨H1,z,J⟩
 | false=>exact M U pins Y σ H1 Q z J
def uH (z:PT X a tA):PT X (.UnaryOp .Not a pos) (aFn tA):=by
 intro pins s σ H Q I h;exact isTrue_not (z pins s σ H (λc H1=>Q (!c) H1) I h)
inductive X9 (tb:TE) (σ:St) (Q:VK) (x:V) (H1:Hp):Prop
 | mk (c:_) (h0_:x=.bl c) (h1_:if c=true then tb σ H1 Q else Q (.bl false) H1):X9 tb σ Q x H1
def aEo (ta tb:TE):TE:=fun σ H Q=>ta σ H λx H1=>X9 tb σ Q x H1
inductive Y0 (Q:VK) (x:V) (H1:Hp):Prop
 | mk (c:_) (h0_:x=.bl c) (h1_:Q (.bl (!c)) H1):Y0 Q x H1
def aEp (ta:TE):TE:=fun σ H Q=>ta σ H λx H1=>Y0 Q x H1
def aA4 {op} {t:TE} (h:PE X a t):PE X (.BoolOp op [a] pos) t:=λpins s σ H Q I hw=>BoolOp_one (h pins s σ H Q I hw)
def Q4 (L:PE X a ta) (M:PE X (.BoolOp .And (b :: rest) pos) tb):PE X (.BoolOp .And (a :: b :: rest) pos) (aEo ta tb):=by
 intro pins s σ H Q I h;refine BoolOp_and (thn (L pins s σ H _ I h) λv U ⟨x,H1,J,r1,z⟩=>?_);obtain⟨c,rfl,z⟩:=z;cases r1;refine jd ?_;cases c with
 | true=>exact M pins U σ H1 Q J z
 | false=>exact⟨.bl false,H1,J,rfl,z⟩
def aDt (J:PE X a ta):PE X (.UnaryOp .Not a pos) (aEp ta):=by
 intro pins s σ H Q I h;refine UnaryOp_ (thn (J pins s σ H _ I h) λv M ⟨x,H1,L,r1,z⟩=>?_);obtain⟨c,rfl,z⟩:=z;cases r1;exact not_of (jd ⟨.bl (!c),H1,L,rfl,z⟩)
def tIf (t:TT) (ta tb:TE):TE:=fun σ H Q=>t σ H λc H1=>if c=true then ta σ H1 Q else tb σ H1 Q
def uI {c:Expr} (M:PT X c tA) (U:PE X a ta) (Y:PE X b tb):PE X (.IfExp c a b pos) (tIf tA ta tb):=by
 intro pins s σ H Q I h;refine wpAny_IfExp (thn (M pins s σ H _ I h) λd z ⟨H1,J,L⟩=>?_);cases d with
 | true=>exact U pins z σ H1 Q J L
 | false=>exact Y pins z σ H1 Q J L
end
def SqL (K:PySem.W.Frag) (H:Hp) (a:Addr) (xs:List V):Prop :=
 Rd H a (.lst xs) \/
  ∃ (o:Obj) (its:Array Value) (n:Nat),K.lookup a=some o/\o.cls=.type "list"/\o.dict=none/\o.data=.seq its n/\its.size<=sizeLine/\Vals xs its.toList
def SqT (K:PySem.W.Frag) (H:Hp) (a:Addr) (xs:List V):Prop :=
 Rd H a (.tup xs) \/
  ∃ (o:Obj) (its:Array Value) (n:Nat),K.lookup a=some o/\o.cls=.type "tuple"/\o.data=.seq its n/\its.size<=sizeLine/\Vals xs its.toList
def aFo:Value->Option V
 | .none=>some .non
 | .bool b=>some (.bl b)
 | .int i _=>some (.int i)
 | .str x _=>some (.str x)
 | .bytes b _=>some (.byt b)
 | .float b _=>some (.flt b)
 | .ref a=>some (.ref a)
 | .type n=>some (.ty n)
 | _=>none
def RelV.abs {x:V} {u:Value} (r:RelV x u):aFo u=some x:=by
 cases x with
 | non=>cases r;rfl
 | bl _=>cases r;rfl
 | int _=>obtain⟨t,rfl⟩:=r;rfl
 | str _=>obtain⟨t,rfl⟩:=r;rfl
 | byt _=>obtain⟨t,rfl⟩:=r;rfl
 | flt _=>obtain⟨t,rfl⟩:=r;rfl
 | ref _=>cases r;rfl
 | ty _=>cases r;rfl
def RelV.inj {x y:V} {u:Value} (r:RelV x u) (q:RelV y u):x=y:=gu (r.abs.symm.trans q.abs)
def Vals.inj:∀ {xs ys:List V} {us:List Value},Vals xs us->Vals ys us->xs=ys
 | _,_,_,.nil,.nil=>rfl
 | _,_,_,.cons r t,.cons z t'=>by rw[r.inj z,Vals.inj t t']
section
variable {X:Cx} {pins:List (Addr×Obj)} {σ:St} {H:Hp} {s:Shared} {a:Addr} {xs ys:List V}
def SqL.of {K:PySem.W.Frag} (h:H a=some (.lst xs)):SqL K H a xs:=.inl (.inl h)
def SqT.of {K:PySem.W.Frag} (h:H a=some (.tup xs)):SqT K H a xs:=.inl (.inl h)
def Inv.list (I:Inv X pins σ H s) (h:SqL X.K H a xs):∃ its:List Value,Vals xs its/\PlainL s.heap a its.toArray/\xs.length<=sizeLine:=by
 rcases h with h | ⟨o,its,n,J,L,hd,hs,M,r⟩
 .obtain⟨z,its,n,r,e⟩:=h.ok I.hok;exact⟨its,r,⟨_,n,e,rfl,rfl,rfl⟩,z⟩
 .refine⟨its.toList,r,⟨o,n,I.kIn a o J,L,hd,by simpa using hs⟩,?_⟩;have e:=r.length;simp only[ig]at e
  lia
def Inv.tuple (I:Inv X pins σ H s) (h:SqT X.K H a xs):∃ its:List Value,Vals xs its/\IsTup s.heap a its.toArray/\xs.length<=sizeLine:=by
 rcases h with h | ⟨o,its,n,J,L,hs,M,r⟩
 .obtain⟨z,its,r,p⟩:=h.ok I.hok;exact⟨its,r,p,z⟩
 .refine⟨its.toList,r,⟨o,I.kIn a o J,L,n,by simpa using hs⟩,?_⟩;have e:=r.length;simp only[ig]at e
  lia
def Inv.list_inj (I:Inv X pins σ H s) (h:SqL X.K H a xs) (h':SqL X.K H a ys):xs=ys:=by
 obtain⟨its,r,⟨o,n,e,_,_,d⟩,_⟩:=I.list h;obtain⟨its',J,⟨o',M,z,_,_,d'⟩,_⟩:=I.list h';rw[e]at z;cases z;rw[d]at d'
 injection d' with L _
 have:its=its':=by simpa using congrArg Array.toList L
 subst this;exact r.inj J
def Inv.tuple_inj (I:Inv X pins σ H s) (h:SqT X.K H a xs) (h':SqT X.K H a ys):xs=ys:=by
 obtain⟨its,r,⟨o,e,_,n,d⟩,_⟩:=I.tuple h;obtain⟨its',J,⟨o',z,_,M,d'⟩,_⟩:=I.tuple h';rw[e]at z;cases z;rw[d]at d'
 injection d' with L _
 have:its=its':=by simpa using congrArg Array.toList L
 subst this;exact r.inj J
end
abbrev Cx.wish (X:Cx) (E:Value->Shared->Prop):Cx:={ X with xe:=E }
abbrev Cx.nox (X:Cx):Cx:=X.wish λ_ _=>False
def Cx.Ok.wish {X:Cx} (ok:X.Ok) (E:Value->Shared->Prop):(X.wish E).Ok :=
 ⟨ok.mod,ok.kind,ok.glob,ok.blt,ok.above,ok.inj,ok.has,ok.cab,ok.hd,ok.frames,ok.stk,ok.exf,ok.bs,ok.bsz,ok.noex,ok.exfs,ok.funs,ok.frf⟩
def Cx.Ok.unwish {X:Cx} {E:Value->Shared->Prop} (ok:(X.wish E).Ok):X.Ok :=
 ⟨ok.mod,ok.kind,ok.glob,ok.blt,ok.above,ok.inj,ok.has,ok.cab,ok.hd,ok.frames,ok.stk,ok.exf,ok.bs,ok.bsz,ok.noex,ok.exfs,ok.funs,ok.frf⟩
section
variable {X:Cx} {pins:List (Addr×Obj)} {σ:St} {H:Hp} {s:Shared} {E:Value->Shared->Prop}
def Inv.wish (I:Inv X pins σ H s) (E:Value->Shared->Prop):Inv (X.wish E) pins σ H s:=⟨I.ok.wish E,I.os,I.bare,I.base,I.loc,I.cell,I.free,I.freeC,I.pin,I.hok,I.len⟩
def Inv.unwish (I:Inv (X.wish E) pins σ H s):Inv X pins σ H s:=⟨I.ok.unwish,I.os,I.bare,I.base,I.loc,I.cell,I.free,I.freeC,I.pin,I.hok,I.len⟩
def SP.unwish {D:iX} {f:Flow} {s':Shared} (h:SP (X.wish E) pins D f s'):SP X pins D f s':=by
 cases f with
 | next=>obtain⟨z,H',I,q⟩:=h;exact⟨z,H',I.unwish,q⟩
 | brk=>obtain⟨z,H',I,q⟩:=h;exact⟨z,H',I.unwish,q⟩
 | cont=>obtain⟨z,H',I,q⟩:=h;exact⟨z,H',I.unwish,q⟩
 | ret u=>obtain⟨v,z,H',I,r,q⟩:=h;exact⟨v,z,H',I.unwish,r,q⟩
def PSs.nox {st:List Stmt} {t:TS} (h:PSs X.nox st t):PSs X st t:=λpins s σ H D I hw =>
 ew (h pins s σ H D (I.wish _) hw) (λ_ _ q=>q.unwish) λ_ _ z=>False.elim z
end
section
variable {X:Cx} {st:Stmt} {rest:List Stmt} {t u:TS} {e:Expr} {te:TE} {pos:Pos}
def aEq:TS:=λD σ H=>D.nx σ H
def aCj (t u:TS):TS:=λD σ H=>t { D with nx:=u D } σ H
def aY:PSs X [] aEq:=λ_ _ σ H _ I h=>lm ⟨σ,H,I,h⟩
def aI (h1:PS X st t) (h2:PSs X rest u):PSs X (st :: rest) (aCj t u):=by
 intro pins s σ H D I h;refine mh (thn (h1 pins s σ H { D with nx:=u D } I h) λf J q=>?_);cases f with
 | next =>
  obtain⟨z,H',L,q⟩:=q;exact h2 pins J z H' D L q
 | ret v=>exact q
 | brk=>exact q
 | cont=>exact q
def aJ (h1:PS X st t):PSs X [st] t:=by
 intro pins s σ H D I h;refine mh (thn (h1 pins s σ H D I h) λf z q=>?_);cases f with
 | next=>exact lm q
 | ret v=>exact q
 | brk=>exact q
 | cont=>exact q
def Inv.quiet {pins:List (Addr×Obj)} {σ:St} {H:Hp} {s:Shared} (I:Inv X pins σ H s):interactive X.env=false:=by simp[interactive,I.ok.kind]
def aEr (te:TE):TS:=λD σ H=>te σ H λ_ H1=>D.nx σ H1
def aN (he:PE X e te) (hs:swapsWith e none pos.line X.env=pure false:=by rfl):PS X (.Expr e pos) (aEr te):=by
 intro pins s σ H D I h;exact wpAny_Expr_any (thn (he pins s σ H _ I h) λv L ⟨x,H1,z,r1,J⟩=>⟨σ,H1,z,J⟩) I.quiet hs
def aFp (te:TE):TS:=λD σ H=>te σ H D.rt
def bO (he:PE X e te):PS X (.Return (some e) pos) (aFp te):=by
 intro pins s σ H D I h;exact wpAny_Return_some (thn (he pins s σ H _ I h) λv L ⟨x,H1,z,r1,J⟩=>⟨x,σ,H1,z,r1,J⟩)
def aFq (c:TT) (t u:TS):TS:=λD σ H=>c σ H λb H1=>if b=true then t D σ H1 else u D σ H1
def bT {c:Expr} {a b:List Stmt} {tc:TT} (M:PT X c tc) (U:PSs X a t) (Y:PSs X b u):PS X (.If c a b pos) (aFq tc t u):=by
 intro pins s σ H D I h;refine wpAny_If (thn (M pins s σ H _ I h) λd z ⟨H1,J,L⟩=>?_);cases d with
 | true=>exact U pins z σ H1 D J L
 | false=>exact Y pins z σ H1 D J L
def aDu:TS:=λ_ _ _=>False
def bG:PS X st aDu:=λ_ _ _ _ _ _ h=>h.elim
end
abbrev TG:=V->St->Hp->(St->Hp->Prop)->Prop
abbrev TGs:=List V->St->Hp->(St->Hp->Prop)->Prop
def PG (X:Cx) (target:Expr) (t:TG):Prop :=
 ∀ (pins:List (Addr×Obj)) (s:Shared) (σ:St) (H:Hp) (v:V) (u:Value) (Q:St->Hp->Prop),Inv X pins σ H s->RelV v u->t v σ H Q ->
  wpAny (model X.prog X.w) X.A (assign target X.env u) (λ_ s'=>∃ z H',Inv X pins z H' s'/\Q z H') X.xe s
def PGs (X:Cx) (ts:List Expr) (t:TGs):Prop :=
 ∀ (pins:List (Addr×Obj)) (s:Shared) (σ:St) (H:Hp) (vs:List V) (us:List Value) (Q:St->Hp->Prop),Inv X pins σ H s->Vals vs us->t vs σ H Q ->
  wpAny (model X.prog X.w) X.A (assignInOrder ((assignEach ts X.env).map (·.2)) us) (λ_ s'=>∃ z H',Inv X pins z H' s'/\Q z H') X.xe s
abbrev TIp:=V->V->Hp->VK->Prop
def PIp (X:Cx) (op:Operator) (t:TIp):Prop :=
 ∀ (pins:List (Addr×Obj)) (s:Shared) (σ:St) (H:Hp) (x y:V) (v u:Value) (Q:VK),Inv X pins σ H s->RelV x v->RelV y u->t x y H Q ->
  wpAny (model X.prog X.w) X.A (inplaceOp op v u) (EP X pins σ Q) X.xe s
section
variable {X:Cx} {pos:Pos}
def rZ (i:Nat):TG:=λv σ H Q=>Q (σ.set i (some v)) H
def aM {i:Nat} {x:Str} (z:X.N.Nodup) (hi:X.N[i]?=some x) (J:Loc X.env.scope x) (L:X.fn x=true\/X.env.scope.names.lookup x=some .local:=by first | exact .inl rfl | exact .inr rfl | assumption):PG X (.Name x pos) (rZ i):=by
 intro pins s σ H v u Q I r h;exact wpAny_assign_Name (uG I z hi J r (λs' M=>⟨_,H,M,h⟩) L)
def aEs:TGs:=λvs σ H Q=>vs=[]/\Q σ H
inductive Y1 (t:TG) (u:TGs) (vs:List V) (σ:St) (H:Hp) (Q:St->Hp->Prop):Prop
 | mk (v:_) (r:_) (h0_:vs=v :: r) (h1_:t v σ H fun σ' H'=>u r σ' H' Q):Y1 t u vs σ H Q
def aA5 (t:TG) (u:TGs):TGs:=λvs σ H Q=>Y1 t u vs σ H Q
def cA:PGs X [] aEs:=by
 intro pins s σ H vs us Q I r h;obtain⟨e,h⟩:=h;subst e;cases r;exact assignInOrder_nil ⟨σ,H,I,h⟩
def aO {e:Expr} {es:List Expr} {t:TG} {u:TGs} (h1:PG X e t) (h2:PGs X es u)
 (hs:(assignEach (e :: es) X.env).map (·.2)=assign e X.env :: (assignEach es X.env).map (·.2):=by rfl):PGs X (e :: es) (aA5 t u):=by
 intro pins s σ H vs us Q I r h;obtain⟨v,vr,J,h⟩:=h;subst J;cases r with
 | cons r L =>
  rw[hs];refine assignInOrder_cons (thn (h1 pins s σ H _ _ _ I r h) λ_ M ⟨z,H1,U,Y⟩=>?_);exact h2 pins M z H1 _ _ Q U L Y
inductive aA6 (K:PySem.W.Frag) (n:Nat) (t:TGs) (v:V) (σ:St) (H:Hp) (Q:St->Hp->Prop):Prop
 | mk (a:_) (xs:_) (h0_:v=.ref a) (h1_:SqT K H a xs) (h2_:xs.length=n) (h3_:t xs σ H Q):aA6 K n t v σ H Q
def aCk (K:PySem.W.Frag) (n:Nat) (t:TGs):TG:=λv σ H Q=>aA6 K n t v σ H Q
def eP {es:List Expr} {k:Nat} {t:TGs} {n:Nat} (J:X.calm=true) (h:PGs X es t)
 (L:(assignEach es X.env).length=n:=by rfl) (hst:(assignEach es X.env).findIdx? (·.1)=none:=by rfl):PG X (.Tuple es k pos) (aCk X.K n t):=by
 intro pins s σ H v u Q I r hw;obtain⟨a,xs,M,U,Y,hw⟩:=hw;subst M;cases r;obtain⟨its,z,ht,hz⟩:=I.tuple U;refine assign_Tuple_tuple (I.ok.hd J) ht (by simp[L,<- Y,z.length]) hst λh' hx=>?_;have I1:Inv X pins σ H { s with heap:=h' }:=I.kept (t':=s.toks) λb o e=>hx b o (aGi (aG1 e)) e;exact h pins _ σ H xs _ Q I1 (by simpa using z) hw
def aCl (te:TE) (g:TG):TS:=λD σ H=>te σ H λx H1=>g x σ H1 D.nx
def oA {tg e:Expr} {te:TE} {g:TG} (he:PE X e te) (z:PG X tg g) (hs:swapsWithSole [tg] e pos.line X.env=pure false:=by rfl) (hw:swappedStores [tg] e X.env=pure none:=by rfl)
 (h1:(assignEach [tg] X.env).map (·.2)=[assign tg X.env]:=by rfl):PS X (.Assign [tg] e pos) (aCl te g):=by
 intro pins s σ H D I h;refine wpAny_Assign_stores (thn (he pins s σ H _ I h) λv J ⟨x,H1,L,r1,M⟩=>?_) hs hw;rw[h1];exact thn (z pins J σ H1 x v _ L r1 M) λ_ U q=>q
def aW {i:Nat} {x:Str} {e:Expr} {te:TE} {pos':Pos} (z:X.N.Nodup) (hi:X.N[i]?=some x) (J:Loc X.env.scope x) (he:PE X e te) (hs:swapsWith e (some (.Name x pos')) pos.line X.env=pure false:=by rfl) (L:X.fn x=true\/X.env.scope.names.lookup x=some .local:=by first | exact .inl rfl | exact .inr rfl | assumption) :
 PS X (.Assign [.Name x pos'] e pos) (aCl te (rZ i)):=by
 intro pins s σ H D I h;refine wpAny_Assign_Name (thn (he pins s σ H _ I h) λv s1 ⟨y,H1,M,r1,U⟩=>?_) hs;exact uG M z hi J r1 (λs2 Y=>⟨_,H1,Y,U⟩) L
inductive aA7 (i:Nat) (te:TE) (ti:TIp) (D:iX) (σ:St) (H:Hp):Prop
 | mk (x:_) (h0_:σ[i]?=some (some x)) (h1_:te σ H λy H1=>ti x y H1 λz H2=>D.nx (σ.set i (some z)) H2):aA7 i te ti D σ H
def aFr (i:Nat) (te:TE) (z:TIp):TS:=λD σ H=>aA7 i te z D σ H
def uJ {i:Nat} {x:Str} {e:Expr} {te:TE} {op:Operator} {ti:TIp} {pos':Pos} (hN:X.N.Nodup) (hi:X.N[i]?=some x) (U:Loc X.env.scope x) (he:PE X e te) (ho:PIp X op ti) (hf:X.fn x=true\/X.env.scope.names.lookup x=some .local:=by first | exact .inl rfl | exact .inr rfl | assumption) :
 PS X (.AugAssign (.Name x pos') op e pos) (aFr i te ti):=by
 intro pins s σ H D I h;obtain⟨v,e1,h⟩:=h;obtain⟨m,hn,hl⟩:=I.loc;have Y:Vis X.env.scope x:=by rcases U with k | k;exact .inl k;exact .inr (.inl k)
 obtain⟨u,r,l⟩:=hl i x v hi e1 Y;refine wpAny_AugAssign_Name ?_;have go:wpAny (model X.prog X.w) X.A (eval e X.env) (λw L=>wpAny (model X.prog X.w) X.A (inplaceOp op u w) (λr M=>wpAny (model X.prog X.w) X.A (storeName X.env x r) (λ_=>SP X pins D .next) X.xe M) X.xe L) X.xe s:=by
  refine thn (he pins s σ H _ I h) λw s1 ⟨y,H1,I1,r1,q1⟩=>?_;refine thn (ho pins s1 σ H1 v y u w _ I1 r r1 q1) λz s2 ⟨zv,H2,I2,r2,q2⟩=>?_;exact uG I2 hN hi U r2 (λs3 I3=>⟨_,H2,I3,q2⟩) hf
 rcases l with ⟨hk,hm⟩ | ⟨hk,c,hc,J⟩
 .exact ot I.ok.kind hk hn hm go
 .rcases hk with hk | hk
  .exact pk I.ok.kind hk hc J go
  .rcases U with k | k
   .have:X.env.scope.names.lookup x=some .free:=hk;rw[k]at this;cases this
   .have:X.env.scope.names.lookup x=some .free:=hk;rw[k]at this;cases this
def ipI (f:Int->Int->Int):TIp:=λx y H Q=>∃ i j,x=.int i/\y=.int j/\Q (.int (f i j)) H
def Q5:PIp X .Add (ipI λi j=>i+j):=by
 intro pins s σ H x y v u Q I r1 r2 h;obtain⟨i,j,z,J,q⟩:=h;subst z;subst J;obtain⟨t,rfl⟩:=r1;obtain⟨t',rfl⟩:=r2;exact iadd_int ⟨.int _,H,I.tok _,⟨_,rfl⟩,q⟩
def aA8:PIp X .Sub (ipI λi j=>i - j):=by
 intro pins s σ H x y v u Q I r1 r2 h;obtain⟨i,j,z,J,q⟩:=h;subst z;subst J;obtain⟨t,rfl⟩:=r1;obtain⟨t',rfl⟩:=r2;exact isub_int ⟨.int _,H,I.tok _,⟨_,rfl⟩,q⟩
def aA9 (c:TT) (tb:TS):TS:=λD σ H=>∃ W:Nat->St->Hp->Prop,(∃ m,W m σ H)/\∀ m σ H,W m σ H ->
 c σ H λb H1=>if b=true then ∃ N:St->Hp->Prop,(∀ z H',N z H'->∃ J,J<m/\W J z H')/\tb { D with nx:=N,ct:=N,bk:=D.nx } σ H1 else D.nx σ H1
def uK {c:Expr} {body:List Stmt} {tc:TT} {tb:TS} (hp:PassesOwn (model X.prog X.w) X.A X.env X.xe) (hc:PT X c tc) (hb:PSs X body tb):PS X (.While c body [] pos) (aA9 tc tb):=by
 intro pins s σ H D I h;obtain⟨W,⟨m0,w0⟩,turn⟩:=h;refine wpAny_While (codeAny_whileLoop (λn s'=>∃ L H',Inv X pins L H' s'/\W n L H') ?_ m0 ⟨σ,H,I,w0⟩);rintro n s1 ⟨J,H1,I1,w1⟩;refine kf hp (thn (hc pins s1 J H1 _ I1 (turn n J H1 w1)) λb s2 ⟨H2,I2,U⟩=>?_);cases b with
 | true =>
  obtain⟨N,hN,U⟩:=U;rw[eH rfl];refine kf hp (thn (hb pins s2 J H2 _ I2 U) λf s3 Y=>?_);cases f with
  | next =>
   obtain⟨z,M,I3,n3⟩:=Y;obtain⟨m',hm,w3⟩:=hN z M n3;exact⟨m',hm,z,M,I3,w3⟩
  | cont =>
   obtain⟨z,M,I3,n3⟩:=Y;obtain⟨m',hm,w3⟩:=hN z M n3;exact⟨m',hm,z,M,I3,w3⟩
  | brk=>exact Y
  | ret v=>exact Y
 | false =>
  rw[dt aG8];exact lm ⟨J,H2,I2,U⟩
end
structure It where
 go:Nat->Hp->Prop
 yld:Nat->Hp->V->Hp->Prop
 stop:Nat->Hp->Prop
def lB (X:Cx) (pins:List (Addr×Obj)) (H:Hp) (b:Addr):Prop :=
 H b=none/\b≠X.env.locals/\b∉X.fs/\(b∈X.ex\/X.s₀.heap.objs.size<=b)/\(∀ x c,X.env.cells.lookup x=some c->c≠b)/\∀ p∈X.pn++pins,p.1≠b
def Inv.fpOk {X:Cx} {pins:List (Addr×Obj)} {σ:St} {H H':Hp} {s:Shared} {b:Addr} (I:Inv X pins σ H s) (J:s.heap.objs.size<=b) (L:H' b=none):lB X pins H' b:=by
 refine⟨L,aGl (aGc I.lt J),I.nofs J,.inr (g0 I.sz J),λx c e z=>?_,λp M z=>?_⟩
 .obtain⟨v,q⟩:=I.cell x c e;exact absurd (aGc q.lt (by rw[z];exact J)) (ie _)
 .exact absurd (aGc (aG1 (I.pin p M).1) (by rw[z];exact J)) (ie _)
structure uL (P:Program) (w:World) (K:PySem.W.Frag) (tg:Expr) (J:It) (fp:List Addr) (it:Addr) (tn:Nat->Heap->Prop):Prop where
 mem:it∈fp
 obj:∀ i h,tn i h->∀ b∈fp,∃ o,h.get? b=some o/\∀ v,o.data≠.cell v
 keep:∀ i h h',tn i h->(∀ b∈fp,∀ o,h.get? b=some o->h'.get? b=some o)->tn i h'
 item:∀ (X:Cx),X.prog=P->X.w=w->X.K=K->X.calm=true->∀ (i:Nat) (pins:List (Addr×Obj)) (s:Shared) (σ:St) (H:Hp) (E:Value->Shared->Prop),Inv X pins σ H s->(∀ b∈fp,lB X pins H b)->tn i s.heap->J.go i H ->
  wpAny (model P w) X.A (pyNext (.ref it)) (λr s1=>∃ u,r=some u /\
   wpAny (model P w) X.A (letOwnedTupleGo tg (.ref it) u) (λ_ s2=>∃ x H',Inv X pins σ H' s2/\RelV x u/\J.yld i H x H'/\tn (i+1) s2.heap/\∀ b∈fp,H' b=none) E s1) E s
 done:∀ (X:Cx),X.prog=P->X.w=w->X.K=K->X.calm=true->∀ (i:Nat) (pins:List (Addr×Obj)) (s:Shared) (σ:St) (H:Hp) (E:Value->Shared->Prop),Inv X pins σ H s->(∀ b∈fp,lB X pins H b)->tn i s.heap->J.stop i H ->
  wpAny (model P w) X.A (pyNext (.ref it)) (λr s1=>r=none/\Inv X pins σ H s1) E s
 self:∀ (A:Around) (i:Nat) (s:Shared) (Q:Value->Shared->Prop) (E:Value->Shared->Prop),tn i s.heap->Q (.ref it) s->wpAny (model P w) A (pyIter (.ref it)) Q E s
abbrev TI:=St->Hp->(It->Hp->Prop)->Prop
def PIE (X:Cx) (pins:List (Addr×Obj)) (σ:St) (tg:Expr) (R:It->Hp->Prop) (z:Value) (L:Shared):Prop :=
 ∃ (it:Addr) (fp:List Addr) (M:Nat->Heap->Prop) (J:It) (H':Hp),z=.ref it/\Inv X pins σ H' L/\uL X.prog X.w X.K tg J fp it M/\M 0 L.heap/\(∀ b∈fp,lB X pins H' b)/\R J H'
def PI (X:Cx) (tg iter:Expr) (wi:TI):Prop :=
 ∀ (pins:List (Addr×Obj)) (s:Shared) (σ:St) (H:Hp) (R:It->Hp->Prop),Inv X pins σ H s->wi σ H R ->
  wpAny (model X.prog X.w) X.A (eval iter X.env) (λv z=>wpAny (model X.prog X.w) X.A (pyIter v) (PIE X pins σ tg R) X.xe z) X.xe s
def G5 {M:Model} {A:Around} {E:Value->Shared->Prop} {s:Shared} {tg:Expr} {it:Addr} {u:Value} {o:Obj} {n:String} {vs:Array Value} {Q:Unit->Shared->Prop} (J:s.heap.get? it=some o) (L:o.cls=.type n) (hd:o.data=.fields vs)
 (U:["enumerate","zip","dict_itemiterator","dict_reverseitemiterator","odict_iterator","itertools.zip_longest","itertools.pairwise"].contains n=false) (z:Q () s):wpAny M A (letOwnedTupleGo tg (.ref it) u) Q E s:=by
 unfold letOwnedTupleGo;cases tg <;> first
  | exact aGU z
  | (cases u <;> first
   | exact aGU z
   | (refine aGT (wpAny_load J ?_)
      rw[L,hd];show wpAny M A (if (["enumerate","zip","dict_itemiterator","dict_reverseitemiterator","odict_iterator","itertools.zip_longest","itertools.pairwise"].contains n && vs[0]? == some (rawInt _))=true then _ else _) Q E s;rw[dt (by intro h;rw[U,ua]at h;cases h)];exact aGU z))
def Itl (K:PySem.W.Frag) (a:Addr):It :=
 ⟨λi H=>∃ xs x,SqL K H a xs/\xs[i]?=some x,λi H x H'=>H'=H/\∀ xs,SqL K H a xs->xs[i]?=some x,λi H=>∃ xs,SqL K H a xs/\xs.length<=i⟩
def Itt (K:PySem.W.Frag) (a:Addr):It :=
 ⟨λi H=>∃ xs x,SqT K H a xs/\xs[i]?=some x,λi H x H'=>H'=H/\∀ xs,SqT K H a xs->xs[i]?=some x,λi H=>∃ xs,SqT K H a xs/\xs.length<=i⟩
def Itr (lo:Int) (n:Nat):It:=⟨λi _=>i<n,λi H x H'=>H'=H/\x=.int (lo+i),λi _=>n<=i⟩
def o9 {P:Program} {w:World} {K:PySem.W.Frag} {tg:Expr} (a it:Addr):uL P w K tg (Itl K a) [it] it (λi h=>h.IsListIter it a i) where
 mem:=by simp
 obj:=λi h st b hb=>by
  have e:b=it:=by simpa using hb
  subst e;obtain⟨o,e,c,d⟩:=st;exact⟨o,e,λv z=>by rw[d]at z;cases z⟩
 keep:=λi h h' st k=>st.at λo e=>k it (by simp) o e
 item:=by
  intro X hP hw hK hc i pins s σ H E I hf st hg;subst hP hw hK;obtain⟨xs,x,hq,hx⟩:=hg;obtain⟨its,rv,p,hz⟩:=I.list hq;obtain⟨u,hu,ru⟩:=rv.get hx;obtain⟨f0,f1,f2,f3,f4,f5⟩:=hf it (by simp);refine ju st p.isList (x:=u) (by simpa using hu) λh' st' sb=>?_;have I1:Inv X pins σ H { s with heap:=h' }:=I.turned (t':=s.toks) (λb o hb e=>(sb.2 b hb).trans e) f0 f1 f3 f4 f5;obtain⟨o,e,c,d⟩:=id st';exact⟨u,rfl,G5 (s:={ s with heap:=h' }) e c d (by decide) ⟨x,H,I1,ru,⟨rfl,λys hy=>by rw[I.list_inj hy hq];exact hx⟩,st',λb hb=>(hf b hb).1⟩⟩
 done:=by
  intro X hP hw hK hc i pins s σ H E I hf st hg;subst hP hw hK;obtain⟨xs,hq,hx⟩:=hg;obtain⟨its,rv,p,hz⟩:=I.list hq;obtain⟨f0,f1,f2,f3,f4,f5⟩:=hf it (by simp);have hl:=rv.length;exact ln (I.ok.hd hc) st p.isList (by simp;lia) λh' eb=>⟨rfl,I.turned (t':=s.toks) (λb o hb e=>eb b o hb e) f0 f1 f3 f4 f5⟩
 self:=λ_ _ _ _ _ st h=>wpAny_pyIter_listiter st h
def Q6 {P:Program} {w:World} {K:PySem.W.Frag} {tg:Expr} (a it:Addr):uL P w K tg (Itt K a) [it] it (λi h=>h.IsTupleIter it a i) where
 mem:=by simp
 obj:=λi h st b hb=>by
  have e:b=it:=by simpa using hb
  subst e;obtain⟨o,e,c,d⟩:=st;exact⟨o,e,λv z=>by rw[d]at z;cases z⟩
 keep:=λi h h' st k=>st.at λo e=>k it (by simp) o e
 item:=by
  intro X hP hw hK hc i pins s σ H E I hf st hg;subst hP hw hK;obtain⟨xs,x,hq,hx⟩:=hg;obtain⟨its,rv,p,hz⟩:=I.tuple hq;obtain⟨u,hu,ru⟩:=rv.get hx;obtain⟨f0,f1,f2,f3,f4,f5⟩:=hf it (by simp);refine wpAny_pyNext_tuple_item st (show s.heap.IsTuple a its.toArray from p) (x:=u) (by simpa using hu) λh' st' sb=>?_;have I1:Inv X pins σ H { s with heap:=h' }:=I.turned (t':=s.toks) (λb o hb e=>(sb.2 b hb).trans e) f0 f1 f3 f4 f5;obtain⟨o,e,c,d⟩:=id st';exact⟨u,rfl,G5 (s:={ s with heap:=h' }) e c d (by decide) ⟨x,H,I1,ru,⟨rfl,λys hy=>by rw[I.tuple_inj hy hq];exact hx⟩,st',λb hb=>(hf b hb).1⟩⟩
 done:=by
  intro X hP hw hK hc i pins s σ H E I hf st hg;subst hP hw hK;obtain⟨xs,hq,hx⟩:=hg;obtain⟨its,rv,p,hz⟩:=I.tuple hq;obtain⟨f0,f1,f2,f3,f4,f5⟩:=hf it (by simp);have hl:=rv.length;exact wpAny_pyNext_tuple_end (I.ok.hd hc) st (show s.heap.IsTuple a its.toArray from p) (by simp;lia) λh' eb=>⟨rfl,I.turned (t':=s.toks) (λb o hb e=>eb b o hb e) f0 f1 f3 f4 f5⟩
 self:=λ_ _ _ _ _ st h=>wpAny_pyIter_tupleiter st h
def Q7 {P:Program} {w:World} {K:PySem.W.Frag} {tg:Expr} (it:Addr) (lo:Int) (n:Nat):uL P w K tg (Itr lo n) [it] it (λi h=>IsRangeIter h it (lo+(i:Nat) * 1) ((n:Int) - (i:Nat)) 1) where
 mem:=by simp
 obj:=λi h st b hb=>by
  have e:b=it:=by simpa using hb
  subst e;exact⟨_,st,λv z=>by
   have z':Data.fields _=Data.cell v:=z;cases z'⟩
 keep:=λi h h' st k=>k it (by simp) _ st
 item:=by
  intro X hP hw hK hc i pins s σ H E I hf st hg;subst hP hw hK;obtain⟨f0,f1,f2,f3,f4,f5⟩:=hf it (by simp);have W:=Walks.range (prog:=X.prog) (w:=X.w) (I.ok.hd hc) it lo 1 n;refine W.item i s _ _ hg st λv h' tk hv st' kk=>?_;obtain⟨t,rfl⟩:=hv;have I1:Inv X pins σ H { s with heap:=h',toks:=tk }:=I.turned (λb o hb e=>kk b o (by simpa using hb) e) f0 f1 f3 f4 f5;refine⟨_,rfl,G5 (s:={ s with heap:=h',toks:=tk }) (n:="range_iterator") st' rfl rfl (by decide) ⟨.int (lo+i),H,I1,⟨t,?_⟩,⟨rfl,rfl⟩,st',λb hb=>(hf b hb).1⟩⟩;rw[ue]
 done:=by
  intro X hP hw hK hc i pins s σ H E I hf st hg;subst hP hw hK;obtain⟨f0,f1,f2,f3,f4,f5⟩:=hf it (by simp);exact wpAny_pyNext_range_end (I.ok.hd hc) st (by have:n<=i:=hg;lia) λh' eb=>⟨rfl,I.turned (t':=s.toks) (λb o hb e=>eb b o hb e) f0 f1 f3 f4 f5⟩
 self:=λ_ _ _ _ _ st h=>wpAny_pyIter_rangeiter st h
section
variable {X:Cx} {tg:Expr}
def aAa (K:PySem.W.Frag) (tl:TE):TI:=fun σ H R=>tl σ H λx H1=>∃ a,x=.ref a/\(∃ xs,SqL K H1 a xs)/\R (Itl K a) H1
def aEt (K:PySem.W.Frag) (tl:TE):TI:=fun σ H R=>tl σ H λx H1=>∃ a,x=.ref a/\(∃ xs,SqT K H1 a xs)/\R (Itt K a) H1
def eM {l:Expr} {tl:TE} (L:PE X l tl):PI X tg l (aAa X.K tl):=by
 intro pins s σ H R I h;refine thn (L pins s σ H _ I h) λv z ⟨x,H1,J,r1,M⟩=>?_;obtain⟨a,e,⟨xs,U⟩,q⟩:=M;subst e;cases r1;obtain⟨its,rv,p,hz⟩:=J.list U;refine ly p.isList ?_;refine⟨z.heap.objs.size,[z.heap.objs.size],_,_,H1,rfl,J.kept (t':=z.toks) λb o e=>aGW _ e,o9 a _,⟨_,aG2 _ rfl,rfl,rfl⟩,λb Y=>?_,q⟩;have e:b=z.heap.objs.size:=by simpa using Y
 subst e;exact J.fpOk (ah _) (J.hok.fresh (ah _))
def aAb {l:Expr} {tl:TE} (L:PE X l tl):PI X tg l (aEt X.K tl):=by
 intro pins s σ H R I h;refine thn (L pins s σ H _ I h) λv z ⟨x,H1,J,r1,M⟩=>?_;obtain⟨a,e,⟨xs,U⟩,q⟩:=M;subst e;cases r1;obtain⟨its,rv,p,hz⟩:=J.tuple U;refine wpAny_pyIter_tuple (show z.heap.IsTuple a its.toArray from p) ?_;refine⟨z.heap.objs.size,[z.heap.objs.size],_,_,H1,rfl,J.kept (t':=z.toks) λb o e=>aGW _ e,Q6 a _,⟨_,aG2 _ rfl,rfl,rfl⟩,λb Y=>?_,q⟩;have e:b=z.heap.objs.size:=by simpa using Y
 subst e;exact J.fpOk (ah _) (J.hok.fresh (ah _))
def G6 {pins:List (Addr×Obj)} {σ:St} {H:Hp} {s:Shared} {R:It->Hp->Prop} {E:Value->Shared->Prop} {lo hi:Int} {t u v:Tok} {tk:Nat} (I:Inv X pins σ H s) (h1:-(2 ^ 62)<=lo) (h2:lo<2 ^ 62) (h3:-(2 ^ 62)<=hi) (h4:hi<2 ^ 62)
 (q:R (Itr lo (hi - lo).toNat) H):wpAny (model X.prog X.w) X.A (pyIter (.ref s.heap.objs.size)) (PIE X pins σ tg R) E { s with heap:=s.heap.push { cls:=.type "range",data:=.fields #[.int lo t,.int hi u,.int 1 v] },toks:=tk }:=by
 refine wpAny_pyIter_range (IsRange.new ..) (small_one h1 h2 h3 h4) ?_;have z:Inv X pins σ H { s with heap:=s.heap.push { cls:=.type "range",data:=.fields #[.int lo t,.int hi u,.int 1 v] },toks:=tk }:=I.kept λb o e=>aGW _ e;refine⟨(s.heap.push { cls:=.type "range",data:=.fields #[.int lo t,.int hi u,.int 1 v] }).objs.size,[(s.heap.push { cls:=.type "range",data:=.fields #[.int lo t,.int hi u,.int 1 v] }).objs.size],_,_,H,rfl,
  z.kept (t':=tk) λb o e=>aGW _ e,Q7 _ lo (hi - lo).toNat,?_,λb J=>?_,q⟩
 .have L:lo+((0:Nat):Int) * 1=lo:=by simp
  have M:(((hi - lo).toNat:Nat):Int) - ((0:Nat):Int)=Builtin.Range.rangeSize lo hi 1:=by rw[rangeSize_one];split <;> lia
  show IsRangeIter _ _ (lo+((0:Nat):Int) * 1) ((((hi - lo).toNat:Nat):Int) - ((0:Nat):Int)) 1;rw[L,M];exact aG2 _ rfl
 .have e:b=(s.heap.push { cls:=.type "range",data:=.fields #[.int lo t,.int hi u,.int 1 v] }).objs.size:=by simpa using J
  subst e;exact z.fpOk (ah _) (z.hok.fresh (ah _))
def aEu (ta:TA):TI:=fun σ H R=>ta σ H λvs H1=>∃ j:Int,vs=[.int j]/\-(2 ^ 62)<=j/\j<2 ^ 62/\R (Itr 0 j.toNat) H1
def aEv (ta:TA):TI:=fun σ H R=>ta σ H λvs H1=>∃ i j:Int,vs=[.int i,.int j]/\(-(2 ^ 62)<=i/\i<2 ^ 62/\-(2 ^ 62)<=j/\j<2 ^ 62)/\R (Itr i (j - i).toNat) H1
def gU {a:Expr} {ta:TA} {p pos:Pos} (J:Gl X "range") (L:X.mg "range"=none) (M:PA X [a] ta) (hs:starEach [a] X.env=[(false,eval a X.env)]:=by rfl):PI X tg (.Call (.Name "range" p) [a] [] pos) (aEu ta):=by
 intro pins s σ H R I h;refine Call_ (jX I J L boot_range (iy (thn (M pos pins s σ H _ I h) λus s1 ⟨vs,H1,U,r1,z⟩=>?_) hs rfl));obtain⟨j,e,z,Y,q⟩:=z;subst e;cases r1 with
 | cons r rr =>
  cases rr;obtain⟨t,rfl⟩:=r;exact call_range_1 (G6 U (by lia) (by lia) z Y (by simpa using q))
def qR {a b:Expr} {ta:TA} {p pos:Pos} (M:Gl X "range") (U:X.mg "range"=none) (Y:PA X [a,b] ta) (hs:starEach [a,b] X.env=[(false,eval a X.env),(false,eval b X.env)]:=by rfl) (z:starEach [b] X.env=[(false,eval b X.env)]:=by rfl) :
 PI X tg (.Call (.Name "range" p) [a,b] [] pos) (aEv ta):=by
 intro pins s σ H R I h;refine Call_ (jX I M U boot_range (iy (thn (Y pos pins s σ H _ I h) λus s1 ⟨vs,H1,I1,r1,J⟩=>?_) (by rw[hs,z]) (by rw[z];rfl)));obtain⟨i,j,e,⟨J,q2,q3,q4⟩,q⟩:=J;subst e;cases r1 with
 | cons r L =>
  cases L with
  | cons r' L =>
   cases L;obtain⟨t,rfl⟩:=r;obtain⟨t',rfl⟩:=r';exact call_range_2 (G6 I1 J q2 q3 q4 q)
def aEw (wi:TI) (g:TG) (tb:TS):TS:=λD σ H=>wi σ H λJ H1=>∃ W:Nat->Nat->St->Hp->Prop,(∃ m,W 0 m σ H1)/\∀ i m σ H,W i m σ H ->
 (J.stop i H/\D.nx σ H)\/(J.go i H/\∃ N:St->Hp->Prop,(∀ z H',N z H'->∃ M,M<m/\W (i+1) M z H')/\∀ x H',J.yld i H x H'->g x σ H' λL H2=>tb { D with nx:=N,ct:=N,bk:=D.nx } L H2)
def cU (fp:List Addr) (h:Heap):List (Addr×Obj):=fp.filterMap λb=>(h.get? b).map λo=>(b,o)
def cH {fp:List Addr} {h:Heap} {b:Addr} {o:Obj} (z:b∈fp) (e:h.get? b=some o):(b,o)∈cU fp h:=List.mem_filterMap.mpr ⟨b,z,by rw[e];rfl⟩
def jK {fp:List Addr} {h:Heap} {p:Addr×Obj} (z:p∈cU fp h):p.1∈fp/\h.get? p.1=some p.2:=by
 obtain⟨b,J,e⟩:=List.mem_filterMap.mp z;cases q:h.get? b with
 | none=>rw[q]at e;cases e
 | some o =>
  rw[q]at e;have L:(b,o)=p:=gu e;subst L;exact⟨J,q⟩
def Inv.pinned {pins:List (Addr×Obj)} {σ:St} {H:Hp} {s:Shared} {fp:List Addr} (I:Inv X pins σ H s) (M:∀ b∈fp,lB X pins H b) (U:∀ b∈fp,∃ o,s.heap.get? b=some o/\∀ v,o.data≠.cell v):Inv X (pins++cU fp s.heap) σ H s :=
 I.pins_of λp Y=>(aGy.mp Y).elim (λz=>I.pin p (aGZ _ z)) λz=>by
  obtain⟨J,e⟩:=jK z;obtain⟨f0,f1,f2,_⟩:=M p.1 J;obtain⟨o,L,d⟩:=U p.1 J;rw[e]at L;cases L;exact⟨e,f0,f1,f2,d⟩
def Inv.unpinned {pins pl:List (Addr×Obj)} {σ:St} {H:Hp} {s:Shared} (I:Inv X (pins++pl) σ H s):Inv X pins σ H s:=I.pins_of λp z=>I.pin p (aGZ _ (aGe _ z))
def dZ {iter:Expr} {body:List Stmt} {wi:TI} {g:TG} {tb:TS} {pos:Pos} (hp:PassesOwn (model X.prog X.w) X.A X.env X.xe) (hc:X.calm=true) (hi:PI X tg iter wi) (hg:PG X tg g) (L:PSs X body tb)
 (hs:∀ x,foldedSetIterable iter X.env x=pure x:=by intro _;rfl):PS X (.For tg iter body [] pos) (aEw wi g tb):=by
 intro pins s σ H D I h;refine wpAny_For (thn (hi pins s σ H _ I h) λv s1 h1=>thn h1 λbc s2 h2=>?_) hs;obtain⟨it,fp,tn,J,H2,e,I2,T,az,f2,W,⟨m0,w0⟩,turn⟩:=h2;subst e;have M:∀ {H':Hp},(∀ b∈fp,H' b=none)->∀ b∈fp,lB X pins H' b:=λhn b L=>⟨hn b L,(f2 b L).2⟩;refine codeAny_forLoop_any (λn s'=>∃ i U H',Inv X pins U H' s'/\tn i s'.heap/\(∀ b∈fp,H' b=none)/\W i n U H') ?_ m0 ⟨0,σ,H2,I2,az,λb L=>(f2 b L).1,w0⟩;rintro n s3 ⟨i,Y,H3,I3,ax,ay,w3⟩;rcases turn i n Y H3 w3 with ⟨stop,qn⟩ | ⟨go,N,hN,step⟩
 .refine kf hp (thn (T.done X rfl rfl rfl hc i pins s3 Y H3 X.xe I3 (M ay) ax stop) λr s4 ⟨hr,I4⟩=>?_);subst hr;exact lm ⟨Y,H3,I4,qn⟩
 .refine kf hp (thn (T.item X rfl rfl rfl hc i pins s3 Y H3 X.xe I3 (M ay) ax go) λr s4 ⟨u,hr,h4⟩=>?_);subst hr;refine kf hp (thn h4 λ_ s5 ⟨x,H5,I5,r5,y5,aw,a_⟩=>?_);have ba:=I5.pinned (M a_) (T.obj _ _ aw);refine kf hp (thn (hg _ s5 Y H5 x u _ ba r5 (step x H5 y5)) λ_ s6 ⟨bb,H6,I6,q6⟩=>?_);refine kf hp (thn (L _ s6 bb H6 _ I6 q6) λf s7 q7=>?_);have again:∀ {z:St} {H7:Hp},Inv X (pins++cU fp s5.heap) z H7 s7->N z H7->∃ m,m<n/\∃ i U H',Inv X pins U H' s7/\tn i s7.heap/\(∀ b∈fp,H' b=none)/\W i m U H':=λ{z H7} I7 n7=>by
   obtain⟨m',hm,w7⟩:=hN z H7 n7;refine⟨m',hm,i+1,z,H7,I7.unpinned,T.keep _ _ _ aw λb L o e=>(I7.pin (b,o) (aGZ _ (aGZ _ (cH L e)))).1,λb L=>?_,w7⟩;obtain⟨o,e,d⟩:=T.obj _ _ aw b L;exact(I7.pin (b,o) (aGZ _ (aGZ _ (cH L e)))).2.1
  cases f with
  | next=>obtain⟨z,H7,I7,n7⟩:=q7;exact again I7 n7
  | cont=>obtain⟨z,H7,I7,n7⟩:=q7;exact again I7 n7
  | brk=>obtain⟨z,H7,I7,q7⟩:=q7;exact⟨z,H7,I7.unpinned,q7⟩
  | ret v=>obtain⟨x7,z,H7,I7,r7,q7⟩:=q7;exact⟨x7,z,H7,I7.unpinned,r7,q7⟩
end
def jL {K:PySem.W.Frag} {a:Addr} {xs:List V} {g:TG} {tb:TS} {D:iX} {σ:St} {H:Hp} (Pv:Nat->St->Hp->Prop) (h0:Pv 0 σ H) (U:∀ i σ H,i<=xs.length->Pv i σ H->SqL K H a xs)
 (hs:∀ i x σ H,xs[i]?=some x->Pv i σ H->g x σ H λz H2=>tb { D with nx:=Pv (i+1),ct:=Pv (i+1),bk:=D.nx } z H2) (hd:∀ σ H,Pv xs.length σ H->D.nx σ H) :
 ∃ W:Nat->Nat->St->Hp->Prop,(∃ m,W 0 m σ H)/\∀ i m σ H,W i m σ H ->
  ((Itl K a).stop i H/\D.nx σ H)\/((Itl K a).go i H/\∃ N:St->Hp->Prop,(∀ J H',N J H'->∃ M,M<m/\W (i+1) M J H')/\∀ x H',(Itl K a).yld i H x H'->g x σ H' λz H2=>tb { D with nx:=N,ct:=N,bk:=D.nx } z H2):=by
 refine⟨λi m σ H=>m=xs.length - i/\i<=xs.length/\Pv i σ H,⟨xs.length,by simp,gr _,h0⟩,?_⟩;rintro i m σ H ⟨rfl,hi,p⟩;have q:=U i σ H hi p
 by_cases L:i<xs.length
 .refine .inr ⟨⟨xs,xs[i],q,by simp[L]⟩,Pv (i+1),λJ H' Y=>⟨xs.length - (i+1),by lia,rfl,L,Y⟩,λx H' y=>?_⟩;obtain⟨e,y⟩:=y;subst e;exact hs i x σ _ (y xs q) p
 .have e:i=xs.length:=by lia
  subst e;exact .inl ⟨⟨xs,q,ah _⟩,hd σ H p⟩
def aCm {K:PySem.W.Frag} {a:Addr} {xs:List V} {g:TG} {tb:TS} {D:iX} {σ:St} {H:Hp} (Pv:Nat->St->Hp->Prop) (h0:Pv 0 σ H) (U:∀ i σ H,i<=xs.length->Pv i σ H->SqT K H a xs)
 (hs:∀ i x σ H,xs[i]?=some x->Pv i σ H->g x σ H λz H2=>tb { D with nx:=Pv (i+1),ct:=Pv (i+1),bk:=D.nx } z H2) (hd:∀ σ H,Pv xs.length σ H->D.nx σ H) :
 ∃ W:Nat->Nat->St->Hp->Prop,(∃ m,W 0 m σ H)/\∀ i m σ H,W i m σ H ->
  ((Itt K a).stop i H/\D.nx σ H)\/((Itt K a).go i H/\∃ N:St->Hp->Prop,(∀ J H',N J H'->∃ M,M<m/\W (i+1) M J H')/\∀ x H',(Itt K a).yld i H x H'->g x σ H' λz H2=>tb { D with nx:=N,ct:=N,bk:=D.nx } z H2):=by
 refine⟨λi m σ H=>m=xs.length - i/\i<=xs.length/\Pv i σ H,⟨xs.length,by simp,gr _,h0⟩,?_⟩;rintro i m σ H ⟨rfl,hi,p⟩;have q:=U i σ H hi p
 by_cases L:i<xs.length
 .refine .inr ⟨⟨xs,xs[i],q,by simp[L]⟩,Pv (i+1),λJ H' Y=>⟨xs.length - (i+1),by lia,rfl,L,Y⟩,λx H' y=>?_⟩;obtain⟨e,y⟩:=y;subst e;exact hs i x σ _ (y xs q) p
 .have e:i=xs.length:=by lia
  subst e;exact .inl ⟨⟨xs,q,ah _⟩,hd σ H p⟩
def gW {lo:Int} {n:Nat} {g:TG} {tb:TS} {D:iX} {σ:St} {H:Hp} (Pv:Nat->St->Hp->Prop) (h0:Pv 0 σ H)
 (hs:∀ i σ H,i<n->Pv i σ H->g (.int (lo+i)) σ H λz H2=>tb { D with nx:=Pv (i+1),ct:=Pv (i+1),bk:=D.nx } z H2) (hd:∀ σ H,Pv n σ H->D.nx σ H) :
 ∃ W:Nat->Nat->St->Hp->Prop,(∃ m,W 0 m σ H)/\∀ i m σ H,W i m σ H ->
  ((Itr lo n).stop i H/\D.nx σ H)\/((Itr lo n).go i H/\∃ N:St->Hp->Prop,(∀ J H',N J H'->∃ M,M<m/\W (i+1) M J H')/\∀ x H',(Itr lo n).yld i H x H'->g x σ H' λz H2=>tb { D with nx:=N,ct:=N,bk:=D.nx } z H2):=by
 refine⟨λi m σ H=>m=n - i/\i<=n/\Pv i σ H,⟨n,by simp,gr _,h0⟩,?_⟩;rintro i m σ H ⟨rfl,hi,p⟩
 by_cases L:i<n
 .refine .inr ⟨L,Pv (i+1),λJ H' U=>⟨n - (i+1),by lia,rfl,L,U⟩,λx H' y=>?_⟩;obtain⟨e,y⟩:=y;subst e y;exact hs i σ _ L p
 .have e:i=n:=by lia
  subst e;exact .inl ⟨ah _,hd σ H p⟩
def G7 {c:TT} {tb:TS} {D:iX} {σ:St} {H:Hp} (Pv:St->Hp->Prop) (J:St->Hp->Nat) (h0:Pv σ H)
 (hs:∀ σ H,Pv σ H->c σ H λb H1=>if b=true then tb { D with nx:=λz H'=>Pv z H'/\J z H'<J σ H,ct:=λz H'=>Pv z H'/\J z H'<J σ H,bk:=D.nx } σ H1 else D.nx σ H1)
 (mono:∀ σ H Q L,(∀ b H1,Q b H1->L b H1)->c σ H Q->c σ H L):aA9 c tb D σ H:=by
 refine⟨λm σ H=>m=J σ H/\Pv σ H,⟨_,rfl,h0⟩,?_⟩;rintro m σ H ⟨rfl,p⟩;refine mono σ H _ _ (λb H1 q=>?_) (hs σ H p);cases b with
 | true=>exact⟨_,λz H' ⟨M,l⟩=>⟨_,l,rfl,M⟩,q⟩
 | false=>exact q
abbrev R2:=V->V->Hp->VK->Prop
def OpR (X:Cx) (f:Value->Value->Sem Value) (r:R2):Prop :=
 ∀ (pins:List (Addr×Obj)) (s:Shared) (σ:St) (H:Hp) (x y:V) (v u:Value) (Q:VK),Inv X pins σ H s->RelV x v->RelV y u->r x y H Q ->
  wpAny (model X.prog X.w) X.A (f v u) (EP X pins σ Q) X.xe s
def UnR (X:Cx) (f:Value->Sem Value) (r:V->Hp->VK->Prop):Prop :=
 ∀ (pins:List (Addr×Obj)) (s:Shared) (σ:St) (H:Hp) (x:V) (v:Value) (Q:VK),Inv X pins σ H s->RelV x v->r x H Q ->
  wpAny (model X.prog X.w) X.A (f v) (EP X pins σ Q) X.xe s
def eK (X:Cx) (f:Value) (r:List V->Hp->VK->Prop):Prop :=
 ∀ (pins:List (Addr×Obj)) (s:Shared) (σ:St) (H:Hp) (xs:List V) (us:List Value) (Q:VK),Inv X pins σ H s->Vals xs us->r xs H Q ->
  wpAny (model X.prog X.w) X.A (call f us) (EP X pins σ Q) X.xe s
def aFs (X:Cx) (r:V->Hp->(Bool->Hp->Prop)->Prop):Prop :=
 ∀ (pins:List (Addr×Obj)) (s:Shared) (σ:St) (H:Hp) (x:V) (v:Value) (Q:Bool->Hp->Prop),Inv X pins σ H s->RelV x v->r x H Q ->
  wpAny (model X.prog X.w) X.A (truthy v) (TP X pins σ Q) X.xe s
def tOp (r:R2) (ta tb:TE):TE:=fun σ H Q=>ta σ H λx H1=>tb σ H1 λy H2=>r x y H2 Q
def tUn (r:V->Hp->VK->Prop) (ta:TE):TE:=fun σ H Q=>ta σ H λx H1=>r x H1 Q
inductive aEx (C:Int->Int->Prop) (g:Int->Int->V) (x:V) (y:V) (H:Hp) (Q:VK):Prop
 | mk (i:_) (j:_) (h0_:x=.int i) (h1_:y=.int j) (h2_:C i j) (h3_:Q (g i j) H):aEx C g x y H Q
def rI (C:Int->Int->Prop) (g:Int->Int->V):R2:=λx y H Q=>aEx C g x y H Q
inductive aDd (g:Int->Int->V) (x:V) (y:V) (H:Hp) (Q:VK):Prop
 | mk (i:_) (j:_) (h0_:x=.int i) (h1_:y=.int j) (h2_:Q (g i j) H):aDd g x y H Q
def rI0 (g:Int->Int->V):R2:=λx y H Q=>aDd g x y H Q
inductive aEy (g:Int->V) (x:V) (H:Hp) (Q:VK):Prop
 | mk (i:_) (h0_:x=.int i) (h1_:Q (g i) H):aEy g x H Q
def rU (g:Int->V):V->Hp->VK->Prop:=λx H Q=>aEy g x H Q
section
variable {X:Cx} {a b c:Expr} {ta tb tc:TE} {pos:Pos}
def aDv (M:PE X a ta) (U:PE X b tb) {pins:List (Addr×Obj)} {s:Shared} {σ:St} {H:Hp} {R:V->V->Hp->Prop} (I:Inv X pins σ H s)
 (h:ta σ H λx H1=>tb σ H1 λy H2=>R x y H2) {Q:Value->Shared->Prop} {f:Value->Value->Sem Value}
 (Y:∀ v u L x y H2,Inv X pins σ H2 L->RelV x v->RelV y u->R x y H2->wpAny (model X.prog X.w) X.A (f v u) Q X.xe L) :
 wpAny (model X.prog X.w) X.A (eval a X.env) (λv z=>wpAny (model X.prog X.w) X.A (eval b X.env) (λu J=>wpAny (model X.prog X.w) X.A (f v u) Q X.xe J) X.xe z) X.xe s:=by
 refine thn (M pins s σ H _ I h) λv s1 ⟨x,H1,I1,r1,q1⟩=>?_;refine thn (U pins s1 σ H1 _ I1 q1) λu L ⟨y,H2,I2,r2,q2⟩=>?_;exact Y v u L x y H2 I2 r1 r2 q2
def bA {op:Operator} {r:R2} (z:OpR X (binaryOp op) r) (J:PE X a ta) (L:PE X b tb):PE X (.BinOp a op b pos) (tOp r ta tb):=by
 intro pins s σ H Q I h;exact wpAny_BinOp (aDv J L I h λv u M x y H2 U Y ry q=>z pins M σ H2 x y v u Q U Y ry q)
def nL {op:UnaryOp} {r:V->Hp->VK->Prop} (z:UnR X (unaryOp op) r) (J:PE X a ta):PE X (.UnaryOp op a pos) (tUn r ta):=by
 intro pins s σ H Q I h;exact UnaryOp_ (thn (J pins s σ H _ I h) λv L ⟨x,H1,M,r1,U⟩=>z pins L σ H1 x v Q M r1 U)
def opI {f:Value->Value->Sem Value} {C:Int->Int->Prop} {g:Int->Int->Int}
 (rule:∀ (i j:Int) (t u:Tok) (s:Shared) (Q:Value->Shared->Prop) (E:Value->Shared->Prop),C i j->Q (.int (g i j) s.toks) { s with toks:=s.toks+1 }->wpAny (model X.prog X.w) X.A (f (.int i t) (.int j u)) Q E s) :
 OpR X f (rI C λi j=>.int (g i j)):=by
 intro pins s σ H x y v u Q I z J h;obtain⟨i,j,rfl,rfl,L,q⟩:=h;obtain⟨t,rfl⟩:=z;obtain⟨t',rfl⟩:=J;exact rule i j t t' s _ _ L ⟨.int (g i j),H,I.tok _,⟨_,rfl⟩,q⟩
def aEz {f:Value->Value->Sem Value} {g:Int->Int->Int}
 (rule:∀ (i j:Int) (t u:Tok) (s:Shared) (Q:Value->Shared->Prop) (E:Value->Shared->Prop),Q (.int (g i j) s.toks) { s with toks:=s.toks+1 }->wpAny (model X.prog X.w) X.A (f (.int i t) (.int j u)) Q E s) :
 OpR X f (rI0 λi j=>.int (g i j)):=by
 intro pins s σ H x y v u Q I z J h;obtain⟨i,j,rfl,rfl,q⟩:=h;obtain⟨t,rfl⟩:=z;obtain⟨t',rfl⟩:=J;exact rule i j t t' s _ _ ⟨.int (g i j),H,I.tok _,⟨_,rfl⟩,q⟩
def aAc {f:Value->Value->Sem Value} {g:Int->Int->Bool}
 (rule:∀ (i j:Int) (t u:Tok) (s:Shared) (Q:Value->Shared->Prop) (E:Value->Shared->Prop),Q (.bool (g i j)) s->wpAny (model X.prog X.w) X.A (f (.int i t) (.int j u)) Q E s) :
 OpR X f (rI0 λi j=>.bl (g i j)):=by
 intro pins s σ H x y v u Q I z J h;obtain⟨i,j,rfl,rfl,q⟩:=h;obtain⟨t,rfl⟩:=z;obtain⟨t',rfl⟩:=J;exact rule i j t t' s _ _ ⟨.bl (g i j),H,I,rfl,q⟩
def aFt (i j:Int):Prop:=0<j/\j<1073741824
def aFu (i j:Int):Prop:=0<=j/\j<=1000000/\i.natAbs<2 ^ 64
def CMul (i j:Int):Prop:=(-(2 ^ 64)<i/\i<2 ^ 64)\/(-(2 ^ 64)<j/\j<2 ^ 64)
def CMul.ok {i j:Int} (h:CMul i j):IntMulOk i j:=by
 rcases h with ⟨h1,h2⟩ | ⟨h1,h2⟩
 .exact .of_left (intBits_le_64 h1 h2)
 .exact .of_right (intBits_le_64 h1 h2)
def dJ:OpR X (binaryOp .Add) (rI0 λi j=>.int (i+j)):=aEz λ_ _ _ _ _ _ _ q=>add_int q
def iY:OpR X (binaryOp .Sub) (rI0 λi j=>.int (i - j)):=aEz λ_ _ _ _ _ _ _ q=>sub_int q
def iZ:OpR X (binaryOp .Mult) (rI CMul λi j=>.int (i * j)):=opI λ_ _ _ _ _ _ _ z q=>mul_int q z.ok
def Y2:OpR X (binaryOp .FloorDiv) (rI aFt λi j=>.int (i / j)):=opI λi j _ _ _ _ _ z q=>by
 have h1:(0:Int)<j:=z.1;have h2:j<1073741824:=z.2;exact floordiv_int (by lia) (by rw[Int.fdiv_eq_ediv_of_nonneg i (by lia)];exact q) (.inl (PyProof.noPylong_small (by lia)))
def oB:OpR X (binaryOp .Mod) (rI (λ_ j=>0<j) λi j=>.int (i % j)):=opI λi j _ _ _ _ _ z q=>by
 have h1:(0:Int)<j:=z;exact mod_int' (by lia) (by rw[Int.fmod_eq_emod_of_nonneg i (by lia)];exact q)
def aDw:OpR X (binaryOp .Pow) (rI aFu λi j=>.int (i ^ j.toNat)):=opI λ_ _ _ _ _ _ _ z q=>pow_int_small z.1 z.2.1 z.2.2 q
def unI {f:Value->Sem Value} {g:Int->Int}
 (rule:∀ (i:Int) (t:Tok) (s:Shared) (Q:Value->Shared->Prop) (E:Value->Shared->Prop),Q (.int (g i) s.toks) { s with toks:=s.toks+1 }->wpAny (model X.prog X.w) X.A (f (.int i t)) Q E s) :
 UnR X f (rU λi=>.int (g i)):=by
 intro pins s σ H x v Q I z h;obtain⟨i,rfl,q⟩:=h;obtain⟨t,rfl⟩:=z;exact rule i t s _ _ ⟨.int (g i),H,I.tok _,⟨_,rfl⟩,q⟩
def jA:UnR X (unaryOp .USub) (rU λi=>.int (-i)):=unI λ_ _ _ _ _ q=>neg_int q
end
def aFA:V->V->Bool
 | .non,.non=>true | .non,.int _=>true | .int _,.non=>true | .non,.bl _=>true | .bl _,.non=>true | .non,.str _=>true | .str _,.non=>true
 | .int _,.int _=>true | .bl _,.bl _=>true | .str _,.str _=>true | .byt _,.byt _=>true
 | .int _,.str _=>true | .str _,.int _=>true | .bl _,.str _=>true | .str _,.bl _=>true
 | _,_=>false
def rEq:R2:=λx y H Q=>aFA x y=true/\Q (.bl (decide (x=y))) H
def rNe:R2:=λx y H Q=>aFA x y=true/\Q (.bl (!decide (x=y))) H
def Y3 {i j:Int}:decide (V.int i=V.int j)=(i == j):=by
 rw[iw];simp
def aAd {i j:Bool}:decide (V.bl i=V.bl j)=(i == j):=by
 rw[iw];simp
def Y4 {i j:Str}:decide (V.str i=V.str j)=(i == j):=by
 rw[iw];simp
def Y5 {i j:Array UInt8}:decide (V.byt i=V.byt j)=(i.toList == j.toList):=by
 rw[iw];cases i;cases j;simp
section
variable {X:Cx} {a b c:Expr} {ta tb tc:TE} {pos:Pos}
def bV {pins:List (Addr×Obj)} {σ:St} {H:Hp} {s:Shared} {Q:VK} {k z:Bool} (I:Inv X pins σ H s) (q:Q (.bl k) H) (e:k=z):EP X pins σ Q (.bool z) s:=by
 subst e;exact⟨.bl k,H,I,rfl,q⟩
def Y6:OpR X (compareOp .Eq) rEq:=by
 intro pins s σ H x y v u Q I J z h;obtain⟨hs,q⟩:=h;cases x with
 | non =>
  cases J;cases y with
  | non=>cases z;exact PySem.EqNone.eq_none_none (bV I q (by simp))
  | bl j=>cases z;exact PySem.EqNone.eq_none_bool (bV I q (by simp))
  | int j=>obtain⟨t',rfl⟩:=z;exact PySem.EqNone.eq_none_int (bV I q (by simp))
  | str j=>obtain⟨t',rfl⟩:=z;exact PySem.EqNone.eq_none_str (bV I q (by simp))
  | _=>exact absurd (show false=true from hs) aG8
 | bl i =>
  cases J;cases y with
  | non=>cases z;exact PySem.EqNone.eq_bool_none (bV I q (by simp))
  | bl j=>cases z;exact eq_bool (bV I q aAd)
  | str j=>obtain⟨t',rfl⟩:=z;exact PySem.EqMixed.eq_bool_str (bV I q (by simp))
  | _=>exact absurd (show false=true from hs) aG8
 | int i =>
  obtain⟨t,rfl⟩:=J;cases y with
  | non=>cases z;exact PySem.EqNone.eq_int_none (bV I q (by simp))
  | int j=>obtain⟨t',rfl⟩:=z;exact eq_int (bV I q Y3)
  | str j=>obtain⟨t',rfl⟩:=z;exact PySem.EqMixed.eq_int_str (bV I q (by simp))
  | _=>exact absurd (show false=true from hs) aG8
 | str i =>
  obtain⟨t,rfl⟩:=J;cases y with
  | non=>cases z;exact PySem.EqNone.eq_str_none (bV I q (by simp))
  | bl j=>cases z;exact PySem.EqMixed.eq_str_bool (bV I q (by simp))
  | int j=>obtain⟨t',rfl⟩:=z;exact PySem.EqMixed.eq_str_int (bV I q (by simp))
  | str j=>obtain⟨t',rfl⟩:=z;exact eq_str (bV I q Y4)
  | _=>exact absurd (show false=true from hs) aG8
 | byt i =>
  obtain⟨t,rfl⟩:=J;cases y with
  | byt j=>obtain⟨t',rfl⟩:=z;exact PySem.W.eq_bytes (bV I q Y5)
  | _=>exact absurd (show false=true from hs) aG8
 | _=>cases y <;> exact absurd (show false=true from hs) aG8
def aDe:OpR X (compareOp .NotEq) rNe:=by
 intro pins s σ H x y v u Q I J z h;obtain⟨hs,q⟩:=h;cases x with
 | non =>
  cases J;cases y with
  | non=>cases z;exact PySem.EqNone.ne_none_none (bV I q (by simp))
  | bl j=>cases z;exact PySem.EqNone.ne_none_bool (bV I q (by simp))
  | int j=>obtain⟨t',rfl⟩:=z;exact PySem.EqNone.ne_none_int (bV I q (by simp))
  | str j=>obtain⟨t',rfl⟩:=z;exact PySem.EqNone.ne_none_str (bV I q (by simp))
  | _=>exact absurd (show false=true from hs) aG8
 | bl i =>
  cases J;cases y with
  | non=>cases z;exact PySem.EqNone.ne_bool_none (bV I q (by simp))
  | bl j=>cases z;exact ne_bool (bV I q (congrArg not aAd))
  | str j=>obtain⟨t',rfl⟩:=z;exact PySem.EqMixed.ne_bool_str (bV I q (by simp))
  | _=>exact absurd (show false=true from hs) aG8
 | int i =>
  obtain⟨t,rfl⟩:=J;cases y with
  | non=>cases z;exact PySem.EqNone.ne_int_none (bV I q (by simp))
  | int j=>obtain⟨t',rfl⟩:=z;exact ne_int (bV I q (congrArg not Y3))
  | str j=>obtain⟨t',rfl⟩:=z;exact PySem.EqMixed.ne_int_str (bV I q (by simp))
  | _=>exact absurd (show false=true from hs) aG8
 | str i =>
  obtain⟨t,rfl⟩:=J;cases y with
  | non=>cases z;exact PySem.EqNone.ne_str_none (bV I q (by simp))
  | bl j=>cases z;exact PySem.EqMixed.ne_str_bool (bV I q (by simp))
  | int j=>obtain⟨t',rfl⟩:=z;exact PySem.EqMixed.ne_str_int (bV I q (by simp))
  | str j=>obtain⟨t',rfl⟩:=z;exact ne_str (bV I q (congrArg not Y4))
  | _=>exact absurd (show false=true from hs) aG8
 | byt i =>
  obtain⟨t,rfl⟩:=J;cases y with
  | byt j=>obtain⟨t',rfl⟩:=z;exact PySem.W.ne_bytes (bV I q (congrArg not Y5))
  | _=>exact absurd (show false=true from hs) aG8
 | _=>cases y <;> exact absurd (show false=true from hs) aG8
def jM:OpR X (compareOp .Lt) (rI0 λi j=>.bl (decide (i<j))):=aAc λ_ _ _ _ _ _ _ q=>lt_int q
def Y7:OpR X (compareOp .LtE) (rI0 λi j=>.bl (decide (i<=j))):=aAc λ_ _ _ _ _ _ _ q=>le_int q
def iL:OpR X (compareOp .Gt) (rI0 λi j=>.bl (decide (j<i))):=aAc λ_ _ _ _ _ _ _ q=>gt_int q
def Y8:OpR X (compareOp .GtE) (rI0 λi j=>.bl (decide (j<=i))):=aAc λ_ _ _ _ _ _ _ q=>ge_int q
def p0:OpR X (compareOp .In) (λx y H Q=>∃ i j,x=.str i/\y=.str j/\Q (.bl (!(Builtin.Str.occurrences j i 0 j.length 1).isEmpty)) H):=by
 intro pins s σ H x y v u Q I z J h;obtain⟨i,j,rfl,rfl,q⟩:=h;obtain⟨t,rfl⟩:=z;obtain⟨t',rfl⟩:=J;exact in_str (bV I q rfl)
def bE (b:Expr) {op:CmpOp} (h:op≠.In:=by decide) (h2:op≠.NotIn:=by decide):behindInMarks op b=false:=by
 have z:(op == CmpOp.In)=false:=by cases op <;> first | rfl | exact absurd rfl h
 have J:(op == CmpOp.NotIn)=false:=by cases op <;> first | rfl | exact absurd rfl h2
 cases b <;> simp[behindInMarks,z,J]
def jY {op:CmpOp} {r:R2} (z:OpR X (compareOp op) r) (J:PE X a ta) (L:PE X b tb) (M:behindInMarks op b=false):PE X (.Compare a [op] [b] pos) (tOp r ta tb):=by
 intro pins s σ H Q I h;exact wpAny_Compare1 (aDv J L I h λv u U x y H2 Y rx ry q=>z pins U σ H2 x y v u Q Y rx ry q) M
inductive Y9 (Q:Bool->Hp->Prop) (x:V) (H':Hp):Prop
 | mk (k:_) (h0_:x=.bl k) (h1_:Q k H'):Y9 Q x H'
def aFB (t:TE):TT:=fun σ H Q=>t σ H λx H'=>Y9 Q x H'
def aV {op:CmpOp} {r:R2} (J:OpR X (compareOp op) r) (L:PE X a ta) (M:PE X b tb) (U:behindInMarks op b=false):PT X (.Compare a [op] [b] pos) (aFB (tOp r ta tb)):=by
 intro pins s σ H Q I h;refine se (thn (L pins s σ H _ I h) λv Y ⟨x,H1,I1,r1,q1⟩=>thn (M pins Y σ H1 _ I1 q1) λu s2 ⟨y,H2,I2,r2,q2⟩ =>
  thn (J pins s2 σ H2 x y v u _ I2 r1 r2 q2) λc s3 ⟨z,H3,I3,r3,k,e,q3⟩=>?_) U
 subst e;cases r3;exact jd ⟨H3,I3,q3⟩
def aFC (K:PySem.W.Frag) (x:V) (H:Hp) (k:Bool):Prop :=
 match x with
 | .non=>k=false
 | .bl b=>k=b
 | .int i=>k=(i != 0)
 | .str y=>y.length<=sizeLine/\k=((y.length:Int) != 0)
 | .byt y=>y.size<=sizeLine/\k=((y.size:Int) != 0)
 | .ref p=>(∃ xs,SqL K H p xs/\k=!xs.isEmpty)\/(∃ xs,SqT K H p xs/\k=!xs.isEmpty)\/∃ kvs,H p=some (.dK kvs)/\k=!kvs.isEmpty
 | _=>False
def Q8 {κ:Type} {kvs:List (κ×V)} {vs:List (κ×Value)} (r:KV kvs vs):(!vs.isEmpty)=!kvs.isEmpty:=by
 cases r <;> rfl
def uM {xs:List V} {its:List Value} (r:Vals xs its):(!its.toArray.isEmpty)=!xs.isEmpty:=by
 cases r <;> simp
def qS:(sizeLine:Nat)<2 ^ 63:=by rw[ka];decide
def aDx:aFs X (λx H Q=>∃ k,aFC X.K x H k/\Q k H):=by
 intro pins s σ H x v Q I J h;obtain⟨k,e,q⟩:=h;have hl:=qS;have hs:sizeLine=16777216:=ka;cases x with
 | non =>
  cases J;have z:k=false:=e;subst z;exact truthy_none ⟨H,I,q⟩
 | bl b =>
  cases J;have z:k=b:=e;subst z;exact jd ⟨H,I,q⟩
 | int i =>
  obtain⟨t,rfl⟩:=J;have z:k=(i != 0):=e;subst z;exact PySem.P.truthy_int ⟨H,I,q⟩
 | str y =>
  obtain⟨t,rfl⟩:=J;obtain⟨U,z⟩:y.length<=sizeLine/\k=((y.length:Int) != 0):=e;subst z;exact PySem.P.truthy_str (by lia) ⟨H,I.tok _,q⟩
 | byt y =>
  obtain⟨t,rfl⟩:=J;obtain⟨U,z⟩:y.size<=sizeLine/\k=((y.size:Int) != 0):=e;subst z;exact PySem.W.truthy_bytes (by lia) ⟨H,I.tok _,q⟩
 | ref p =>
  cases J;have z:(∃ xs,SqL X.K H p xs/\k=!xs.isEmpty)\/(∃ xs,SqT X.K H p xs/\k=!xs.isEmpty)\/∃ kvs,H p=some (.dK kvs)/\k=!kvs.isEmpty:=e;rcases z with ⟨xs,L,z⟩ | ⟨xs,L,z⟩ | ⟨kvs,L,z⟩
  .subst z;obtain⟨its,r,pl,M⟩:=I.list L;have hlen:=r.length;exact wpAny_truthy_list pl.isList (by simp only[aG3];lia) ⟨H,I.tok _,by rw[uM r];exact q⟩
  .subst z;obtain⟨its,r,pl,M⟩:=I.tuple L;have hlen:=r.length;exact truthy_tuple pl (by simp only[aG3];lia) ⟨H,I.tok _,by rw[uM r];exact q⟩
  .subst z;obtain⟨M,Y,vs,r,m⟩:kvs.length<=sizeLine/\(p == sysModules)=false/\∃ vs,KV kvs vs/\s.heap.DictOf (bF X.prog X.w) p vs:=I.hok p _ L;have hlen:kvs.length=vs.length:=lw r;exact wpAny_truthy_dict Y m (by lia) ⟨H,I.tok _,by rw[Q8 r];exact q⟩
 | _=>exact(show False from e).elim
def fH (z:PE X a ta) (he:∀ whole,isTrue a X.env whole=(do let v <- whole;standAt a.pos;holding [v] (truthy v))) :
 PT X a (fun σ H Q=>ta σ H λx H'=>∃ k,aFC X.K x H' k/\Q k H'):=by
 intro pins s σ H Q I h;exact isTrue_plain (thn (z pins s σ H _ I h) λv J ⟨x,H1,L,r1,M⟩=>aDx pins J σ H1 x v Q L r1 M) (he _)
def Q9:OpR X (binaryOp .Add) (λx y H Q=>∃ i j,x=.str i/\y=.str j/\i.length+j.length<=sizeLine/\Q (.str (i++j)) H):=by
 intro pins s σ H x y v u Q I z J h;obtain⟨i,j,rfl,rfl,L,q⟩:=h;obtain⟨t,rfl⟩:=z;obtain⟨t',rfl⟩:=J;exact add_str (λt' tk=>⟨.str (i++j),H,I.tok _,⟨_,rfl⟩,q⟩) L
def hJ {x:V} {us:List Value} (r:Vals [x] us):∃ u,us=[u]/\RelV x u:=by
 cases r with
 | cons r1 r2=>cases r2;exact⟨_,rfl,r1⟩
def aFD {x y:V} {us:List Value} (r:Vals [x,y] us):∃ u z,us=[u,z]/\RelV x u/\RelV y z:=by
 cases r with
 | cons r1 r2 =>
  cases r2 with
  | cons r3 r4=>cases r4;exact⟨_,_,rfl,r1,r3⟩
inductive Z0 (xs:List V) (H:Hp) (Q:VK):Prop
 | mk (i:_) (j:_) (h0_:xs=[.int i,.int j]) (h1_:Q (.int (if j<i then j else i)) H):Z0 xs H Q
def qT (J:X.calm=true):eK X (.builtin "min") Z0:=by
 intro pins s σ H xs us Q I r h;obtain⟨i,j,rfl,q⟩:=h;obtain⟨u,L,rfl,⟨t,rfl⟩,⟨t',rfl⟩⟩:=aFD r;refine min_two_ints (I.ok.hd J) λh' tk k=>⟨_,H,I.kept k,?_,q⟩
 by_cases z:j<i
 .rw[eH z,eH z];exact⟨_,rfl⟩
 .rw[dt z,dt z];exact⟨_,rfl⟩
end
structure ObjM (h:Heap) (x dx C:Addr) (mA:Str->Option Value):Prop where
 obj:h.get? x=some (PySem.W.instObj C dx)
 ns:h.Ns1 dx mA
 ne:dx≠x
def qU {h:Heap} {dx:Addr} {mA:Str->Option Value} (n:h.Ns1 dx mA):∃ od,h.get? dx=some od/\∀ name,PySem.W.lookIn name od=some (mA name):=by
 obtain⟨o,es,ep,L,hd,M,_,U⟩:=n;refine⟨o,L,λname=>?_⟩;have e:=U name;unfold nsFind findBy at e;rw[<- Array.find?_toList]at e;unfold PySem.W.lookIn;rw[hd];dsimp only;split
 .rename_i y q
  rw[q]at e;exact congrArg some e
 .rename_i q
  rw[q]at e;have a:es.toList.any (·.refKey)=false:=by
   rw[List.any_eq_false];intro y Y;obtain⟨z,t,J⟩:=M y (Array.mem_toList_iff.mp Y);simp[DictEntry.refKey,J]
  have a':¬ es.toList.any (·.refKey)=true:=by rw[a];exact aG8
  rw[dt a'];exact congrArg some e
def ObjM.look {h:Heap} {x dx C:Addr} {mA:Str->Option Value} (I:ObjM h x dx C mA):∃ od,PySem.W.InstAt h x (PySem.W.instObj C dx) C (some od)/\∀ name,PySem.W.lookIn name od=some (mA name) :=
 let ⟨od,z,J⟩:=qU I.ns
 ⟨od,⟨I.obj,rfl,rfl,z⟩,J⟩
section
variable {prog:Program} {w:World} {A:Around} {E:Value->Shared->Prop} {s:Shared} {K:PySem.W.Frag} {x dx C f:Addr} {mA:Str->Option Value} {name:Str} {v:Value}
def aCn {expr:Bool} {Q:Value->Shared->Prop} (X:K.In s.heap) (I:ObjM s.heap x dx C mA) (L:PySem.W.plainGet K C name=true) (M:PySem.W.hasDictIn K C=true)
 (U:PySem.W.findIn K (.ref C) name=some none) (Y:mA name=some v) (z:PySem.W.handedIn v=true) (h:Q v { s with toks:=s.toks+1 }) :
 wpAny (model prog w) A (getAttr (.ref x) name expr) Q E s:=by
 obtain⟨od,J,hl⟩:=I.look;exact PySem.W.get_value X J (pp L).1 (uf M U rfl (by rw[hl,Y])) z h
def aAe {pl:Sem Bool} {Q:Value×List Value->Shared->Prop} (X:K.In s.heap) (I:ObjM s.heap x dx C mA) (z:PySem.W.plainGet K C name=true)
 (L:PySem.W.findIn K (.ref C) name=some (some (.ref f))) (ht:PySem.W.isFn K (.ref f)=true) (M:mA name=none) (h:Q (.ref f,[.ref x]) s) :
 wpAny (model prog w) A (getMethod (.ref x) name pl) Q E s:=by
 obtain⟨od,J,U⟩:=I.look;exact PySem.W.method_fn X J (pp z).1 (pp z).2 L (beq_iff_eq.mp ht) (by show (PySem.W.lookIn name od).map (·.isSome)=some false;rw[U,M];rfl) h
def aCo {ns:List Str} {Q:Unit->Shared->Prop} (X:K.In s.heap) (I:ObjM s.heap x dx C mA)
 (hs:PySem.W.findIn K (.ref C) "__setattr__"=some (some (.builtin "object.__setattr__"))) (hp:PySem.W.plainOver K C=true) (ht:PySem.W.takerIn K C name=some none) (hh:PySem.W.hasDictIn K C=true)
 (hw:PySem.Within mA ns) (hsz:ns.length<=sizeLine)
 (h:∀ h',ObjM h' x dx C (λy=>if y=name then some v else mA y)->Heap.SameBut dx s.heap h'->Q () { s with heap:=h',toks:=s.toks+2 }) :
 wpAny (model prog w) A (setAttr (.ref x) name v) Q E s:=by
 obtain⟨od,J,hl⟩:=I.look;refine qp X J hs (PySem.W.osa_open (s:={ s with toks:=s.toks+1 }) (r:=none) X J hp ht λb=>?_);obtain⟨cd,hc,M⟩:=PySem.W.any_some hh;have hx:s.heap.get? x=some ⟨.ref C,some dx,.plain,#[]⟩:=I.obj;refine aGT (aGU (aGT (aGT (qf hx (aGT (PySem.W.Looks.here (s:={ s with toks:=s.toks+1 }) (kr X hc) ?_))))));rw[M];refine aGU (a:=some dx) (aGT (aGU (aGT ?_)));refine ur (s:={ s with toks:=s.toks+1 }) I.ns λh' z L=>?_;obtain⟨oD,ax,ay,U,Y,aw⟩:=z.count (PySem.Within.cons name v hw);refine aGT (rf U (by rw[Y];exact rg (g0 aw (by rw[aGo];lia))) ?_);exact aGU (h _ ⟨(L.2 _ (gi I.ne)).trans I.obj,z,I.ne⟩ L)
def aAf {R:Result->Shared->Prop} {vs:List Value} {z:List (Str×Value)} (X:K.In s.heap) (J:PySem.W.makesIn K C=true)
 (hi:PySem.W.findIn K (.ref C) "__init__"=some (some (.ref f))) (L:PySem.W.typeIn K (.ref f)=some (.type "function"))
 (h:codeAny (model prog w) (A.under (.builtin "type.__call__" ⟨.ref C :: vs,z⟩)) (.call (.ref f) ⟨.ref (s.heap.objs.size+1) :: vs,z⟩) (PySem.W.InitBack (s.heap.objs.size+1) R)
  { s with heap:=(s.heap.push PySem.W.emptyDict).push (PySem.W.instObj C s.heap.objs.size) }) :
 codeAny (model prog w) A (.call (.ref C) ⟨vs,z⟩) R s:=by
 obtain⟨M,g,d,t,os⟩:=s;exact PySem.W.make_core (PySem.W.makes_of X J) (jm X hi) (λself=>PySem.W.bind_fn X self L) (.inl rfl) h
end
def nH (f:Str) (v:V):List (Str×V)->List (Str×V)
 | []=>[(f,v)]
 | (g,x) :: r=>if g=f then (g,v) :: r else (g,x) :: nH f v r
def sA (f g:Str) (v:V):∀ fs:List (Str×V),(nH f v fs).lookup g=if g=f then some v else fs.lookup g
 | []=>by
  show List.lookup g [(f,v)]=_
  by_cases h:g=f
  .have z:(g == f)=true:=beq_iff_eq.mpr h;simp only[List.lookup,z,eH h]
  .have z:(g == f)=false:=beq_eq_false_iff_ne.mpr h;simp only[List.lookup,z,dt h]
 | (k,x) :: r=>by
  have L:=sA f g v r;rw[show nH f v ((k,x) :: r)=(if k=f then (k,v) :: r else (k,x) :: nH f v r) from rfl]
  by_cases J:k=f
  .rw[eH J]
   by_cases h:g=k
   .have z:(g == k)=true:=beq_iff_eq.mpr h;simp only[List.lookup,z,eH (h.trans J)]
   .have z:(g == k)=false:=beq_eq_false_iff_ne.mpr h;simp only[List.lookup,z,dt (λe:g=f=>h (e.trans J.symm))]
  .rw[dt J]
   by_cases h:g=k
   .have z:(g == k)=true:=beq_iff_eq.mpr h;simp only[List.lookup,z,dt (λe:g=f=>J (h.symm.trans e))]
   .have z:(g == k)=false:=beq_eq_false_iff_ne.mpr h;simp only[List.lookup,z];exact L
def qV (f:Str) (v:V):∀ fs:List (Str×V),f∈(nH f v fs).map (·.1)/\∀ g,g∈fs.map (·.1)->g∈(nH f v fs).map (·.1)
 | []=>⟨by simp[nH],λg h=>by simp at h⟩
 | (k,x) :: r=>by
  obtain⟨i1,i2⟩:=qV f v r;rw[show nH f v ((k,x) :: r)=(if k=f then (k,v) :: r else (k,x) :: nH f v r) from rfl]
  by_cases z:k=f
  .rw[eH z];subst z;exact⟨by simp,λg h=>by simpa using h⟩
  .rw[dt z];refine⟨?_,λg h=>?_⟩
   .rw[aGk];exact aGY _ i1
   .rw[aGk]at h ⊢;rcases aGx.mp h with e | e
    .exact aGx.mpr (.inl e)
    .exact aGY _ (i2 g e)
def sB (f:Str) (v:V):∀ fs:List (Str×V),(nH f v fs).length<=fs.length+1
 | []=>by simp[nH]
 | (k,x) :: r=>by
  have J:=sB f v r;rw[show nH f v ((k,x) :: r)=(if k=f then (k,v) :: r else (k,x) :: nH f v r) from rfl]
  by_cases z:k=f
  .rw[eH z,aGo,aGo];lia
  .rw[dt z,aGo,aGo];lia
def RelO.some_of {v:V} {o:Option Value} (r:RelO (some v) o):∃ u,o=some u/\RelV v u:=by
 cases o with
 | none=>exact(show False from r).elim
 | some u=>exact⟨u,rfl,r⟩
def RelO.none_of {o:Option Value} (r:RelO none o):o=none:=by
 cases o with
 | none=>rfl
 | some u=>exact(show False from r).elim
def yG {v:V} {u:Value} (r:RelV v u):PySem.W.handedIn u=true:=by
 cases v with
 | non=>cases (show u=Value.none from r);rfl
 | bl b=>cases (show u=Value.bool b from r);rfl
 | int i=>obtain⟨t,e⟩:=(show ∃ t,u=Value.int i t from r);cases e;rfl
 | str x=>obtain⟨t,e⟩:=(show ∃ t,u=Value.str x t from r);cases e;rfl
 | byt b=>obtain⟨t,e⟩:=(show ∃ t,u=Value.bytes b t from r);cases e;rfl
 | flt b=>obtain⟨t,e⟩:=(show ∃ t,u=Value.float b t from r);cases e;rfl
 | ref a=>cases (show u=Value.ref a from r);rfl
 | ty n=>cases (show u=Value.type n from r);rfl
section
variable {P:Program} {w:World} {H H':Hp} {h h':Heap} {a C dx:Addr} {fs fs':List (Str×V)}
def zR (hok:HOk P w H h) (e:H a=some (.ins C dx fs)):∃ mA,ObjM h a dx C mA/\(∀ f,RelO (fs.lookup f) (mA f))/\PySem.Within mA (fs.map (·.1))/\fs.length<=1000/\H dx=some (.own a):=by
 obtain⟨d,z,ne,J,mA,n,r,q⟩:=(show ObjOk P w H h a (.ins C dx fs) from hok a _ e);exact⟨mA,⟨J,n,ne⟩,r,q,z,d⟩
end
structure Cls (K:PySem.W.Frag) (C:Addr):Prop where
 pg:PySem.W.plainGet K C Str.empty=true
 hd:PySem.W.hasDictIn K C=true
 po:PySem.W.plainOver K C=true
 sa:PySem.W.findIn K (.ref C) "__setattr__"=some (some (.builtin "object.__setattr__"))
def Cls.get {K:PySem.W.Frag} {C:Addr} (c:Cls K C) (f:Str):PySem.W.plainGet K C f=true:=c.pg
def NoAttr (K:PySem.W.Frag) (C:Addr) (f:Str):Prop:=PySem.W.findIn K (.ref C) f=some none
def NoAttr.taker {K:PySem.W.Frag} {C:Addr} {f:Str} (n:NoAttr K C f):PySem.W.takerIn K C f=some none:=by
 unfold PySem.W.takerIn;rw[show PySem.W.findIn K (.ref C) f=some none from n];rfl
structure aAg (K:PySem.W.Frag) (C:Addr) (m:Str) (f:Addr):Prop where
 at_:PySem.W.findIn K (.ref C) m=some (some (.ref f))
 fn:PySem.W.isFn K (.ref f)=true
 kp:PySem.W.keepIn K (.ref f)=true
section
variable {X:Cx} {pins:List (Addr×Obj)} {σ:St} {H:Hp} {s:Shared} {a C dx:Addr} {fs:List (Str×V)} {f:Str} {v:V} {A:Around} {E:Value->Shared->Prop}
def R0 {b:Bool} {Q:Value->Shared->Prop} (I:Inv X pins σ H s) (e:H a=some (.ins C dx fs)) (c:Cls X.K C) (n:NoAttr X.K C f) (l:fs.lookup f=some v)
 (h:∀ u s',Inv X pins σ H s'->RelV v u->Q u s'):wpAny (model X.prog X.w) A (getAttr (.ref a) f b) Q E s:=by
 obtain⟨mA,O,r,_,_,_⟩:=zR I.hok e;obtain⟨u,J,z⟩:=RelO.some_of (v:=v) (o:=mA f) (by rw[<- l];exact r f);exact aCn I.kIn O (c.get f) c.hd n J (yG z) (h u _ (I.tok _) z)
def uN {m:Str} {g:Addr} {pl:Sem Bool} {Q:Value×List Value->Shared->Prop} (I:Inv X pins σ H s) (e:H a=some (.ins C dx fs)) (c:Cls X.K C) (k:aAg X.K C m g) (l:fs.lookup m=none)
 (h:Q (.ref g,[.ref a]) s):wpAny (model X.prog X.w) A (getMethod (.ref a) m pl) Q E s:=by
 obtain⟨mA,O,r,_,_,_⟩:=zR I.hok e;have z:mA m=none:=RelO.none_of (by rw[<- l];exact r m);exact aAe I.kIn O (c.get m) k.at_ k.fn z h
def R1 {y:V} {u:Value} {Q:Unit->Shared->Prop} (I:Inv X pins σ H s) (e:H a=some (.ins C dx fs)) (c:Cls X.K C) (n:NoAttr X.K C f) (hl:fs.length<1000) (M:RelV y u)
 (h:∀ s',Inv X pins σ (upd H a (.ins C dx (nH f y fs))) s'->Q () s'):wpAny (model X.prog X.w) A (setAttr (.ref a) f u) Q E s:=by
 obtain⟨mA,O,r,wi,_,L⟩:=zR I.hok e;have U:(fs.map (·.1)).length<=sizeLine:=by rw[aGV,ka];lia
 refine aCo I.kIn O c.sa c.po n.taker c.hd wi U λh' J Y=>h _ ?_;have hd:∃ o,h'.get? dx=some o:=let ⟨o,_,_,e',_⟩:=J.ns;⟨o,e'⟩;refine I.write (x:=a) (e:=dx) (by rw[e];exact True.intro) (.inr L) (λb q hb z=>(Y.2 b hb).trans z) hd ?_;refine⟨by rw[aF O.ne];exact L,?_,O.ne,J.obj,_,J.ns,λg=>?_,λg hg=>?_⟩
 .have:=sB f y fs;lia
 .show RelO ((nH f y fs).lookup g) (if g=f then some u else mA g);rw[sA]
  by_cases q:g=f
  .rw[eH q,eH q];exact M
  .rw[dt q,dt q];exact r g
 .by_cases q:g=f
  .rw[q];exact(qV f y fs).1
  .refine(qV f y fs).2 g (wi g λz=>hg ?_);show (if g=f then some u else mA g)=none;rw[dt q];exact z
def Inv.made (I:Inv X pins σ H s):Inv X pins σ (upd (upd H s.heap.objs.size (.own (s.heap.objs.size+1))) (s.heap.objs.size+1) (.ins C s.heap.objs.size []))
 { s with heap:=(s.heap.push PySem.W.emptyDict).push (PySem.W.instObj C s.heap.objs.size) }:=by
 have z:(s.heap.push PySem.W.emptyDict).get? s.heap.objs.size=some PySem.W.emptyDict:=aG2 s.heap rfl;have J:((s.heap.push PySem.W.emptyDict).push (PySem.W.instObj C s.heap.objs.size)).get? (s.heap.objs.size+1)=some (PySem.W.instObj C s.heap.objs.size):=by
  have:=aG2 (s.heap.push PySem.W.emptyDict) (o:=PySem.W.instObj C s.heap.objs.size) rfl
  rwa [im]at this
 have e3:(s.heap.push PySem.W.emptyDict).Ns s.heap.objs.size (λ_=>none):=⟨PySem.W.emptyDict,#[],_,z,rfl,(λe he=>absurd he (by simp)),λ_=>rfl⟩;have L:=I.laid (a:=s.heap.objs.size) (o:=.own (s.heap.objs.size+1)) (h':=s.heap.push PySem.W.emptyDict) (t':=s.toks) (λb u q=>aGW _ q) (ah _) ⟨_,z⟩;refine L.laid (a:=s.heap.objs.size+1) (o:=.ins C s.heap.objs.size []) (t':=s.toks) (λb u q=>aGW _ q) (Nat.le_of_eq (im _ _)) ?_;have ne:s.heap.objs.size≠s.heap.objs.size+1:=aGi (il _);refine⟨by rw[aF ne,aE],gr _,ne,J,λ_=>none,(Heap.Ns1.of_empty e3).at λo q=>aGW _ q,λ_=>True.intro,λy M=>absurd rfl M⟩
def Z1 {prog:Program} {w:World} {env:Env} {e:Expr} {f:Str} {pos:Pos} {s:Shared} {Q:Value->Shared->Prop} (J:attributeBase e f env (eval e env)=eval e env)
 (h:wpAny (model prog w) A (eval e env) (λo z=>wpAny (model prog w) A (getAttr o f true) Q E z) E s):wpAny (model prog w) A (eval (.Attribute e f pos) env) Q E s :=
 Attribute_any_ h (by rw[arm_eval_Attribute,J])
end
inductive aAh (K:PySem.W.Frag) (f:Str) (Q:VK) (x:V) (H1:Hp):Prop
 | mk (a:_) (C:_) (dx:_) (fs:_) (v:_) (h0_:x=.ref a) (h1_:H1 a=some (.ins C dx fs)) (h2_:Cls K C) (h3_:NoAttr K C f) (h4_:fs.lookup f=some v) (h5_:Q v H1):aAh K f Q x H1
def aFv (K:PySem.W.Frag) (ta:TE) (f:Str):TE:=fun σ H Q=>ta σ H λx H1=>aAh K f Q x H1
def aFw (K:PySem.W.Frag) (ta tv:TE) (f:Str):TS:=λD σ H=>tv σ H λy H1=>ta σ H1 λx H2=>∃ a C dx fs,x=.ref a/\H2 a=some (.ins C dx fs)/\Cls K C/\NoAttr K C f/\fs.length<1000 /\
 D.nx σ (upd H2 a (.ins C dx (nH f y fs)))
section
variable {X:Cx} {o e value:Expr} {f:Str} {pos pos' al:Pos} {ta tv:TE}
def bW (he:PE X e ta) (z:attributeBase e f X.env (eval e X.env)=eval e X.env):PE X (.Attribute e f pos) (aFv X.K ta f):=by
 intro pins s σ H Q I h;refine Z1 z (thn (he pins s σ H _ I h) λu s1 ⟨x,H1,J,L,a,C,dx,fs,v,ex,M,c,n,l,q⟩=>?_);subst ex;obtain rfl:u=Value.ref a:=L;exact R0 J M c n l λu' s2 U Y=>⟨v,H1,U,Y,q⟩
def eQ (z:PE X o ta) (J:PE X value tv) (hs:swapsWith value (some (.Attribute o f pos')) pos.line X.env=pure false):PS X (.Assign [.Attribute o f pos'] value pos) (aFw X.K ta tv f):=by
 intro pins s σ H D I h;refine kh (thn (J pins s σ H _ I h) λu L ⟨y,H1,M,U,q⟩=>thn (z pins L σ H1 _ M q) λY s2 ⟨x,H2,I2,rx,a,C,dx,fs,ex,ea,c,n,l,q2⟩=>?_) hs;subst ex;obtain rfl:Y=Value.ref a:=rx;exact R1 I2 ea c n l U λs3 I3=>⟨σ,_,I3,q2⟩
end
structure Room (k:Nat) (A:Around):Prop where
 hd:A.handled=none
 dp:A.depth+3 * k+5<recursionLimit
 un:A.units+16 * k+200<cLine
def Room.mono {j k:Nat} {A:Around} (r:Room k A) (h:j<=k):Room j A:=⟨r.hd,by have:=r.dp;lia,by have:=r.un;lia⟩
def Room.deeper {k:Nat} {A:Around} (r:Room (k+1) A) (env:Env):Room k (A.deeper env) :=
 ⟨r.hd,by have:=r.dp;show A.depth+1+3 * k+5<_;lia,by have:=r.un;show A.units+3+16 * k+200<_;lia⟩
def R3 {A:Around} {C:Addr} {us:List Value} {z:List (Str×Value)}:(A.under (.builtin "type.__call__" ⟨.ref C :: us,z⟩)).depth=A.depth+1:=by
 first | rfl | simp[Around.under,Code.weight,Code.isCreation,Code.isGuard,Code.isCaller,Code.frames,Code.isFrame,guardIds]
def R4 {A:Around} {C:Addr} {us:List Value} {z:List (Str×Value)}:(A.under (.builtin "type.__call__" ⟨.ref C :: us,z⟩)).units=A.units+1:=by
 first | rfl | simp[Around.under,Code.cUnits,Code.frames,Code.isFrame]
def Room.make {k:Nat} {A:Around} (r:Room (k+1) A) (C:Addr) (us:List Value) (z:List (Str×Value)):Room k (A.under (.builtin "type.__call__" ⟨.ref C :: us,z⟩)) :=
 ⟨r.hd,by have:=r.dp;rw[R3];lia,by have:=r.un;rw[R4];lia⟩
def Room.depth {k:Nat} {A:Around} (r:Room k A):A.depth<recursionLimit:=by have:=r.dp;lia
def Room.units {k:Nat} {A:Around} (r:Room k A):A.units+64<cLine:=by have:=r.un;lia
def xL:TA:=λ_ H Q=>Q [] H
def yH (ta:TE) (z:TA):TA:=fun σ H Q=>ta σ H λx H1=>z σ H1 λxs H2=>Q (x :: xs) H2
section
variable {X:Cx} {e:Expr} {es:List Expr} {te:TE} {t:TA} {pos:Pos}
def aB:PA X [] xL:=λ_ _ _ _ H Q I h=>ki ⟨[],H,I,.nil,h⟩
def aA (z:PE X e te) (J:PA X es t) (hs:starEach (e :: es) X.env=(false,eval e X.env) :: starEach es X.env:=by rfl):PA X (e :: es) (yH te t):=by
 intro pos pins s σ H Q I h;rw[hs];show wpAny _ _ (spliced ((false,eval e X.env) :: backTo pos (starEach es X.env))) _ _ s;refine iq (thn (z pins s σ H _ I h) λu L ⟨x,H1,M,r1,U⟩=>?_);exact thn (J pos pins L σ H1 _ M U) λus s2 ⟨xs,H2,Y,r2,q2⟩=>⟨x :: xs,H2,Y,.cons r1 r2,q2⟩
def aFx (t:TA):TE:=fun σ H Q=>t σ H λxs H1=>xs.length<=sizeLine/\∀ p,H1 p=none->Q (.ref p) (upd H1 p (.tup xs))
def aDy (t:TA):TE:=fun σ H Q=>t σ H λxs H1=>xs.length<=sizeLine/\∀ p,H1 p=none->Q (.ref p) (upd H1 p (.lst xs))
def cM {M} (h:PA X es t):PE X (.Tuple es M pos) (aFx t):=by
 intro pins s σ H Q I U;refine wpAny_Tuple_spliced (thn (h pos pins s σ H _ I U) λus J ⟨xs,H1,L,r,z,q⟩=>⟨by rw[<- r.length];exact z,?_⟩);have Y:H1 J.heap.objs.size=none:=L.hok.fresh (ah _);refine⟨.ref J.heap.objs.size,upd H1 J.heap.objs.size (.tup xs),L.laid (t':=J.toks) (λb u e=>aGW _ e) (ah _) ?_,rfl,q _ Y⟩;exact⟨z,us,r,⟨_,aG2 _ rfl,rfl,_,rfl⟩⟩
def bP (h:PA X es t):PE X (.List es pos) (aDy t):=by
 intro pins s σ H Q I M;refine wpAny_List_spliced (thn (h pos pins s σ H _ I M) λus J ⟨xs,H1,L,r,z,q⟩=>⟨by rw[<- r.length];exact z,?_⟩);have U:H1 J.heap.objs.size=none:=L.hok.fresh (ah _);refine⟨.ref J.heap.objs.size,upd H1 J.heap.objs.size (.lst xs),L.laid (t':=J.toks) (λb u e=>aGW _ e) (ah _) ?_,rfl,q _ U⟩;exact⟨z,us,0,r,aG2 _ rfl⟩
end
abbrev Sp:=List V->Hp->VK->XK->Prop
abbrev CXT:=List Env->Hp->Shared->XK->Value->Shared->Prop
structure Env0 (P:Program) (w:World) (K:PySem.W.Frag) (mg:Str->Option Value) (base:Heap) (A:Around) (outer:List Env) (s:Shared) (H:Hp):Prop where
 frames:A.frames=some outer
 mod:Mod K mg base
 bs:∀ b o,base.get? b=some o->s.heap.get? b=some o/\H b=none
 bsz:base.objs.size<=s.heap.objs.size
 funs:s.heap.FunFrames base outer
 frf:∀ b∈frs outer,H b=none
 hok:HOk P w H s.heap
 bare:AllBare s.gens
def CE (outer:List Env) (P:Program) (w:World) (H:Hp) (s:Shared) (Q:VK) (u:Value) (s':Shared):Prop :=
 ∃ v H',s'.os=s.os/\AllBare s'.gens/\Un (frs outer) [] H H' s.heap s'.heap/\HOk P w H' s'.heap/\RelV v u/\Q v H'
def CR (CX:CXT) (outer:List Env) (P:Program) (w:World) (H:Hp) (s:Shared) (Q:VK) (E:XK) (r:Result) (s':Shared):Prop :=
 match r with
 | .ok (.ret u)=>CE outer P w H s Q u s'
 | .ok _=>False
 | .error e=>CX outer H s E e s'
structure FnOk (P:Program) (w:World) (K:PySem.W.Frag) (mg:Str->Option Value) (base:Heap) (CX:CXT) (k:Nat) (f:Addr) (fd:FuncData) (ps:List Str) (sp:Sp):Prop where
 len:∀ vs H Q E,sp vs H Q E->vs.length=ps.length
 run:∀ (A:Around) (outer:List Env) (s:Shared) (H:Hp) (args:Args) (us:List Value) (vs:List V) (Q:VK) (E:XK),Room k A->Env0 P w K mg base A outer s H->BindsTo s fd args (ps.zip us)->Vals vs us->sp vs H Q E ->
  codeAny (model P w) A (.call (.ref f) args) (CR CX outer P w H s Q E) s
def FnOk.imp {P:Program} {w:World} {K:PySem.W.Frag} {mg:Str->Option Value} {base:Heap} {CX:CXT} {k:Nat} {f:Addr} {fd:FuncData} {ps:List Str} {sp z:Sp} (F:FnOk P w K mg base CX k f fd ps sp)
 (h:∀ vs H Q E,z vs H Q E->sp vs H Q E):FnOk P w K mg base CX k f fd ps z :=
 ⟨λvs H Q E q=>F.len vs H Q E (h _ _ _ _ q),λA outer s H args us vs Q E J he L M hs=>F.run A outer s H args us vs Q E J he L M (h _ _ _ _ hs)⟩
def Env0.make {P:Program} {w:World} {K:PySem.W.Frag} {mg:Str->Option Value} {base:Heap} {A:Around} {outer:List Env} {s:Shared} {H:Hp} (e:Env0 P w K mg base A outer s H) (C:Addr) (us:List Value) (z:List (Str×Value)) :
 Env0 P w K mg base (A.under (.builtin "type.__call__" ⟨.ref C :: us,z⟩)) outer s H:=⟨by first | exact e.frames | (simpa[Around.under,Code.envs,Code.isFrame,pushEnvs]using e.frames),e.mod,e.bs,e.bsz,e.funs,e.frf,e.hok,e.bare⟩
section
variable {X:Cx} {pins:List (Addr×Obj)} {σ:St} {H:Hp} {s s':Shared}
def Inv.env0 (I:Inv X pins σ H s):Env0 X.prog X.w X.K X.mg X.base X.A X.stack s H :=
 ⟨I.ok.frames,I.ok.mod,I.bs,g0 I.ok.bsz I.sz,I.stack,I.stkFree,I.hok,I.bare⟩
def Inv.after {Q:VK} {u:Value} (I:Inv X pins σ H s) (h:CE X.stack X.prog X.w H s Q u s'):EP X pins σ Q u s':=by
 obtain⟨v,H',os,bare,un,hok,r,q⟩:=h;obtain⟨L,g,d,t,J⟩:=s';obtain rfl:J=s.os:=os;exact⟨v,H',I.call (h':=L) (g':=g) (d':=d) (t':=t) (ch:=[]) un hok bare (λb z=>absurd z (by simp)),r,q⟩
end
def yI (sp:Sp) (aj:List V) (E:XK) (t:TA):TE:=fun σ H Q=>t σ H λvs H1=>sp (vs++aj) H1 Q E
inductive Z2 (C:Addr) (m:Str) (sp:Sp) (aj:List V) (E:XK) (t:TA) (σ:St) (Q:VK) (x:V) (H1:Hp):Prop
 | mk (a:_) (dx:_) (fs:_) (h0_:x=.ref a) (h1_:H1 a=some (.ins C dx fs)) (h2_:fs.lookup m=none) (h3_:t σ H1 λvs H2=>sp (x :: (vs++aj)) H2 Q E):Z2 C m sp aj E t σ Q x H1
def Z3 (C:Addr) (m:Str) (sp:Sp) (aj:List V) (E:XK) (ta:TE) (t:TA):TE:=fun σ H Q=>ta σ H λx H1=>Z2 C m sp aj E t σ Q x H1
def Z4 (C:Addr) (sp:Sp) (aj:List V) (E:XK) (t:TA):TE:=fun σ H Q=>t σ H λvs H1=>∀ x dx,H1 x=none->H1 dx=none->dx≠x ->
 sp (.ref x :: (vs++aj)) (upd (upd H1 dx (.own x)) x (.ins C dx [])) (λv H2=>v=.non/\Q (.ref x) H2) E
def Binds (K:PySem.W.Frag) (fd:FuncData) (ps:List Str) (ds:List Value):Prop :=
 ∀ (s:Shared) (us:List Value),K.In s.heap->(us++ds).length=ps.length->BindsTo s fd ⟨us,[]⟩ (ps.zip (us++ds))
def Binds.all {K:PySem.W.Frag} {fd:FuncData} {ps:List Str} (h:∀ us:List Value,us.length=ps.length->bindArgs fd ⟨us,[]⟩=pure (ps.zip us)):Binds K fd ps []:=λs us _ z=>by
 rw[gv]at z ⊢;exact .of_eq (h us z)
def dL (CX:CXT) (X:Cx) (E:XK):Prop:=∀ (pins:List (Addr×Obj)) (σ:St) (H:Hp) (s:Shared) (e:Value) (s':Shared),Inv X pins σ H s->CX X.stack H s E e s'->X.xe e s'
section
variable {X:Cx} {CX:CXT} {k:Nat} {f C:Addr} {fd:FuncData} {ps:List Str} {sp:Sp} {aj:List V} {ds:List Value} {E:XK} {x m:Str} {p pos apos:Pos} {e o:Expr} {es:List Expr} {ta:TE} {t:TA}
def uO {pins:List (Addr×Obj)} {σ:St} {H:Hp} {s:Shared} {Q:VK} {us:List Value} {vs:List V} (F:FnOk X.prog X.w X.K X.mg X.base CX k f fd ps sp) (J:Room k X.A) (L:Binds X.K fd ps ds) (hd:Vals aj ds) (M:dL CX X E)
 (I:Inv X pins σ H s) (r:Vals vs us) (h:sp (vs++aj) H Q E):wpAny (model X.prog X.w) X.A (call (.ref f) us) (EP X pins σ Q) X.xe s:=by
 have r2:Vals (vs++aj) (us++ds):=r.append hd;have U:(us++ds).length=ps.length:=by rw[<- r2.length];exact F.len _ _ _ _ h
 refine jx (jp (F.run X.A X.stack s H ⟨us,[]⟩ (us++ds) (vs++aj) Q E J I.env0 (L s us I.kIn U) r2 h) λr s' z=>?_);cases r with
 | error e=>exact M pins σ H s e s' I z
 | ok fl =>
  cases fl with
  | ret u=>exact I.after z
  | next=>exact False.elim z
  | brk=>exact False.elim z
  | cont=>exact False.elim z
def Z5 (F:FnOk X.prog X.w X.K X.mg X.base CX k f fd ps sp) (J:Room k X.A) (L:Gl X x) (M:X.mg x=some (.ref f)) (U:PySem.W.keepIn X.K (.ref f)=true) (Y:Binds X.K fd ps ds) (hd:Vals aj ds) (hx:dL CX X E)
 (ha:PA X (e :: es) t) (hdb:(x == ("__debug__":Str))=false:=by decide) (he:starEach (e :: es) X.env=(false,eval e X.env) :: starEach es X.env:=by rfl) (hpl:(backTo pos (starEach es X.env)).any (·.1)=false:=by rfl) :
 PE X (.Call (.Name x p) (e :: es) [] pos) (yI sp aj E t):=by
 intro pins s σ H Q I h;refine ib (eL I L M ?_ hdb);refine iz (h₀:=X.base) I.ok.mod.kin U (thn (ha pos pins s σ H _ I h) λus s1 ⟨vs,H1,z,r,q⟩=>⟨z.kIn,?_⟩) he hpl;exact uO F J Y hd hx z r q
def aCp {pl:Sem Bool} (he:PE X o ta) (c:Cls X.K C) (z:aAg X.K C m f) (F:FnOk X.prog X.w X.K X.mg X.base CX k f fd ps sp) (U:Room k X.A) (Y:Binds X.K fd ps ds) (hd:Vals aj ds) (hx:dL CX X E) (ha:PA X (e :: es) t)
 (hst:starEach (e :: es) X.env=(false,eval e X.env) :: starEach es X.env:=by rfl) (hpl:(backTo pos (starEach es X.env)).any (·.1)=false:=by rfl)
 (ht:eval (.Call (.Attribute o m apos) (e :: es) [] pos) X.env=(do
  let J <- eval o X.env
  standAt apos.atName
  let (f,first) <- holding [J] (getMethod J m pl)
  callWith pos f first (backTo pos (starEach (e :: es) X.env)) (backToKw pos (keywordEach [] X.env))):=by rfl) :
 PE X (.Call (.Attribute o m apos) (e :: es) [] pos) (Z3 C m sp aj E ta t):=by
 intro pins s σ H Q I h;refine jz (pl:=pl) (thn (he pins s σ H _ I h) λu s1 ⟨x,H1,L,rx,a,dx,fs,ex,ea,l,q⟩=>?_) ht;subst ex;obtain rfl:u=Value.ref a:=rx;refine uN L ea c z l ?_;refine iz (first:=[.ref a]) (h₀:=X.base) I.ok.mod.kin z.kp (thn (ha pos pins s1 σ H1 _ L q) λus s2 ⟨vs,H2,M,r,q2⟩=>⟨M.kIn,?_⟩) hst hpl;exact uO (us:=.ref a :: us) (vs:=.ref a :: vs) F U Y hd hx M (.cons rfl r) q2
def aAi {pl:Sem Bool} (he:PE X o ta) (c:Cls X.K C) (J:aAg X.K C m f) (F:FnOk X.prog X.w X.K X.mg X.base CX k f fd ps sp) (M:Room k X.A) (U:Binds X.K fd ps ds) (hd:Vals aj ds) (Y:dL CX X E)
 (ht:eval (.Call (.Attribute o m apos) [] [] pos) X.env=(do
  let L <- eval o X.env
  standAt apos.atName
  let (f,first) <- holding [L] (getMethod L m pl)
  callWith pos f first (backTo pos (starEach [] X.env)) (backToKw pos (keywordEach [] X.env))):=by rfl) :
 PE X (.Call (.Attribute o m apos) [] [] pos) (Z3 C m sp aj E ta xL):=by
 intro pins s σ H Q I h;refine jz (pl:=pl) (thn (he pins s σ H _ I h) λu s1 ⟨x,H1,z,rx,a,dx,fs,ex,ea,l,q⟩=>?_) ht;subst ex;obtain rfl:u=Value.ref a:=rx;refine uN z ea c J l ?_;exact ug (first:=[.ref a]) z.kIn J.kp (uO (us:=[.ref a]) (vs:=[.ref a]) F M U hd Y z (.cons rfl .nil) q)
structure Mk (K:PySem.W.Frag) (C f:Addr):Prop where
 makes:PySem.W.makesIn K C=true
 init:PySem.W.findIn K (.ref C) "__init__"=some (some (.ref f))
 fn:PySem.W.isFn K (.ref f)=true
 kp:PySem.W.keepIn K (.ref C)=true
def G8 {pins:List (Addr×Obj)} {σ:St} {H:Hp} {s:Shared} {Q:VK} {us:List Value} {vs:List V} (M:Mk X.K C f) (F:FnOk X.prog X.w X.K X.mg X.base CX k f fd ps sp) (U:Room (k+1) X.A) (Y:Binds X.K fd ps ds) (hd:Vals aj ds)
 (hx:dL CX X E) (I:Inv X pins σ H s) (r:Vals vs us)
 (h:∀ x dx,H x=none->H dx=none->dx≠x->sp (.ref x :: (vs++aj)) (upd (upd H dx (.own x)) x (.ins C dx [])) (λv H2=>v=.non/\Q (.ref x) H2) E) :
 wpAny (model X.prog X.w) X.A (call (.ref C) us) (EP X pins σ Q) X.xe s:=by
 have L:=h (s.heap.objs.size+1) s.heap.objs.size (I.hok.fresh (lq _)) (I.hok.fresh (ah _)) (aGi (il _));have J:=Inv.made (C:=C) I;have r2:Vals (V.ref (s.heap.objs.size+1) :: (vs++aj)) (Value.ref (s.heap.objs.size+1) :: (us++ds)):=.cons rfl (r.append hd);have hl:(Value.ref (s.heap.objs.size+1) :: us++ds).length=ps.length:=by
  have e:=r2.length;rw[F.len _ _ _ _ L]at e;exact e.symm
 refine jx (aAf (f:=f) I.kIn M.makes M.init (beq_iff_eq.mp M.fn) (jp (F.run _ X.stack _ _ ⟨Value.ref (s.heap.objs.size+1) :: us,[]⟩ (Value.ref (s.heap.objs.size+1) :: (us++ds)) _ _ E (U.make C us [])
  (J.env0.make C us []) (Y _ (Value.ref (s.heap.objs.size+1) :: us) J.kIn hl) r2 L) λr s' z=>?_))
 cases r with
 | error e=>exact hx pins σ _ _ e s' J z
 | ok fl =>
  cases fl with
  | ret u =>
   obtain⟨v,H',I3,rv,ev,q3⟩:=J.after z;subst ev;exact⟨rv,⟨V.ref (s.heap.objs.size+1),H',I3,rfl,q3⟩⟩
  | next=>exact False.elim z
  | brk=>exact False.elim z
  | cont=>exact False.elim z
def aCq (M:Mk X.K C f) (F:FnOk X.prog X.w X.K X.mg X.base CX k f fd ps sp) (J:Room (k+1) X.A) (L:Gl X x) (U:X.mg x=some (.ref C)) (Y:Binds X.K fd ps ds) (hd:Vals aj ds) (hx:dL CX X E)
 (ha:PA X (e :: es) t) (hdb:(x == ("__debug__":Str))=false:=by decide) (he:starEach (e :: es) X.env=(false,eval e X.env) :: starEach es X.env:=by rfl) (hpl:(backTo pos (starEach es X.env)).any (·.1)=false:=by rfl) :
 PE X (.Call (.Name x p) (e :: es) [] pos) (Z4 C sp aj E t):=by
 intro pins s σ H Q I h;refine ib (eL I L U ?_ hdb);refine iz (h₀:=X.base) I.ok.mod.kin M.kp (thn (ha pos pins s σ H _ I h) λus s1 ⟨vs,H1,z,r,q⟩=>⟨z.kIn,?_⟩) he hpl;exact G8 M F J Y hd hx z r q
def aAj (M:Mk X.K C f) (F:FnOk X.prog X.w X.K X.mg X.base CX k f fd ps sp) (z:Room (k+1) X.A) (J:Gl X x) (L:X.mg x=some (.ref C)) (U:Binds X.K fd ps ds) (hd:Vals aj ds) (Y:dL CX X E)
 (hdb:(x == ("__debug__":Str))=false:=by decide):PE X (.Call (.Name x p) [] [] pos) (Z4 C sp aj E xL):=by
 intro pins s σ H Q I h;refine ib (eL I J L ?_ hdb);exact ug I.kIn M.kp (G8 (us:=[]) M F z U hd Y I .nil h)
end
def PK (X:Cx) (aq:List Keyword) (t:TA):Prop :=
 ∀ (pos:Pos) (pins:List (Addr×Obj)) (s:Shared) (σ:St) (H:Hp) (Q:List V->Hp->Prop),Inv X pins σ H s->t σ H Q->wpAny (model X.prog X.w) X.A (evalAll ((backToKw pos (keywordEach aq X.env)).map (·.2))) (AP X pins σ Q) X.xe s
section
variable {X:Cx} {CX:CXT} {k:Nat} {f C:Addr} {fd:FuncData} {ps ks:List Str} {sp:Sp} {E:XK} {x m:Str} {p pos apos av:Pos} {e o:Expr} {es:List Expr} {aq:List Keyword} {te ta:TE} {t tk:TA} {nm:Option Str}
def aDz:PK X [] xL:=λ_ _ _ _ H Q I h=>wpAny_evalAll_nil ⟨[],H,I,.nil,h⟩
def aCr (z:PE X e te) (J:PK X aq t):PK X (⟨nm,e,av⟩ :: aq) (yH te t):=by
 intro pos pins s σ H Q I h;show wpAny _ _ (evalAll ((do let v <- eval e X.env;standAt pos;pure v) :: (backToKw pos (keywordEach aq X.env)).map (·.2))) _ _ s;refine wpAny_evalAll_cons (aGT (thn (z pins s σ H _ I h) λu L ⟨x,H1,M,r1,U⟩=>aGT (gw (aGU ?_))));exact thn (J pos pins L σ H1 _ M U) λus s2 ⟨xs,H2,Y,r2,q2⟩=>⟨x :: xs,H2,Y,.cons r1 r2,q2⟩
variable {g:List Value->List Value->List Value} {gV:List V->List V->List V}
end
structure FnScope (N P:List Str) (sc:Scope):Prop where
 kind:sc.kind=.function
 co:sc.isCoroutine=false
 gen:sc.isGenerator=false
 nd:N.Nodup
 pre:N.take P.length=P
 par:∀ x∈P,sc.names.lookup x=some .local\/sc.names.lookup x=some .cell
 nofree:∀ y∈sc.names,y.2≠.free
def yJ {kindOf:Str->Option NameKind} {x:Str}:∀ {binds:List (Str×Value)} {m:Str->Option Value},(∀ v,(x,v)∉binds)->bindL kindOf binds m x=m x
 | [],_,_=>rfl
 | (n,v) :: r,m,h=>by
  unfold bindL;rw[yJ λw hw=>h w (aGY _ hw)];split
  .have:x≠n:=by rintro rfl;exact h v aGX
   simp[this]
  .rfl
def yK {kindOf:Str->Option NameKind} {x:Str}:∀ {binds:List (Str×Value)} {m:Str->Option Value},(∀ v,(x,v)∉binds)->bindC kindOf binds m x=m x
 | [],_,_=>rfl
 | (n,v) :: r,m,h=>by
  unfold bindC;rw[yK λw hw=>h w (aGY _ hw)];split
  .rfl
  .have:x≠n:=by rintro rfl;exact h v aGX
   simp[this]
def yL {kindOf:Str->Option NameKind} {x:Str} {v:Value}:∀ {P:List Str} {vs:List Value} {i:Nat} {m:Str->Option Value},P.Nodup->P[i]?=some x->vs[i]?=some v->kindOf x=some .local ->
 bindL kindOf (P.zip vs) m x=some v
 | [],_,_,_,_,h,_,_=>by simp at h
 | _ :: _,[],_,_,_,_,h,_=>by simp at h
 | p :: P,w :: vs,0,m,nd,h1,h2,z=>by
  simp at h1 h2;subst h1;subst h2;show bindL kindOf ((p,w) :: P.zip vs) m p=_;unfold bindL;rw[yJ λv J=>(List.nodup_cons.mp nd).1 (mx J).1,eH z];simp
 | p :: P,w :: vs,i+1,m,nd,h1,h2,z=>by
  show bindL kindOf ((p,w) :: P.zip vs) m x=_;unfold bindL;exact yL (i:=i) (List.nodup_cons.mp nd).2 (by simpa using h1) (by simpa using h2) z
def yM {kindOf:Str->Option NameKind} {x:Str} {v:Value}:∀ {P:List Str} {vs:List Value} {i:Nat} {m:Str->Option Value},P.Nodup->P[i]?=some x->vs[i]?=some v->kindOf x≠some .local ->
 bindC kindOf (P.zip vs) m x=some v
 | [],_,_,_,_,h,_,_=>by simp at h
 | _ :: _,[],_,_,_,_,h,_=>by simp at h
 | p :: P,w :: vs,0,m,nd,h1,h2,z=>by
  simp at h1 h2;subst h1;subst h2;show bindC kindOf ((p,w) :: P.zip vs) m p=_;unfold bindC;rw[yK λv J=>(List.nodup_cons.mp nd).1 (mx J).1,dt z];simp
 | p :: P,w :: vs,i+1,m,nd,h1,h2,z=>by
  show bindC kindOf ((p,w) :: P.zip vs) m x=_;unfold bindC;exact yM (i:=i) (List.nodup_cons.mp nd).2 (by simpa using h1) (by simpa using h2) z
def eJ (N:List Str) (vs:List V):St:=vs.map some++List.replicate (N.length - vs.length) none
def gE (CX:CXT) (P:Program) (w:World) (K:PySem.W.Frag) (mg:Str->Option Value) (base:Heap) (N:List Str) (qual:Str) (scope:Scope) (f:Addr) (cd:Value) (A:Around) (outer:List Env) (s:Shared) (H:Hp) (E:XK):Cx where
 prog:=P
 w:=w
 K:=K
 mg:=mg
 base:=base
 A:=A.deeper (envOfC qual scope s.heap.objs.size f cd)
 N:=N
 s₀:=s
 H₀:=H
 env:=envOfC qual scope s.heap.objs.size f cd
 outer:=outer
 stack:=envOfC qual scope s.heap.objs.size f cd :: outer
 ex:=[]
 calm:=true
 fn:=λ_=>true
 pn:=[]
 xe:=λe s'=>wpAny (model P w) (A.deeper (envOfC qual scope s.heap.objs.size f cd)) (leaving (envOfC qual scope s.heap.objs.size f cd) e) (λ_ s''=>CX outer H s E e s'') (λe' s''=>CX outer H s E e' s'') s'
def G9 {z:Scope} {n:Nat} {x:Str} (h:z.names.lookup x=some .cell):∃ c,(cellsFrom n z.names []).lookup x=some c:=by
 have q:=lb z.names n [] (.inl h);exact Option.isSome_iff_exists.mp q
def qW {CX:CXT} {P:Program} {w:World} {K:PySem.W.Frag} {mg:Str->Option Value} {base:Heap} {N ps:List Str} {qual:Str} {scope:Scope} {f:Addr} {cd:Value} {A:Around} {outer:List Env} {s Y:Shared} {H:Hp} {E:XK} {us:List Value} {vs:List V}
 (S:FnScope N ps scope) (hd:A.handled=none) (J:Env0 P w K mg base A outer s H) (hl:vs.length=ps.length) (r:Vals vs us)
 (x:InCallC s s.heap.objs.size (bindL (envOfC qual scope s.heap.objs.size f cd).kindOf (ps.zip us) λ_=>none) (cellsFrom (s.heap.objs.size+1) scope.names []) (bindC (envOfC qual scope s.heap.objs.size f cd).kindOf (ps.zip us) λ_=>none) Y) :
 Inv (gE CX P w K mg base N qual scope f cd A outer s H E) [] (eJ N vs) H Y:=by
 have hpl:ps.length<=N.length:=by have:=congrArg List.length S.pre;rw[aGb]at this;lia
 obtain⟨h1,tk,rfl,hk⟩:=x.done;have L:∀ b:Addr,b∉(gE CX P w K mg base N qual scope f cd A outer s H E).ex:=λb z=>absurd (show b∈([]:List Addr) from z) (by simp);refine⟨⟨J.mod,S.kind,rfl,rfl,ah _,λy z c h1 h2=>?_,λy hy=>?_,λy c _ h=>?_,λ_=>hd,ja J.frames,.inr ⟨rfl,rfl⟩,λb z=>absurd z (L b),J.bs,J.bsz,λb _ _=>L b,λb z=>absurd z (L b),J.funs,J.frf⟩,
  rfl,J.bare,Un.kept hk,⟨_,x.toInCall.ns,λi y v h1 h2 h3=>?_⟩,λy c h=>⟨_,x.cell y c h⟩,J.hok.fresh (ah _),λy c h=>?_,λp M=>absurd (show p∈([]:List (Addr×Obj)) from M) (by simp),J.hok.kept hk,?_⟩
 .exact name_of_addr x.apart (ip h1) (ip h2)
 .have hy:scope.names.lookup y=some .cell\/scope.names.lookup y=some .free:=hy;rcases hy with hy | hy
  .exact G9 hy
  .exact absurd rfl (S.nofree _ (ip hy))
 .exact ji (x.above y c (ip h))
 .have hi:i<vs.length:=by
   unfold eJ at h2
   by_cases hi:i<vs.length
   .exact hi
   .rw[lz (by simpa using hi)]at h2;rw[qz]at h2;split at h2 <;> cases h2
  have ha:vs[i]?=some v:=by
   unfold eJ at h2;rw[qg (by simpa using hi),aGj]at h2;cases e:vs[i]? with
   | none=>rw[e]at h2;cases h2
   | some a=>rw[e]at h2;cases h2;rfl
  obtain⟨u,hu,rv⟩:=r.get ha;have M:ps[i]?=some y:=by
   rw[<- S.pre,List.getElem?_take_of_lt (by lia)];exact h1
  have U:ps.Nodup:=by rw[<- S.pre];exact S.nd.sublist (List.take_sublist _ _)
  refine⟨u,rv,?_⟩;rcases S.par y (aG6 M)with k | k
  .exact .inl ⟨k,yL U M hu k⟩
  .obtain⟨c,e⟩:=G9 (n:=s.heap.objs.size+1) k;refine .inr ⟨.inl k,c,e,?_⟩;have q:=x.cell y c e;rw[yM U M hu (by show scope.names.lookup y≠_;rw[k];decide)]at q;exact q
 .exact J.hok.fresh (ji (x.above y c (ip h)))
 .unfold eJ;show _=N.length;rw[aG4,aGV,aGf]
  lia
def aDf {CX:CXT} {P:Program} {w:World} {K:PySem.W.Frag} {mg:Str->Option Value} {base:Heap} {k:Nat} {f:Addr} {name qual:Str} {params:Arguments} {body:List Stmt} {scope:Scope} {dV kV Y pm z ct oc:Value} {an od:Option Addr}
 {ax:Array (Option Value)} {N ps:List Str} {sp:Sp} (lk:K.lookup f=some ⟨oc,od,.func (PySem.W.fnOf name qual params body scope dV kV Y pm an z ct),ax⟩) (ay:PySem.W.codeIn K z qual=true) (S:FnScope N ps scope)
 (len:∀ vs H Q E,sp vs H Q E->vs.length=ps.length)
 (M:∀ (A:Around) (outer:List Env) (s:Shared) (H:Hp) (vs:List V) (Q:VK) (E:XK),Room k (A.deeper (envOfC qual scope s.heap.objs.size f z))->sp vs H Q E ->
  ∃ t,PSs (gE CX P w K mg base N qual scope f z A outer s H E) body t/\t { nx:=λ_ H'=>Q .non H',rt:=Q } (eJ N vs) H) :
 FnOk P w K mg base CX (k+1) f (PySem.W.fnOf name qual params body scope dV kV Y pm an z ct) ps sp:=by
 refine⟨len,λA outer s H args us vs Q E hr e0 hb r aw=>?_⟩;have hl:=len _ _ _ _ aw;have KX:K.In s.heap:=e0.mod.kin.keeps λb o e=>(e0.bs b o e).1;have az:s.heap.NoLimit:=e0.mod.nolimit.keeps λb o e=>(e0.bs b o e).1;have U:∀ y∈ps.zip us,scope.names.lookup y.1=some .local\/(scope.names.lookup y.1=some .cell/\((cellsFrom (s.heap.objs.size+1) scope.names []).lookup y.1).isSome=true):=λ⟨n,v⟩ hy=>by
  rcases S.par n (mx hy).1 with q | q
  .exact .inl q
  .exact .inr ⟨q,lb _ _ _ (.inl q)⟩
 refine ny hr.depth (KX _ _ lk) rfl S.co S.gen rfl (qa KX ay) (hb _ _ _ _ ?_);refine ma S.kind U λenv he s1 x=>?_;subst he;refine⟨az.keeps x.toInCall.keep,ut ?_⟩;obtain⟨t,ht,hq⟩:=M A outer s H vs Q E (hr.deeper _) aw;have I:Inv (gE CX P w K mg base N qual scope f z A outer s H E) [] (eJ N vs) H s1:=qW S hr.hd e0 hl r x;refine ew (ht [] s1 (eJ N vs) H _ I hq) (λfl s' hs=>?_) λe s' hs=>hs;have fin:∀ {L:St} {H':Hp} {v:V} {u:Value},Inv (gE CX P w K mg base N qual scope f z A outer s H E) [] L H' s'->RelV v u->Q v H'->CE outer P w H s Q u s' :=
  λ{L H' v u} J rv q=>⟨v,H',J.os,J.bare,J.base,J.hok,rv,q⟩
 cases fl with
 | ret u =>
  obtain⟨v,L,H',J,rv,q⟩:=hs;exact fin J rv q
 | next =>
  obtain⟨L,H',J,q⟩:=hs;exact fin (v:=V.non) (u:=Value.none) J rfl q
 | brk =>
  obtain⟨_,_,_,q⟩:=hs;exact False.elim q
 | cont =>
  obtain⟨_,_,_,q⟩:=hs;exact False.elim q
section
variable {X:Cx} {x:Str} {p pos:Pos} {e:Expr} {es:List Expr} {t:TA} {id T:String} {r:List V->Hp->VK->Prop}
def tCB (r:List V->Hp->VK->Prop) (t:TA):TE:=fun σ H Q=>t σ H λvs H1=>r vs H1 Q
def aL (z:eK X (.builtin id) r) (J:Gl X x) (L:X.mg x=none) (M:bootBuiltins x=some (.builtin id)) (U:PA X (e :: es) t) (Y:x≠"__name__":=by decide) (hdb:(x == ("__debug__":Str))=false:=by decide)
 (he:starEach (e :: es) X.env=(false,eval e X.env) :: starEach es X.env:=by rfl) (hpl:(backTo pos (starEach es X.env)).any (·.1)=false:=by rfl):PE X (.Call (.Name x p) (e :: es) [] pos) (tCB r t):=by
 intro pins s σ H Q I h;refine ib (jX I J L M ?_ Y hdb);exact PyProof.Rows.callWith_builtin1 (thn (U pos pins s σ H _ I h) λus s1 ⟨vs,H1,I1,r1,q1⟩=>z pins s1 σ H1 vs us Q I1 r1 q1) he hpl
def eY (z:eK X (.type T) r) (J:Gl X x) (L:X.mg x=none) (M:bootBuiltins x=some (.type T)) (U:PA X (e :: es) t) (Y:x≠"__name__":=by decide) (hdb:(x == ("__debug__":Str))=false:=by decide)
 (he:starEach (e :: es) X.env=(false,eval e X.env) :: starEach es X.env:=by rfl) (hpl:(backTo pos (starEach es X.env)).any (·.1)=false:=by rfl):PE X (.Call (.Name x p) (e :: es) [] pos) (tCB r t):=by
 intro pins s σ H Q I h;refine ib (jX I J L M ?_ Y hdb);exact iy (thn (U pos pins s σ H _ I h) λus s1 ⟨vs,H1,I1,r1,q1⟩=>z pins s1 σ H1 vs us Q I1 r1 q1) he hpl
end
end L2
namespace HT
open PySem PyProof.Rows
def eqAt_int (A:Around) (s:Shared) (a:Int) (t:Tok) (c:Int) (u:Tok):∃ e,SeqAt.EqAt A s (.int a t) (.int c u) e/\(e=true↔a=c) :=
 ⟨(a == c),SeqAt.EqAt.int_int a t c u,by simp⟩
section
variable {prog:Program} {w:World} {A:Around} {E:Value->Shared->Prop} {s:Shared}
def cat_tup {t b:Addr} {vs ws:List Value} {Q:Value->Shared->Prop} (ht:IsTup s.heap t vs.toArray) (hb:IsTup s.heap b ws.toArray) (hv:vs≠[])
 (h1:ws=[]->Q (.ref t) s) (h2:ws≠[]->Q (.ref s.heap.objs.size) { s with heap:=s.heap.push { cls:=.type "tuple",data:=.seq (vs++ws).toArray } })
 (hsz:vs.length+ws.length<=sizeLine):wpAny (model prog w) A (binaryOp .Add (.ref t) (.ref b)) Q E s:=by
 obtain⟨⟨cls,dd,data,sl⟩,Y,hc,n,hd⟩:=id ht;obtain⟨⟨aw,J,data2,L⟩,z,M,n2,U⟩:=id hb;simp only at hc hd M U;subst hc hd M U;have e:vs.toArray++ws.toArray=(vs++ws).toArray:=by simp
 by_cases hw:ws=[]
 .exact uu ⟨_,Y,rfl⟩ ⟨_,z,rfl⟩ rh um nj my (mu _ _)
   (tuple_addW1 t b vs.toArray ws.toArray n n2 dd J sl L (by simpa using hv) (by simp[hw])) ⟨Y,z,h1 hw⟩
 .refine uu ⟨_,Y,rfl⟩ ⟨_,z,rfl⟩ rh um nj my (mu _ _)
   (tuple_addW2 t b vs.toArray ws.toArray n n2 dd J sl L (by simpa using hv) (by simpa using hw) (by rw[aG3,aG3];exact hsz)) ⟨Y,z,?_⟩
  rw[e];exact h2 hw
def sIx (n d:Nat):Option Int->Nat
 | none=>d
 | some v=>if v<0 then (v+(n:Int)).toNat else min v.toNat n
def sIx_none (n d:Nat):sIx n d none=d:=rfl
def sIx_nat (n d k:Nat):sIx n d (some (k:Int))=min k n:=by
 show (if (k:Int)<0 then ((k:Int)+(n:Int)).toNat else min (k:Int).toNat n)=min k n;rw[dt (by lia),Int.toNat_natCast]
def aEA (n d:Nat) (hd:d<=n) (o:Option Int):sIx n d o<=n:=by
 cases o with
 | none=>exact hd
 | some v =>
  show (if v<0 then (v+(n:Int)).toNat else min v.toNat n)<=n
  by_cases z:v<0
  .rw[eH z];lia
  .rw[dt z];exact Nat.min_le_right _ _
def Z6 (v:Int) (n d:Nat):(if v<0 then max (v+(n:Int)) 0 else min v (n:Int))=((sIx n d (some v):Nat):Int):=by
 show (if v<0 then max (v+(n:Int)) 0 else min v (n:Int))=(((if v<0 then (v+(n:Int)).toNat else min v.toNat n):Nat):Int)
 by_cases z:v<0
 .simp only[eH z];lia
 .simp only[dt z];lia
def R5 (lo hi:Option Int) (n:Nat):Builtin.Slice.sliceAdjust lo hi 1 (n:Int)=(((sIx n 0 lo:Nat):Int),((sIx n n hi:Nat):Int)):=by
 have h1:¬ ((1:Int)<0):=by lia
 unfold Builtin.Slice.sliceAdjust;simp only[h1,mi];refine Prod.ext ?_ ?_
 .cases lo with
  | none=>rfl
  | some v=>exact Z6 v n 0
 .cases hi with
  | none=>rfl
  | some v=>exact Z6 v n n
def R6 (i j:Nat):Builtin.Slice.slicePlaces (i:Int) (j:Int) 1=j - i:=by
 unfold Builtin.Slice.slicePlaces;have h1:(1:Int) > 0:=by lia
 simp only[h1,qh,Int.ediv_one];split <;> lia
def uP {v:Value} {o:Option Int} {Q:Option Int->Shared->Prop} (p:IsPart v o) (h:Q o s):wpAny (model prog w) A (Builtin.Slice.slicePartIndex v) Q E s:=by
 cases p with
 | none=>exact slicePart_none h
 | int i t=>exact slicePart_int h
def sliceApplied_gen {U:Addr} {L M:Value} {lo hi:Option Int} {n:Nat} {Q:Int×Int×Nat->Shared->Prop} (hs:s.heap.IsSliceOf U L M .none) (pl:IsPart L lo) (Y:IsPart M hi)
 (h:Q (((sIx n 0 lo:Nat):Int),1,sIx n n hi - sIx n 0 lo) s):wpAny (model prog w) A (Builtin.Slice.sliceApplied (.ref U) (pure (n:Int))) Q E s:=by
 obtain⟨os,z,aw,J⟩:=id hs;unfold Builtin.Slice.sliceApplied Builtin.Slice.sliceFields;refine aGT (aGT (jk z J (x:=L) rfl (aGT (jk z J (x:=M) rfl (aGT (jk z J (x:=.none) rfl (aGU ?_)))))));refine aGT (slicePart_none ?_);show wpAny _ _ (if ((1:Int) == 0)=true then _ else _) _ _ s;rw[dt (by decide)];refine aGT (uP pl (aGT (uP Y (aGT (aGU ?_)))));show wpAny _ _ (match Builtin.Slice.sliceAdjust lo hi 1 (n:Int)with | (lo,hi)=>pure (lo,(1:Int),Builtin.Slice.slicePlaces lo hi 1)) _ _ s;rw[R5 lo hi n];show wpAny _ _ (pure (((sIx n 0 lo:Nat):Int),(1:Int),Builtin.Slice.slicePlaces ((sIx n 0 lo:Nat):Int) ((sIx n n hi:Nat):Int) 1)) _ _ s;rw[R6];exact aGU h
def aAk (xs:Array Value) (i k:Nat):((List.range k).filterMap λ(m:Nat)=>xs[((i:Int)+(m:Int) * 1).toNat]?).toArray=((xs.toList.drop i).take k).toArray:=by
 have e:(λ(m:Nat)=>xs[((i:Int)+(m:Int) * 1).toNat]?)=λm=>xs[i+m]?:=by
  funext m
  have:((i:Int)+(m:Int) * 1).toNat=i+m:=by lia
  rw[this]
 rw[e];have:=pick_run xs i k;rw[List.filterMap_map]at this;have e2:((λx=>xs[x]?)∘λx=>i+x)=λm=>xs[i+m]?:=rfl;rw[e2]at this;rw[this]
def getItem_tuple_cut {t J:Addr} {items:Array Value} {vl vu:Value} {lo hi:Option Int} {Q:Value->Shared->Prop} (ht:IsTup s.heap t items) (hs:s.heap.IsSliceOf J vl vu .none) (pl:IsPart vl lo) (pu:IsPart vu hi)
 (hw:¬ (sIx items.size 0 lo=0/\sIx items.size items.size hi=items.size))
 (h:Q (.ref s.heap.objs.size) { s with heap:=s.heap.push { cls:=.type "tuple",data:=.seq ((items.toList.drop (sIx items.size 0 lo)).take (sIx items.size items.size hi - sIx items.size 0 lo)).toArray } })
 (hsz:items.size<=sizeLine):wpAny (model prog w) A (getItem (.ref t) (.ref J)) Q E s:=by
 have z:sizeOk (.seq ((items.toList.drop (sIx items.size 0 lo)).take (sIx items.size items.size hi - sIx items.size 0 lo)).toArray):=by
  show ((items.toList.drop (sIx items.size 0 lo)).take (sIx items.size items.size hi - sIx items.size 0 lo)).toArray.size<=sizeLine;rw[aG3,aGb,jy,ig]
  lia
 have hj:sIx items.size items.size hi<=items.size:=aEA _ _ (ah _) hi;obtain⟨os,L,M,aw⟩:=id hs;have U:s.TypeIs (.ref J) "slice":=⟨os,L,M⟩;unfold getItem
 try with_reducible refine fy ?_
 first | refine aGT (aGU ?_) | skip
 refine aGT (wpAny_sequenceKey ht.typeIs (by decide) ?_);refine aGT (r6 (name:=Str.ofString "__getitem__") ht.typeIs je
  (oj je ht.typeIs entry_tuple_getitem ?_ (args_tuple_getitem _ _)))
 show wpAny _ _ (Builtin.Tuple.tupleItemsOf (.ref t) >>= _) _ _ s;refine aGT (tupleItemsOf_ ht ?_);refine aGT (sf U ?_);rw[eH (by decide)];refine aGT (sliceApplied_gen hs pl pu ?_);have Y:¬ ((((sIx items.size 0 lo:Nat):Int) == 0 && (1:Int) == 1 && (sIx items.size items.size hi - sIx items.size 0 lo) == items.size)=true):=by
  intro q;rw[gf,gf]at q;have q1:((sIx items.size 0 lo:Nat):Int)=0:=eq_of_beq q.1.1;have q2:sIx items.size items.size hi - sIx items.size 0 lo=items.size:=eq_of_beq q.2;exact hw ⟨by lia,by lia⟩
 show wpAny _ _ (if (((sIx items.size 0 lo:Nat):Int) == 0 && (1:Int) == 1 && (sIx items.size items.size hi - sIx items.size 0 lo) == items.size)=true then _ else _) _ _ s;rw[dt Y,aAk]
 first
  | exact aGT (m:=Builtin.Tuple.tupleExact _) (jf (aGU ⟨_,rfl,aGU h⟩) z)
  | exact aGT (m:=Builtin.Tuple.tupleExact _) (jf (aGT (aGU (aGU ⟨_,rfl,aGU h⟩))) z)
  | exact aGT (aGT (m:=Builtin.Tuple.tupleExact _) (jf (aGU (aGU ⟨_,rfl,aGU h⟩)) z))
  | exact aGT (aGT (m:=Builtin.Tuple.tupleExact _) (jf (aGU ⟨_,rfl,aGU h⟩) z))
end
end HT
namespace L2
open PySem PySem.Spec PyProof.Rows
abbrev TO:=St->Hp->(Option Int->Hp->Prop)->Prop
def PO (X:Cx) (e:Option Expr) (t:TO):Prop :=
 ∀ (pins:List (Addr×Obj)) (s:Shared) (σ:St) (H:Hp) (Q:Option Int->Hp->Prop),Inv X pins σ H s->t σ H Q ->
  wpAny (model X.prog X.w) X.A (evalPart e X.env) (λu s'=>∃ o H',Inv X pins σ H' s'/\IsPart u o/\Q o H') X.xe s
def aCs:TO:=λ_ H Q=>Q none H
inductive Z7 (Q:Option Int->Hp->Prop) (x:V) (H1:Hp):Prop
 | mk (i:_) (h0_:x=.int i) (h1_:Q (some i) H1):Z7 Q x H1
def aFE (t:TE):TO:=fun σ H Q=>t σ H λx H1=>Z7 Q x H1
def R7 {ns:List Int}:∀ {us:List Value},Vals (ns.map V.int) us->IntsAre us ns:=by
 induction ns with
 | nil=>intro us r;rw[lr]at r;cases r;exact .nil
 | cons n ns z =>
  intro us r;rw[aGk]at r;cases r with
  | cons r1 r2 =>
   obtain⟨t,e⟩:=r1;subst e;exact .cons n t (z r2)
section
variable {X:Cx} {e:Expr} {te:TE} {lo hi:Option Expr} {tl th:TO} {pos p2:Pos}
def tL:PO X none aCs:=by
 intro pins s σ H Q I h;rw[evalPart_none];exact aGU ⟨none,H,I,.none,h⟩
def tM (h:PE X e te):PO X (some e) (aFE te):=by
 intro pins s σ H Q I hw;rw[evalPart_some];refine thn (h pins s σ H _ I hw) λu L ⟨x,H1,z,r1,J⟩=>?_;obtain⟨i,rfl,q⟩:=J;obtain⟨t,rfl⟩:=r1;exact⟨some i,H1,z,.int i t,q⟩
def SlR (X:Cx) (r:V->Option Int->Option Int->Hp->VK->Prop):Prop :=
 ∀ (pins:List (Addr×Obj)) (s:Shared) (σ:St) (H:Hp) (x:V) (v z J:Value) (lo hi:Option Int) (L:Addr) (Q:VK),Inv X pins σ H s->RelV x v->s.heap.IsSliceOf L z J .none->IsPart z lo->IsPart J hi->r x lo hi H Q ->
  ∃ T id,typeLookup (.type T) "__getitem__"=pure (some (.builtin id))/\s.TypeIs v T/\wpAny (model X.prog X.w) X.A (getItem v (.ref L)) (EP X pins σ Q) X.xe s
def tSl (r:V->Option Int->Option Int->Hp->VK->Prop) (te:TE) (tl th:TO):TE:=fun σ H Q=>te σ H λx H1=>tl σ H1 λl H2=>th σ H2 λu z=>r x l u z Q
def pB {r:V->Option Int->Option Int->Hp->VK->Prop} (M:SlR X r) (he:PE X e te) (U:PO X lo tl) (Y:PO X hi th):PE X (.Subscript e (.Slice lo hi none p2) pos) (tSl r te tl th):=by
 intro pins s σ H Q I h;refine Subscript_ (thn (he pins s σ H _ I h) λv s1 ⟨x,H1,I1,r1,q1⟩=>?_);refine wpAny_Slice (thn (U pins s1 σ H1 _ I1 q1) λz s2 ⟨l,H2,I2,pl,q2⟩=>thn (Y pins s2 σ H2 _ I2 q2) λJ s3 ⟨u,L,I3,pu,q3⟩=>?_);rw[evalPart_none];refine aGU ?_;have I4:Inv X pins σ L { s3 with heap:=s3.heap.push { cls:=.type "slice",data:=.fields #[z,J,.none] } }:=I3.kept (t':=s3.toks) λb ob q=>aGW _ q;obtain⟨T,id,hT,ht,hg⟩:=M pins { s3 with heap:=s3.heap.push { cls:=.type "slice",data:=.fields #[z,J,.none] } } σ L x v z J l u s3.heap.objs.size Q I4 r1 (Heap.IsSliceOf.new ..) pl pu q3;show wpAny (model X.prog X.w) X.A (subscriptTail e (.Slice lo hi none p2) v (.ref s3.heap.objs.size)) (EP X pins σ Q) X.xe { s3 with heap:=s3.heap.push { cls:=.type "slice",data:=.fields #[z,J,.none] } };exact tail_any (ops:=[.ref s3.heap.objs.size,v]) ht hT hg (by with_unfolding_all rfl)
def jZ (xs:List V) (lo hi:Option Int):List V:=(xs.drop (HT.sIx xs.length 0 lo)).take (HT.sIx xs.length xs.length hi - HT.sIx xs.length 0 lo)
def sC (xs:List V) (lo hi:Option Int):(jZ xs lo hi).length<=xs.length:=by
 unfold jZ;rw[aGb,jy]
 lia
inductive aAl (K:PySem.W.Frag) (x:V) (lo:Option Int) (hi:Option Int) (H:Hp) (Q:VK):Prop
 | mk (a:_) (xs:_) (h0_:x=.ref a) (h1_:SqT K H a xs) (h2_:¬ (HT.sIx xs.length 0 lo=0/\HT.sIx xs.length xs.length hi=xs.length)) (h3_:∀ p,H p=none->Q (.ref p) (upd H p (.tup (jZ xs lo hi)))):aAl K x lo hi H Q
def aFy (K:PySem.W.Frag):V->Option Int->Option Int->Hp->VK->Prop:=λx lo hi H Q=>aAl K x lo hi H Q
def aEB:SlR X (aFy X.K):=by
 intro pins s σ H x v U Y lo hi sl Q I J hs pl L h;obtain⟨a,xs,rfl,M,hw,q⟩:=h;cases J;obtain⟨its,r,ht,z⟩:=I.tuple M;have hlen:its.toArray.size=xs.length:=by rw[aG3];exact r.length.symm
 refine⟨"tuple",_,PyProof.Rows.slot_tuple_getitem.lookup,ht.typeIs,?_⟩;refine HT.getItem_tuple_cut ht hs pl L (by rw[hlen];exact hw) ?_ (by rw[hlen];exact z);rw[hlen];refine⟨.ref s.heap.objs.size,_,I.laid (t':=s.toks) (o:=.tup (jZ xs lo hi)) (λb ob q=>aGW _ q) (ah _) ?_,rfl,q _ (I.hok.fresh (ah _))⟩;exact⟨g0 (sC xs lo hi) z,_,(r.drop (HT.sIx xs.length 0 lo)).take (HT.sIx xs.length xs.length hi - HT.sIx xs.length 0 lo),IsTup.new _ _⟩
inductive Z8 (K:PySem.W.Frag) (x:V) (y:V) (H:Hp) (Q:VK):Prop
 | mk (a:_) (b:_) (xs:_) (ys:_) (h0_:x=.ref a) (h1_:y=.ref b) (h2_:SqT K H a xs) (h3_:SqT K H b ys) (h4_:xs≠[]) (h5_:xs.length+ys.length<=sizeLine) (h6_:(ys=[]->Q (.ref a) H)) (h7_:(ys≠[]->∀ p,H p=none->Q (.ref p) (upd H p (.tup (xs++ys))))):Z8 K x y H Q
def aFF (K:PySem.W.Frag):R2:=λx y H Q=>Z8 K x y H Q
def Vals.nil_iff {xs:List V} {us:List Value} (r:Vals xs us):us=[]↔xs=[]:=by
 cases r with
 | nil=>simp
 | cons _ _=>simp
def aCt:OpR X (binaryOp .Add) (aFF X.K):=by
 intro pins s σ H x y v u Q I M U h;obtain⟨a,b,xs,ys,rfl,rfl,Y,hb,hx,J,q1,q2⟩:=h;cases M;cases U;obtain⟨its,r1,p1,_⟩:=I.tuple Y;obtain⟨L,r2,p2,_⟩:=I.tuple hb;refine HT.cat_tup p1 p2 (λz=>hx (r1.nil_iff.mp z)) (λz=>⟨.ref a,H,I,rfl,q1 (r2.nil_iff.mp z)⟩) (λz=>?_) (by rw[<- r1.length,<- r2.length];exact J);refine⟨.ref s.heap.objs.size,_,I.laid (t':=s.toks) (o:=.tup (xs++ys)) (λb ob q=>aGW _ q) (ah _) ?_,rfl,q2 (λw=>z (r2.nil_iff.mpr w)) _ (I.hok.fresh (ah _))⟩;exact⟨by rw[aG4];exact J,_,r1.append r2,IsTup.new _ _⟩
end
def ixN (n:Nat) (i:Int):Option Nat:=if 0<=i then (if i<n then some i.toNat else none)else if -(n:Int)<=i then some (i+n).toNat else none
def atI {z:Type} (xs:List z) (i:Int):Option z:=(ixN xs.length i).bind λj=>xs[j]?
def aCu {n:Nat} {i:Int} {j:Nat} (h:ixN n i=some j):seqIndex? i n=some j/\j<n/\-(n:Int)<=i/\i<n:=by
 unfold ixN at h
 by_cases h0:0<=i
 .rw[eH h0]at h
  by_cases h1:i<n
  .rw[eH h1]at h;have e:i.toNat=j:=gu h;exact⟨by rw[seqIndex_of h0 h1,e],by lia,by lia,h1⟩
  .rw[dt h1]at h;cases h
 .rw[dt h0]at h
  by_cases h1:-(n:Int)<=i
  .rw[eH h1]at h;have e:(i+n).toNat=j:=gu h;exact⟨by rw[seqIndex_neg (by lia) h1,e],by lia,h1,by lia⟩
  .rw[dt h1]at h;cases h
def zS {z:Type} {xs:List z} {i:Int} {v:z} (h:atI xs i=some v):∃ j,seqIndex? i xs.length=some j/\xs[j]?=some v/\j<xs.length/\-(xs.length:Int)<=i/\i<xs.length:=by
 unfold atI at h;cases e:ixN xs.length i with
 | none=>rw[e]at h;cases h
 | some j =>
  rw[e]at h;obtain⟨h1,h2,h3,h4⟩:=aCu e;exact⟨j,h1,h,h2,h3,h4⟩
def pC {z:Type} {xs:List z} {j:Nat} {v:z} (h:xs[j]?=some v):atI xs (j:Int)=some v:=by
 have J:j<xs.length:=(aGw.mp h).1;have e:ixN xs.length (j:Int)=some j:=by
  unfold ixN;rw[eH (by lia),eH (by lia)];simp
 unfold atI;rw[e];exact h
def aAm {z:Type} (xs:List z) (v:z):atI (xs++[v]) (-1)=some v:=by
 have J:(xs++[v]).length=xs.length+1:=by simp
 have e:ixN (xs++[v]).length (-1)=some xs.length:=by
  unfold ixN;rw[J,dt (by decide),eH (by lia)]
  congr 1
  lia
 unfold atI;rw[e];show (xs++[v])[xs.length]?=some v;simp
def aCv (b:Expr):Prop:=∀ o i,subscripted b false o i=operate [o,i] (getItem o i)
def IxR (X:Cx) (r:R2):Prop :=
 ∀ (value slice:Expr) (pins:List (Addr×Obj)) (s:Shared) (σ:St) (H:Hp) (x y:V) (v u:Value) (Q:VK),Inv X pins σ H s->RelV x v->RelV y u->r x y H Q ->
  subscripted slice false v u=operate [v,u] (getItem v u)->wpAny (model X.prog X.w) X.A (subscriptTail value slice v u) (EP X pins σ Q) X.xe s
def MtR (X:Cx) (id:String) (r:V->List V->Hp->VK->Prop):Prop :=
 ∀ (pins:List (Addr×Obj)) (s:Shared) (σ:St) (H:Hp) (x:V) (xs:List V) (v:Value) (us:List Value) (Q:VK),Inv X pins σ H s->RelV x v->Vals xs us->r x xs H Q ->
  wpAny (model X.prog X.w) X.A (call (.builtin id) (v :: us)) (EP X pins σ Q) X.xe s
section
variable {X:Cx} {a b:Expr} {ta tb:TE} {pos:Pos}
def IxR.or {r z:R2} (h:IxR X r) (h':IxR X z):IxR X (λx y H Q=>r x y H Q\/z x y H Q):=by
 intro value slice pins s σ H x y v u Q I J L q hs;rcases q with q | q
 .exact h value slice pins s σ H x y v u Q I J L q hs
 .exact h' value slice pins s σ H x y v u Q I J L q hs
def dQ {r:R2} (z:IxR X r) (J:PE X a ta) (L:PE X b tb) (hs:aCv b):PE X (.Subscript a b pos) (tOp r ta tb):=by
 intro pins s σ H Q I h;exact Subscript_ (aDv J L I h λv u M x y H2 U Y ry q=>z a b pins M σ H2 x y v u Q U Y ry q (hs _ _))
inductive aAn (K:PySem.W.Frag) (x:V) (y:V) (H:Hp) (Q:VK):Prop
 | mk (p:_) (xs:_) (i:_) (v:_) (h0_:x=.ref p) (h1_:y=.int i) (h2_:SqL K H p xs) (h3_:atI xs i=some v) (h4_:Q v H):aAn K x y H Q
def aEC (K:PySem.W.Frag):R2:=λx y H Q=>aAn K x y H Q
inductive aAo (K:PySem.W.Frag) (x:V) (y:V) (H:Hp) (Q:VK):Prop
 | mk (p:_) (xs:_) (i:_) (v:_) (h0_:x=.ref p) (h1_:y=.int i) (h2_:SqT K H p xs) (h3_:atI xs i=some v) (h4_:Q v H):aAo K x y H Q
def aED (K:PySem.W.Frag):R2:=λx y H Q=>aAo K x y H Q
inductive aAp (x:V) (y:V) (H:Hp) (Q:VK):Prop
 | mk (z:_) (i:_) (c:_) (h0_:x=.str z) (h1_:y=.int i) (h2_:z.length<=sizeLine) (h3_:atI z.cps.toList i=some c) (h4_:Q (.str ⟨#[c]⟩) H):aAp x y H Q
def aFG:R2:=λx y H Q=>aAp x y H Q
def mU:IxR X (aEC X.K):=by
 intro value slice pins s σ H x y v u Q I U Y h hs;obtain⟨p,xs,i,z,rfl,rfl,hq,he,q⟩:=h;cases U;obtain⟨t,rfl⟩:=Y;obtain⟨its,r,pl,hz⟩:=I.list hq;obtain⟨j,h1,h2,h3,h4,h5⟩:=zS he;obtain⟨w,M,J⟩:=r.get h2;have hl:=r.length;have hn:=qS;have fin:EP X pins σ Q w s:=⟨z,H,I,J,q⟩
 by_cases h0:0<=i
 .have L:i.toNat=j:=by
   rw[seqIndex_of h0 h5]at h1;exact gu h1
  exact item_listR pl.isList h0 (by lia) (by rw[L];simpa using M) fin hs
 .have L:(i+(its.toArray.size:Int)).toNat=j:=by
   rw[seqIndex_neg (by lia) h4]at h1;rw[aG3,<- hl];exact gu h1
  exact subscriptTail_builtinR (x:=w) pl.isList.typeIs slot_list_getitem.lookup
   (wpAny_getItem_list_neg (Q:=λr s'=>r=w/\EP X pins σ Q r s') pl.isList (by lia) (by rw[aG3] <;> lia) (by lia) (by rw[L];simpa using M) ⟨rfl,fin⟩) hs
def fJ:IxR X (aED X.K):=by
 intro value slice pins s σ H x y v u Q I L M h hs;obtain⟨p,xs,i,z,rfl,rfl,U,he,q⟩:=h;cases L;obtain⟨t,rfl⟩:=M;obtain⟨its,r,pl,hz⟩:=I.tuple U;obtain⟨j,h1,h2,h3,h4,h5⟩:=zS he;obtain⟨w,Y,J⟩:=r.get h2;have hl:=r.length;have hn:=qS;have fin:EP X pins σ Q w s:=⟨z,H,I,J,q⟩;exact subscriptTail_builtinR (x:=w) pl.typeIs slot_tuple_getitem.lookup
  (getItem_tuple (j:=j) (Q:=λr s'=>r=w/\EP X pins σ Q r s') pl (by lia) (by lia) (by rw[aG3,<- hl];exact h1) (by simpa using Y) ⟨rfl,fin⟩) hs
def aAq:IxR X aFG:=by
 intro value slice pins s σ H x y v u Q I J L h hs;obtain⟨z,i,c,rfl,rfl,hz,he,q⟩:=h;obtain⟨t,rfl⟩:=J;obtain⟨t',rfl⟩:=L;obtain⟨j,h1,h2,h3,h4,h5⟩:=zS he;have M:z.cps.toList.length=z.length:=by simp[Str.length]
 rw[M]at h1 h4 h5;have hn:=qS;exact tail_any (tm s z t) slot_str_getitem.lookup (getItem_str (c:=c) (by
  have U:decide (i < -(2 ^ 63:Int))=false:=aGg (by lia);have Y:decide (i≥2 ^ 63)=false:=aGg (by lia);rw[U,Y,Bool.or_false]) (by rw[h1];simpa using h2) ⟨.str ⟨#[c]⟩,H,I.tok _,⟨_,rfl⟩,q⟩) hs
def rIx (K:PySem.W.Frag):R2:=λx y H Q=>aEC K x y H Q\/aED K x y H Q\/aFG x y H Q
def uQ:IxR X (rIx X.K):=mU.or (fJ.or aAq)
def zT (lo hi:Option Int) (n:Nat):(sliceBounds lo hi none n).1=((HT.sIx n 0 lo:Nat):Int)/\(sliceBounds lo hi none n).2.1=((HT.sIx n n hi:Nat):Int)/\(sliceBounds lo hi none n).2.2=1:=by
 refine⟨?_,?_,rfl⟩
 .cases lo with
  | none=>simp[sliceBounds,HT.sIx]
  | some i =>
   simp only[sliceBounds,HT.sIx,Option.getD_none,show (1:Int) > 0 by decide,qh]
   by_cases h:i<0
   .simp only[h,qh] <;> lia
   .simp only[h,mi] <;> lia
 .cases hi with
  | none=>simp[sliceBounds,HT.sIx]
  | some i =>
   simp only[sliceBounds,HT.sIx,Option.getD_none,show (1:Int) > 0 by decide,qh]
   by_cases h:i<0
   .simp only[h,qh] <;> lia
   .simp only[h,mi] <;> lia
def xM (its:List Value) (lo hi:Option Int):slicePick its.toArray lo hi none=((its.drop (HT.sIx its.length 0 lo)).take (HT.sIx its.length its.length hi - HT.sIx its.length 0 lo)).toArray:=by
 obtain⟨h1,h2,h3⟩:=zT lo hi its.toArray.size;unfold slicePick;rw[h1,h2,h3];simp only[sliceRange_one,pick_run,aG3] <;> rfl
inductive aAr (K:PySem.W.Frag) (x:V) (lo:Option Int) (hi:Option Int) (H:Hp) (Q:VK):Prop
 | mk (a:_) (xs:_) (h0_:x=.ref a) (h1_:SqL K H a xs) (h2_:∀ p,H p=none->Q (.ref p) (upd H p (.lst (jZ xs lo hi)))):aAr K x lo hi H Q
def aFz (K:PySem.W.Frag):V->Option Int->Option Int->Hp->VK->Prop:=λx lo hi H Q=>aAr K x lo hi H Q
def Z9:SlR X (aFz X.K):=by
 intro pins s σ H x v U Y lo hi sl Q I z hs pl J h;obtain⟨a,xs,rfl,L,q⟩:=h;cases z;obtain⟨its,r,ht,M⟩:=I.list L;have hlen:=r.length;refine⟨"list",_,slot_list_getitem.lookup,ht.isList.typeIs,?_⟩;refine wpAny_getItem_list_slice ht.isList hs pl J .none (by simp) ?_ (by rw[aG3] <;> lia);rw[xM,<- hlen];refine⟨.ref s.heap.objs.size,_,I.laid (t':=s.toks) (o:=.lst (jZ xs lo hi)) (λb ob q=>aGW _ q) (ah _) ?_,rfl,q _ (I.hok.fresh (ah _))⟩;exact⟨g0 (sC xs lo hi) M,_,0,(r.drop (HT.sIx xs.length 0 lo)).take (HT.sIx xs.length xs.length hi - HT.sIx xs.length 0 lo),aG2 _ rfl⟩
def nM:V->Bool
 | .non=>true
 | .bl _=>true
 | .int _=>true
 | .str _=>true
 | _=>false
def eqV:V->V->Bool
 | .non,.non=>true
 | .bl a,.bl b=>a == b
 | .bl a,.int b=>(if a then 1 else 0) == b
 | .int a,.bl b=>a == (if b then 1 else 0)
 | .int a,.int b=>a == b
 | .str a,.str b=>a == b
 | _,_=>false
def aEE {A:Around} {s:Shared} {y x:V} {u v:Value} (J:RelV y u) (z:RelV x v) (L:nM y=true) (fx:nM x=true):SeqAt.EqAt A s u v (eqV y x):=by
 cases y with
 | non =>
  cases J;cases x with
  | non=>cases z;exact SeqAt.EqAt.same _
  | bl b=>cases z;exact SeqAt.EqAt.none_bool b
  | int b=>obtain⟨t,rfl⟩:=z;exact SeqAt.EqAt.none_int b t
  | str b=>obtain⟨t,rfl⟩:=z;exact SeqAt.EqAt.none_str b t
  | _=>exact absurd (show false=true from fx) aG8
 | bl a =>
  cases J;cases x with
  | non=>cases z;exact SeqAt.EqAt.bool_none a
  | bl b=>cases z;exact SeqAt.EqAt.bool_bool a b
  | int b=>obtain⟨t,rfl⟩:=z;exact SeqAt.EqAt.bool_int a b t
  | str b=>obtain⟨t,rfl⟩:=z;exact SeqAt.EqAt.bool_str a b t
  | _=>exact absurd (show false=true from fx) aG8
 | int a =>
  obtain⟨t',rfl⟩:=J;cases x with
  | non=>cases z;exact SeqAt.EqAt.int_none a t'
  | bl b=>cases z;exact SeqAt.EqAt.int_bool a t' b
  | int b=>obtain⟨t,rfl⟩:=z;exact SeqAt.EqAt.int_int a t' b t
  | str b=>obtain⟨t,rfl⟩:=z;exact SeqAt.EqAt.int_str a t' b t
  | _=>exact absurd (show false=true from fx) aG8
 | str a =>
  obtain⟨t',rfl⟩:=J;cases x with
  | non=>cases z;exact SeqAt.EqAt.str_none a t'
  | bl b=>cases z;exact SeqAt.EqAt.str_bool a t' b
  | int b=>obtain⟨t,rfl⟩:=z;exact SeqAt.EqAt.str_int a t' b t
  | str b=>obtain⟨t,rfl⟩:=z;exact SeqAt.EqAt.str_str a t' b t
  | _=>exact absurd (show false=true from fx) aG8
 | _=>exact absurd (show false=true from L) aG8
def eqU (x:V) (u:Value):Bool:=match u with
 | .none=>eqV .non x
 | .bool b=>eqV (.bl b) x
 | .int i _=>eqV (.int i) x
 | .str z _=>eqV (.str z) x
 | _=>false
def aAs {x y:V} {u:Value} (r:RelV y u) (f:nM y=true):eqU x u=eqV y x:=by
 cases y with
 | non=>cases r;rfl
 | bl b=>cases r;rfl
 | int i=>obtain⟨t,rfl⟩:=r;rfl
 | str z=>obtain⟨t,rfl⟩:=r;rfl
 | _=>exact absurd (show false=true from f) aG8
def pD {x:V}:∀ {xs:List V} {us:List Value},Vals xs us->xs.all nM=true->us.any (eqU x)=xs.any λy=>eqV y x
 | _,_,.nil,_=>rfl
 | y :: xs,u :: us,.cons r t,f=>by
  rw[List.all_cons,gf]at f;rw[mz,mz,aAs r f.1,pD t f.2]
def lC {A:Around} {s:Shared} {x:V} {v:Value} (z:RelV x v) (fx:nM x=true):∀ {xs:List V} {us:List Value},Vals xs us->xs.all nM=true->∀ u∈us,SeqAt.EqAt A s u v (eqU x u)
 | _,_,.nil,_=>λu hu=>by cases hu
 | y :: xs,u :: us,.cons r t,f=>λJ hu=>by
  rw[List.all_cons,gf]at f;rcases aGx.mp hu with rfl | hu
  .rw[aAs r f.1];exact aEE r z f.1 fx
  .exact lC z fx t f.2 J hu
def inV (x:V) (xs:List V):Bool:=xs.any λy=>eqV y x
inductive aDg (K:PySem.W.Frag) (neg:Bool) (x:V) (y:V) (H:Hp) (Q:VK):Prop
 | mk (p:_) (xs:_) (h0_:y=.ref p) (h1_:(SqL K H p xs\/SqT K H p xs)) (h2_:nM x=true) (h3_:xs.all nM=true) (h4_:Q (.bl (if neg then !inV x xs else inV x xs)) H):aDg K neg x y H Q
def rIn (K:PySem.W.Frag) (z:Bool):R2:=λx y H Q=>aDg K z x y H Q
def r9:OpR X (compareOp .In) (rIn X.K false):=by
 intro pins s σ H x y v u Q I z J h;obtain⟨p,xs,rfl,hq,fx,fs,q⟩:=h;cases J;rcases hq with hq | hq
 .obtain⟨its,r,pl,L⟩:=I.list hq;refine SeqAt.in_listAt (eqU x) pl.isList (λw hw=>lC z fx r fs w (by simpa using hw)) ⟨.bl _,H,I,rfl,?_⟩;rw[show its.toArray.any (eqU x)=its.any (eqU x)by simp,pD r fs];exact q
 .obtain⟨its,r,pl,L⟩:=I.tuple hq;refine SeqAt.in_tupleAt (eqU x) pl (λw hw=>lC z fx r fs w (by simpa using hw)) ⟨.bl _,H,I,rfl,?_⟩;rw[show its.toArray.any (eqU x)=its.any (eqU x)by simp,pD r fs];exact q
def pE:OpR X (compareOp .NotIn) (rIn X.K true):=by
 intro pins s σ H x y v u Q I z J h;obtain⟨p,xs,rfl,hq,fx,fs,q⟩:=h;cases J;rcases hq with hq | hq
 .obtain⟨its,r,pl,L⟩:=I.list hq;refine SeqAt.notIn_listAt (eqU x) pl.isList (λw hw=>lC z fx r fs w (by simpa using hw)) ⟨.bl _,H,I,rfl,?_⟩;rw[show its.toArray.any (eqU x)=its.any (eqU x)by simp,pD r fs];exact q
 .obtain⟨its,r,pl,L⟩:=I.tuple hq;refine SeqAt.notIn_tupleAt (eqU x) pl (λw hw=>lC z fx r fs w (by simpa using hw)) ⟨.bl _,H,I,rfl,?_⟩;rw[show its.toArray.any (eqU x)=its.any (eqU x)by simp,pD r fs];exact q
inductive oF (K:PySem.W.Frag) (xs:List V) (H:Hp) (Q:VK):Prop
 | mk (p:_) (ys:_) (h0_:xs=[.ref p]) (h1_:(SqL K H p ys\/SqT K H p ys)) (h2_:Q (.int ys.length) H):oF K xs H Q
def bD:eK X (.builtin "len") (oF X.K):=by
 intro pins s σ H xs us Q I r h;obtain⟨p,ys,rfl,hq,q⟩:=h;obtain⟨u,rfl,J⟩:=hJ r;cases J;have M:=qS;rcases hq with hq | hq
 .obtain⟨its,z,pl,L⟩:=I.list hq;have hlen:=z.length;exact Calls.call_len_list pl.isList (by simp only[aG3] <;> lia) ⟨.int ys.length,H,I.tok _,⟨s.toks+1,by rw[aG3,hlen]⟩,q⟩
 .obtain⟨its,z,pl,L⟩:=I.tuple hq;have hlen:=z.length;exact len_tuple pl (by simp only[aG3] <;> lia) ⟨.int ys.length,H,I.tok _,⟨s.toks+1,by rw[aG3,hlen]⟩,q⟩
inductive uR (xs:List V) (H:Hp) (Q:VK):Prop
 | mk (z:_) (h0_:xs=[.str z]) (h1_:z.length<=sizeLine) (h2_:Q (.int z.length) H):uR xs H Q
def zU:eK X (.builtin "len") uR:=by
 intro pins s σ H xs us Q I r h;obtain⟨z,rfl,J,q⟩:=h;obtain⟨u,rfl,t,rfl⟩:=hJ r;have L:=qS;exact len_str (by lia) ⟨.int z.length,H,I.tok _,⟨_,rfl⟩,q⟩
inductive uS (K:PySem.W.Frag) (xs:List V) (H:Hp) (Q:VK):Prop
 | mk (p:_) (ys:_) (h0_:xs=[.ref p]) (h1_:(SqL K H p ys\/SqT K H p ys)) (h2_:∀ l,H l=none->Q (.ref l) (upd H l (.lst ys))):uS K xs H Q
def zV:eK X (.type "list") (uS X.K):=by
 intro pins s σ H xs us Q I r h;obtain⟨p,ys,rfl,hq,q⟩:=h;obtain⟨u,rfl,U⟩:=hJ r;cases U;have fin:∀ (its:List Value),Vals ys its->ys.length<=sizeLine->∀ (h':Heap) (c':Nat),(∀ b o',s.heap.get? b=some o'->h'.get? b=some o') ->
  h'.get? s.heap.objs.size=some { cls:=.type "list",dict:=none,data:=.seq its.toArray c',slots:=#[] }->EP X pins σ Q (.ref s.heap.objs.size) { s with heap:=h' }:=λits z J h' c' kp e =>
  ⟨.ref s.heap.objs.size,_,I.laid (t':=s.toks) kp (ah _) (show ObjOk X.prog X.w _ h' _ (.lst ys) from ⟨J,its,c',z,e⟩),rfl,q _ (I.hok.fresh (ah _))⟩
 rcases hq with hq | hq
 .obtain⟨its,z,pl,J⟩:=I.list hq;have hlen:=z.length;obtain⟨o,L,M,n,hd⟩:=pl.isList;exact call_list_seq p (.inl rfl) L M hd (λh' c' kp e=>fin its z J h' c' kp e) (by simp only[aG3] <;> lia)
 .obtain⟨its,z,pl,J⟩:=I.tuple hq;have hlen:=z.length;obtain⟨o,L,M,n,hd⟩:=pl;exact call_list_seq p (.inr rfl) L M hd (λh' c' kp e=>fin its z J h' c' kp e) (by simp only[aG3] <;> lia)
inductive sD (K:PySem.W.Frag) (xs:List V) (H:Hp) (Q:VK):Prop
 | mk (p:_) (ys:_) (h0_:xs=[.ref p]) (h1_:((SqL K H p ys/\∀ l,H l=none->Q (.ref l) (upd H l (.tup ys)))\/(SqT K H p ys/\Q (.ref p) H))):sD K xs H Q
def fY:eK X (.type "tuple") (sD X.K):=by
 intro pins s σ H xs us Q I r h;obtain⟨p,ys,rfl,h⟩:=h;obtain⟨u,rfl,U⟩:=hJ r;cases U;rcases h with ⟨z,q⟩ | ⟨z,q⟩
 .obtain⟨its,J,pl,L⟩:=I.list z;have hlen:=J.length;refine call_tuple_list pl.isList (λh' kp=>?_) (by simp only[aG3] <;> lia);have M:Inv X pins σ H { s with heap:=h' }:=I.kept (t':=s.toks) kp;have Y:Inv X pins σ (upd H h'.objs.size (.tup ys)) { s with heap:=h'.push { cls:=.type "tuple",data:=.seq its.toArray } } :=
   M.laid (t':=s.toks) (λb o e=>aGW _ e) (ah _) (show ObjOk X.prog X.w _ _ _ (.tup ys) from ⟨L,its,J,IsTup.new _ _⟩)
  exact⟨.ref h'.objs.size,_,Y,rfl,q _ (M.hok.fresh (ah _))⟩
 .obtain⟨its,J,pl,L⟩:=I.tuple z;exact call_tuple_same pl ⟨.ref p,H,I,rfl,q⟩
def tyV (K:PySem.W.Frag) (T:String) (x:V) (H:Hp):Prop:=match x with
 | .str _=>T="str"
 | .int _=>T="int"
 | .ref p=>(T="list"/\∃ xs,SqL K H p xs)\/(T="tuple"/\∃ o,K.lookup p=some o/\o.cls=.type "tuple"/\o.dict=none) \/
  (T="dict"/\((∃ kvs,H p=some (.dK kvs))\/∃ kvs,H p=some (.dT kvs)))\/(T="set"/\∃ S n,H p=some (.set S n))
 | _=>False
def aAt {pins:List (Addr×Obj)} {σ:St} {H:Hp} {s:Shared} {T:String} {x:V} {v:Value} (I:Inv X pins σ H s) (r:RelV x v) (ty:tyV X.K T x H) :
 s.TypeIs v T/\∀ a,v=.ref a->∃ M,s.heap.get? a=some M/\M.dict=none:=by
 cases x with
 | str z =>
  obtain⟨t,rfl⟩:=r;cases (show T="str" from ty);exact⟨tm s z t,λ_ e=>nomatch e⟩
 | int i =>
  obtain⟨t,rfl⟩:=r;cases (show T="int" from ty);exact⟨typeIs_int s i t,λ_ e=>nomatch e⟩
 | ref p =>
  cases r;rcases ty with ⟨rfl,xs,U⟩ | ⟨rfl,o,J,Y,hd⟩ | ⟨rfl,J⟩ | ⟨rfl,S,n,J⟩
  .obtain⟨its,_,pl,_⟩:=I.list U;refine⟨pl.isList.typeIs,λa e=>?_⟩;cases e;obtain⟨o,n,e,c,hd,_⟩:=pl;exact⟨o,e,hd⟩
  .refine⟨⟨o,I.kIn p o J,Y⟩,λa e=>?_⟩;cases e;exact⟨o,I.kIn _ o J,hd⟩
  .have z:∃ o,s.heap.get? p=some o/\o.ExactDict:=by
    rcases J with ⟨kvs,J⟩ | ⟨kvs,J⟩
    .obtain⟨_,_,_,_,o,_,_,e,ex,_⟩:=I.hok p _ J;exact⟨o,e,ex⟩
    .obtain⟨_,_,_,_,o,_,_,e,ex,_⟩:=I.hok p _ J;exact⟨o,e,ex⟩
   obtain⟨o,e,ex⟩:=z;refine⟨⟨o,e,ex.1⟩,λa L=>?_⟩;cases L;exact⟨o,e,ex.2.1⟩
  .obtain⟨o,_,_,_,e,ex,_⟩:=I.hok p _ J;refine⟨⟨o,e,ex.1⟩,λa L=>?_⟩;cases L;exact⟨o,e,ex.2.1⟩
 | _=>exact False.elim ty
def aGA (K:PySem.W.Frag) (T:String) (r:V->List V->Hp->VK->Prop) (to:TE):TE:=fun σ H Q=>to σ H λx H1=>tyV K T x H1/\r x [] H1 Q
def tBM (K:PySem.W.Frag) (T:String) (r:V->List V->Hp->VK->Prop) (to:TE) (t:TA):TE:=fun σ H Q=>to σ H λx H1=>tyV K T x H1/\t σ H1 λxs H2=>r x xs H2 Q
variable {o e:Expr} {es:List Expr} {to:TE} {t:TA} {name:Str} {apos aa:Pos} {T id:String} {r:V->List V->Hp->VK->Prop}
def aEF (pa:PlainAttrs T) (slot:Slot T name id) (L:typeOf (.builtin id)=pure (.type "method_descriptor")) (U:MtR X id r) (Y:PE X o to)
 (z:attributeBase o name X.env (eval o X.env)=eval o X.env:=by rfl) (J:(apos.endLine == aa.line)=true:=by rfl):PE X (.Call (.Attribute o name apos) [] [] aa) (aGA X.K T r to):=by
 intro pins s σ H Q I h;refine kt z J (thn (Y pins s σ H _ I h) λv s1 ⟨x,H1,M,r1,ty,q1⟩=>?_);obtain⟨h1,h2⟩:=aAt M r1 ty;exact⟨T,id,pa,slot,L,h1,h2,io rfl (mq (U pins s1 σ H1 x [] v [] Q M r1 .nil q1))⟩
def lE (pa:PlainAttrs T) (slot:Slot T name id) (U:typeOf (.builtin id)=pure (.type "method_descriptor")) (hm:MtR X id r) (ho:PE X o to) (ha:PA X (e :: es) t)
 (J:attributeBase o name X.env (eval o X.env)=eval o X.env:=by rfl)
 (M:((backTo aa (starEach (e :: es) X.env)).all (λx=>!x.1) && (backToKw aa (keywordEach [] X.env)).all (λx=>x.1.isSome)
  && decide ((e :: es).length+([]:List Keyword).length+(if ([]:List Keyword).isEmpty then 0 else 1)<30))=true:=by rfl)
 (L:(apos.endLine == aa.line)=true:=by rfl) (hs:starEach (e :: es) X.env=(false,eval e X.env) :: starEach es X.env:=by rfl) (z:(backTo aa (starEach es X.env)).any (·.1)=false:=by rfl) :
 PE X (.Call (.Attribute o name apos) (e :: es) [] aa) (tBM X.K T r to t):=by
 intro pins s σ H Q I h;refine wpAny_Call_method_late J M L rfl (thn (ho pins s σ H _ I h) λv s1 ⟨x,H1,Y,r1,ty,q1⟩=>?_);obtain⟨h1,h2⟩:=aAt Y r1 ty;refine⟨T,id,pa,slot,U,h1,h2,?_⟩;have hA:=ha aa pins s1 σ H1 _ Y q1;rw[hs]at hA ⊢;refine io (by show (false || (backTo aa (starEach es X.env)).any (·.1))=false;rw[z] <;> rfl) (jb ?_);exact thn hA λus s2 ⟨vs,H2,I2,r2,q2⟩=>hm pins s2 σ H2 x vs v us Q I2 r1 r2 q2
/- xs.append(e),list.index on a module's tuple .. are MtR facts of 06m -/
end
def MtM (X:Cx) (id:String) (r:V->List V->Hp->VK->Prop):Prop :=
 ∀ (pins:List (Addr×Obj)) (s:Shared) (σ:St) (H:Hp) (x:V) (xs:List V) (v:Value) (us:List Value) (Q:VK),Inv X pins σ H s->RelV x v->Vals xs us->r x xs H Q ->
  wpAny (model X.prog X.w) X.A (call (.builtin id) (v :: us)) (EP X pins σ Q) X.xe s
def Vals.one:∀ {x:V} {us:List Value},Vals [x] us->∃ u,us=[u]/\RelV x u
 | _,_,.cons r .nil=>⟨_,rfl,r⟩
def Vals.two {x y:V} {us:List Value} (h:Vals [x,y] us):∃ u v,us=[u,v]/\RelV x u/\RelV y v:=by
 cases h with
 | cons r h =>
  obtain⟨u,e,q⟩:=Vals.one h;exact⟨_,u,by rw[e],r,q⟩
def Vals.zero:∀ {us:List Value},Vals [] us->us=[]
 | _,.nil=>rfl
def Vals.dropLast {xs:List V} {us:List Value} (h:Vals xs us):Vals xs.dropLast us.dropLast:=by
 induction h with
 | nil=>exact .nil
 | cons r t z =>
  cases t with
  | nil=>exact .nil
  | cons q t'=>exact .cons r z
def R8 {z:Type} (l:List z):l.eraseIdx (l.length - 1)=l.dropLast:=by
 induction l with
 | nil=>rfl
 | cons a r J =>
  cases r with
  | nil=>rfl
  | cons b r =>
   have e:(a :: b :: r).length - 1=((b :: r).length - 1)+1:=by
    have h1:(a :: b :: r).length=r.length+2:=rfl;have h2:(b :: r).length=r.length+1:=rfl
    lia
   rw[e,List.eraseIdx_cons_succ,J]
   all_goals rfl
section
variable {X:Cx} {pins:List (Addr×Obj)} {σ:St} {H:Hp} {s:Shared} {l b:Addr} {xs ys zs:List V}
def Inv.lset {its its':List Value} {n:Nat} {f:Array Value->Array Value} {t':Nat} (I:Inv X pins σ H s) (z:H l=some (.lst xs))
 (e:s.heap.get? l=some { cls:=.type "list",data:=.seq its.toArray n }) (J:f its.toArray=its'.toArray) (L:Vals ys its') (M:ys.length<=sizeLine) :
 Inv X pins σ (upd H l (.lst ys)) { s with heap:=s.heap.update l (Obj.mapSeq f),toks:=t' }:=by
 have q:=PySem.IsL.update e f;rw[J]at q;refine I.write (x:=l) (e:=l) (by rw[z];exact trivial) (.inl rfl) (λb' u U Y=>(aG0 s.heap (Obj.mapSeq f) (gi U)).trans Y) ⟨_,q⟩ ?_;exact⟨M,its',_,L,q⟩
def Inv.lnew {its:List Value} {t':Nat} (I:Inv X pins σ H s) (z:Vals ys its) (J:ys.length<=sizeLine) :
 Inv X pins σ (upd H s.heap.objs.size (.lst ys)) { s with heap:=s.heap.push { cls:=.type "list",data:=.seq its.toArray },toks:=t' } :=
 I.laid (λ_ _ q=>aGW _ q) (ah _) ⟨J,its,0,z,aG2 _ rfl⟩
def Inv.fresh (I:Inv X pins σ H s):H s.heap.objs.size=none:=I.hok.fresh (ah _)
def Inv.lstM (I:Inv X pins σ H s) (J:H l=some (.lst xs)):xs.length<=sizeLine/\∃ (its:List Value) (n:Nat),Vals xs its/\xs.length=its.length/\s.heap.get? l=some { cls:=.type "list",data:=.seq its.toArray n }:=by
 obtain⟨z,its,n,r,e⟩:=I.hok l _ J;exact⟨z,its,n,r,r.length,e⟩
end
section
variable {X:Cx}
inductive yN (x:V) (vs:List V) (H:Hp) (Q:VK):Prop
 | mk (l:_) (xs:_) (y:_) (h0_:x=.ref l) (h1_:vs=[y]) (h2_:H l=some (.lst xs)) (h3_:xs.length<sizeLine) (h4_:Q .non (upd H l (.lst (xs++[y])))):yN x vs H Q
def aCw:V->List V->Hp->VK->Prop:=λx vs H Q=>yN x vs H Q
def dU:MtM X "list.append" aCw:=by
 intro pins s σ H x vs v us Q I L M h;obtain⟨l,xs,y,rfl,rfl,J,Y,q⟩:=h;cases L;obtain⟨u,rfl,U⟩:=M.one;obtain⟨z,its,n,r,hl,e⟩:=I.lstM J;refine tq F.slot_list_append ⟨_,e,rfl⟩ F.entry_list_append (F.args_list_append_2 _ _) (PySem.list_append l its.toArray n u (by rw[aG3];lia)) ⟨e,?_⟩;refine⟨.non,_,I.lset (its':=its++[u]) J e (by simp) (r.append (.cons U .nil)) ?_,rfl,q⟩;rw[aG4,gm]
 lia
inductive aAu (x:V) (vs:List V) (H:Hp) (Q:VK):Prop
 | mk (l:_) (xs:_) (y:_) (h0_:x=.ref l) (h1_:vs=[]) (h2_:H l=some (.lst xs)) (h3_:xs[xs.length - 1]?=some y) (h4_:Q y (upd H l (.lst xs.dropLast))):aAu x vs H Q
def aGB:V->List V->Hp->VK->Prop:=λx vs H Q=>aAu x vs H Q
def aEG:MtM X "list.pop" aGB:=by
 intro pins s σ H x vs v us Q I U Y h;obtain⟨l,xs,y,rfl,rfl,M,hy,q⟩:=h;cases U;have J:=Y.zero;subst J;obtain⟨z,its,n,r,hl,e⟩:=I.lstM M;obtain⟨u,hu,ru⟩:=r.get hy;have L:its.toArray[its.toArray.size - 1]?=some u:=by
  show its.toArray[its.length - 1]?=some u;rw[<- oa,<- hl];exact hu
 refine tq F.slot_list_pop ⟨_,e,rfl⟩ F.entry_list_pop (F.args_list_pop_1 _) (MeetsSeq.list_pop_last l its.toArray n u L (by rw[aG3];lia)) ⟨e,?_⟩;refine⟨y,_,I.lset (its':=its.dropLast) M e ?_ r.dropLast ?_,ru,q⟩
 .show its.toArray.eraseIdxIfInBounds (its.toArray.size - 1)=its.dropLast.toArray;rw[aG3,List.eraseIdxIfInBounds_toArray,R8]
 .rw[tu]
  lia
inductive aAv (x:V) (y:V) (H:Hp) (Q:VK):Prop
 | mk (l:_) (b:_) (xs:_) (zs:_) (h0_:x=.ref l) (h1_:y=.ref b) (h2_:H l=some (.lst xs)) (h3_:H b=some (.lst zs)) (h4_:xs.length+zs.length<=sizeLine) (h5_:∀ p,H p=none->Q (.ref p) (upd H p (.lst (xs++zs)))):aAv x y H Q
def aGC:R2:=λx y H Q=>aAv x y H Q
def lF:OpR X (binaryOp .Add) aGC:=by
 intro pins s σ H x y v u Q I L M h;obtain⟨l,b,xs,zs,rfl,rfl,U,Y,hz,q⟩:=h;cases L;cases M;obtain⟨z,its,n,r,hl,e⟩:=I.lstM U;obtain⟨z2,J,n2,r2,aw,e2⟩:=I.lstM Y;refine PySem.P.add_list e e2 ?_ (by rw[aG3,aG3];lia);have ea:its.toArray++J.toArray=(its++J).toArray:=by simp
 rw[ea];exact⟨.ref _,_,I.lnew (t':=s.toks) (r.append r2) (by rw[aG4];lia),rfl,q _ I.fresh⟩
end
end L2
namespace Att
open PySem PySem.W PySem.Calls PyProof.Rows
def sP {P:Params} {h:Heap}:∀ (ns:List Int) (vs:List Value),WellAll P h vs (ns.map WData.int)->IntsAre vs ns:=by
 intro ns
 induction ns with
 | nil =>
  intro vs w;rw[lr]at w;cases w;exact .nil
 | cons n ns z =>
  intro vs w;rw[aGk]at w;cases w with
  | cons a b =>
   cases a;exact .cons _ _ (z _ b)
def u0 {l:OpenLaw} {n:Nat} (Y:l.most=some n) {P:Params} {h:Heap} {args:List WData} {vals:List Value}
 (z:l.row.toRowW.claim.pre args=true) (L:WellAll P h vals args) :
 ∃ a vs ns,vals=[Value.ref a]/\args=[WData.list (ns.map WData.int)]/\h.get? a=some { cls:=.type "list",data:=.seq vs.toArray }/\IntsAre vs ns/\ns.length<=n:=by
 have M:WShape.hasAll [] args [.list .int]=true:=(pre_splitW z).1;have U:l.pre.holds [] { args:=args }=true:=(pre_splitW z).2;obtain⟨d,r,rfl,h1,h2⟩:=hasAllW_cons M;obtain rfl:=hasAllW_nil h2;obtain⟨xs,rfl,h3⟩:=hasW_list h1;obtain⟨ns,rfl⟩:=items_int h3;have hlen:ns.length<=n:=by
  unfold OpenLaw.pre at U;have h4:(WTm.not (.lt (.lit (.int (n:Int))) (.len (.arg 0)))).holds [] { args:=[.list (ns.map .int)] }=true:=by
   have h4:=(holds_andW U).1;rw[Y]at h4;exact h4
  have h5:=condW_of h4 (w_not (w_lt w_lit (w_len_list (w_arg rfl))));rw[aGV]at h5;refine Nat.le_of_not_lt λq=>?_;have q':(n:Int)<((ns.length:Nat):Int):=by lia
  first
   | (rw[aGh q']at h5;exact absurd h5 (by decide))
   | (simp at h5;lia)
 cases L with
 | cons w1 w2 =>
  cases w2;cases w1 with
  | list ho J=>exact⟨_,_,ns,rfl,rfl,ho,sP ns _ J,hlen⟩
def u6 (l:OpenLaw) (args:List WData):l.row.toRowW.claim.post args (.bool true) args=true :=
 postW_of (r:=l.row.toRowW) (X:=(true == true))
  (show WShape.has [] (.bool true) .bool=true by first | rfl | decide | simp[WShape.has,WShape.arms,WShape.armsAll])
  (show (WTm.eq .res (.lit (.bool true))).value [] { args:=args,res:=some (.bool true),after:=args }=some (.bool (true == true)) from w_eq_bool (w_res rfl) w_lit) rfl
def attach_call {l:OpenLaw} {n:Nat} {q:Program} {loose:List Str} {XP:(Str->Option Value)->Heap->Prop} {YP:World->Heap->Prop} {d:DefRec}
 (hn:l.most=some n) (ax:d.params.defaults=[])
 (call:∀ (w:World) (J z:Shared) (mg mb:Str->Option Value) (M:Addr) (o:Obj) (pm cd L:Value) (a:Addr) (vs:List Value) (ns:List Int),
  Ground q loose [] XP w J mg mb z.heap->YP w z.heap ->
  z.heap.get? M=some o->o.data=.func (docDef d.name d.params d.body d.scope pm cd L)->z.heap.CodeRec cd d.name->mg d.name=some (.ref M) ->
  z.heap.get? a=some { cls:=.type "list",data:=.seq vs.toArray }->IntsAre vs ns->ns.length<=n->z.gens=#[] ->
  codeAny (model l.prog w) callerA (.call (.ref M) ⟨[.ref a],[]⟩) (λr s'=>r=.ok (.ret (.bool true))/\OldK z.heap s'.heap/\s'.os=z.os/\AllBare s'.gens) z) :
 WalkO q loose XP YP l.row.toRowW d [] (λf vs=>PySem.call f vs):=by
 intro w J z mg mb G Y M o pm cd L dV kV ho hd ay hD az hg args vals as U ba bb a_ bc;obtain rfl:dV=.none:=Dflts.none hD ax;obtain rfl:kV=.none:=Dflts.noKw hD;obtain⟨a,vs,ns,rfl,rfl,aw,hints,hlen⟩:=u0 hn U a_;refine enter_call (jp (call w J z mg mb M o pm cd L a vs ns G Y ho (fd_plain hd) ay az aw hints hlen hg) λr s' hq=>?_);obtain⟨rfl,h2,h3,h4⟩:=hq;exact⟨.inl ⟨.bool true,.bool true,[],rfl,λ_=>rfl,.bool true,u6 l _,λ_=>⟨List.Pairwise.nil,λ_ hm=>(nomatch hm)⟩⟩,h2,h3,h4⟩
end Att
namespace L2
open PySem PySem.Spec PyProof.Rows
def mW:∀ {vs:List Value} {ns:List Int},IntsAre vs ns->Vals (ns.map V.int) vs
 | _,_,.nil=>.nil
 | _,_,.cons n t h=>.cons ⟨t,rfl⟩ (mW h)
def bJ (s:Stmt) (j:Nat):Stmt:=match s with
 | .ClassDef _ _ _ body _ _ _ _ _ _ _=>body.getD j (.Pass ⟨0,0,0,0⟩)
 | _=>.Pass ⟨0,0,0,0⟩
def bM (s:Stmt):Arguments:=match s with
 | .FunctionDef _ a _ _ _ _ _ _ _ _=>a
 | _=>{ posonlyargs:=[],args:=[],vararg:=none,kwonlyargs:=[],kw_defaults:=[],kwarg:=none,defaults:=[] }
def aZ (s:Stmt):List Stmt:=match s with
 | .FunctionDef _ _ b _ _ _ _ _ _ _=>b
 | _=>[]
def aG (s:Stmt):Scope:=match s with
 | .FunctionDef _ _ _ _ _ _ z _ _ _=>z
 | _=>{ kind:=.function,names:=[],isGenerator:=false,isCoroutine:=false }
abbrev CX0:CXT:=λ_ _ _ _ _ _=>False
abbrev E0:XK:=λ_ _ _=>False
def eA {X:Cx}:dL CX0 X E0:=λ_ _ _ _ _ _ _ h=>h.elim
structure Fun (K:PySem.W.Frag) (x qual:Str) (st:Stmt) (f:Addr) (fd:FuncData):Prop where
 ex:∃ (oc:Value) (od:Option Addr) (kV doc pm:Value) (an:Option Addr) (cdv ct:Value) (osl:Array (Option Value)),
  fd=PySem.W.fnOf x qual (bM st) (aZ st) (aG st) .none kV doc pm an cdv ct/\K.lookup f=some ⟨oc,od,.func fd,osl⟩/\PySem.W.codeIn K cdv qual=true
 kp:PySem.W.keepIn K (.ref f)=true
section
variable {P:Program} {w:World} {K:PySem.W.Frag} {mg:Str->Option Value} {base:Heap}
def Fun.ok {x qual:Str} {st:Stmt} {f:Addr} {fd:FuncData} {N ps:List Str} {k:Nat} {sp:Sp} (F:Fun K x qual st f fd) (S:FnScope N ps (aG st)) (len:∀ vs H Q E,sp vs H Q E->vs.length=ps.length)
 (J:∀ (z:Value) (A:Around) (outer:List Env) (s:Shared) (H:Hp) (vs:List V) (Q:VK) (E:XK),Room k (A.deeper (envOfC qual (aG st) s.heap.objs.size f z))->sp vs H Q E ->
  ∃ t,PSs (gE CX0 P w K mg base N qual (aG st) f z A outer s H E).nox (aZ st) t/\t { nx:=λ_ H'=>Q .non H',rt:=Q } (eJ N vs) H):FnOk P w K mg base CX0 (k+1) f fd ps sp:=by
 obtain⟨oc,od,kV,U,pm,an,z,ct,Y,rfl,lk,L⟩:=F.ex;refine aDf lk L S len λA outer s H vs Q E hr M=>?_;obtain⟨t,h,q⟩:=J z A outer s H vs Q E hr M;exact⟨t,h.nox,q⟩
def Fun.binds {x qual:Str} {st:Stmt} {f:Addr} {fd:FuncData} {ps:List Str} (F:Fun K x qual st f fd)
 (h:∀ (kV z pm:Value) (L:Option Addr) (J ct:Value) (us:List Value),us.length=ps.length->bindArgs (PySem.W.fnOf x qual (bM st) (aZ st) (aG st) .none kV z pm L J ct) ⟨us,[]⟩=pure (ps.zip us)):Binds K fd ps []:=by
 obtain⟨Y,od,kV,z,pm,L,J,ct,M,rfl,lk,U⟩:=F.ex;exact .all (h kV z pm L J ct)
def uT {x qual:Str} {st:Stmt} {f:Addr} {U:Value} {od M:Option Addr} {L:Array (Option Value)} {kV J pm z ct:Value} (l:K.lookup f=some ⟨U,od,.func (PySem.W.fnOf x qual (bM st) (aZ st) (aG st) .none kV J pm M z ct),L⟩)
 (c:PySem.W.codeIn K z qual=true) (k:PySem.W.keepIn K (.ref f)=true):Fun K x qual st f (PySem.W.fnOf x qual (bM st) (aZ st) (aG st) .none kV J pm M z ct):=⟨⟨U,od,kV,J,pm,M,z,ct,L,rfl,l,c⟩,k⟩
end
def pF {A:Around} {k:Nat} (z:Room k A):A.units+1<cLine:=qb (Nat.add_le_add_left (by decide:1<=64) _) z.units
section
variable {X:Cx}
def pv (i:Nat) {x:Str} {pos:Pos} (J:X.N[i]?=some x:=by rfl) (L:Vis X.env.scope x:=by first | exact Or.inl rfl | exact Or.inr (Or.inl rfl) | exact Or.inr (Or.inr rfl)) (hd:(x == ("__debug__":Str))=false:=by decide)
 (z:(x == ("__classdict__":Str))=false:=by decide):PE X (.Name x pos) (aDq i):=aDr J L hd z
end
def uU {A B:Prop} (h:B):if false=true then A else B:=by
 rw[dt aG8];exact h
def aAw {A B:Prop} (h:A):if true=true then A else B:=by
 rw[eH rfl];exact h
def Same (H H':Hp):Prop:=∀ b o,H b=some o->H' b=some o
def Same.refl (H:Hp):Same H H:=λ_ _ h=>h
def Same.trans {H H1 H2:Hp} (a:Same H H1) (b:Same H1 H2):Same H H2:=λc o h=>b c o (a c o h)
def Same.free {H H':Hp} (e:Same H H') {l:Addr} (h:H' l=Option.none):H l=Option.none:=by
 cases q:H l with
 | none=>rfl
 | some o =>
  rw[e l o q]at h;cases h
def Same.seq {K:PySem.W.Frag} {H H':Hp} {a:Addr} {xs:List V} (e:Same H H') (h:SqL K H a xs):SqL K H' a xs:=by
 rcases h with (h | ⟨o,h⟩) | h
 .exact .inl (.inl (e _ _ h))
 .exact .inl (.inr ⟨o,e _ _ h⟩)
 .exact .inr h
def lG (scope:Scope) (env:Env):List (Str×Addr) :=
 scope.names.foldl (λz y=>if y.2 == .free then (match env.cells.lookup y.1 with | some c=>(y.1,c) :: z | none=>z)else z) []
def sE {env:Env}:∀ (names:List (Str×NameKind)) (z:List (Str×Addr)),(∀ y∈names,y.2=.free->∃ c,env.cells.lookup y.1=some c) ->
 (forIn names z λ(y:Str×NameKind) (r:List (Str×Addr))=>(match y with | (name,kind)=>if (kind == NameKind.free)=true then (do let a <- cellOf env name;pure (ForInStep.yield ((name,a) :: r)))else pure (ForInStep.yield r):Sem (ForInStep (List (Str×Addr))))) =
  pure (names.foldl (λz y=>if y.2 == .free then (match env.cells.lookup y.1 with | some c=>(y.1,c) :: z | none=>z)else z) z)
 | [],z,_=>rfl
 | (n,k) :: r,z,h=>by
  rw[List.forIn_cons,aGm];have J:=λz=>sE (env:=env) r z λy M=>h y (aGY _ M)
  by_cases L:k=.free
  .subst L;obtain⟨c,e⟩:=h (n,.free) aGX rfl;have U:env.cells.lookup n=some c:=e;simp only[cellOf,U,ri,qh];exact J _
  .have Y:(k == NameKind.free)=false:=by simpa using L
   simp only[Y,ir,mi];exact J _
def tN {scope:Scope} {env:Env} (h:∀ y∈scope.names,y.2=.free->∃ c,env.cells.lookup y.1=some c):closureFor scope env=pure (lG scope env):=by
 have e:=sE (env:=env) scope.names [] h;unfold closureFor lG;rw[<- e]
 first | rfl | simp
def yO {env:Env} {x:Str} {c:Addr}:∀ (names:List (Str×NameKind)) (J:List (Str×Addr)),(∀ z d,J.lookup z=some d->env.cells.lookup z=some d) ->
 (names.foldl (λJ y=>if y.2 == .free then (match env.cells.lookup y.1 with | some c=>(y.1,c) :: J | none=>J)else J) J).lookup x=some c->env.cells.lookup x=some c
 | [],J,h,e=>h x c e
 | (n,k) :: r,J,h,e=>by
  rw[aGm]at e;refine yO r _ ?_ e;intro z d q
  by_cases Y:(k == NameKind.free)=true
  .simp only[Y,qh]at q;cases L:env.cells.lookup n with
   | none=>simp only[L]at q;exact h z d q
   | some a =>
    simp only[L,gq]at q
    by_cases M:(z == n)=true
    .simp only[M]at q;have:z=n:=by simpa using M
     subst this;rw[L];exact q
    .have U:(z == n)=false:=by simpa using M
     simp only[U]at q;exact h z d q
  .simp only[Y,mi]at q;exact h z d q
def gY {scope:Scope} {env:Env} {x:Str} {c:Addr} (e:(lG scope env).lookup x=some c):env.cells.lookup x=some c:=yO _ _ (λ_ _ q=>by simp at q) e
def nN {env:Env} {x:Str}:∀ (names:List (Str×NameKind)) (z:List (Str×Addr)),(∀ y∈names,y.2=.free->∃ c,env.cells.lookup y.1=some c)->((x,NameKind.free)∈names\/(z.lookup x).isSome=true) ->
 ((names.foldl (λz y=>if y.2 == .free then (match env.cells.lookup y.1 with | some c=>(y.1,c) :: z | none=>z)else z) z).lookup x).isSome=true
 | [],z,_,h=>by
  rcases h with h | h
  .cases h
  .exact h
 | (n,k) :: r,z,L,h=>by
  rw[aGm];refine nN r _ (λy Y=>L y (aGY _ Y)) ?_;rcases h with h | h
  .rcases aGx.mp h with h | h
   .cases h;obtain⟨c,e⟩:=L (x,.free) aGX rfl;have e':env.cells.lookup x=some c:=e;right
    simp[e',gq]
   .exact .inl h
  .right
   by_cases M:(k == NameKind.free)=true
   .simp only[M,qh];cases el:env.cells.lookup n with
    | none=>exact h
    | some a =>
     simp only[gq]
     by_cases U:(x == n)=true
     .simp[U]
     .have J:(x == n)=false:=by simpa using U
      simp only[J];exact h
   .simp only[M];exact h
def yP {scope:Scope} {env:Env} {x:Str} (z:∀ y∈scope.names,y.2=.free->∃ c,env.cells.lookup y.1=some c) (h:(x,NameKind.free)∈scope.names):∃ c,(lG scope env).lookup x=some c :=
 Option.isSome_iff_exists.mp (nN _ _ z (.inl h))
def eC (sc inn:Scope) (N:List Str) (js:List Nat) (cs:List Str):Bool :=
 (inn.kind == .function) && inn.names.all (λy=>y.2 != .cell && (y.2 != .local || inn.names.lookup y.1 == some .local) && (y.2 != .free || (sc.names.lookup y.1 == some .cell || sc.names.lookup y.1 == some .free))) &&
 (js.map λj=>N[j]?) == cs.map some && cs.all (λx=>inn.names.lookup x == some .free)
structure CompOk (sc inn:Scope) (N:List Str) (js:List Nat) (cs:List Str):Prop where
 kind:inn.kind=.function
 nocell:∀ y∈inn.names,y.2≠.cell
 names:∀ y∈inn.names,y.2=.local->inn.names.lookup y.1=some .local
 frees:∀ y∈inn.names,y.2=.free->sc.names.lookup y.1=some .cell\/sc.names.lookup y.1=some .free
 slots:(js.map λj=>N[j]?)=cs.map some
 caps:∀ x∈cs,inn.names.lookup x=some .free
def CompOk.of {J inn:Scope} {N:List Str} {js:List Nat} {cs:List Str} (h:eC J inn N js cs=true):CompOk J inn N js cs:=by
 unfold eC at h;simp only[gf]at h;obtain⟨⟨⟨h1,h2⟩,h3⟩,h4⟩:=h;rw[om]at h2 h4;refine⟨by simpa using h1,λy z=>?_,λy z e=>?_,λy z e=>?_,by simpa using h3,λx L=>by simpa using h4 x L⟩
 .have:=h2 y z;simp only[gf]at this;simpa using this.1.1
 .have:=h2 y z;simp only[gf,e]at this;simpa using this.1.2
 .have:=h2 y z;simp only[gf,e]at this;simpa using this.2
def sIn (nt:Nat) (js:List Nat) (σ:St):St:=List.replicate nt none++js.map λj=>(σ[j]?).join
def eR (X:Cx) (inn:Scope) (N':List Str) (s₀:Shared) (H₀:Hp) (ex:List Addr):Cx where
 prog:=X.prog
 w:=X.w
 K:=X.K
 mg:=X.mg
 base:=X.base
 A:=X.A
 N:=N'
 s₀:=s₀
 H₀:=H₀
 env:=compEnvC inn (lG inn X.env) s₀.heap.objs.size X.env
 outer:=X.stack
 stack:=X.stack
 ex:=ex
 fn:=λ_=>false
 calm:=X.calm
 pn:=[]
 xe:=λ_ _=>False
def PIf (X:Cx) (ifs:List Expr) (t:TT):Prop :=
 ∀ (pins:List (Addr×Obj)) (s:Shared) (σ:St) (H:Hp) (Q:Bool->Hp->Prop),Inv X pins σ H s->t σ H Q ->
  wpAny (model X.prog X.w) X.A (forIn ifs true λc r=>if r=true then do let ok <- isTrue c X.env (eval c X.env);pure (ForInStep.yield ok)else pure (ForInStep.yield r)) (TP X pins σ Q) X.xe s
def aGD:TT:=λ_ H Q=>Q true H
def dY {X:Cx}:PIf X [] aGD:=λ_ _ _ H _ I h=>wpAny_tests_nil ⟨H,I,h⟩
def a6 {X:Cx} {c:Expr} {t:TT} (h:PT X c t):PIf X [c] t:=λpins s σ H Q I hw=>wpAny_tests_one (h pins s σ H Q I hw)
inductive pG (J:It) (σ0:St) (g:TG) (tt:TT) (te:TE) (Q:VK) (H1:Hp):Prop
 | mk (W:Nat->Nat->List V->Hp->Prop) (h0_:(∃ m,W 0 m [] H1)) (h1_:∀ i m ys H,W i m ys H->ys.length<sizeLine/\((J.stop i H/\∀ D,H D=none->Q (.ref D) (upd H D (.lst ys)))\/(J.go i H/\∃ N:List V->Hp->Prop,(∀ ys' H',N ys' H'->∃ m',m'<m/\W (i+1) m' ys' H')/\∀ x H',J.yld i H x H'->g x σ0 H' fun σ2 H2=>tt σ2 H2 λb H3=>if b=true then te σ2 H3 λy H4=>N (ys++[y]) H4 else N ys H3))):pG J σ0 g tt te Q H1
def aAx (wi:TI) (nt:Nat) (js:List Nat) (g:TG) (tt:TT) (te:TE):TE:=fun σ H Q=>wi σ H λJ H1=>pG J (sIn nt js σ) g tt te Q H1
def gL {env:Env}:∀ {names:List (Str×NameKind)} {x:Str},names.lookup x=some .free ->
 (names.map λ(n,k)=>if (k == NameKind.free && env.scope.kind == .function && env.kindOf n == some .cell)then (n,NameKind.cell)else (n,k)).lookup x=some .cell \/
 (names.map λ(n,k)=>if (k == NameKind.free && env.scope.kind == .function && env.kindOf n == some .cell)then (n,NameKind.cell)else (n,k)).lookup x=some .free
 | [],_,h=>by simp at h
 | (n,k) :: r,x,h=>by
  have L:=@gL env r x;show List.lookup x ((if (k == NameKind.free && env.scope.kind == .function && env.kindOf n == some .cell)=true then (n,NameKind.cell)else (n,k)) :: _)=_\/List.lookup x ((if (k == NameKind.free && env.scope.kind == .function && env.kindOf n == some .cell)=true then (n,NameKind.cell)else (n,k)) :: _)=_;cases z:x == n with
  | true =>
   simp only[gq,z]at h;cases h
   by_cases J:(NameKind.free == NameKind.free && env.scope.kind == .function && env.kindOf n == some .cell)=true
   .left;rw[eH J];simp[gq,z]
   .right;rw[dt J];simp[gq,z]
  | false =>
   simp only[gq,z]at h
   by_cases J:(k == NameKind.free && env.scope.kind == .function && env.kindOf n == some .cell)=true
   .rw[eH J];simp only[gq,z];exact L h
   .rw[dt J];simp only[gq,z];exact L h
def lH {env:Env}:∀ {names:List (Str×NameKind)} {x:Str},(∀ y∈names,y.2≠NameKind.cell) ->
 ((names.map λ(n,k)=>if (k == NameKind.free && env.scope.kind == .function && env.kindOf n == some .cell)then (n,NameKind.cell)else (n,k)).lookup x=some .cell \/
 (names.map λ(n,k)=>if (k == NameKind.free && env.scope.kind == .function && env.kindOf n == some .cell)then (n,NameKind.cell)else (n,k)).lookup x=some .free)->(x,NameKind.free)∈names
 | [],_,_,h=>by simp at h
 | (n,k) :: r,x,L,h=>by
  have M:=@lH env r x (λy U=>L y (aGY _ U));have Y:=L (n,k) aGX;rw[aGk]at h;cases J:x == n with
  | true =>
   have e:x=n:=by simpa using J
   subst e
   by_cases z:(k == NameKind.free && env.scope.kind == .function && env.kindOf x == some .cell)=true
   .have:k=.free:=by simp only[gf]at z;simpa using z.1.1
    subst this;exact aGX
   .simp only[dt z,gq,J]at h;rcases h with h | h
    .cases h;exact absurd rfl Y
    .cases h;exact aGX
  | false =>
   refine aGY _ (M ?_)
   by_cases z:(k == NameKind.free && env.scope.kind == .function && env.kindOf n == some .cell)=true
   .simp only[eH z,gq,J]at h;exact h
   .simp only[dt z,gq,J]at h;exact h
section
variable {X:Cx} {pins:List (Addr×Obj)} {σ:St} {H H':Hp} {s:Shared} {inn:Scope} {js:List Nat} {cs ts:List Str} {nt:Nat}
def tP {i:Nat} {v:V} (h:(sIn nt js σ)[i]?=some (some v)):nt<=i/\∃ j,js[i - nt]?=some j/\σ[j]?=some (some v):=by
 unfold sIn at h
 by_cases hi:i<nt
 .rw[qg (by simpa using hi),qz]at h;split at h <;> cases h
 .rw[lz (by simpa using hi),aGf,aGj]at h;refine⟨by lia,?_⟩;cases e:js[i - nt]? with
  | none=>rw[e]at h;cases h
  | some j =>
   rw[e]at h;have h':(σ[j]?).join=some v:=gu h;refine⟨j,rfl,?_⟩;cases q:σ[j]? with
   | none=>rw[q]at h';cases h'
   | some o =>
    rw[q]at h';have z:o=some v:=h';rw[z]
def aFH {ex:List Addr} (I:Inv X pins σ H s) (O:CompOk X.env.scope inn X.N js cs) (hex:∀ b∈ex,b<s.heap.objs.size/\b≠X.env.locals/\b∉X.fs/\(∀ x c,X.env.cells.lookup x=some c->c≠b)/\∀ o,X.base.get? b≠some o) :
 (eR X inn (ts++cs) s H ex).Ok where
 mod:=I.ok.mod
 kind:=O.kind
 glob:=I.ok.glob
 blt:=I.ok.blt
 above:=ah _
 inj:=λx y c h1 h2=>I.ok.inj x y c (gY h1) (gY h2)
 has:=λx hx=>by
  have hm:(x,NameKind.free)∈inn.names:=lH O.nocell hx;exact yP (λy hy e=>I.ok.has y.1 (O.frees y hy e)) hm
 cab:=λ_ _ h=>absurd h (by show ¬ (false=true);decide)
 hd:=I.ok.hd
 frames:=I.ok.frames
 stk:=.inl rfl
 exf:=λb hb=>⟨aGi (hex b hb).1,λx c e=>(hex b hb).2.2.2.1 x c (gY e)⟩
 bs:=I.bs
 bsz:=g0 I.ok.bsz I.sz
 noex:=λb o e hb=>(hex b hb).2.2.2.2 o e
 exfs:=λb hb hs=>by
  rcases aGx.mp (I.stkSub b hs)with e | e
  .exact(hex b hb).2.1 e
  .exact(hex b hb).2.2.1 e
 funs:=I.stack
 frf:=I.stkFree
def aAy {ex:List Addr} {h':Heap} {tk:Nat} (Y:ts.length=nt) (I:Inv X pins σ H s) (O:CompOk X.env.scope inn X.N js cs) (hex:∀ b∈ex,b<s.heap.objs.size/\b≠X.env.locals/\b∉X.fs/\(∀ x c,X.env.cells.lookup x=some c->c≠b)/\∀ o,X.base.get? b≠some o)
 (hn:∃ m,h'.Ns s.heap.objs.size m) (hk:∀ b o,s.heap.get? b=some o->h'.get? b=some o) :
 Inv (eR X inn (ts++cs) s H ex) [] (sIn nt js σ) H { s with heap:=h',toks:=tk }:=by
 have ok:(eR X inn (ts++cs) s H ex).Ok:=aFH I O hex;obtain⟨m,hn⟩:=hn;have cellK:∀ c v,s.heap.IsCell c v->h'.IsCell c v:=λc v ⟨o,ho,hd⟩=>⟨o,hk c o ho,hd⟩;have hlen:js.length=cs.length:=by have:=congrArg List.length O.slots;simpa using this
 refine⟨ok,rfl,I.bare,Un.kept hk,⟨m,hn,λi x v e1 e2 e3=>?_⟩,λx c e=>?_,I.hok.fresh (ah _),λx c e=>I.freeC x c (gY e),λp hp=>?_,I.hok.kept hk,?_⟩
 .obtain⟨hi,j,hj,hv⟩:=tP e2;have U:(ts++cs)[i]?=some x:=e1;rw[lz (by lia),Y]at U;have hN:X.N[j]?=some x:=by
   have q:(js.map λj=>X.N[j]?)[i - nt]?=(cs.map some)[i - nt]?:=by rw[O.slots]
   rw[aGj,aGj,hj,U]at q;exact gu q
  have J:=O.caps x (aG6 U);have L:(x,NameKind.free)∈inn.names:=ip J;have M:=O.frees _ L rfl;obtain⟨mo,ay,hl⟩:=I.loc;obtain⟨u,r,l⟩:=hl j x v hN hv (.inr M);refine⟨u,r,.inr ?_⟩;rcases l with ⟨l1,_⟩ | ⟨k,c,ec,z⟩
  .have aw:X.env.scope.names.lookup x=some .local:=l1;rcases M with q | q <;> (rw[q]at aw;cases aw)
  .refine⟨?_,?_⟩
   .exact gL (env:=X.env) J
   .obtain⟨c',ax⟩:=yP (env:=X.env) (λy hy e=>I.ok.has y.1 (O.frees y hy e)) L;have:=gY ax;rw[ec]at this;cases this;exact⟨c,ax,cellK _ _ z⟩
 .obtain⟨v,z⟩:=I.cell x c (gY e);exact⟨v,cellK _ _ z⟩
 .exact absurd (show p∈([]:List (Addr×Obj)) from hp) (by simp)
 .show (sIn nt js σ).length=(ts++cs).length;unfold sIn;simp[Y,hlen]
def Inv.track {a:Addr} {o:HO} (I:Inv X pins σ H s) (U:H a=none) (h0:X.s₀.heap.objs.size<=a) (Y:a≠X.env.locals) (hc:∀ x c,X.env.cells.lookup x=some c->c≠a) (hp:∀ p∈X.pn++pins,p.1≠a)
 (new:ObjOk X.prog X.w (upd H a o) s.heap a o):Inv X pins σ (upd H a o) s:=by
 have L:∀ b z,X.s₀.heap.get? b=some z->b≠a:=λb z e=>aGi (aGc (aG1 e) h0);have neT:∀ b u,H b=some u->b≠a:=λb u e=>aP e U;refine⟨I.ok,I.os,I.bare,⟨I.base.keep,I.base.slot,λb z e n hx=>?_,I.base.there,λb xs e=>?_,λb z u e=>?_,λb ps e=>?_⟩,I.loc,I.cell,?_,λx c e=>?_,λp J=>?_,λb u e=>?_,I.len⟩
 .rw[aF (L b z e)];exact I.base.free b z e n hx
 .have q:=I.base.tups b xs e;rw[aF (neT b _ q)];exact q
 .have q:=I.base.frzs b z u e;rw[aF (neT b _ q)];exact q
 .obtain⟨more,q⟩:=I.base.tbls b ps e;exact⟨more,by rw[aF (neT b _ q)];exact q⟩
 .rw[aF (gi Y)];exact I.free
 .rw[aF (hc x c e)];exact I.freeC x c e
 .obtain⟨q1,q2,q3,q4,q5⟩:=I.pin p J;exact⟨q1,by rw[aF (hp p J)];exact q2,q3,q4,q5⟩
 .by_cases M:b=a
  .subst M;rw[aE]at e;cases e;exact new
  .rw[aF M]at e;exact(I.hok b u e).stay (λ_ _ _ q=>q) (λc q=>by rw[aF (neT c _ q)];exact q) λc xs q=>by rw[aF (neT c _ q)];exact q
end
def GK (nt:Nat) (g:TG):Prop:=∀ v σ H Q,g v σ H Q->g v σ H λz H'=>((∀ i,nt<=i->z[i]?=σ[i]?)/\z.length=σ.length)/\Q z H'
def GKs (nt:Nat) (g:TGs):Prop:=∀ vs σ H Q,g vs σ H Q->g vs σ H λz H'=>((∀ i,nt<=i->z[i]?=σ[i]?)/\z.length=σ.length)/\Q z H'
def kA {nt i:Nat} (h:i<nt):GK nt (rZ i):=λv σ H Q q=>⟨⟨λj z=>by rw[jl (by lia)],by simp⟩,q⟩
def iM {nt:Nat}:GKs nt aEs:=λvs σ H Q ⟨e,q⟩=>⟨e,⟨λ_ _=>rfl,rfl⟩,q⟩
def cO {nt i:Nat} {u:TGs} (h:i<nt) (M:GKs nt u):GKs nt (aA5 (rZ i) u):=λvs σ H Q q=>by
 obtain⟨v,r,e,q⟩:=q;refine⟨v,r,e,?_⟩;have U:u r (σ.set i (some v)) H Q:=q;have w:=M r (σ.set i (some v)) H Q U;have L:∀ j,nt<=j->(σ.set i (some v))[j]?=σ[j]?:=λj J=>by rw[jl (by lia)]
 have:(λ(z:St) (H':Hp)=>((∀ j,nt<=j->z[j]?=(σ.set i (some v))[j]?)/\z.length=(σ.set i (some v)).length)/\Q z H')=λz H'=>((∀ j,nt<=j->z[j]?=σ[j]?)/\z.length=σ.length)/\Q z H':=by
  funext z H'
  apply propext
  constructor
  .rintro ⟨⟨a,b⟩,c⟩;exact⟨⟨λj J=>(a j J).trans (L j J),by simpa using b⟩,c⟩
  .rintro ⟨⟨a,b⟩,c⟩;exact⟨⟨λj J=>(a j J).trans (L j J).symm,by simpa using b⟩,c⟩
 rw[this]at w;exact w
def lI {K:PySem.W.Frag} {nt n:Nat} {t:TGs} (h:GKs nt t):GK nt (aCk K n t):=λv σ H Q ⟨a,xs,e,z,J,q⟩=>⟨a,xs,e,z,J,h xs σ H Q q⟩
section
variable {X:Cx} {pins:List (Addr×Obj)} {σ:St} {H:Hp} {s:Shared} {Ξ:Value->Shared->Prop}
def Inv.xe (I:Inv X pins σ H s):Inv { X with xe:=Ξ } pins σ H s:=by
 have o:=I.ok;exact⟨⟨o.mod,o.kind,o.glob,o.blt,o.above,o.inj,o.has,o.cab,o.hd,o.frames,o.stk,o.exf,o.bs,o.bsz,o.noex,o.exfs,o.funs,o.frf⟩,I.os,I.bare,I.base,I.loc,I.cell,I.free,I.freeC,I.pin,I.hok,I.len⟩
def Inv.xeO (I:Inv { X with xe:=Ξ } pins σ H s):Inv X pins σ H s:=by
 have o:=I.ok;exact⟨⟨o.mod,o.kind,o.glob,o.blt,o.above,o.inj,o.has,o.cab,o.hd,o.frames,o.stk,o.exf,o.bs,o.bsz,o.noex,o.exfs,o.funs,o.frf⟩,I.os,I.bare,I.base,I.loc,I.cell,I.free,I.freeC,I.pin,I.hok,I.len⟩
end
section
variable {X:Cx} {pins:List (Addr×Obj)} {σ:St} {inn:Scope} {js:List Nat} {cs ts:List Str} {nt:Nat} {elt tg iter:Expr} {ifs:List Expr} {pos:Pos} {g:TG} {tt:TT} {te:TE}
def qX {J:It} {fp:List Addr} {it:Addr} {tn:Nat->Heap->Prop} {H2:Hp} {s2:Shared} {E:Value->Shared->Prop} {Ξ:Shared->Hp->List Addr->Value->Shared->Prop} {Q:VK} {RR:Value->Addr->Result->Shared->Prop}
 (bq:X.calm=true) (O:CompOk X.env.scope inn X.N js cs) (cv:ts.length=nt)
 (hg:∀ U Y ex,PG (eR X inn (ts++cs) U Y ex) tg g) (hk:GK nt g) (ht:∀ U Y ex,PIf (eR X inn (ts++cs) U Y ex) ifs tt) (he:∀ U Y ex,PE { eR X inn (ts++cs) U Y ex with xe:=Ξ U Y ex } elt te)
 (I2:Inv X pins σ H2 s2) (T:uL X.prog X.w X.K tg J fp it tn) (br:tn 0 s2.heap) (f2:∀ b∈fp,lB X pins H2 b)
 (R:pG J (sIn nt js σ) g tt te Q H2)
 (cw:∀ D C s' H',Inv X pins σ H' s'->(∃ m,s'.heap.Ns C m)->H' C=none->C≠X.env.locals->X.s₀.heap.objs.size<=C->(∀ x c,X.env.cells.lookup x=some c->c≠C)->(∀ p∈X.pn++pins,p.1≠C)->Q (.ref D) H'->RR (.ref D) C (.ok .next) s')
 (cx:∀ (D C:Addr) (s3:Shared) (ex:List Addr) (env:Env) (ev:Value) (s':Shared),env.frame=X.env.frame->Inv X pins σ H2 s3->C=s3.heap.objs.size->(∀ b∈ex,(b∈X.ex\/X.s₀.heap.objs.size<=b)/\b≠X.env.locals/\(∀ x c,X.env.cells.lookup x=some c->c≠b)/\∀ p∈X.pn++pins,p.1≠b)->Ξ s3 H2 ex ev s'->notedBy (model X.prog X.w) X.A env (λe s'=>RR (.ref D) C (.error e) s') ev s') :
 wpAny (model X.prog X.w) X.A (newList []) (λcb cf=>wpAny (model X.prog X.w) X.A (newFunctionEnv inn X.env.globals (lG inn X.env) [] X.env.qual none .none (some X.env)) (λbj cg =>
  codeAny (model X.prog X.w) X.A (.compStart (.ListComp elt [⟨tg,iter,ifs,0⟩] inn pos) 0 (.ref it) cb { bj with scope:=relabel inn X.env }) (RR cb bj.locals) cg) E cf) E s2:=by
 refine jf (ou O.nocell (by intro y hy;simp at hy) (λay aw ax=>?_) O.kind);dsimp only at aw ax ⊢;generalize hD:s2.heap.objs.size=D;have I3:Inv X pins σ H2 { s2 with heap:=s2.heap.push { cls:=.type "list",dict:=none,data:=.seq ([]:List Value).toArray } }:=I2.kept (t':=s2.toks) λb o e=>aGW _ e;generalize ci:({ s2 with heap:=s2.heap.push { cls:=.type "list",dict:=none,data:=.seq ([]:List Value).toArray } }:Shared)=s3 at I3;have e3:s3.heap=s2.heap.push { cls:=.type "list",dict:=none,data:=.seq ([]:List Value).toArray }:=by rw[<- ci]
 have cy:s3.heap.get? D=some { cls:=.type "list",dict:=none,data:=.seq ([]:List Value).toArray }:=by rw[e3,<- hD];exact aG2 _ rfl
 have a_:s3.heap.objs.size=D+1:=by rw[e3,im,hD]
 have cz:(s2.heap.push { cls:=.type "list",dict:=none,data:=.seq ([]:List Value).toArray })=s3.heap:=e3.symm;rw[cz]at aw ax ⊢;have bn:H2 D=none:=I2.hok.fresh (by rw[hD];exact ah _);have up:∀ b o,s3.heap.get? b=some o->ay.get? b=some o:=λb o e=>ax.extBut b o (aGi (aG1 e)) (aGW _ e);have bt:∀ b∈fp,b<s3.heap.objs.size/\b≠D:=λb hb=>by
  obtain⟨o,eo,_⟩:=T.obj 0 _ br b hb;have h1:=aG1 eo;rw[hD]at h1;exact⟨by rw[a_];exact jg h1,aGi h1⟩
 have nb:∀ b,X.s₀.heap.objs.size<=b->∀ o,X.base.get? b≠some o:=λb hb o e=>absurd (aGc (aG1 e) (g0 I2.ok.bsz hb)) (ie _);have ba:s2.heap.objs.size<=D:=by rw[hD];exact ah _
 have fD:lB X pins H2 D:=I2.fpOk ba bn;have hex:∀ b∈D :: fp,b<s3.heap.objs.size/\b≠X.env.locals/\b∉X.fs/\(∀ x c,X.env.cells.lookup x=some c->c≠b)/\∀ o,X.base.get? b≠some o:=λb hb=>by
  rcases aGx.mp hb with rfl | hb
  .exact⟨by rw[a_];exact il _,fD.2.1,fD.2.2.1,fD.2.2.2.2.1,nb _ (g0 I2.sz ba)⟩
  .obtain⟨f0,f1,bu,f3,f4,f5⟩:=f2 b hb;refine⟨(bt b hb).1,f1,bu,f4,λo e=>?_⟩;rcases f3 with z | z
   .exact I2.ok.noex b o e z
   .exact nb b z o e
 have hC:s3.heap.objs.size=s3.heap.objs.size:=rfl;generalize M:eR X inn (ts++cs) s3 H2 (D :: fp)=L;have I4:Inv L [] (sIn nt js σ) H2 { s3 with heap:=ay,toks:=s3.toks }:=by
  rw[<- M];exact aAy cv I3 O hex ⟨_,aw⟩ up
 have xp:L.prog=X.prog:=by rw[<- M];rfl
 have xw:L.w=X.w:=by rw[<- M];rfl
 have xK:L.K=X.K:=by rw[<- M];rfl
 have xA:L.A=X.A:=by rw[<- M];rfl
 have xc:L.calm=true:=by rw[<- M];exact bq
 have xe:L.env=compEnvC inn (lG inn X.env) s3.heap.objs.size X.env:=by rw[<- M];rfl
 have xx:L.xe=λ_ _=>False:=by rw[<- M];rfl
 have bv:L.ex=D :: fp:=by rw[<- M];rfl
 have bw:L.pn=[]:=by rw[<- M];rfl
 have cj:L.s₀=s3:=by rw[<- M];rfl
 have c_:L.H₀=H2:=by rw[<- M];rfl
 have da:L.fs=frs X.stack:=by rw[<- M];rfl
 have db:PG L tg g:=by rw[<- M];exact hg _ _ _
 have df:PIf L ifs tt:=by rw[<- M];exact ht _ _ _
 have dh:PE { L with xe:=Ξ s3 H2 (D :: fp) } elt te:=by rw[<- M];exact he _ _ _
 have okX:=I4.ok;have xl:L.env.locals=s3.heap.objs.size:=by rw[xe];rfl
 have Dl:D≠L.env.locals:=by rw[xl,a_];exact aGi (il _)
 have bb:∀ {H':Hp} {pl:List (Addr×Obj)},(∀ b∈fp,H' b=none)->(∀ p∈pl,p.1=D)->∀ b∈fp,lB L pl H' b:=λ{H' pl} hn hpl b hb=>by
  have bg:b∈L.ex:=by rw[bv];exact aGY _ hb
  refine⟨hn b hb,(okX.exf b bg).1,λz=>okX.exfs b bg z,.inl bg,(okX.exf b bg).2,λp hp=>?_⟩;rw[bw,kj]at hp;rw[hpl p hp];exact gi (bt b hb).2
 have DX:D∈L.ex:=by rw[bv];exact aGX
 obtain⟨W,⟨m0,w0⟩,turn⟩:=R;have loop:codeAny (model X.prog X.w) X.A (.compLoop (.ListComp elt [⟨tg,iter,ifs,0⟩] inn pos) 0 (.ref it) (.ref D) L.env) (RR (.ref D) s3.heap.objs.size) { s3 with heap:=ay,toks:=s3.toks }:=by
  refine uv rfl (λn s'=>∃ i ys H',Inv L [] (sIn nt js σ) H' s'/\tn i s'.heap/\(∀ b∈fp,H' b=none)/\H' D=none/\(∃ (its:List Value) (c:Nat),Vals ys its/\s'.heap.get? D=some { cls:=.type "list",data:=.seq its.toArray c })/\W i n ys H') ?_ m0
   ⟨0,[],H2,I4,?_,λb hb=>(f2 b hb).1,bn,⟨[],0,.nil,up D _ cy⟩,w0⟩
  .rintro n s5 ⟨i,ys,H5,I5,ck,cm,bx,⟨its,c,rv,eD⟩,w5⟩;show wpAny _ X.A ((compTurn (.ListComp elt [⟨tg,iter,ifs,0⟩] inn pos) 0 (.ref it) (.ref D) L.env).onRaise (λx=>do noteFrame x L.env;theTreesLotGoes x)) _ _ s5;refine wpAny_noted ?_;rw[compTurn_list];refine aGT (gw (aGT ?_));have bo:Inv L (cU [D] s5.heap) (sIn nt js σ) H5 s5:=by
    have q:=I5.pinned (fp:=[D]) (λb hb=>?_) (λb hb=>?_)
    .simpa using q
    .have e:b=D:=by simpa using hb
     subst e;refine⟨bx,Dl,λz=>okX.exfs b DX z,.inl DX,(okX.exf b DX).2,λp hp=>?_⟩;rw[bw,kj]at hp;cases hp
    .have e:b=D:=by simpa using hb
     subst e;exact⟨_,eD,λv z=>by cases z⟩
   have bz:∀ p∈cU [D] s5.heap,p.1=D:=λp hp=>by simpa using (jK hp).1
   have memD:(D,({ cls:=.type "list",data:=.seq its.toArray c }:Obj))∈cU [D] s5.heap:=cH (by simp) eD;obtain⟨hz,di⟩:=turn i n ys H5 w5;rcases di with ⟨stop,fin⟩ | ⟨go,N,hN,step⟩
   .have q:=T.done L xp xw xK xc i _ s5 _ H5 (notedBy (model X.prog X.w) X.A L.env λe s'=>RR (.ref D) s3.heap.objs.size (.error e) s') bo (bb cm bz) ck stop;rw[xA]at q;refine ew q (λr s6 ⟨hr,I6⟩=>?_) λ_ _ z=>z;subst hr;refine aGU ?_;have dj:=(I6.pin (D,_) (aGZ _ memD)).1;have un:Un (frs X.stack) (D :: fp) H2 H5 s3.heap s6.heap:=by
     have z:=I6.base;rw[da,bv,c_,cj]at z;exact z
    have dm:s6.os=s3.os:=by have z:=I6.os;rw[cj]at z;exact z
    have cn:HOk X.prog X.w H5 s6.heap:=by have z:=I6.hok;rw[xp,xw]at z;exact z
    have I7:Inv X pins σ H5 s6:=I3.call' dm un cn I6.bare λb hb=>by
     rcases aGx.mp hb with e | hb
     .rw[e];exact⟨.inr (g0 I2.sz ba),fD.2.1,fD.2.2.2.2.1,fD.2.2.2.2.2⟩
     .obtain⟨f0,f1,bu,f3,f4,f5⟩:=f2 b hb;exact⟨f3,f1,f4,f5⟩
    have I8:Inv X pins σ (upd H5 D (.lst ys)) s6:=I7.track bx (g0 I2.sz ba) fD.2.1 fD.2.2.2.2.1 fD.2.2.2.2.2 ⟨ji hz,its,c,rv,dj⟩;have cp:s3.heap.objs.size<=s3.heap.objs.size:=ah _;have fC:lB X pins (upd H5 D (.lst ys)) s3.heap.objs.size:=I3.fpOk cp (by
     rw[aF (by rw[<- xl];exact gi Dl)];have z:=I6.free;rw[xl]at z;exact z)
    obtain⟨mm,cq,_⟩:=I6.loc;rw[xl]at cq;exact cw D _ s6 _ I8 ⟨mm,cq⟩ fC.1 fC.2.1 (g0 I3.sz cp) fC.2.2.2.2.1 fC.2.2.2.2.2 (fin D bx)
   .have q:=T.item L xp xw xK xc i _ s5 _ H5 (notedBy (model X.prog X.w) X.A L.env λe s'=>RR (.ref D) s3.heap.objs.size (.error e) s') bo (bb cm bz) ck go;rw[xA]at q;refine ew q (λr s6 ⟨u,hr,h6⟩=>?_) λ_ _ z=>z;subst hr;refine aGT (ew h6 (λ_ s7 ⟨x,H7,I7,r7,y7,b_,dn⟩=>?_) λ_ _ z=>z);have dq:=I7.pinned (fp:=fp) (λb hb=>bb dn bz b hb) (T.obj _ _ b_);have q8:=db _ s7 _ H7 x u _ dq r7 (hk x _ H7 _ (step x H7 y7));rw[xp,xw,xA,xx]at q8;refine aGT (ew q8 (λ_ s8 ⟨az,H8,I8,⟨k8,l8⟩,q8⟩=>?_) λ_ _ z=>z.elim);have q9:=df _ s8 az H8 _ I8 q8;rw[xp,xw,xA,xx]at q9;refine aGT (ew q9 (λok s9 ⟨H9,I9,q9⟩=>?_) λ_ _ z=>z.elim);have bh:∀ (j:Nat) v,(sIn nt js σ)[j]?=some (some v)->az[j]?=some (some v):=λj v e=>by
     have hj:=(tP e).1;rw[k8 j hj];exact e
    have ends:∀ {H9:Hp} {s9:Shared} {bc:List V},Inv L (cU [D] s5.heap++cU fp s7.heap) az H9 s9->∀ {h':Heap} {its':List Value} {c':Nat},(∀ b o,b≠D->s9.heap.get? b=some o->h'.get? b=some o)->Vals bc its'->h'.get? D=some { cls:=.type "list",data:=.seq its'.toArray c' }->N bc H9 ->
     ∀ tk,∃ m,m<n/\∃ i ys H',Inv L [] (sIn nt js σ) H' { s9 with heap:=h',toks:=tk }/\tn i h'/\(∀ b∈fp,H' b=none)/\H' D=none/\(∃ (its:List Value) (c:Nat),Vals ys its/\h'.get? D=some { cls:=.type "list",data:=.seq its.toArray c })/\W i m ys H':=λ{H9 s9 bc} I9 {h' its' c'} kp dr du n9 tk=>by
     obtain⟨m',hm,w9⟩:=hN bc H9 n9;have cr:H9 D=none:=(I9.pin (D,_) (aGZ _ (aGe _ memD))).2.1;have dv:∀ b∈fp,H9 b=none:=λb hb=>by
      obtain⟨o,e,d⟩:=T.obj _ _ b_ b hb;exact(I9.pin (b,o) (aGZ _ (aGZ _ (cH hb e)))).2.1
     have bi:Inv L [] az H9 s9:=I9.pins_of λp hp=>by cases hp
     have dw:Inv L [] az H9 { s9 with heap:=h',toks:=tk }:=bi.turned (it:=D) kp cr Dl (.inl DX) (okX.exf D DX).2 (λp hp=>by rw[bw]at hp;cases hp);refine⟨m',hm,i+1,bc,H9,dw.weak l8.symm bh,T.keep _ _ _ b_ λb hb o e=>kp b o (bt b hb).2 (I9.pin (b,o) (aGZ _ (aGZ _ (cH hb e)))).1,dv,cr,⟨its',c',dr,du⟩,w9⟩
    cases ok with
    | false =>
     rw[dt aG8]at q9;have dy:=(I9.pin (D,_) (aGZ _ (aGe _ memD))).1;exact aGU ⟨rfl,ends I9 (h':=s9.heap) (λ_ _ _ e=>e) rv dy q9 s9.toks⟩
    | true =>
     rw[eH rfl]at q9;have bf:=ew (dh _ s9 az H9 _ I9.xe q9) (λv s z=>show EP L _ az _ v s by obtain⟨y,H,I,r,q⟩:=z;exact⟨y,H,I.xeO,r,q⟩) λ_ _ z=>z;dsimp only at bf;rw[xp,xw,xA]at bf;refine aGT (aGT (ew bf (λv dz ⟨y,eh,bi,d_,bf⟩=>?_) λev s' z=>cx _ _ _ _ _ _ _ (by rw[xe];rfl) I3 rfl (λb hb=>?_) z))
     case refine_2 =>
      rcases aGx.mp hb with e | hb
      .rw[e];exact⟨.inr (g0 I2.sz ba),fD.2.1,fD.2.2.2.2.1,fD.2.2.2.2.2⟩
      .obtain⟨f0,f1,bu,f3,f4,f5⟩:=f2 b hb;exact⟨f3,f1,f4,f5⟩
     have cu:=(bi.pin (D,_) (aGZ _ (aGe _ memD))).1;have hlen:=rv.length;refine aGT (r8 (items:=its.toArray) ⟨c,cu⟩ (λh' hl hs=>aGU (aGU ⟨rfl,?_⟩)) (by rw[aG3];lia));obtain⟨c',e'⟩:=hl;have ef:h'.get? D=some { cls:=.type "list",data:=.seq (its++[v]).toArray c' }:=by rw[e'];simp
     exact ends bi (h':=h') (λb o hb e=>hs.extBut b o hb e) (rv.append (.cons d_ .nil)) ef bf dz.toks
  .exact T.keep 0 _ _ br λb hb o e=>up b o (by rw[e3];exact aGW _ e)
 have e4:({ s2 with heap:=ay,toks:=s2.toks+([]:List (Str×Value)).length }:Shared)={ s3 with heap:=ay,toks:=s3.toks }:=by rw[<- ci];rfl
 rw[e4];show codeAny _ _ (.compStart (.ListComp elt [⟨tg,iter,ifs,0⟩] inn pos) 0 (.ref it) (.ref D) (compEnvC inn (lG inn X.env) s3.heap.objs.size X.env)) (RR (.ref D) s3.heap.objs.size) _;rw[<- xe];refine rm loop ?_;refine T.self X.A 0 _ _ _ ?_ loop;exact T.keep 0 _ _ br λb hb o e=>up b o (by rw[e3];exact aGW _ e)
end
section
variable {X:Cx} {inn:Scope} {js:List Nat} {cs ts:List Str} {nt:Nat} {elt tg iter:Expr} {ifs:List Expr} {pos:Pos} {g:TG} {tt:TT} {te:TE} {wi:TI}
def fK (ts cs:List Str) (js:List Nat) (U:X.calm=true) (O:CompOk X.env.scope inn X.N js cs) (hi:PI X tg iter wi)
 (hg:∀ L M ex,PG (eR X inn (ts++cs) L M ex) tg g) (hk:GK ts.length g) (ht:∀ L M ex,PIf (eR X inn (ts++cs) L M ex) ifs tt) (he:∀ L M ex,PE (eR X inn (ts++cs) L M ex) elt te)
 (hs:∀ x,foldedSetIterable iter X.env x=pure x:=by intro _;rfl):PE X (.ListComp elt [⟨tg,iter,ifs,0⟩] inn pos) (aAx wi ts.length js g tt te):=by
 intro pins s σ H Q I h;rw[uo];refine km (use:=none) rfl hs (tN λy hy e=>I.ok.has y.1 (O.frees y hy e)) O.kind O.names (thn (hi pins s σ H _ I h) λxv s1 h1=>thn h1 λay s2 h2=>?_);obtain⟨it,fp,tn,J,H2,e,I2,T,Y,f2,R⟩:=h2;subst e;refine qX (Ξ:=λ_ _ _ _ _=>False) (Q:=Q) (RR:=λaw C=>compPost (model X.prog X.w) X.A X.xe none (EP X pins σ Q) aw C) U O rfl hg hk ht he I2 T Y f2 R ?_ λ_ _ _ _ _ _ _ _ _ _ _ z=>z.elim;intro D C s' H' I' ⟨m,hm⟩ c1 c2 c3 c4 c5 q;refine⟨m,hm,λh' ax=>?_⟩;exact⟨.ref D,H',I'.turned (it:=C) (t':=s'.toks) (λb o hb e=>ax.extBut b o hb e) c1 c2 (.inr c3) c4 c5,rfl,q⟩
def a7 {i:Nat} {x:Str} {pos' U:Pos} (ts cs:List Str) (js:List Nat) (Y:X.calm=true) (hN:X.N.Nodup) (ax:X.N[i]?=some x) (hx:X.env.scope.names.lookup x=some .local) (O:CompOk X.env.scope inn X.N js cs) (hi:PI X tg iter wi)
 (hg:∀ L M ex,PG (eR X inn (ts++cs) L M ex) tg g) (hk:GK ts.length g) (ht:∀ L M ex,PIf (eR X inn (ts++cs) L M ex) ifs tt) (he:∀ L M ex,PE (eR X inn (ts++cs) L M ex) elt te)
 (ay:swapsWith (.ListComp elt [⟨tg,iter,ifs,0⟩] inn pos) (some (.Name x pos')) U.line X.env=pure true) (hs:∀ x,foldedSetIterable iter X.env x=pure x:=by intro _;rfl) :
 PS X (.Assign [.Name x pos'] (.ListComp elt [⟨tg,iter,ifs,0⟩] inn pos) U) (aCl (aAx wi ts.length js g tt te) (rZ i)):=by
 intro pins s σ H D I h;rw[exec_Assign_Name_used _ _ _ _ ay];refine aGT (gw (aGT ?_));show wpAny _ X.A (do let _ <- comprehension (.ListComp elt [⟨tg,iter,ifs,0⟩] inn pos) inn X.env _ (newList []) false (eval iter X.env) (some (assign (.Name x pos') X.env))) _ _ s;refine aGT (ew (km (use:=some (assign (.Name x pos') X.env)) (Q:=λ_ s'=>SP X pins D .next s') rfl hs (tN λy hy e=>I.ok.has y.1 (O.frees y hy e)) O.kind O.names
  (thn (hi pins s σ H _ I h) λxv s1 h1=>thn h1 λbc s2 h2=>?_)) (λ_ s' hq=>aGU (aGU hq)) λ_ _ e=>e)
 obtain⟨it,fp,tn,J,H2,e,I2,T,az,f2,R⟩:=h2;subst e;refine qX (Ξ:=λ_ _ _ _ _=>False) (Q:=λv H'=>D.nx (σ.set i (some v)) H') (RR:=λa_ C=>compPost (model X.prog X.w) X.A X.xe (some (assign (.Name x pos') X.env)) (λ_ s'=>SP X pins D .next s') a_ C) Y O rfl hg hk ht he I2 T az f2 R ?_ λ_ _ _ _ _ _ _ _ _ _ _ z=>z.elim;intro D' C s' H' I' ⟨m,hm⟩ c1 c2 c3 c4 c5 q;show wpAny _ X.A (assign (.Name x pos') X.env (.ref D')) _ _ _;refine wpAny_assign_Name (qQ (v:=.ref D') I' hN ax (.inl hx) rfl (λs2 I2 ⟨a,ba,ha⟩=>?_) (.inr hx));have bb:C≠a:=by
  rcases ha with e | e
  .rw[e];exact c2
  .exact λz=>c4 _ _ e z.symm
 refine⟨m,hm.sameBut ba bb,λh' aw=>?_⟩;exact⟨_,H',I2.turned (it:=C) (t':=s2.toks) (λb o hb e=>aw.extBut b o hb e) c1 c2 (.inr c3) c4 c5,q⟩
end
def mX {K:PySem.W.Frag} {a:Addr} {xs:List V} {z:St} {g:TG} {tt:TT} {te:TE} {H:Hp} {Q:VK} (Pv:Nat->List V->Hp->Prop) (h0:Pv 0 [] H) (U:∀ i ys H,i<=xs.length->Pv i ys H->SqL K H a xs/\ys.length<sizeLine)
 (hs:∀ i x ys H,xs[i]?=some x->Pv i ys H->g x z H λJ H2=>tt J H2 λb M=>if b=true then te J M λy Y=>Pv (i+1) (ys++[y]) Y else Pv (i+1) ys M) (hd:∀ ys H,Pv xs.length ys H->∀ D,H D=none->Q (.ref D) (upd H D (.lst ys))) :
 pG (Itl K a) z g tt te Q H:=by
 refine⟨λi m ys H=>m=xs.length - i/\i<=xs.length/\Pv i ys H,⟨xs.length,by simp,gr _,h0⟩,?_⟩;rintro i m ys H ⟨rfl,hi,p⟩;obtain⟨q,hz⟩:=U i ys H hi p;refine⟨hz,?_⟩
 by_cases L:i<xs.length
 .refine .inr ⟨⟨xs,xs[i],q,by simp[L]⟩,Pv (i+1),λaw H' p'=>⟨xs.length - (i+1),by lia,rfl,L,p'⟩,λx H' y=>?_⟩;obtain⟨e,y⟩:=y;subst e;exact hs i x ys _ (y xs q) p
 .have e:i=xs.length:=by lia
  subst e;exact .inl ⟨⟨xs,q,ah _⟩,hd ys H p⟩
def oG {lo:Int} {n:Nat} {J:St} {g:TG} {tt:TT} {te:TE} {H:Hp} {Q:VK} (Pv:Nat->List V->Hp->Prop) (h0:Pv 0 [] H) (U:∀ i ys H,i<=n->Pv i ys H->ys.length<sizeLine)
 (hs:∀ i ys H,i<n->Pv i ys H->g (.int (lo+i)) J H λL H2=>tt L H2 λb M=>if b=true then te L M λy Y=>Pv (i+1) (ys++[y]) Y else Pv (i+1) ys M) (hd:∀ ys H,Pv n ys H->∀ D,H D=none->Q (.ref D) (upd H D (.lst ys))) :
 pG (Itr lo n) J g tt te Q H:=by
 refine⟨λi m ys H=>m=n - i/\i<=n/\Pv i ys H,⟨n,by simp,gr _,h0⟩,?_⟩;rintro i m ys H ⟨rfl,hi,p⟩;refine⟨U i ys H hi p,?_⟩
 by_cases z:i<n
 .refine .inr ⟨z,Pv (i+1),λaw H' p'=>⟨n - (i+1),by lia,rfl,z,p'⟩,λx H' y=>?_⟩;obtain⟨e,y⟩:=y;subst e y;exact hs i ys _ z p
 .have e:i=n:=by lia
  subst e;exact .inl ⟨ah _,hd ys H p⟩
mutual
inductive Den (H:Hp):V->PyData->Prop
 | non:Den H .non .none
 | bl (b:Bool):Den H (.bl b) (.bool b)
 | int (i:Int):Den H (.int i) (.int i)
 | str (x:Str):Den H (.str x) (.str x)
 | lst {a:Addr} {vs:List V} {ds:List PyData}:H a=some (.lst vs)->Dens H vs ds->Den H (.ref a) (.list ds)
 | tup {a:Addr} {vs:List V} {ds:List PyData}:H a=some (.tup vs)->Dens H vs ds->Den H (.ref a) (.tuple ds)
inductive Dens (H:Hp):List V->List PyData->Prop
 | nil:Dens H [] []
 | cons {v:V} {d:PyData} {vs:List V} {ds:List PyData}:Den H v d->Dens H vs ds->Dens H (v :: vs) (d :: ds)
end
mutual
def Den.mono {H H':Hp} (e:Same H H'):∀ {v:V} {d:PyData},Den H v d->Den H' v d
 | _,_,.non=>.non
 | _,_,.bl b=>.bl b
 | _,_,.int i=>.int i
 | _,_,.str x=>.str x
 | _,_,.lst h t=>.lst (e _ _ h) (Dens.mono e t)
 | _,_,.tup h t=>.tup (e _ _ h) (Dens.mono e t)
def Dens.mono {H H':Hp} (e:Same H H'):∀ {vs:List V} {ds:List PyData},Dens H vs ds->Dens H' vs ds
 | _,_,.nil=>.nil
 | _,_,.cons r t=>.cons (Den.mono e r) (Dens.mono e t)
end
def Dens.ints {H:Hp}:∀ ns:List Int,Dens H (ns.map V.int) (ns.map PyData.int)
 | []=>.nil
 | n :: r=>.cons (.int n) (Dens.ints r)
def Den.ints {H:Hp} {a:Addr} {ns:List Int} (h:H a=some (.lst (ns.map V.int))):Den H (.ref a) (.list (ns.map PyData.int)):=.lst h (Dens.ints ns)
def Same.upd {H:Hp} {a:Addr} {o:HO} (h:H a=none):Same H (upd H a o):=λb u e=>by rw[aF (aP e h)];exact e
def Same.upd' {H z:Hp} {a:Addr} {o:HO} (h:z a=none) (s:Same z H):Same z (L2.upd H a o):=λb u e=>by rw[aF (aP e h)];exact s b u e
section
variable {P:Program} {w:World} {H:Hp} {h:Heap}
mutual
def Den.reads (ok:HOk P w H h):∀ {v:V} {d:PyData} {u:Value},Den H v d->RelV v u->∃ as,Reads h u d as
 | _,_,_,.non,r=>by cases r;exact⟨_,.none⟩
 | _,_,_,.bl b,r=>by cases r;exact⟨_,.bool b⟩
 | _,_,_,.int i,r=>by obtain⟨t,rfl⟩:=r;exact⟨_,.int i t⟩
 | _,_,_,.str x,r=>by obtain⟨t,rfl⟩:=r;exact⟨_,.str x t⟩
 | _,_,_,.lst (a:=a) e t,r=>by
  cases r;obtain⟨_,its,n,z,J⟩:=ok a _ e;obtain⟨as,q⟩:=Dens.reads ok t z;exact⟨_,.list J rfl rfl (by simpa using q)⟩
 | _,_,_,.tup (a:=a) e t,r=>by
  cases r;obtain⟨_,its,z,o,J,L,n,hd⟩:=ok a _ e;obtain⟨as,q⟩:=Dens.reads ok t z;exact⟨_,.tuple J L hd (by simpa using q)⟩
def Dens.reads (ok:HOk P w H h):∀ {vs:List V} {ds:List PyData} {us:List Value},Dens H vs ds->Vals vs us->∃ as,ReadsAll h us ds as
 | _,_,_,.nil,.nil=>⟨_,.nil⟩
 | _,_,_,.cons r t,.cons q s=>by
  obtain⟨a,x⟩:=Den.reads ok r q;obtain⟨b,y⟩:=Dens.reads ok t s;exact⟨_,.cons x y⟩
end
end
inductive aAz (x:V) (y:V) (H:Hp) (Q:VK):Prop
 | mk (d:_) (e:_) (h0_:Den H x d) (h1_:Den H y e) (h2_:SeqAt.shaped d=true) (h3_:SeqAt.shaped e=true) (h4_:Q (.bl (PyData.eqv d e)) H):aAz x y H Q
def aGE:R2:=λx y H Q=>aAz x y H Q
inductive aBA (x:V) (y:V) (H:Hp) (Q:VK):Prop
 | mk (d:_) (e:_) (h0_:Den H x d) (h1_:Den H y e) (h2_:SeqAt.shaped d=true) (h3_:SeqAt.shaped e=true) (h4_:Q (.bl (!PyData.eqv d e)) H):aBA x y H Q
def aGF:R2:=λx y H Q=>aBA x y H Q
section
variable {X:Cx}
def aEH (z:X.A.units+64<cLine):OpR X (compareOp .Eq) aGE:=by
 intro pins s σ H x y v u Q I J L h;obtain⟨d,e,hd,he,M,U,q⟩:=h;obtain⟨as,r1⟩:=hd.reads I.hok J;obtain⟨bs,r2⟩:=he.reads I.hok L;exact eq_dataH r1 r2 M U z ⟨.bl _,H,I,rfl,q⟩
def aBB (z:X.A.units+64<cLine):OpR X (compareOp .NotEq) aGF:=by
 intro pins s σ H x y v u Q I J L h;obtain⟨d,e,hd,he,M,U,q⟩:=h;obtain⟨as,r1⟩:=hd.reads I.hok J;obtain⟨bs,r2⟩:=he.reads I.hok L;exact ne_dataH r1 r2 M U z ⟨.bl _,H,I,rfl,q⟩
inductive aBC (xs:List V) (H:Hp) (Q:VK):Prop
 | mk (p:Addr) (bs:List Bool) (h0_:xs=[.ref p]) (h1_:H p=some (.lst (bs.map V.bl))) (h2_:Q (.bl (bs.all id)) H):aBC xs H Q
def aBD (hc:X.calm=true):eK X (.builtin "all") aBC:=by
 intro pins s σ H xs us Q I r h;obtain⟨p,bs,rfl,hp,q⟩:=h;obtain⟨u,rfl,rx⟩:=hJ r;cases rx;obtain⟨its,M,pl,hz⟩:=I.list (SqL.of hp);have J:=pl.isList;have L:p<s.heap.objs.size:=by obtain⟨_,e,_⟩:=J;exact aG1 e
 have hlen:bs.length=its.length:=by have:=M.length;simpa using this
 refine call_all_walk (ly J ?_);refine⟨s.heap.objs.size,[s.heap.objs.size,p],[s.heap.objs.size],its.toArray.size,_,_,λi=>(bs[i]?).getD true,rfl,Walks.list (A:=X.A.in1) (I.ok.hd hc) _ p (aGi L) its.toArray,
  ⟨⟨_,aG2 _ rfl,rfl,rfl⟩,J.push _⟩,λi v s' Q' E' hP hQ=>?_,λh' tk hk=>?_⟩
 .have U:its[i]?=some v:=by simpa using hP
  have hi:i<its.length:=(aGw.mp U).1;have hb:(bs.map V.bl)[i]?=some (V.bl (bs[i]'(by lia))):=by simp[hlen,hi]
  obtain⟨u,Y,ru⟩:=M.get hb;rw[U]at Y;cases Y;cases ru;have e:(bs[i]?).getD true=bs[i]'(by lia):=by simp[show i<bs.length by lia]
  have z:Q' ((bs[i]?).getD true) s':=hQ;rw[e]at z;exact jd z
 .have e:((List.range its.toArray.size).all λi=>(bs[i]?).getD true)=bs.all id:=by
   rw[aG3,<- hlen];exact LSm.range_all bs
  rw[e];have kp:∀ b x,s.heap.get? b=some x->h'.get? b=some x:=LSm.kept_iter hk;exact⟨.bl _,H,I.kept kp,rfl,q⟩
end
def yQ:bootBuiltins "list"=some (.type "list"):=by decide +kernel
def kB:bootBuiltins "tuple"=some (.type "tuple"):=by decide +kernel
def aBE:bootBuiltins "str"=some (.type "str"):=by decide +kernel
def aQ:bootBuiltins "isinstance"=some (.builtin "isinstance"):=by decide +kernel
def aBF:bootBuiltins "all"=some (.builtin "all"):=by decide +kernel
def eZ:bootBuiltins "sorted"=some (.builtin "sorted"):=by decide +kernel
def J0:bootBuiltins "max"=some (.builtin "max"):=by decide +kernel
def uV:bootBuiltins "min"=some (.builtin "min"):=by decide +kernel
structure Bt (mg:Str->Option Value):Prop where
 len:mg "len"=none
 range:mg "range"=none
 list:mg "list"=none
 tuple:mg "tuple"=none
 bool:mg "bool"=none
 str:mg "str"=none
 int:mg "int"=none
 isinstance:mg "isinstance"=none
 all:mg "all"=none
 sorted:mg "sorted"=none
 max:mg "max"=none
 min:mg "min"=none
 set:mg "set"=none
 reversed:mg "reversed"=none
 sum:mg "sum"=none
 enumerate:mg "enumerate"=none
 zip:mg "zip"=none
 any:mg "any"=none
 abs:mg "abs"=none
def cZ (P:Program) (w:World) (K:PySem.W.Frag) (mg:Str->Option Value) (base:Heap) (x:Str) (k:Nat) (ps:List Str) (sp:Sp):Prop :=
 ∃ f fd,FnOk P w K mg base CX0 k f fd ps sp/\mg x=some (.ref f)/\PySem.W.keepIn K (.ref f)=true/\Binds K fd ps []
section
variable {X:Cx} {x:Str} {j k:Nat} {ps:List Str} {sp:Sp} {t:TA} {e:Expr} {es:List Expr} {p pos:Pos}
def bU (F:cZ X.prog X.w X.K X.mg X.base x j ps sp) (z:Room k X.A) (J:Gl X x) (L:PA X (e :: es) t) (M:j<=k:=by decide) (hdb:(x == ("__debug__":Str))=false:=by decide)
 (he:starEach (e :: es) X.env=(false,eval e X.env) :: starEach es X.env:=by rfl) (hpl:(backTo pos (starEach es X.env)).any (·.1)=false:=by rfl) :
 PE X (.Call (.Name x p) (e :: es) [] pos) (yI sp [] E0 t):=by
 obtain⟨f,fd,G,U,Y,hb⟩:=F;exact Z5 (hdb:=hdb) (he:=he) (hpl:=hpl) G (z.mono M) J U Y hb .nil eA L
def aBG:OpR X (compareOp .Eq) (rI0 λi j=>.bl (decide (i=j))):=aAc λi j _ _ _ _ _ q=>eq_int (by
 have e:(i == j)=decide (i=j):=by rw[iw];simp
 rw[e];exact q)
end
def aGG (t u:TS):TS:=λD σ H=>∃ M:St->Hp->Prop,t { D with nx:=M } σ H/\∀ z H',M z H'->u D z H'
def tQ {X:Cx} {st:Stmt} {rest:List Stmt} {t u:TS} (h1:PS X st t) (h2:PSs X rest u):PSs X (st :: rest) (aGG t u):=by
 intro pins s σ H D I h;obtain⟨M,h,J⟩:=h;refine mh (thn (h1 pins s σ H { D with nx:=M } I h) λf L q=>?_);cases f with
 | next =>
  obtain⟨z,H',U,q⟩:=q;exact h2 pins L z H' D U (J z H' q)
 | ret v=>exact q
 | brk=>exact q
 | cont=>exact q
def aFI (t:TE):TE:=fun σ H Q=>∃ R:VK,t σ H R/\∀ v H',R v H'->Q v H'
def R9 {X:Cx} {e:Expr} {t:TE} (h:PE X e t):PE X e (aFI t):=by
 intro pins s σ H Q I hw;obtain⟨R,hw,z⟩:=hw;exact thn (h pins s σ H R I hw) λu M ⟨v,H1,J,r1,L⟩=>⟨v,H1,J,r1,z v H1 L⟩
def pH {c:Prop} [Decidable c] {A B:Prop} (h1:c->A) (h2:¬ c->B):if decide c=true then A else B:=by
 by_cases h:c
 .rw[aGh h,eH rfl];exact h1 h
 .rw[aGg h,dt aG8];exact h2 h
def iO {c:Prop} [Decidable c] {A B:Prop} (z:c) (h1:A):if decide c=true then A else B:=by
 rw[aGh z,eH rfl];exact h1
def dR {c:Prop} [Decidable c] {A B:Prop} (z:¬ c) (h1:B):if decide c=true then A else B:=by
 rw[aGg z,dt aG8];exact h1
section
variable {X:Cx} (K:PySem.W.Frag)
def J6 (h:X.K=K):IxR X (aEC K):=h ▸ mU
def aCx (h:X.K=K):IxR X (aED K):=h ▸ fJ
def nO (h:X.K=K):eK X (.builtin "len") (oF K):=h ▸ bD
def iP {es:List Expr} {k:Nat} {t:TGs} {n:Nat} {pos:Pos} (h:X.K=K) (z:X.calm=true) (hs:PGs X es t) (J:(assignEach es X.env).length=n:=by rfl) (hst:(assignEach es X.env).findIdx? (·.1)=none:=by rfl):PG X (.Tuple es k pos) (aCk K n t):=h ▸ eP z hs J hst
end
abbrev two (b:Int) (t:Tok) (c:Nat):Obj:={ cls:=.type "list",dict:=none,data:=.seq #[.int b t,.int b t] c,slots:=#[] }
def J7:∀ {its:List Value} {ns:List Int} {i:Nat} {n:Int},IntsAre its ns->ns[i]?=some n->∃ t,its[i]?=some (.int n t)
 | _,_,_,_,.nil,e=>by simp at e
 | _,_,0,_,.cons n t _,e=>by simp at e;subst e;exact⟨t,rfl⟩
 | _,_,i+1,n,.cons _ _ r,e=>by
  obtain⟨t,h⟩:=J7 (i:=i) (n:=n) r (by simpa using e);exact⟨t,by simpa using h⟩
section
variable {prog:Program} {w:World} {A:Around} {R:Result->Shared->Prop} {l it S:Addr} {its:List Value} {ns:List Int} {d:Value}
def aCy (hh:A.handled=none) (hI:IntsAre its ns) (ay:l≠it) (L:it≠S) (az:l≠S) :
 ∀ (k i:Nat) (s:Shared) (b:Int) (t:Tok) (c:Nat),ns.length - i=k->i<=ns.length->s.heap.IsListIter it l i->s.heap.IsList l its.toArray->s.heap.get? S=some (two b t c) ->
  (∀ h' tk t',(∀ x o,x≠it->x≠S->s.heap.get? x=some o->h'.get? x=some o)->R (.ok (.ret (.int ((ns.drop i).foldl max b) t'))) { s with heap:=h',toks:=tk }) ->
  codeAny (model prog w) A (.builtin "max.loop" ⟨[.ref it,.none,.ref S],[(Str.ofString "default",d)]⟩) R s:=by
 have nm:(toString "max"++toString ".loop":String)="max.loop":=by decide
 intro k
 induction k with
 | zero =>
  intro i s b t c hk hi st hl U hR;have e:i=ns.length:=by lia
  refine jr iu (by
   rw[aG7 gh _];show wpAny _ A.in1 (seqItems? (Value.ref S) >>= _) _ _ s;refine aGT (la U rfl ?_);show wpAny _ A.in1 (tryCatch (pyNext (Value.ref it)) _ >>= _) _ _ s;refine aGT (jq (ln hh st hl (by have:=hI.length;simp;lia) λh' eb=>?_));have z:=eb S _ (gi L) U;show wpAny _ A.in1 (updateSeq S (λ_=>#[]) >>= _) _ _ { s with heap:=h' };refine aGT (ls z rfl (aGT (mr (aGU ?_))));have q:=hR (h'.update S (Obj.mapSeq λ_=>#[])) s.toks t (λx o h1 h2 e=>(aG0 _ _ (gi h2)).trans (eb x o h1 e));rw[e,List.drop_length]at q;exact q)
 | succ k ih =>
  intro i s b t c hk hi st hl U hR;have J:i<ns.length:=by lia
  obtain⟨u,hu⟩:=J7 (i:=i) (n:=ns[i]) hI (by simp[J]);have Y:ns.drop i=ns[i] :: ns.drop (i+1):=mf J;refine jr iu (by
   rw[aG7 gh _];show wpAny _ A.in1 (seqItems? (Value.ref S) >>= _) _ _ s;refine aGT (la U rfl ?_);show wpAny _ A.in1 (tryCatch (pyNext (Value.ref it)) _ >>= _) _ _ s;refine aGT (jq (ju st hl (x:=.int ns[i] u) (by simpa using hu) λh' aw sb=>?_));have z:=sb.extBut S _ (gi L) U;have ax:=hl.extBut sb.extBut ay;show wpAny _ A.in1 (tryCatch (holding [.int ns[i] u,.int ns[i] u] (richCompare .Gt (.int ns[i] u) (.int b t) >>= _)) _ >>= _) _ _ { s with heap:=h' };refine aGT (jq (fy (aGT (gt_int (s:={ s with heap:=h' }) ?_))));refine aGT (fy (jd (aGT (mr (aGU ?_)))))
   by_cases hb:b<ns[i]
   .have hd:decide (b<ns[i])=true:=aGh hb;simp only[hd,qh];refine aGT (ls z rfl (aGT (mr ?_)));rw[nm];obtain⟨c',e1⟩:∃ c',(h'.update S (Obj.mapSeq λ_=>#[Value.int ns[i] u,Value.int ns[i] u])).get? S=some (two ns[i] u c'):=⟨_,aGd _ z rfl⟩;refine aGU ⟨ku gh _,ih (i+1) { s with heap:=h'.update S (Obj.mapSeq λ_=>#[Value.int ns[i] u,Value.int ns[i] u]) } ns[i] u _ (by lia) J (aw.at λo e=>(aG0 _ _ (gi L)).trans e) (ax.at λo e=>(aG0 _ _ (gi az)).trans e) e1 λM tk t' kp=>?_⟩;have q:=hR M tk t' (λx o h1 h2 e=>kp x o h1 h2 ((aG0 _ _ (gi h2)).trans (sb.extBut x o h1 e)));rw[Y,aGm,show max b ns[i]=ns[i]by lia]at q;exact q
   .have hd:decide (b<ns[i])=false:=aGg hb;simp only[hd,ir,mi];refine aGT (mr ?_);rw[nm];refine aGU ⟨ku gh _,ih (i+1) { s with heap:=h' } b t c (by lia) J aw ax z λM tk t' kp=>?_⟩;have q:=hR M tk t' (λx o h1 h2 e=>kp x o h1 h2 (sb.extBut x o h1 e));rw[Y,aGm,show max b ns[i]=b by lia]at q;exact q)
def aBH (hh:A.handled=none) (hI:IntsAre its ns) (J:l≠it) (z:it≠S) (L:l≠S) {s:Shared} {c:Nat} (st:s.heap.IsListIter it l 0) (U:s.heap.IsList l its.toArray)
 (Y:s.heap.get? S=some { cls:=.type "list",dict:=none,data:=.seq #[] c,slots:=#[] }) (x0:V) (rx:RelV x0 d)
 (hR:∀ h' tk v u,(∀ x o,x≠it->x≠S->s.heap.get? x=some o->h'.get? x=some o)->RelV v u->(v=match ns with | []=>x0 | n :: r=>.int (r.foldl max n))->R (.ok (.ret u)) { s with heap:=h',toks:=tk }) :
 codeAny (model prog w) A (.builtin "max.loop" ⟨[.ref it,.none,.ref S],[(Str.ofString "default",d)]⟩) R s:=by
 have nm:(toString "max"++toString ".loop":String)="max.loop":=by decide
 cases hI with
 | nil =>
  refine jr iu (by
   rw[aG7 gh _];show wpAny _ A.in1 (seqItems? (Value.ref S) >>= _) _ _ s;refine aGT (la Y rfl ?_);show wpAny _ A.in1 (tryCatch (pyNext (Value.ref it)) _ >>= _) _ _ s;refine aGT (jq (ln hh st U (by simp) λh' eb=>?_));refine aGT (ph (aGU ?_));exact hR h' s.toks x0 d (λx o h1 _ e=>eb x o h1 e) rx rfl)
 | @cons n t its' aw r =>
  refine jr iu (by
   rw[aG7 gh _];show wpAny _ A.in1 (seqItems? (Value.ref S) >>= _) _ _ s;refine aGT (la Y rfl ?_);show wpAny _ A.in1 (tryCatch (pyNext (Value.ref it)) _ >>= _) _ _ s;refine aGT (jq (ju st U (x:=.int n t) (by simp) λh' ax sb=>?_));have M:=sb.extBut S _ (gi z) Y;have ay:=U.extBut sb.extBut J;show wpAny _ A.in1 (updateSeq S (λ_=>#[Value.int n t,Value.int n t]) >>= _) _ _ { s with heap:=h' };refine aGT (ls M rfl ?_);rw[nm];obtain⟨c',e1⟩:∃ c',(h'.update S (Obj.mapSeq λ_=>#[Value.int n t,Value.int n t])).get? S=some (two n t c'):=⟨_,aGd _ M rfl⟩;refine aGU ⟨ku gh _,aCy hh (.cons n t r) J z L _ 1 { s with heap:=h'.update S (Obj.mapSeq λ_=>#[Value.int n t,Value.int n t]) } n t _ rfl (by simp) (ax.at λo e=>(aG0 _ _ (gi z)).trans e) (ay.at λo e=>(aG0 _ _ (gi L)).trans e) e1 λaz tk t' kp=>?_⟩;exact hR az tk (.int (aw.foldl max n)) _ (λx o h1 h2 e=>kp x o h1 h2 ((aG0 _ _ (gi h2)).trans (sb.extBut x o h1 e))) ⟨t',rfl⟩ rfl)
def mxD (ns:List Int) (z:V):V:=match ns with | []=>z | n :: r=>.int (r.foldl max n)
def u7 (a d:Value):argsOk "max" ⟨[a],[(Str.ofString "default",d)]⟩:=by unfold argsOk;kernel_rfl
def u8 {E:Value->Shared->Prop} {s:Shared} {x0:V} {Q:Value->Shared->Prop} (hh:A.handled=none) (hI:IntsAre its ns) (hl:s.heap.IsList l its.toArray) (rx:RelV x0 d)
 (h:∀ h' tk u,(∀ x o,s.heap.get? x=some o->h'.get? x=some o)->RelV (mxD ns x0) u->Q u { s with heap:=h',toks:=tk }):wpAny (model prog w) A (call (.builtin "max") [.ref l] [(Str.ofString "default",d)]) Q E s:=by
 have nm:(toString "max"++toString ".loop":String)="max.loop":=by decide
 refine kmk_tree PySem.F.kind_max PySem.F.plain_max PySem.F.entry_max (u7 _ _) (by
  show wpAny _ A.in1 (Builtin.Builtins.bindParams "max" ["key","default"] 0 ⟨[],[(Str.ofString "default",d)]⟩ >>= _) _ _ s;refine aGT (wpAny_of_eq (show Builtin.Builtins.bindParams "max" ["key","default"] 0 ⟨[],[(Str.ofString "default",d)]⟩=pure [none,some d] from rfl) (aGT (aGU ?_)));refine aGT (ly hl ?_);refine aGT (jf ?_);rw[nm];have hlt:l<s.heap.objs.size:=by obtain⟨_,e,_⟩:=hl;exact aG1 e
  refine aGU ⟨ku gh _,aBH (l:=l) (it:=s.heap.objs.size) (its:=its) hh hI (aGi hlt) (by rw[im];exact aGi (il _)) (by rw[im];exact aGi (jg hlt)) ⟨_,aGW _ (aG2 _ rfl),rfl,rfl⟩ ((hl.push _).push _) (aG2 _ rfl) x0 rx λh' tk v u kp rv ev=>?_⟩;subst ev;refine h h' tk u (λx o e=>?_) rv;have hx:=aG1 e;exact kp x o (aGi hx) (by rw[im];exact aGi (jg hx)) (aGW _ (aGW _ e)))
end
section
variable {X:Cx} {e f:Expr} {te tf:TE} {p pos kp:Pos}
def aGH (K:PySem.W.Frag) (te tf:TE):TE:=fun σ H Q=>te σ H λx H1=>tf σ H1 λy H2=>∃ a ns,x=.ref a/\SqL K H2 a (ns.map V.int)/\Q (mxD ns y) H2
def u9 (hc:X.calm=true) (hg:Gl X "max") (hm:X.mg "max"=none) (he:PE X e te) (hf:PE X f tf)
 (hs:starEach [e] X.env=(false,eval e X.env) :: starEach [] X.env:=by rfl) (J:backTo pos (starEach [e] X.env)=(false,eval e X.env) :: backTo pos (starEach [] X.env):=by rfl) (L:(backTo pos (starEach [e] X.env)).any (·.1)=false:=by rfl)
 (M:(backToKw pos (keywordEach [⟨some "default",f,kp⟩] X.env)).all (·.1.isSome)=true:=by rfl) (U:(backToKw pos (keywordEach [⟨some "default",f,kp⟩] X.env)).any (·.1.isNone)=false:=by rfl) (Y:(backToKw pos (keywordEach [⟨some "default",f,kp⟩] X.env)).filterMap (·.1)=([Str.ofString "default"]:List Str):=by rfl) :
 PE X (.Call (.Name "max" p) [e] [⟨some "default",f,kp⟩] pos) (aGH X.K te tf):=by
 intro pins s σ H Q I h;refine ib (jX I hg hm J0 ?_);refine callWith_kw ?_ J L M U;refine thn ((aA he aB hs) pos pins s σ H (λvs H1=>match vs with | [x]=>tf σ H1 λy H2=>∃ a ns,x=.ref a/\SqL X.K H2 a (ns.map V.int)/\Q (mxD ns y) H2 | _=>False) I h) λus s1 ⟨vs,H1,I1,r1,q1⟩=>?_;obtain⟨x,rfl⟩:∃ x,vs=[x]:=by
  rcases vs with _ | ⟨x,_ | ⟨_,_⟩⟩
  .exact q1.elim
  .exact⟨x,rfl⟩
  .exact q1.elim
 refine thn ((aCr hf aDz) pos pins s1 σ H1 (λks H2=>match ks with | [y]=>∃ a ns,x=.ref a/\SqL X.K H2 a (ns.map V.int)/\Q (mxD ns y) H2 | _=>False) I1 q1) λws s2 ⟨zs,H2,I2,r2,z⟩=>?_;obtain⟨y,rfl⟩:∃ y,zs=[y]:=by
  rcases zs with _ | ⟨x,_ | ⟨_,_⟩⟩
  .exact z.elim
  .exact⟨x,rfl⟩
  .exact z.elim
 obtain⟨a,ns,rfl,hq,z⟩:=z;obtain⟨u,rfl,ru⟩:=r1.one;obtain⟨v,rfl,rv⟩:=r2.one;cases ru;rw[Y];obtain⟨its,rl,pl,hz⟩:=I2.list hq;exact u8 (I.ok.hd hc) (R7 rl) pl.isList rv λh' tk u kp ru=>⟨_,H2,I2.kept kp,ru,z⟩
end
def hU:bootBuiltins "sum"=some (.builtin "sum"):=by decide +kernel
def uW:bootBuiltins "enumerate"=some (.type "enumerate"):=by decide +kernel
def uX:∀ {ns:List Int} {us:List Value},Vals (ns.map V.int) us->IntsAre us ns
 | [],_,.nil=>.nil
 | _ :: _,_,.cons ⟨_,e⟩ t=>by subst e;exact .cons _ _ (uX t)
section
variable {X:Cx}
inductive aBI (xs:List V) (H:Hp) (Q:VK):Prop
 | mk (p:Addr) (ns:List Int) (h0_:xs=[.ref p]) (h1_:H p=some (.lst (ns.map V.int))) (h2_:Q (.int ns.sum) H):aBI xs H Q
def hV (L:X.calm=true):eK X (.builtin "sum") aBI:=by
 intro pins s σ H xs us Q I r h;obtain⟨p,ns,rfl,M,q⟩:=h;obtain⟨u,rfl,U⟩:=hJ r;cases U;obtain⟨its,Y,pl,hz⟩:=I.list (SqL.of M);have hl:=pl.isList;have hi:=uX Y;obtain⟨xs,J⟩:=hi.allInts.items;have z:s.heap.IsList p (intItems xs):=J ▸ hl;refine sum_intListG (I.ok.hd L) z λh' tk t' hk=>?_;have e1:ns=xs.toList.map (·.1):=by
  rw[<- nums_intItems,<- J];exact(show numsOf its.toArray.toList=ns from hi.numsOf).symm
 have e2:preSum (numAt xs) xs.size=ns.sum:=by
  rw[preSum_eq,jc (by simp),e1]
 rw[e2];exact⟨.int _,H,I.kept hk,⟨_,rfl⟩,q⟩
def Inv.turnedF {h':Heap} {pins:List (Addr×Obj)} {σ:St} {H:Hp} {s:Shared} {t':Nat} {fp:List Addr} (I:Inv X pins σ H s) (k:∀ b o,b∉fp->s.heap.get? b=some o->h'.get? b=some o) (M:∀ b∈fp,lB X pins H b):Inv X pins σ H { s with heap:=h',toks:=t' }:=by
 have L:∀ b u,H b=some u->b∉fp:=λb u e z=>by rw[(M b z).1]at e;cases e
 refine I.step (g':=s.gens) (d':=s.drawn) (ch:=fp) (λb U=>?_) (λb o _ _ J e _=>k b o J e) (λb o _ _ J e _=>⟨o.slots,k b o J e⟩) (λ_ _ _ _ n=>n)
  (λb o J e=>⟨o,k b o J e⟩) (λ_ _ e=>e) (λ_ _ _ e=>e) (λb ps e=>⟨#[],by rw[e];simp⟩) (λm Y=>?_) (λb u e=>?_) I.bare
 .obtain⟨_,h1,_,h3,h4,h5⟩:=M b U;exact⟨h3,h1,h4,h5⟩
 .obtain⟨o,es,ep,ho,r⟩:=Y;exact⟨o,es,ep,k _ o (λz=>(M _ z).2.1 rfl) ho,r⟩
 .refine(I.hok b u e).stay (λc v J q=>k c v ?_ q) (λ_ q=>q) λ_ _ q=>q;rcases J with z | z
  .rw[z];exact L b u e
  .exact L c _ z
def Inv.turnLaid {h':Heap} {pins:List (Addr×Obj)} {σ:St} {H:Hp} {s:Shared} {t':Nat} {fp:List Addr} {a:Addr} {o:HO} (I:Inv X pins σ H s) (k:∀ b o,b∉fp->s.heap.get? b=some o->h'.get? b=some o) (U:∀ b∈fp,lB X pins H b) (Y:s.heap.objs.size<=a) (new:ObjOk X.prog X.w (upd H a o) h' a o) :
 Inv X pins σ (upd H a o) { s with heap:=h',toks:=t' }:=by
 have hn:H a=none:=I.hok.fresh Y;have L:∀ b u,H b=some u->b∉fp:=λb u e z=>by rw[(U b z).1]at e;cases e
 have ne:∀ b u,H b=some u->b≠a:=λb u e=>aP e hn;refine I.step (g':=s.gens) (d':=s.drawn) (ch:=fp) (λb M=>?_) (λb o _ _ J e _=>k b o J e) (λb o _ _ J e _=>⟨o.slots,k b o J e⟩) (λb ob _ e n=>?_)
  (λb o J e=>⟨o,k b o J e⟩) (λb _ e=>by rw[aF (ne b _ e)];exact e) (λb _ _ e=>by rw[aF (ne b _ e)];exact e) (λb ps e=>⟨#[],by rw[aF (ne b _ e),e];simp⟩) (λm hm=>?_) (λb u e=>?_) I.bare
 .obtain⟨_,h1,_,h3,h4,h5⟩:=U b M;exact⟨h3,h1,h4,h5⟩
 .have:b≠a:=aGi (aGc (aG1 e) Y);rw[aF this];exact n
 .obtain⟨o,es,ep,ho,r⟩:=hm;exact⟨o,es,ep,k _ o (λz=>(U _ z).2.1 rfl) ho,r⟩
 .by_cases M:b=a
  .subst M;rw[aE]at e;cases e;exact new
  .rw[aF M]at e;refine(I.hok b u e).stay (λc v J q=>k c v ?_ q) (λc q=>by rw[aF (ne c _ q)];exact q) λc _ q=>by rw[aF (ne c _ q)];exact q
   rcases J with z | z
   .rw[z];exact L b u e
   .exact L c _ z
end
def Ite (K:PySem.W.Frag) (a:Addr):It :=
 ⟨λi H=>∃ xs x,SqL K H a xs/\xs[i]?=some x,λi H v H'=>∃ t x,v=.ref t/\H t=none/\(∀ xs,SqL K H a xs->xs[i]?=some x)/\H'=upd H t (.tup [.int i,x]),λi H=>∃ xs,SqL K H a xs/\xs.length<=i⟩
def v0 {P:Program} {w:World} {K:PySem.W.Frag} {elts:List Expr} {x1} {pos:Pos} (a e it:Addr) (hne:e≠it):uL P w K (.Tuple elts x1 pos) (Ite K a) [e,it] e (λi h=>(∃ old,IsEnum h e it (i:Nat) old)/\h.IsListIter it a i) where
 mem:=by simp
 obj:=λi h st b hb=>by
  obtain⟨⟨old,he⟩,o,ho,c,d⟩:=st;rcases aGx.mp hb with z | z
  .subst z;exact⟨_,he,λv z=>by have z':Data.fields _=Data.cell v:=z;cases z'⟩
  .have z:b=it:=by simpa using z
   subst z;exact⟨o,ho,λv z=>by rw[d]at z;cases z⟩
 keep:=λi h h' st k=>⟨let ⟨old,he⟩:=st.1;⟨old,k e (by simp) _ he⟩,st.2.at λo e=>k it (by simp) o e⟩
 item:=by
  intro X hP hw hK hc i pins s σ H E I hf st hg;subst hP hw hK;obtain⟨xs,x,hq,hx⟩:=hg;obtain⟨its,rv,p,hz⟩:=I.list hq;obtain⟨u,hu,ru⟩:=rv.get hx;obtain⟨⟨old,he⟩,hit⟩:=st;have le:e<s.heap.objs.size:=aG1 he;have li:it<s.heap.objs.size:=by obtain⟨_,z,_⟩:=hit;exact aG1 z
  refine wpAny_pyNext_enum_item he hit p.isList (x:=u) (by simpa using hu) hne λh' e1 e2 e3 e4 kp=>?_;refine⟨_,rfl,?_⟩;have hn:H s.heap.objs.size=none:=I.hok.fresh (ah _);have k1:∀ b o,b∉[e,it]->s.heap.get? b=some o->h'.get? b=some o:=λb o hb q=>kp b o (λz=>hb (by simp[z])) (λz=>hb (by simp[z])) q;have tupOk:∀ h2:Heap,h2.get? s.heap.objs.size=some { cls:=.type "tuple",data:=.seq #[.int i s.toks,u] }->ObjOk X.prog X.w (upd H s.heap.objs.size (.tup [.int i,x])) h2 s.heap.objs.size (.tup [.int i,x]):=λh2 q =>
   ⟨by show 2<=sizeLine;decide,[.int i s.toks,u],.cons ⟨_,rfl⟩ (.cons ru .nil),_,q,rfl,_,rfl⟩
  refine wpAny_letOwnedTupleGo_enum (i:=((i:Nat):Int)+1) e1 λh2 f1 sb=>?_;have k2:∀ b o,b∉[e,it]->s.heap.get? b=some o->h2.get? b=some o:=λb o hb q=>sb.extBut b o (λz=>hb (by simp[z])) (k1 b o hb q);have n1:s.heap.objs.size≠e:=aGl le;refine⟨.ref s.heap.objs.size,_,I.turnLaid (t':=s.toks+1) (h':=h2) (o:=.tup [.int i,x]) k2 hf (ah _) (tupOk _ (sb.extBut _ _ n1 e3)),rfl,⟨_,x,rfl,hn,λys hy=>by rw[I.list_inj hy hq];exact hx,rfl⟩,⟨⟨u,?_⟩,?_⟩,λb hb=>?_⟩
  .have:(((i+1:Nat):Int))=(i:Int)+1:=by lia
   rw[this];exact f1
  .exact e2.extBut sb.extBut (gi hne)
  .have hb':b≠s.heap.objs.size:=by
    rcases aGx.mp hb with z | z
    .subst z;exact aGi le
    .have z:b=it:=by simpa using z
     subst z;exact aGi li
   rw[aF hb'];exact(hf b hb).1
 done:=by
  intro X hP hw hK hc i pins s σ H E I hf st hg;subst hP hw hK;obtain⟨xs,hq,hx⟩:=hg;obtain⟨its,rv,p,hz⟩:=I.list hq;have hl:=rv.length;obtain⟨⟨old,he⟩,hit⟩:=st;exact wpAny_pyNext_enum_end (I.ok.hd hc) he hit p.isList (by simp;lia) λh' eb=>⟨rfl,I.turnedF (fp:=[e,it]) (t':=s.toks) (λb o hb e=>eb b o (λz=>hb (by simp[z])) e) hf⟩
 self:=λ_ _ _ _ _ st h=>let ⟨_,he⟩:=st.1;wpAny_pyIter_enum he h
def aFJ (K:PySem.W.Frag) (ta:TA):TI:=fun σ H R=>ta σ H λvs H1=>∃ a xs,vs=[.ref a]/\SqL K H1 a xs/\R (Ite K a) H1
def tR {X:Cx} {elts:List Expr} {U} {al:Pos} {a:Expr} {ta:TA} {p pos:Pos} (Y:Gl X "enumerate") (hm:X.mg "enumerate"=none) (ha:PA X [a] ta) (hs:starEach [a] X.env=[(false,eval a X.env)]:=by rfl):PI X (.Tuple elts U al) (.Call (.Name "enumerate" p) [a] [] pos) (aFJ X.K ta):=by
 intro pins s σ H R I h;refine Call_ (jX I Y hm uW (iy (thn (ha pos pins s σ H _ I h) λus J ⟨vs,H1,L,r1,q1⟩=>?_) hs rfl));obtain⟨a,xs,e,hq,q⟩:=q1;subst e;obtain⟨u,rfl,rx⟩:=hJ r1;cases rx;obtain⟨its,rv,pl,hz⟩:=L.list hq;refine call_enumerate_list pl.isList λh' M g2 g3 kp=>?_;have I2:Inv X pins σ H1 { J with heap:=h' }:=L.kept (t':=J.toks) kp;refine wpAny_pyIter_enum M ?_;refine⟨J.heap.objs.size+1,[J.heap.objs.size+1,J.heap.objs.size],_,_,H1,rfl,I2,v0 a _ _ (aGl (il _)),⟨⟨_,M⟩,g2⟩,λb hb=>?_,q⟩;have e:J.heap.objs.size<=b:=by
  rcases aGx.mp hb with z | z
  .rw[z];exact lq _
  .have z:b=J.heap.objs.size:=by simpa using z
   rw[z];exact ah _
 exact L.fpOk e (L.hok.fresh e)
def pI {K:PySem.W.Frag} {a:Addr} {xs:List V} {g:TG} {tb:TS} {D:iX} {σ:St} {H:Hp} (Pv:Nat->St->Hp->Prop) (h0:Pv 0 σ H) (U:∀ i σ H,i<=xs.length->Pv i σ H->SqL K H a xs)
 (hs:∀ i x σ H t,xs[i]?=some x->Pv i σ H->H t=none->g (.ref t) σ (upd H t (.tup [.int i,x])) λz H2=>tb { D with nx:=Pv (i+1),ct:=Pv (i+1),bk:=D.nx } z H2) (hd:∀ σ H,Pv xs.length σ H->D.nx σ H) :
 ∃ W:Nat->Nat->St->Hp->Prop,(∃ m,W 0 m σ H)/\∀ i m σ H,W i m σ H ->
  ((Ite K a).stop i H/\D.nx σ H)\/((Ite K a).go i H/\∃ N:St->Hp->Prop,(∀ J H',N J H'->∃ M,M<m/\W (i+1) M J H')/\∀ x H',(Ite K a).yld i H x H'->g x σ H' λz H2=>tb { D with nx:=N,ct:=N,bk:=D.nx } z H2):=by
 refine⟨λi m σ H=>m=xs.length - i/\i<=xs.length/\Pv i σ H,⟨xs.length,by simp,gr _,h0⟩,?_⟩;rintro i m σ H ⟨rfl,hi,p⟩;have q:=U i σ H hi p
 by_cases L:i<xs.length
 .refine .inr ⟨⟨xs,xs[i],q,by simp[L]⟩,Pv (i+1),λJ H' Y=>⟨xs.length - (i+1),by lia,rfl,L,Y⟩,λx H' y=>?_⟩;obtain⟨t,x,rfl,hn,y,rfl⟩:=y;exact hs i x σ _ t (y xs q) p hn
 .have e:i=xs.length:=by lia
  subst e;exact .inl ⟨⟨xs,q,ah _⟩,hd σ H p⟩
open PySem.W
section
variable {O:KeyOrd} {key:Nat->O.α} {n:Nat} {ae:Nat->Nat->(Bool->Shared->Prop)->Shared->Prop} {s:Shared}
def Ans (O:KeyOrd) (key:Nat->O.α) (n:Nat) (ae:Nat->Nat->(Bool->Shared->Prop)->Shared->Prop) (s:Shared):Prop:=∀ i j C,i<n->j<n->C (O.blt (key i) (key j)) s->ae i j C s
def KP (O:KeyOrd) (key:Nat->O.α) (p:Array Nat) (i:Nat):O.α:=key (p.getD i 0)
structure InR (n:Nat) (p:Array Nat):Prop where
 pos:0<n
 size:p.size=n
 mem:∀ x∈p,x<n
def InR.at {p:Array Nat} (h:InR n p) (i:Nat):p.getD i 0<n:=by
 unfold Array.getD;split
 .exact h.mem _ (Array.getElem_mem _)
 .exact h.pos
def InR.perm {p q:Array Nat} (h:InR n p) (e:q.Perm p):InR n q:=⟨h.pos,e.size_eq.trans h.size,λx z=>h.mem x (e.mem_iff.mp z)⟩
def pJ {p q:Array Nat} {i j:Nat} (h:p[i]?=q[j]?):p.getD i 0=q.getD j 0:=by
 rw[pq,pq,h]
def S0 {p:Array Nat} {i j:Nat} (z:j<=p.size) (k:Nat):KP O key (kas_rev p i j) k=if i<=k/\k<j then KP O key p (i+j - 1 - k)else KP O key p k:=by
 have e:=getElem?_mirror_all (i:=i) z k;unfold KP kas_rev
 by_cases h:i<=k/\k<j
 .rw[eH h]at e ⊢;exact congrArg key (pJ e)
 .rw[dt h]at e ⊢;exact congrArg key (pJ e)
def aEI {p:Array Nat} {k d:Nat} (z:k<p.size) (hd:d<=k) (x:Nat):KP O key (bubble p k d) x=if x=k - d then KP O key p k else if k - d<x/\x<=k then KP O key p (x - 1)else KP O key p x:=by
 have e:=getElem?_bubble z d hd x;unfold KP
 by_cases h1:x=k - d
 .rw[eH h1]at e ⊢;exact congrArg key (pJ e)
 .rw[dt h1]at e ⊢
  by_cases h2:k - d<x/\x<=k
  .rw[eH h2]at e ⊢;exact congrArg key (pJ e)
  .rw[dt h2]at e ⊢;exact congrArg key (pJ e)
def Up (O:KeyOrd) (key:Nat->O.α) (p:Array Nat) (m:Nat):Prop:=∀ i j,i<=j->j<m->O.kle (KP O key p i) (KP O key p j)
def Dn (O:KeyOrd) (key:Nat->O.α) (p:Array Nat) (m:Nat):Prop:=∀ i j,i<=j->j<m->O.kle (KP O key p j) (KP O key p i)
def Up.more {p:Array Nat} {m:Nat} (h:Up O key p m) (L:1<=m) (J:O.kle (KP O key p (m - 1)) (KP O key p m)):Up O key p (m+1):=λi j z M=>by
 by_cases q:j<m
 .exact h i j z q
 .have:j=m:=by lia
  subst this
  by_cases r:i=j
  .subst r;exact kn _
  .exact mj (h i (j - 1) (by lia) (by lia)) J
def Dn.more {p:Array Nat} {m:Nat} (h:Dn O key p m) (L:1<=m) (J:O.kle (KP O key p m) (KP O key p (m - 1))):Dn O key p (m+1):=λi j z M=>by
 by_cases q:j<m
 .exact h i j z q
 .have:j=m:=by lia
  subst this
  by_cases r:i=j
  .subst r;exact kn _
  .exact mj J (h i (j - 1) (by lia) (by lia))
def S1 (A:Ans O key n ae s) {p:Array Nat} (U:InR n p):∀ (f m:Nat) (Q:Nat->Shared->Prop),1<=m->Up O key p m ->
 (∀ J,m<=J->J<=m+f->Up O key p J->(J<m+f->O.klt (KP O key p J) (KP O key p (J - 1)))->Q J s)->(kas_asc p f m).kasWp ae Q s
 | 0,m,Q,Y,L,M=>M m (ah _) (ah _) L λz=>absurd z (ie _)
 | f+1,m,Q,Y,L,M=>by
  show ae _ _ _ s;refine A _ _ _ (U.at _) (U.at _) ?_;cases hb:O.blt (key (p.getD m 0)) (key (p.getD (m - 1) 0))with
  | true =>
   show KasT.kasWp ae (if true=true then _ else _) Q s;rw[eH rfl];exact M m (ah _) (Nat.le_add_right _ _) L λ_=>hb
  | false =>
   show KasT.kasWp ae (if false=true then _ else _) Q s;rw[dt aG8];exact S1 A U f (m+1) Q (by lia) (L.more Y hb) λJ h1 h2 h3 h4=>M J (by lia) (by lia) h3 λz=>h4 (by lia)
def aBJ (O:KeyOrd) (key:Nat->O.α) (p:Array Nat) (m q:Nat):Prop:=∀ k,m - (q+1)<=k->k<m->KP O key p k=KP O key p (m - 1)
def uY {p:Array Nat} {i j:Nat} (z:j<=p.size) (h:∀ k,i<=k->k<j->KP O key p k=KP O key p (j - 1)) (k:Nat):KP O key (kas_rev p i j) k=KP O key p k:=by
 rw[S0 z]
 by_cases q:i<=k/\k<j
 .rw[eH q,h _ (by lia) (by lia),h k q.1 q.2]
 .rw[dt q]
def Dn.same {p q:Array Nat} {m:Nat} (h:Dn O key p m) (e:∀ k,KP O key q k=KP O key p k):Dn O key q m:=λi j h1 h2=>by rw[e,e];exact h i j h1 h2
def gB (p:Array Nat) (i j:Nat):(kas_rev p i j).Perm p:=mirror_perm _ _ _ _
def tS (A:Ans O key n ae s):∀ (f:Nat) (p:Array Nat) (m q:Nat) (Q:Array Nat×Nat×Nat->Shared->Prop),InR n p->m+f<=n->1<=m->q+1<=m->Dn O key p m->aBJ O key p m q ->
 (∀ L J M,L.Perm p->m<=J->J<=n->M+1<=J->Dn O key L J->aBJ O key L J M->Q (L,J,M) s)->(kas_desc f p m q).kasWp ae Q s
 | 0,p,m,q,Q,U,hf,hm,hq,hd,he,Y=>Y p m q (lu _) (ah _) (by lia) hq hd he
 | f+1,p,m,q,Q,U,hf,hm,hq,hd,he,Y=>by
  show ae _ _ _ s;refine A _ _ _ (U.at _) (U.at _) ?_;have one:∀ p:Array Nat,aBJ O key p (m+1) 0:=λp k h1 h2=>by rw[show k=m+1 - 1 by lia]
  cases hb:O.blt (key (p.getD m 0)) (key (p.getD (m - 1) 0))with
  | true =>
   show KasT.kasWp ae (if true=true then _ else _) Q s;rw[eH rfl];have hl:O.kle (KP O key p m) (KP O key p (m - 1)):=nk hb
   by_cases q0:q > 0
   .rw[eH q0];have sm:=uY (O:=O) (key:=key) (p:=p) (i:=m - (q+1)) (j:=m) (by rw[U.size];lia) he;refine tS A f _ (m+1) 0 Q (U.perm (gB ..)) (by lia) (by lia) (by lia) (Dn.same (hd.more hm hl) sm) (one _) λL J M e h1 h2 h3 h4 h5=>Y L J M (e.trans (gB ..)) (by lia) h2 h3 h4 h5
   .rw[dt q0];exact tS A f p (m+1) 0 Q U (by lia) (by lia) (by lia) (hd.more hm hl) (one _) λL J M e h1 h2 h3 h4 h5=>Y L J M e (by lia) h2 h3 h4 h5
  | false =>
   show KasT.kasWp ae (if false=true then _ else _) Q s;rw[dt aG8];show ae _ _ _ s;refine A _ _ _ (U.at _) (U.at _) ?_;cases hc:O.blt (key (p.getD (m - 1) 0)) (key (p.getD m 0))with
   | true =>
    show KasT.kasWp ae (if true=true then _ else _) Q s;rw[eH rfl];exact Y p m q (lu _) (ah _) (by lia) hq hd he
   | false =>
    show KasT.kasWp ae (if false=true then _ else _) Q s;rw[dt aG8];have eq:KP O key p m=KP O key p (m - 1):=O.total _ _ hb hc;refine tS A f p (m+1) (q+1) Q U (by lia) (by lia) (by lia) (hd.more hm hc) (λk h1 h2=>?_) λL J M e h1 h2 h3 h4 h5=>Y L J M e (by lia) h2 h3 h4 h5;show KP O key p k=KP O key p m
    by_cases z:k=m
    .rw[z]
    .rw[eq];exact he k (by lia) (by lia)
def a8 (A:Ans O key n ae s) {p:Array Nat} {m:Nat} {Q:Nat×Array Nat->Shared->Prop} (J:InR n p) (U:1<=m) (M:m<=n) (hd:Dn O key p m)
 (Y:∀ z L,L.Perm p->1<=z->z<=n->Up O key L z->Q (z,L) s):(kas_tail3 m n p).kasWp ae Q s:=by
 unfold kas_tail3;rw[nc];have up:Up O key (kas_rev p 0 m) m:=λi j h1 h2=>by
  rw[S0 (by rw[J.size];exact M),S0 (by rw[J.size];exact M),eH (by lia),eH (by lia)];exact hd _ _ (by lia) (by lia)
 exact S1 A (J.perm (gB ..)) _ _ _ U up λz h1 h2 h3 _=>Y z _ (gB ..) (by lia) (by lia) h3
def a9 (A:Ans O key n ae s) {p:Array Nat} {m:Nat} {Q:Nat×Array Nat->Shared->Prop} (M:InR n p) (hn:m+1<=n) (hd:Dn O key p (m+1))
 (hQ:∀ z J,J.Perm p->1<=z->z<=n->Up O key J z->Q (z,J) s):(kas_descPart m n p).kasWp ae Q s:=by
 unfold kas_descPart;rw[nc];refine tS A _ p (m+1) 0 _ M (by lia) (by lia) (by lia) hd (λk h1 h2=>by rw[show k=m+1 - 1 by lia]) λJ z U e h1 h2 h3 h4 h5=>?_;show KasT.kasWp ae (if U > 0 then _ else _) Q s
 by_cases q0:U > 0
 .rw[eH q0];have L:=M.perm e;have sm:=uY (O:=O) (key:=key) (p:=J) (i:=z - (U+1)) (j:=z) (by rw[L.size];exact h2) h5;exact a8 A (L.perm (gB ..)) (show 1<=z by lia) h2 (Dn.same h4 sm) λY p2 e2 a b c=>hQ Y p2 ((e2.trans (gB ..)).trans e) a b c
 .rw[dt q0];exact a8 A (M.perm e) (show 1<=z by lia) h2 h4 λY p2 e2 a b c=>hQ Y p2 (e2.trans e) a b c
def aBK (A:Ans O key n ae s) {p:Array Nat} {Q:Nat×Array Nat->Shared->Prop} (z:InR n p)
 (J:∀ L Y,Y.Perm p->1<=L->L<=n->Up O key Y L->Q (L,Y) s):(kas_count n p).kasWp ae Q s:=by
 have aw:=z.pos;unfold kas_count;rw[nc];refine S1 A z _ 1 _ (ah _) (λi j h1 h2=>by rw[show i=j by lia];exact kn _) λm h1 h2 M U=>?_;show KasT.kasWp ae (if (m == n)=true then _ else _) Q s
 by_cases e:m=n
 .rw[eH (by simpa using e)];exact J m p (lu _) h1 (by lia) M
 .rw[dt (by simpa using e)];have U:=U (by lia)
  by_cases g:m > 1
  .rw[eH g];show ae _ _ _ s;refine A _ _ _ (z.at _) (z.at _) ?_;cases hb:O.blt (key (p.getD 0 0)) (key (p.getD (m - 1) 0))with
   | true =>
    show KasT.kasWp ae (if true=true then _ else _) Q s;rw[eH rfl];exact J m p (lu _) h1 (by lia) M
   | false =>
    show KasT.kasWp ae (if false=true then _ else _) Q s;rw[dt aG8];have all:∀ k,0<=k->k<m->KP O key p k=KP O key p (m - 1):=λk _ hk =>
     KeyOrd.kle_antisymm (M k (m - 1) (by lia) (by lia)) (mj (show O.kle (KP O key p (m - 1)) (KP O key p 0) from hb) (M 0 k (by lia) hk))
    have sm:=uY (O:=O) (key:=key) (p:=p) (i:=0) (j:=m) (by rw[z.size];lia) all;refine a9 A (z.perm (gB ..)) (by lia) (Dn.same (Dn.more (λi j h1 h2=>?_) h1 (nk U)) sm) λm2 p2 e2 a b c=>J m2 p2 (e2.trans (gB ..)) a b c;rw[all i (by lia) (by lia),all j (by lia) h2];exact kn _
  .rw[dt g];refine a9 A z (by lia) (Dn.more (λi j h1 h2=>?_) h1 (nk U)) J;rw[show i=j by lia];exact kn _
def uZ (A:Ans O key n ae s) {p:Array Nat} (L:InR n p) {k:Nat}:∀ (f l r:Nat) (Q:Nat->Shared->Prop),Up O key p k->l<=r->r<=k->r - l<=f->(∀ i,i<l->O.kle (KP O key p i) (KP O key p k))->(∀ i,r<=i->i<k->O.kle (KP O key p k) (KP O key p i)) ->
 (∀ M,M<=k->(∀ i,i<M->O.kle (KP O key p i) (KP O key p k))->(∀ i,M<=i->i<k->O.kle (KP O key p k) (KP O key p i))->Q M s)->(kas_place p k f l r).kasWp ae Q s
 | 0,l,r,Q,z,h1,h2,h3,h4,h5,J=>J l (by lia) h4 λi a b=>h5 i (by lia) b
 | f+1,l,r,Q,z,h1,h2,h3,h4,h5,J=>by
  unfold kas_place
  by_cases e:l≥r
  .rw[eH e];exact J l (by lia) h4 λi a b=>h5 i (by lia) b
  .rw[dt e];show ae _ _ _ s;refine A _ _ _ (L.at _) (L.at _) ?_;have Y:l<=(l+r) / 2:=by lia
   have m2:(l+r) / 2<r:=by lia
   cases U:O.blt (key (p.getD k 0)) (key (p.getD ((l+r) / 2) 0))with
   | true =>
    show KasT.kasWp ae (if true=true then _ else _) Q s;rw[eH rfl];refine uZ A L f l ((l+r) / 2) Q z Y (by lia) (by lia) h4 (λi a b=>?_) J;exact mj (nk (show O.klt (KP O key p k) (KP O key p ((l+r) / 2)) from U)) (z _ i a b)
   | false =>
    show KasT.kasWp ae (if false=true then _ else _) Q s;rw[dt aG8];refine uZ A L f ((l+r) / 2+1) r Q z (by lia) h2 (by lia) (λi a=>?_) h5 J;exact mj (z i ((l+r) / 2) (by lia) (by lia)) (show O.kle (KP O key p ((l+r) / 2)) (KP O key p k) from U)
def aBL (A:Ans O key n ae s):∀ (f:Nat) (p:Array Nat) (k:Nat) (Q:Array Nat->Shared->Prop),InR n p->1<=k->k+f=n->Up O key p k->(∀ J,J.Perm p->Up O key J n->Q J s)->(kas_bin f p k).kasWp ae Q s
 | 0,p,k,Q,M,hk,hf,z,U=>U p (lu _) (by rw[<- hf];exact z)
 | f+1,p,k,Q,M,hk,hf,z,U=>by
  unfold kas_bin;rw[nc];refine uZ A M k 0 k _ z (gr _) (ah _) (by lia) (λi a=>absurd a (Nat.not_lt_zero _)) (λi a b=>by lia) λl hl h1 h2=>?_;have bp:(bubble p k (k - l)).Perm p:=bubble_perm _ _ _;refine aBL A f _ (k+1) Q (M.perm bp) (by lia) (by lia) (λi j Y hj=>?_) λJ e u=>U J (e.trans bp) u;have kb:=λx=>aEI (O:=O) (key:=key) (p:=p) (k:=k) (d:=k - l) (by rw[M.size];lia) (by lia) x;rw[kb i,kb j,show k - (k - l)=l by lia]
  by_cases i1:i=l
  .rw[eH i1]
   by_cases L:j=l
   .rw[eH L];exact kn _
   .rw[dt L,eH (by lia)];exact h2 (j - 1) (by lia) (by lia)
  .rw[dt i1]
   by_cases i2:l<i/\i<=k
   .rw[eH i2,dt (show ¬ j=l by lia),eH (by lia)];exact z (i - 1) (j - 1) (by lia) (by lia)
   .rw[dt i2]
    by_cases L:j=l
    .rw[eH L];exact h1 i (by lia)
    .rw[dt L]
     by_cases j2:l<j/\j<=k
     .rw[eH j2];exact z i (j - 1) (by lia) (by lia)
     .rw[dt j2];exact z i j Y (by lia)
def aCz (A:Ans O key n ae s) (M:0<n) {Q:Array Nat->Shared->Prop} (z:∀ p,p.Perm (List.range n).toArray->Up O key p n->Q p s):(kas_sort n).kasWp ae Q s:=by
 unfold kas_sort;rw[nc];have J:InR n (List.range n).toArray:=⟨M,by simp,λx U=>by simpa using U⟩;refine aBK A J λm p e h1 h2 L=>?_;show KasT.kasWp ae (if m<n then _ else _) Q s
 by_cases q:m<n
 .rw[eH q];have em:max m 1=m:=by lia
  show KasT.kasWp ae (kas_bin (n - max m 1) p (max m 1)) Q s;rw[em];exact aBL A _ p m Q (J.perm e) h1 (by lia) L λY e' u=>z Y (e'.trans e) u
 .rw[dt q];have:m=n:=by lia
  subst this;exact z p e L
end
end L2
namespace CW
def goM (c:Int):List Int->Nat->Int->List Int
 | [],h,n=>(List.range h).map (λ(k:Nat)=>n+(k:Int))
 | p :: r,h,n=>(List.range (min h (p - n).toNat)).map (λ(k:Nat)=>n+(k:Int)) ++
  (if ((h - min h (p - n).toNat:Nat):Int)<c then goM c r (h - min h (p - n).toNat+1) (p+1)else p :: goM c r (h - min h (p - n).toNat) (p+1))
def yR (row:List Int) (c:Int):List Int:=goM c row 0 0
def vA (k:Nat) (n:Int):(List.range (k+1)).map (λ(j:Nat)=>n+(j:Int))=n :: (List.range k).map (λ(j:Nat)=>(n+1)+(j:Int)):=by
 rw[List.range_succ_eq_map,aGk,aGp]
 congr 1
 .simp
 .apply ii
  intro j _;simp only[Function.comp]
  lia
def b0 {c:Int} {p:Int} {r:List Int} {h:Nat} {n:Int} (z:h=0\/p<=n):goM c (p :: r) h n=if (h:Int)<c then goM c r (h+1) (p+1)else p :: goM c r h (p+1):=by
 have e:min h (p - n).toNat=0:=by lia
 simp only[goM,e,List.range_zero,lr,kj,sh]
def aDA {c:Int} {p:Int} {r:List Int} {h:Nat} {n:Int} (J:n<p):goM c (p :: r) (h+1) n=n :: goM c (p :: r) h (n+1):=by
 have e:min (h+1) (p - n).toNat=min h (p - (n+1)).toNat+1:=by lia
 have z:h+1 - (min h (p - (n+1)).toNat+1)=h - min h (p - (n+1)).toNat:=by lia
 rw[goM,goM,e,z,vA];simp
end CW
namespace CW
open PySem L2
def vB {ns:List Int} {i:Int} (h0:0<=i) (h1:i<ns.length):∃ n,n∈ns/\ns[i.toNat]?=some n/\atI (ns.map V.int) i=some (.int n):=by
 have z:i.toNat<ns.length:=by lia
 refine⟨ns[i.toNat],List.getElem_mem z,by simp[z],?_⟩;have q:atI (ns.map V.int) ((i.toNat:Nat):Int)=some (.int ns[i.toNat]):=pC (by simp[z]);rw[Int.toNat_of_nonneg h0]at q;exact q
def bH {n:Nat} (h:n<=10000):n<sizeLine:=qb h (by decide)
def dE {n:Nat} (h:n<=10000):n<=sizeLine:=ji (bH h)
def aBM (ns:List Int):Prop:=∀ n∈ns,0<=n/\n<9967
def v8 (ns:List Int) (lo hi:Option Int):∃ z:List Int,jZ (ns.map V.int) lo hi=z.map V.int/\z.length<=ns.length/\∀ n∈z,n∈ns:=by
 refine⟨(ns.drop (HT.sIx ns.length 0 lo)).take (HT.sIx ns.length ns.length hi - HT.sIx ns.length 0 lo),?_,?_,?_⟩
 .unfold jZ;simp only[aGV,List.map_take,List.map_drop]
 .simp only[aGb,jy];lia
 .intro n J;exact List.mem_of_mem_drop (tw J)
def aEJ (ns:List Int) (k:Nat) (h:k<=ns.length):jZ (ns.map V.int) none (some (k:Int))=(ns.take k).map V.int:=by
 unfold jZ;rw[HT.sIx_none,HT.sIx_nat,aGV,nv,sh,sj h,List.map_take]
def sd1 (J z:Int):Int:=(J * 40014+z % 999983+29) % 2147483563
def sd2 (z:Int) (ys:List Int):Int:=(z * z+52774 * z+13 * ((List.map V.int ys).length:Int)+7) % 2147483629
def rs1 (z:Int):Int:=z - 10 ^ (18:Int).toNat
inductive qY (K:PySem.W.Frag) (vs:List V) (H:Hp) (Q:VK) (E_:XK):Prop
 | mk (a:Addr) (script:List Int) (m:Nat) (h0_:vs=[.ref a,.int m]) (h1_:SqL K H a (script.map V.int)) (h2_:script.length<=63) (h3_:m<=1000) (h4_:∀ (l:Addr) (ns:List Int) (H':Hp),ns.length=m->aBM ns->H l=none->Same H H'->H' l=some (.lst (ns.map V.int))->Q (.ref l) H'):qY K vs H Q E_
def Row (r:List Int):Prop:=r.Pairwise (·<·)
def Row.lt {r:List Int} (h:Row r) {i j:Nat} {x y:Int} (z:i<j) (J:r[i]?=some x) (L:r[j]?=some y):x<y:=by
 obtain⟨h1,rfl⟩:=aGw.mp J;obtain⟨h2,rfl⟩:=aGw.mp L;exact List.pairwise_iff_getElem.mp h i j h1 h2 z
def S2 (H:Hp) (Q:VK) (ns:List Int):Prop:=∀ (l:Addr) (H':Hp),H l=none->Same H H'->H' l=some (.lst (ns.map V.int))->Q (.ref l) H'
inductive zW (vs:List V) (H:Hp) (Q:VK) (E_:XK):Prop
 | mk (a:Addr) (row:List Int) (h0_:vs=[.ref a]) (h1_:H a=some (.lst (row.map V.int))) (h2_:Row row) (h3_:row.length<=60) (h4_:Q .non H):zW vs H Q E_
structure Cn (mg:Str->Option Value) (tC:Tok):Prop where
 MOST_STONES:mg "MOST_STONES"=some (.int 60 tC)
def zX {l:List Int} {i:Nat} {x:V} (h:(l.map V.int)[i]?=some x):∃ z,x=.int z/\l[i]?=some z:=by
 rw[aGj]at h;cases e:l[i]? with
 | none=>rw[e]at h;cases h
 | some z=>rw[e]at h;exact⟨z,(gu h).symm,rfl⟩
def aBN {z:Type} (l:List z) (i:Nat) (h:i<=60) (f:z->Int):((((l.take i).map f).map V.int)).length<sizeLine:=by
 simp only[aGV,aGb];exact bH (by lia)
inductive aBO (H:Hp) (v:V) (p:Int×Int):Prop
 | mk (t:_) (h0_:v=.ref t) (h1_:H t=some (.tup [.int p.1,.int p.2])):aBO H v p
abbrev Prs (H:Hp):List V->List (Int×Int)->Prop:=Paired (aBO H)
def TupS (H H':Hp):Prop:=∀ t xs,H t=some (.tup xs)->H' t=some (.tup xs)
def Prs.mono {H H':Hp} (h:TupS H H') {vs:List V} {ps:List (Int×Int)} (r:Prs H vs ps):Prs H' vs ps:=Paired.mapP r λ_ _ ⟨t,e,q⟩=>⟨t,e,h _ _ q⟩
def TupS.new {H:Hp} {a:Addr} {o:HO} (h:H a=none):TupS H (upd H a o):=λt xs e=>by rw[aF (aP e h)];exact e
def TupS.lst {H:Hp} {a:Addr} {xs ys:List V} (h:H a=some (.lst xs)):TupS H (upd H a (.lst ys)):=λt zs e=>by rw[aF (cI e h (by intro z;cases z))];exact e
def TupS.same {H H':Hp} (h:Same H H'):TupS H H':=λt xs e=>h _ _ e
def Paired.append' {L M:Type} {F:L->M->Prop}:∀ {l₁ z:List L} {l₂ J:List M},Paired F l₁ l₂->Paired F z J->Paired F (l₁++z) (l₂++J)
 | _,_,_,_,.nil,s=>s
 | _,_,_,_,.cons r t,s=>.cons r (Paired.append' t s)
def aFK (H:Hp) (Q:VK) (ps:List (Int×Int)):Prop:=∀ (l:Addr) (vs:List V) (H':Hp),H l=none->Same H H'->H' l=some (.lst vs)->Prs H' vs ps->Q (.ref l) H'
def aBP {r:List Int} {x:Int} (h:Row r) (z:∀ y∈r,y<x):Row (r++[x]):=by
 unfold Row;rw[List.pairwise_append];exact⟨h,ij _ _,λa J b L=>by rw[aGr.mp L];exact z a J⟩
mutual
def sml:PyData->Bool
 | .list xs=>decide (xs.length<=5000) && S3 xs
 | .tuple xs=>decide (xs.length<=5000) && S3 xs
 | .dict _=>false
 | .none=>true
 | .bool _=>true
 | .int _=>true
 | .str _=>true
def S3:List PyData->Bool
 | []=>true
 | x :: xs=>sml x && S3 xs
end
inductive fA (vs:List V) (H:Hp) (Q:VK) (E_:XK):Prop
 | mk (c:Int) (h0_:vs=[.int c]) (h1_:1<=c) (h2_:Q .non H):fA vs H Q E_
inductive vC (vs:List V) (H:Hp) (Q:VK) (E_:XK):Prop
 | mk (a:Addr) (row:List Int) (c:Int) (h0_:vs=[.ref a,.int c]) (h1_:H a=some (.lst (row.map V.int))) (h2_:Row row) (h3_:row.length<=60) (h4_:1<=c) (h5_:S2 H Q (yR row c)):vC vs H Q E_
end CW
namespace CW
end CW
namespace CW
open PySem L2
def vD {z J:Type} {F:z->J->Prop}:∀ {l₁:List z} {l₂:List J} {i:Nat} {x:z},Paired F l₁ l₂->l₁[i]?=some x->∃ y,l₂[i]?=some y/\F x y
 | _,_,_,_,.nil,e=>by simp at e
 | _,_,0,_,.cons r _,e=>by simp at e;subst e;exact⟨_,rfl,r⟩
 | _,_,i+1,x,.cons _ t,e=>by
  obtain⟨y,h1,h2⟩:=vD (i:=i) (x:=x) t (by simpa using e);exact⟨y,by simpa using h1,h2⟩
def vE (z:Int) (ns:List Int):inV (.int z) (ns.map V.int)=decide (z∈ns):=by
 unfold inV
 induction ns with
 | nil=>rfl
 | cons n r J =>
  rw[aGk,mz,J];have e:eqV (.int n) (.int z)=decide (n=z):=by
   show (n == z)=_;rw[iw];simp
  rw[e,iw];simp only[Bool.or_eq_true,nn,aGx]
  constructor
  .rintro (h | h)
   .exact .inl h.symm
   .exact .inr h
  .rintro (h | h)
   .exact .inl h.symm
   .exact .inr h
inductive LP (H:Hp) (a:Addr) (ps:List (Int×Int)):Prop
 | mk (us:_) (h0_:H a=some (.lst us)) (h1_:Prs H us ps):LP H a ps
def LP.mono {H H':Hp} (h:Same H H') {a:Addr} {ps:List (Int×Int)} (r:LP H a ps):LP H' a ps:=let ⟨us,e,p⟩:=r;⟨us,h _ _ e,p.mono (TupS.same h)⟩
def Prs.len {H:Hp} {us:List V} {ps:List (Int×Int)} (h:Prs H us ps):us.length=ps.length:=lw h
def szs (ps:List (Int×Int)):List Int:=ps.map (·.1)
structure Trn (ps:List (Int×Int)):Prop where
 pos:∀ p∈ps,1<=p.1
 few:(szs ps).sum<=60
def kC:∀ {ps:List (Int×Int)},(∀ p∈ps,1<=p.1)->(ps.length:Int)<=(szs ps).sum
 | [],_=>by simp[szs]
 | p :: r,h=>by
  have h1:=h p (aGX);have h2:=kC (ps:=r) λq z=>h q (aGY _ z);simp only[szs,aGk,aGn,aGo]at h2 ⊢
  lia
def Trn.len {ps:List (Int×Int)} (h:Trn ps):ps.length<=60:=by
 have h1:=kC h.pos;have:=h.few
 lia
inductive tT (vs:List V) (H:Hp) (Q:VK) (E_:XK):Prop
 | mk (a:Addr) (ps:List (Int×Int)) (h0_:vs=[.ref a]) (h1_:LP H a ps) (h2_:Trn ps) (h3_:∀ H',Same H H'->Q .non H'):tT vs H Q E_
def eF {H:Hp} {us:List V} {ps:List (Int×Int)} (h:Prs H us ps) {i:Nat} {x:V} (e:us[i]?=some x):∃ p t,ps[i]?=some p/\x=.ref t/\H t=some (.tup [.int p.1,.int p.2]):=by
 obtain⟨p,z,t,J,L⟩:=vD h e;exact⟨p,t,z,J,L⟩
def oH {ps:List (Int×Int)} {i:Nat} {p:Int×Int} (f:Int×Int->Int) (h:ps[i]?=some p):((ps.take i).map f).map V.int++[V.int (f p)]=((ps.take (i+1)).map f).map V.int:=by
 rw[aGq,h];simp
def v9 (us:List V) (k:Nat):jZ us (some (k:Int)) none=us.drop k:=by
 unfold jZ;rw[HT.sIx_none,HT.sIx_nat]
 by_cases h:k<=us.length
 .rw[sj h,jc (by simp)]
 .rw[Nat.min_eq_right (by lia),Nat.sub_self,List.take_zero,List.drop_eq_nil_of_le (by lia)]
def b7 (us:List V) (k:Nat):jZ us none (some (k:Int))=us.take k:=by
 unfold jZ;rw[HT.sIx_none,HT.sIx_nat,nv,sh]
 by_cases h:k<=us.length
 .rw[sj h]
 .rw[Nat.min_eq_right (by lia),jc (by lia),jc (by lia)]
end CW
namespace L2
open PySem PySem.W PySem.Spec PyProof.Rows
def plt (a b:Int×Int):Bool:=decide (a.1<b.1) || (decide (a.1=b.1) && decide (a.2<b.2))
def gM {a b:Int×Int}:plt a b=true↔a.1<b.1\/(a.1=b.1/\a.2<b.2):=by simp[plt]
def gN {a b:Int×Int}:plt a b=false↔¬ (a.1<b.1\/(a.1=b.1/\a.2<b.2)):=by rw[<- gM];simp
def lJ:KeyOrd where
 α:=Int×Int
 blt:=plt
 irrefl a:=by rw[gN];lia
 trans a b c h1 h2:=by rw[gM]at *;lia
 negTrans a b c h:=by rw[gM]at *;rw[gM];lia
 total a b h1 h2:=by
  rw[gN]at h1 h2;exact Prod.ext (by lia) (by lia)
inductive PairV (h:Heap) (v:Value) (p:Int×Int):Prop
 | mk (t:_) (o:_) (n:_) (k1:_) (k2:_) (h0_:v=.ref t) (h1_:h.get? t=some o) (h2_:o.cls=.type "tuple") (h3_:o.data=.seq #[.int p.1 k1,.int p.2 k2] n):PairV h v p
def eE {z J:Type} {F:z->J->Prop} {x:z} {y:J}:∀ {l:List z} {m:List J} {i:Nat},Paired F l m->i<l.length->F (l.getD i x) (m.getD i y)
 | _,_,0,.cons r _,_=>r
 | _,_,i+1,.cons _ t,h=>by
  simp only[List.getD_cons_succ];exact eE t (by simpa using h)
 | _,_,_,.nil,h=>absurd h (Nat.not_lt_zero _)
section
variable {prog:Program} {w:World} {A:Around} {E:Value->Shared->Prop} {s:Shared}
def aBQ {x y:Value} {p q:Int×Int} {Q:Bool->Shared->Prop} (J:PairV s.heap x p) (L:PairV s.heap y q) (h:Q (plt p q) s):wpAny (model prog w) A (keyLt' (tuples' true) x y) Q E s:=by
 obtain⟨t,o,n,k1,k2,rfl,M,c1,U⟩:=J;obtain⟨t',o',n',Y,aw,rfl,e2,c2,d2⟩:=L;refine kat_lt M U e2 d2 ?_;refine kat_cons (rc ?_)
 by_cases z:p.1=q.1
 .rw[show (p.1 == q.1)=true by simpa using z];refine kat_yes (kat_cons (rc ?_))
  by_cases g2:p.2=q.2
  .rw[show (p.2 == q.2)=true by simpa using g2];refine kat_yes (kat_nil ?_);have e:plt p q=false:=by rw[gN];lia
   rw[e]at h;exact h
  .rw[show (p.2 == q.2)=false by simpa using g2];refine kat_no (kat_one _ _ (lt_int ?_));have e:plt p q=decide (p.2<q.2):=by
    rw[iw,gM];simp;lia
   rw[e]at h;exact h
 .rw[show (p.1 == q.1)=false by simpa using z];refine kat_no (oneLt_int ?_);have e:plt p q=decide (p.1<q.1):=by
   rw[iw,gM];simp;lia
  rw[e]at h;exact h
def yS {h:Heap}:∀ {vs:List Value} {ps:List (Int×Int)},Paired (PairV h) vs ps->∃ fs:List Value,KatTups h vs fs/\fs.length=vs.length/\∀ v∈fs,∃ i t,v=Value.int i t
 | _,_,.nil=>⟨[],.nil,rfl,λv J=>(by cases J)⟩
 | _,_,.cons ⟨t,o,n,k1,k2,e,L,M,hd⟩ r=>by
  subst e;obtain⟨fs,a,b,c⟩:=yS r;refine⟨.int _ k1 :: fs,.cons L M hd rfl a,by simp[b],λv J=>?_⟩;rcases aGx.mp J with z | z
  .exact⟨_,_,z⟩
  .exact c v z
abbrev zY (vs:List Value) (p:Array Nat):List Value:=p.toList.map λi=>vs.getD i Value.none
def w6 {vs:List Value} (z:vs.length<2):zY vs (List.range vs.length).toArray=vs:=by
 cases vs with
 | nil=>rfl
 | cons v t =>
  cases t with
  | nil=>rfl
  | cons w r=>exact absurd z (by show ¬ r.length+1+1<2;lia)
def S4 {a:Addr} {vs:List Value} {ps:List (Int×Int)} {n:Nat} {P:Fin->Shared->Prop} (ho:s.heap.get? a=some (seqObj "list" vs.toArray n)) (hv:Paired (PairV s.heap) vs ps) (aw:vs.length<64)
 (h:∀ p:Array Nat,p.Perm (List.range vs.length).toArray->Up lJ (λi=>ps.getD i (0,0)) p vs.length->P (.done (.ret .none)) { s with heap:=sortedHeap s.heap a vs (zY vs p).toArray }) :
 wpAny (model prog w) A (Builtin.«list.sort» ⟨[.ref a],[]⟩) P E s:=by
 have ha:a<s.heap.objs.size:=aG1 ho;have U:vs.length<=sizeLine:=g0 (ji aw) (by decide);rw[list_sort_plain];refine aGT (listItems_at ho rfl (aGT (listUpdate_at ho rfl ?_ (by rw[aG3];lia) (gr _))));obtain⟨e1,ax⟩:∃ e1,(s.heap.update a (Obj.mapSeq λ_=>(#[]:Array Value))).get? a=some (seqObj "list" #[] e1):=⟨_,get?_update_seq ho _⟩;refine aGT (seqEpoch_at ax rfl (aGT (wpAny_newTuple (aGT (oy (fy ?_) (gr _))) (by show vs.length<=_;exact U))));have k6:∀ b o,b≠a->s.heap.get? b=some o->(((s.heap.update a (Obj.mapSeq λ_=>(#[]:Array Value))).push (seqObj "tuple" vs.toArray 0)).push (seqObj "list" #[] 0)).get? b=some o:=λb o hb q =>
  aGW _ (aGW _ ((kx _ _ _ _ hb).trans q))
 have J:(((s.heap.update a (Obj.mapSeq λ_=>(#[]:Array Value))).push (seqObj "tuple" vs.toArray 0)).push (seqObj "list" #[] 0)).get? a=some (seqObj "list" #[] e1):=aGW _ (aGW _ ax);have L:Paired (PairV (((s.heap.update a (Obj.mapSeq λ_=>(#[]:Array Value))).push (seqObj "tuple" vs.toArray 0)).push (seqObj "list" #[] 0))) vs ps:=Paired.mapP hv λv p ⟨t,o,n,k1,k2,e,q,c,d⟩ =>
  ⟨t,o,n,k1,k2,e,k6 t o (λz=>by subst z;rw[ho]at q;cases q;exact absurd c (by simp[seqObj])) q,c,d⟩
 show wpAny (model prog w) A _ P E { s with heap:=((s.heap.update a (Obj.mapSeq λ_=>(#[]:Array Value))).push (seqObj "tuple" vs.toArray 0)).push (seqObj "list" #[] 0) };have fin:∀ p:Array Nat,p.Perm (List.range vs.length).toArray->Up lJ (λi=>ps.getD i (0,0)) p vs.length->P (.done (.ret .none)) { s with heap:=sortedHeap s.heap a vs (zY vs p).toArray }:=h;clear h;unfold sortedHeap at fin;generalize ((s.heap.update a (Obj.mapSeq λ_=>(#[]:Array Value))).push (seqObj "tuple" vs.toArray 0)).push (seqObj "list" #[] 0)=Y at J L fin;dsimp only
 by_cases h2:vs.toArray.size<2
 .rw[eH h2,eH h2];refine aGT (aGU ?_);rw[StateT.run_pure];refine aGT (aGU ?_);dsimp only;have eo:zY vs (List.range vs.length).toArray=vs:=w6 (by simpa using h2);have ea:(arrOf (SortSt.mk' general' (vs.toArray.zip vs.toArray) #[] 7 none)).map (·.2)=vs.toArray:=by
   show (vs.toArray.zip vs.toArray).map (·.2)=vs.toArray;apply Array.toList_inj.mp
   simp;exact List.map_snd_zip (ah _)
  rw[ea];refine aGT (seqEpoch_at J rfl (aGT (listUpdate_at J rfl ?_ (gr _) (by rw[aG3];lia))));simp only[qq,ir,mi];have f:=fin (List.range vs.length).toArray (lu _) λi j a_ hj=>by
   have:i=j:=by simp at h2;lia
   subst this;exact kn _
  rw[eo]at f;exact aGU f
 .rw[dt h2,dt h2];have ay:2<=vs.length:=by simp at h2;lia
  obtain⟨fs,t6,lf,hf⟩:=yS L;refine aGT (kat_kind (s:={ s with heap:=Y }) (T:=.type "int") t6 (by lia) (λv hv=>?_) rfl ?_)
  .obtain⟨i,t,rfl⟩:=hf v hv;exact Looks.now
  have A2:Ans lJ (λi=>ps.getD i (0,0)) vs.length (kas_ask prog w A (tuples' true) vs) { s with heap:=Y }:=λi j C hi hj hC=>by
   unfold kas_ask;exact aBQ (s:={ s with heap:=Y }) (eE L hi) (eE L hj) hC
  refine aGT (ew (kat_run (s:={ s with heap:=Y }) (κ:=tuples' true) (ks:=vs) (vs:=vs) (Q:=λM s'=>s'={ s with heap:=Y }/\failedOf M=none/\∃ p:Array Nat,p.Perm (List.range vs.length).toArray/\Up lJ (λi=>ps.getD i (0,0)) p vs.length/\(arrOf M).map (·.2)=(zY vs p).toArray)
   (G:=λp s'=>s'={ s with heap:=Y }/\p.Perm (List.range vs.length).toArray/\Up lJ (λi=>ps.getD i (0,0)) p vs.length) rfl ay aw (λp M s' g1 g2 g3 ⟨g4,g5,g6⟩=>⟨g4,g3,p,g5,g6,kat_snds rfl g2⟩) (aCz A2 (by lia) λp e u=>⟨rfl,e,u⟩)) ?_ λ_ _ e=>e)
  rintro ⟨⟨⟩,M⟩ s' ⟨rfl,az,p,e,u,ea⟩;dsimp only;rw[ea,az];have hsz:(zY vs p).toArray.size<=sizeLine:=by
   have:=e.size_eq;simp only[aG3,ko]at this;rw[aG3,aGV,ig,this];exact U
  refine aGT (seqEpoch_at J rfl (aGT (listUpdate_at J rfl ?_ (gr _) (by lia))));simp only[qq,ir,mi];exact aGU (fin p e u)
def aDB {l:Addr} {vs:List Value} {ps:List (Int×Int)} {Q:Value->Shared->Prop} (Y:s.heap.IsList l vs.toArray) (hv:Paired (PairV s.heap) vs ps) (J:vs.length<64)
 (h:∀ p:Array Nat,p.Perm (List.range vs.length).toArray->Up lJ (λi=>ps.getD i (0,0)) p vs.length->Q (.ref (s.heap.objs.size+1)) { s with heap:=sortedAll s.heap vs (zY vs p).toArray }) :
 wpAny (model prog w) A (call (.builtin "sorted") [.ref l]) Q E s:=by
 have z:vs.length<=sizeLine:=g0 (ji J) (by decide);refine qi kind_sorted plain_sorted entry_sorted (args_sorted1 _) ?_;unfold Builtin.«sorted»;refine aGT (m:=checkCount "sorted" 1 1 _) (aGU (aGT (collect_list Y (aGT (oy ?_ z)) z)));unfold sortedAll at h;have U:((s.heap.push (seqObj "list" #[] 0)).update s.heap.objs.size (Obj.mapSeq (·++vs.toArray))).objs.size=s.heap.objs.size+1:=by rw[Heap.size_update,size_push']
 have L:(((s.heap.push (seqObj "list" #[] 0)).update s.heap.objs.size (Obj.mapSeq (·++vs.toArray))).push (seqObj "list" vs.toArray 0)).get? (s.heap.objs.size+1)=some (seqObj "list" vs.toArray 0):=U ▸ aG2 _ rfl;have kp:∀ b o,s.heap.get? b=some o->(((s.heap.push (seqObj "list" #[] 0)).update s.heap.objs.size (Obj.mapSeq (·++vs.toArray))).push (seqObj "list" vs.toArray 0)).get? b=some o:=λb o q =>
  aGW _ ((kx _ _ _ _ (aGi (aG1 q))).trans (aGW _ q))
 show wpAny _ _ _ _ _ { s with heap:=((s.heap.push (seqObj "list" #[] 0)).update s.heap.objs.size (Obj.mapSeq (·++vs.toArray))).push (seqObj "list" vs.toArray 0) };rw[U];generalize ((s.heap.push (seqObj "list" #[] 0)).update s.heap.objs.size (Obj.mapSeq (·++vs.toArray))).push (seqObj "list" vs.toArray 0)=h2 at L kp h;have M:Paired (PairV h2) vs ps:=Paired.mapP hv λv p ⟨t,o,n,k1,k2,e,q,c,d⟩=>⟨t,o,n,k1,k2,e,kp t o q,c,d⟩;refine aGT (fy (oj slot_list_sort ⟨_,L,rfl⟩ entry_list_sort (S4 (s:={ s with heap:=h2 }) L M J λp e u=>⟨_,rfl,?_⟩) (args_list_sort _)));exact aGU ⟨_,rfl,h p e u⟩
end
def ple (a b:Int×Int):Prop:=a.1<b.1\/(a.1=b.1/\a.2<=b.2)
def xN {z:Type} (d:z) (l:List z) {p:List Nat} (h:p.Perm (List.range l.length)):(p.map λi=>l.getD i d).Perm l:=by
 have e:(List.range l.length).map (λi=>l.getD i d)=l:=by
  apply List.ext_getElem
  .simp
  .intro i h1 h2;simp[h2]
 have:=h.map λi=>l.getD i d
 rwa [e]at this
section
variable {X:Cx}
inductive vF (xs:List V) (H:Hp) (Q:VK):Prop
 | mk (a:Addr) (us:List V) (ps:List (Int×Int)) (h0_:xs=[.ref a]) (h1_:H a=some (.lst us)) (h2_:CW.Prs H us ps) (h3_:ps.length<64) (h4_:∀ (l:Addr) (us':List V) (qs:List (Int×Int)),H l=none->CW.Prs H us' qs->qs.Perm ps->qs.Pairwise ple->Q (.ref l) (upd H l (.lst us'))):vF xs H Q
def pK:eK X (.builtin "sorted") vF:=by
 intro pins s σ H xs us Q I r h;obtain⟨a,J,ps,rfl,ha,Y,az,q⟩:=h;obtain⟨u,rfl,rx⟩:=hJ r;cases rx;obtain⟨its,rv,pl,hz⟩:=I.list (SqL.of ha);have l1:J.length=ps.length:=lw Y;have l2:J.length=its.length:=rv.length;have hv:Paired (PairV s.heap) its ps:=by
  have go:∀ (J:List V) (its:List Value) (ps:List (Int×Int)),Vals J its->CW.Prs H J ps->Paired (PairV s.heap) its ps:=by
   intro J
   induction J with
   | nil=>intro its ps r p;cases r;cases p;exact .nil
   | cons x xs ih =>
    intro its ps r p;cases r with
    | cons r1 r2 =>
     cases p with
     | cons p1 p2 =>
      refine .cons ?_ (ih _ _ r2 p2);obtain⟨t,e,et⟩:=p1;subst e;cases r1;obtain⟨_,its',aw,o,ho,hc,n,hd⟩:=(show ObjOk X.prog X.w H s.heap t (.tup [.int _,.int _]) from I.hok t _ et);obtain⟨u1,u2,rfl,⟨k1,rfl⟩,⟨k2,rfl⟩⟩:=aw.two;exact⟨t,o,n,k1,k2,rfl,ho,hc,hd⟩
  exact go J its ps rv Y
 refine aDB pl.isList hv (by lia) λp e u=>?_;have L:p.toList.Perm (List.range its.length):=by
  have:=e.toList;simpa using this
 have M:∀ i∈p.toList,i<its.length:=λi hi=>by
  have:=L.mem_iff.mp hi;simpa using this
 have ax:p.toList.length=its.length:=by rw[L.length_eq,ko]
 have key:∀ (q:List Nat),(∀ i∈q,i<its.length)->Vals (q.map λi=>J.getD i V.non) (q.map λi=>its.getD i Value.none)/\CW.Prs H (q.map λi=>J.getD i V.non) (q.map λi=>ps.getD i (0,0)):=by
  intro q
  induction q with
  | nil=>intro _;exact⟨.nil,.nil⟩
  | cons i q ih =>
   intro hq;have hi:=hq i aGX;obtain⟨a1,a2⟩:=ih λj U=>hq j (aGY _ U);exact⟨.cons (eE rv (by lia)) a1,.cons (eE Y (by lia)) a2⟩
 obtain⟨k1,k2⟩:=key p.toList M;obtain⟨e0,at0⟩:=sortedAll_at s.heap its (zY its p).toArray;have hn:H (s.heap.objs.size+1)=none:=I.hok.fresh (lq _);refine⟨.ref (s.heap.objs.size+1),_,I.laid (t':=s.toks) (o:=.lst (p.toList.map λi=>J.getD i V.non)) (λb o e=>sortedAll_old e) (lq _) ⟨?_,zY its p,e0,k1,at0⟩,rfl,q _ _ (p.toList.map λi=>ps.getD i (0,0)) hn k2 ?_ ?_⟩
 .rw[aGV,ax];exact g0 (show its.length<=64 by lia) (by decide)
 .exact xN (0,0) ps (by rw[<- l1,l2];exact L)
 .rw[List.pairwise_iff_getElem];intro i j hi U ay;simp only[aGV]at hi U;have z:=u i j (ji ay) (by lia);have gd:∀ (k:Nat) (hk:k<p.toList.length),(p.toList.map λi=>ps.getD i (0,0))[k]'(by simpa using hk)=KP lJ (λi=>ps.getD i (0,0)) p k:=λk hk=>by
   unfold KP;rw[List.getElem_map]
   congr 1
   rw[Array.getElem_toList,Array.getD,dif_pos (by simpa using hk)];rfl
  rw[gd i hi,gd j U];have z':plt (KP lJ (λi=>ps.getD i (0,0)) p j) (KP lJ (λi=>ps.getD i (0,0)) p i)=false:=z;generalize KP lJ (λi=>ps.getD i (0,0)) p j=x at z';generalize KP lJ (λi=>ps.getD i (0,0)) p i=y at z';have z2:=gN.mp z';show (y:Int×Int).1<(x:Int×Int).1\/((y:Int×Int).1=(x:Int×Int).1/\(y:Int×Int).2<=(x:Int×Int).2);have z3:¬ ((x:Int×Int).1<(y:Int×Int).1\/((x:Int×Int).1=(y:Int×Int).1/\(x:Int×Int).2<(y:Int×Int).2)):=z2
  lia
inductive vG (xs:List V) (H:Hp) (Q:VK):Prop
 | mk (a:Addr) (ns:List Int) (h0_:xs=[.ref a]) (h1_:H a=some (.lst (ns.map V.int))) (h2_:ns.length<64) (h3_:∀ (l:Addr) (ms:List Int),H l=none->ms.Perm ns->ms.Pairwise (·<=·)->Q (.ref l) (upd H l (.lst (ms.map V.int)))):vG xs H Q
def pL:eK X (.builtin "sorted") vG:=by
 intro pins s σ H xs us Q I r h;obtain⟨a,ns,rfl,M,U,q⟩:=h;obtain⟨u,rfl,Y⟩:=hJ r;cases Y;obtain⟨its,J,pl,hz⟩:=I.list (SqL.of M);have hl:=J.length;rw[aGV]at hl;refine sorted_ints pl.isList (uX J) (by lia) λout z hI L hs=>?_;obtain⟨e0,at0⟩:=sortedAll_at s.heap its out;have hn:H (s.heap.objs.size+1)=none:=I.hok.fresh (lq _);refine⟨.ref (s.heap.objs.size+1),_,I.laid (t':=s.toks) (o:=.lst (z.map V.int)) (λb o e=>sortedAll_old e) (lq _) ⟨?_,out.toList,e0,mW hI,at0⟩,rfl,q _ z hn L hs⟩;rw[aGV,L.length_eq];exact g0 (show ns.length<=64 by lia) (by decide)
end
end L2
namespace L2
open PySem PySem.Spec PyProof.Rows
section
variable {K:PySem.W.Frag} {x qual:Str} {st:Stmt} {f:Addr} {fd:FuncData} {p1 p2 p3 p4:Str}
def Fun.binds1 (F:Fun K x qual st f fd) (h:∀ (kV z pm:Value) (L:Option Addr) (J ct u:Value),bindArgs (PySem.W.fnOf x qual (bM st) (aZ st) (aG st) .none kV z pm L J ct) ⟨[u],[]⟩=pure [(p1,u)]):Binds K fd [p1] [] :=
 F.binds λa b c d e g us M=>match us,M with | [u],_=>h a b c d e g u
def Fun.binds2 (F:Fun K x qual st f fd) (h:∀ (kV z pm:Value) (L:Option Addr) (J ct u v:Value),bindArgs (PySem.W.fnOf x qual (bM st) (aZ st) (aG st) .none kV z pm L J ct) ⟨[u,v],[]⟩=pure [(p1,u),(p2,v)]):Binds K fd [p1,p2] [] :=
 F.binds λa b c d e g us M=>match us,M with | [u,v],_=>h a b c d e g u v
def Fun.binds3 (F:Fun K x qual st f fd) (h:∀ (kV z pm:Value) (L:Option Addr) (J ct u v w:Value),bindArgs (PySem.W.fnOf x qual (bM st) (aZ st) (aG st) .none kV z pm L J ct) ⟨[u,v,w],[]⟩=pure [(p1,u),(p2,v),(p3,w)]):Binds K fd [p1,p2,p3] [] :=
 F.binds λa b c d e g us M=>match us,M with | [u,v,w],_=>h a b c d e g u v w
def Fun.binds4 (F:Fun K x qual st f fd) (h:∀ (kV J pm:Value) (M:Option Addr) (L ct u v w z:Value),bindArgs (PySem.W.fnOf x qual (bM st) (aZ st) (aG st) .none kV J pm M L ct) ⟨[u,v,w,z],[]⟩=pure [(p1,u),(p2,v),(p3,w),(p4,z)]):Binds K fd [p1,p2,p3,p4] [] :=
 F.binds λa b c d e g us U=>match us,U with | [u,v,w,z],_=>h a b c d e g u v w z
end
section
variable {κ:Type} [DecidableEq κ]
def dM (kvs:List (κ×V)) (k:κ):Option V:=(kvs.find? λkv=>decide (kv.1=k)).map (·.2)
def iJ (kvs:List (κ×V)) (k:κ) (v:V):List (κ×V) :=
 if (kvs.any λkv=>decide (kv.1=k))=true then kvs.map (λkv=>if kv.1=k then (kv.1,v)else kv)else kvs++[(k,v)]
def sF (kvs:List (κ×V)) (k:κ):List (κ×V):=kvs.filter λkv=>decide (kv.1≠k)
def bS {p:κ×V} {r:List (κ×V)} {k:κ} (e:p.1=k):dM (p :: r) k=some p.2:=by simp[dM,jj,e]
def dA {p:κ×V} {r:List (κ×V)} {k:κ} (e:¬ p.1=k):dM (p :: r) k=dM r k:=by simp[dM,jj,e]
def lK (k:κ):∀ kvs:List (κ×V),(kvs.any λkv=>decide (kv.1=k))=(dM kvs k).isSome
 | []=>rfl
 | p :: r=>by
  rw[mz]
  by_cases e:p.1=k
  .simp only[bS e,aGh e,Bool.true_or,Option.isSome_some]
  .rw[dA e,aGg e,Bool.false_or];exact lK k r
def J8 (k j:κ) (y:V):∀ kvs:List (κ×V),dM (kvs.map λkv=>if kv.1=k then (kv.1,y)else kv) j=(dM kvs j).map λx=>if j=k then y else x
 | []=>rfl
 | p :: r=>by
  have J:=J8 k j y r;rw[aGk]
  by_cases h:p.1=k
  .rw[eH h]
   by_cases e:p.1=j
   .rw[bS (p:=(p.1,y)) e,bS e,pw,eH (e.symm.trans h)]
   .rw[dA (p:=(p.1,y)) e,dA e,J]
  .rw[dt h]
   by_cases e:p.1=j
   .rw[bS (p:=p) e,bS e,pw,dt (λz=>h (e.trans z))]
   .rw[dA (p:=p) e,dA e,J]
def yT (k j:κ) (y:V):∀ kvs:List (κ×V),dM kvs k=none->dM (kvs++[(k,y)]) j=if j=k then some y else dM kvs j
 | [],_=>by
  by_cases e:k=j
  .rw[eH e.symm];exact bS (p:=(k,y)) e
  .rw[dt (λz=>e z.symm)];exact dA (p:=(k,y)) e
 | p :: r,J=>by
  rw[List.cons_append];have L:¬ p.1=k:=λz=>by rw[bS z]at J;cases J
  rw[dA L]at J;have M:=yT k j y r J
  by_cases e:p.1=j
  .rw[bS e,bS e,dt (λz=>L (e.trans z))]
  .rw[dA e,dA e,M]
def aBR (kvs:List (κ×V)) (k j:κ) (y:V):dM (iJ kvs k y) j=if j=k then some y else dM kvs j:=by
 unfold iJ
 by_cases a:(kvs.any λkv=>decide (kv.1=k))=true
 .rw[eH a,J8];rw[lK]at a
  by_cases e:j=k
  .obtain⟨x,z⟩:=Option.isSome_iff_exists.mp a;rw[eH e,e,z,pw,eH rfl]
  .rw[dt e];cases dM kvs j with
   | none=>rfl
   | some x=>rw[pw,dt e]
 .rw[dt a];refine yT k j y kvs ?_;rw[lK]at a;cases q:dM kvs k with
  | none=>rfl
  | some x=>rw[q]at a;exact(a rfl).elim
def iQ (kvs:List (κ×V)) (k:κ) (v:V):(iJ kvs k v).length<=kvs.length+1:=by
 unfold iJ;split
 .rw[aGV];lia
 .rw[aG4,aGo,sk];lia
def vH {kvs:List (κ×V)} {k:κ} (v:V) (h:dM kvs k=none):iJ kvs k v=kvs++[(k,v)]:=by
 unfold iJ;rw[lK,h];exact dt (by decide)
def RelO.isSome_eq {o:Option V} {u:Option Value} (r:RelO o u):o.isSome=u.isSome:=by
 cases o with
 | none=>cases u with
  | none=>rfl
  | some _=>exact(show False from r).elim
 | some _=>cases u with
  | none=>exact(show False from r).elim
  | some _=>rfl
def RelO.getD {o:Option V} {u:Option Value} {d:V} {d':Value} (r:RelO o u) (rd:RelV d d'):RelV (o.getD d) (u.getD d'):=by
 cases o with
 | none=>cases u with
  | none=>exact rd
  | some _=>exact(show False from r).elim
 | some _=>cases u with
  | none=>exact(show False from r).elim
  | some _=>exact r
def KV.val {kvs:List (κ×V)} {vs:List (κ×Value)} (r:KV kvs vs) (k:κ):RelO (dM kvs k) (valueAt vs k):=by
 unfold KV at r
 induction r with
 | nil=>exact True.intro
 | @cons p q ps J h t M =>
  obtain⟨h1,h2⟩:=h
  by_cases e:p.1=k
  .have L:q.1=k:=h1.symm.trans e;have b:valueAt (q :: J) k=some q.2:=by simp[valueAt,jj,L]
   rw[bS e,b];exact h2
  .have L:¬ q.1=k:=λz=>e (h1.trans z);have b:valueAt (q :: J) k=valueAt J k:=by simp[valueAt,jj,L]
   rw[dA e,b];exact M
def KV.any {kvs:List (κ×V)} {vs:List (κ×Value)} (r:KV kvs vs) (k:κ):(kvs.any λkv=>decide (kv.1=k))=vs.any λkv=>decide (kv.1=k):=by
 unfold KV at r
 induction r with
 | nil=>rfl
 | cons h t z=>rw[mz,mz,z,h.1]
def KV.repl {kvs:List (κ×V)} {vs:List (κ×Value)} (r:KV kvs vs) (k:κ) {y:V} {u:Value} (J:RelV y u) :
 KV (kvs.map λkv=>if kv.1=k then (kv.1,y)else kv) (vs.map λkv=>if kv.1=k then (kv.1,u)else kv):=by
 unfold KV at r ⊢
 induction r with
 | nil=>exact .nil
 | @cons p q ps M h t L =>
  rw[aGk,aGk];refine .cons ?_ L;obtain⟨h1,h2⟩:=h
  by_cases e:p.1=k
  .rw[eH e,eH (h1.symm.trans e)];exact⟨h1,J⟩
  .rw[dt e,dt (λz=>e (h1.trans z))];exact⟨h1,h2⟩
def KV.put {kvs:List (κ×V)} {vs:List (κ×Value)} (r:KV kvs vs) (k:κ) {y:V} {u:Value} (z:RelV y u):KV (iJ kvs k y) (stored vs k u):=by
 unfold iJ stored;rw[r.any k]
 by_cases e:(vs.any λkv=>decide (kv.1=k))=true
 .rw[eH e,eH e];exact r.repl k z
 .rw[dt e,dt e];exact Paired.snoc r ⟨rfl,z⟩
def KV.drop {kvs:List (κ×V)} {vs:List (κ×Value)} (r:KV kvs vs) (k:κ):KV (sF kvs k) (without vs k):=by
 unfold KV at r ⊢;unfold sF without
 induction r with
 | nil=>exact .nil
 | @cons p q ps M h t J =>
  obtain⟨h1,h2⟩:=h;rw[oo,oo]
  by_cases e:p.1=k
  .have a:¬ decide (p.1≠k)=true:=by simp[e]
   have b:¬ decide (q.1≠k)=true:=by simp[h1.symm.trans e]
   rw[dt a,dt b];exact J
  .have L:¬ q.1=k:=λz=>e (h1.trans z);have a:decide (p.1≠k)=true:=by simp[e]
   have b:decide (q.1≠k)=true:=by simp[L]
   rw[eH a,eH b];exact .cons ⟨h1,h2⟩ J
def KV.length {kvs:List (κ×V)} {vs:List (κ×Value)} (r:KV kvs vs):kvs.length=vs.length:=lw r
def aBS (kvs:List (κ×V)) (k:κ):(sF kvs k).length<=kvs.length:=List.length_filter_le _ _
end
def pM {P:Program} {w:World} {k:Key} {u:Value} (r:RelV (kV k) u):(bF P w).is k u=true:=by
 cases k with
 | inl i=>obtain⟨t,e⟩:=(show ∃ t,u=Value.int i t from r);subst e;exact G2 P w i t
 | inr x=>obtain⟨t,e⟩:=(show ∃ t,u=Value.str x t from r);subst e;exact G3 P w x t
def yU {P:Program} {w:World}:∀ {ks:List Key} {us:List Value},Vals (ks.map kV) us->ItemsAre (bF P w) ks us
 | [],_,r=>by rw[lr]at r;cases r;exact .nil
 | k :: ks,_,r=>by
  rw[aGk]at r;cases r with
  | cons h t=>exact .cons (pM h) (yU t)
abbrev KT (H:Hp):List (List Key×V)->List (List Key×Addr×Value)->Prop:=Paired λp q=>p.1=q.1/\H q.2.1=some (.tup (p.1.map kV))/\RelV p.2 q.2.2
def KT.val {H:Hp} {kvs:List (List Key×V)} {xs:List (List Key×Addr×Value)} (r:KT H kvs xs) (k:List Key):RelO (dM kvs k) ((atKey xs k).map (·.2)):=by
 induction r with
 | nil=>exact True.intro
 | @cons p q ps J h t M =>
  obtain⟨h1,_,h2⟩:=h
  by_cases e:p.1=k
  .have L:q.1=k:=h1.symm.trans e;have b:atKey (q :: J) k=some q.2:=by simp[atKey,jj,L]
   rw[bS e,b];exact h2
  .have L:¬ q.1=k:=λz=>e (h1.trans z);have b:atKey (q :: J) k=atKey J k:=by simp[atKey,jj,L]
   rw[dA e,b];exact M
def KT.repl {H:Hp} {kvs:List (List Key×V)} {xs:List (List Key×Addr×Value)} (r:KT H kvs xs) (k:List Key) {y:V} {u:Value} (J:RelV y u) :
 KT H (kvs.map λkv=>if kv.1=k then (kv.1,y)else kv) (xs.map (putAt k u)):=by
 induction r with
 | nil=>exact .nil
 | @cons p q ps M h t L =>
  rw[aGk,aGk];refine .cons ?_ L;obtain⟨h1,h2,h3⟩:=h;unfold putAt
  by_cases e:p.1=k
  .rw[eH e,eH (h1.symm.trans e)];exact⟨h1,h2,J⟩
  .rw[dt e,dt (λz=>e (h1.trans z))];exact⟨h1,h2,h3⟩
def KT.put {H:Hp} {kvs:List (List Key×V)} {xs:List (List Key×Addr×Value)} (r:KT H kvs xs) (k:List Key) {b:Addr} {y:V} {u:Value} (J:H b=some (.tup (k.map kV))) (z:RelV y u) :
 KT H (iJ kvs k y) (storedH xs k b u):=by
 have e:(kvs.any λkv=>decide (kv.1=k))=(atKey xs k).isSome:=by
  rw[lK,(r.val k).isSome_eq,qr]
 unfold iJ storedH;rw[e]
 by_cases q:(atKey xs k).isSome=true
 .rw[eH q,eH q];exact r.repl k z
 .rw[dt q,dt q];exact Paired.snoc r ⟨rfl,J,z⟩
def KT.keeps {H H':Hp} {kvs:List (List Key×V)} {xs:List (List Key×Addr×Value)} (r:KT H kvs xs) (ht:∀ b ys,H b=some (.tup ys)->H' b=some (.tup ys)):KT H' kvs xs :=
 Paired.mapP r λ_ _ z=>⟨z.1,ht _ _ z.2.1,z.2.2⟩
section
variable {P:Program} {w:World} {H:Hp} {h:Heap} {a:Addr}
def aDh {u:HO} (ok:HOk P w H h) (e:Rd H a u):ObjOk P w H h a u:=e.ok ok
def pN {kvs:List (Key×V)} (ok:HOk P w H h) (e:Rd H a (.dK kvs)):kvs.length<=sizeLine/\(a == sysModules)=false/\∃ vs,KV kvs vs/\h.DictOf (bF P w) a vs :=
 show ObjOk P w H h a (.dK kvs) from aDh ok e
def pO {kvs:List (Key×V)} (ok:HOk P w H h) (e:H a=some (.dK kvs)):kvs.length<=sizeLine/\(a == sysModules)=false/\∃ vs,KV kvs vs/\h.DictOf (bF P w) a vs:=pN ok (.inl e)
def qZ {ks:List Key} (ok:HOk P w H h) (e:H a=some (.tup (ks.map kV))):(tupleKind (bF P w)).is h ks a:=by
 obtain⟨_,its,r,o,h1,h2,n,h3⟩:=(show ObjOk P w H h a (.tup (ks.map kV)) from ok a _ e);exact⟨o,its.toArray,n,h1,h2,h3,by simpa using yU r⟩
def vI {kvs:List (List Key×V)} (ok:HOk P w H h) (e:Rd H a (.dT kvs)):kvs.length<=sizeLine/\(a == sysModules)=false /\
 ∃ xs,KT H kvs xs/\h.DictOfH (tupleKind (bF P w)) a xs:=by
 obtain⟨z,y,xs,r,o,es,ep,h1,h2,h3,h4,h5⟩:=(show ObjOk P w H h a (.dT kvs) from aDh ok e);refine⟨z,y,xs,r,o,es,ep,h1,h2,h3,h4,λx hx=>?_,h5⟩;have all:∀ {l:List (List Key×V)} {m:List (List Key×Addr×Value)},KT H l m->∀ x∈m,(tupleKind (bF P w)).is h x.1 x.2.1:=by
  intro l m q
  induction q with
  | nil=>intro x hx;exact nomatch hx
  | @cons p q ps M J t L =>
   intro x hx;rcases aGx.mp hx with e | hx
   .subst e;exact qZ ok (by rw[<- J.1];exact J.2.1)
   .exact L x hx
 exact all r x hx
def aFL {kvs:List (List Key×V)} (ok:HOk P w H h) (e:H a=some (.dT kvs)):kvs.length<=sizeLine/\(a == sysModules)=false /\
 ∃ xs,KT H kvs xs/\h.DictOfH (tupleKind (bF P w)) a xs:=vI ok (.inl e)
end
def DGet (H:Hp) (a:Addr) (y:V) (r:Option V):Prop :=
 (∃ kvs k,Rd H a (.dK kvs)/\y=kV k/\r=dM kvs k)\/∃ kvs k b,Rd H a (.dT kvs)/\y=.ref b/\H b=some (.tup (k.map kV))/\r=dM kvs k
def DPut (H:Hp) (a:Addr) (y v:V) (H':Hp):Prop :=
 (∃ kvs k,H a=some (.dK kvs)/\y=kV k/\kvs.length<sizeLine/\H'=upd H a (.dK (iJ kvs k v))) \/
 ∃ kvs k b,H a=some (.dT kvs)/\y=.ref b/\H b=some (.tup (k.map kV))/\kvs.length<sizeLine/\H'=upd H a (.dT (iJ kvs k v))
def DGet.k {H:Hp} {a:Addr} {kvs:List (Key×V)} {k:Key} (e:H a=some (.dK kvs)):DGet H a (kV k) (dM kvs k):=.inl ⟨kvs,k,.inl e,rfl,rfl⟩
def DPut.k {H:Hp} {a:Addr} {kvs:List (Key×V)} {k:Key} {v:V} (e:H a=some (.dK kvs)) (z:kvs.length<sizeLine):DPut H a (kV k) v (upd H a (.dK (iJ kvs k v))):=.inl ⟨kvs,k,e,rfl,z,rfl⟩
section
variable {X:Cx} {pins:List (Addr×Obj)} {σ:St} {H:Hp} {s:Shared} {a:Addr} {y v:V} {u r:Value} {o:Option V} {A:Around} {E:Value->Shared->Prop}
def Inv.big (I:Inv X pins σ H s):sysModules<s.heap.objs.size:=by
 have h:mainGlobals<s.heap.objs.size:=(I.mod.glob.keeps I.bk).lt;exact uw (by decide) h
def w8 {Q:Value->Shared->Prop} (hu:A.units+1<cLine) (I:Inv X pins σ H s) (g:DGet H a y (some v)) (ry:RelV y u) (h:∀ M s',Inv X pins σ H s'->RelV v M->Q M s') :
 wpAny (model X.prog X.w) A (getItem (.ref a) u) Q E s:=by
 rcases g with ⟨kvs,k,e,U,l⟩ | ⟨kvs,k,b,e,U,eb,l⟩
 .subst U;obtain⟨z,hd,vs,J,dd⟩:=pN I.hok e;obtain⟨M,hw,L⟩:=RelO.some_of (v:=v) (o:=valueAt vs k) (by rw[l];exact J.val k);exact wpAny_getItem_of (pM ry) dd.mapOf hw (h M _ (I.tok _) L)
 .subst U;cases (show u=Value.ref b from ry);obtain⟨z,hd,xs,J,dd⟩:=vI I.hok e;obtain⟨M,hw,L⟩:=RelO.some_of (v:=v) (o:=(atKey xs k).map (·.2)) (by rw[l];exact J.val k);obtain⟨p,hp,Y⟩:=aGv.mp hw;refine wpAny_getItem_heap (lh hu) (qZ I.hok eb) dd hp ?_;rw[Y];exact h M _ (I.tok _) L
def aGI {Q:Value->Shared->Prop} (U:A.units+1<cLine) (I:Inv X pins σ H s) (g:DGet H a y o) (M:RelV y u) (h:∀ s',Inv X pins σ H s'->Q (.bool o.isSome) s') :
 wpAny (model X.prog X.w) A (compareOp .In u (.ref a)) Q E s:=by
 rcases g with ⟨kvs,k,e,L,l⟩ | ⟨kvs,k,b,e,L,Y,l⟩
 .subst L;obtain⟨z,hd,vs,J,dd⟩:=pN I.hok e;refine wpAny_in_of (pM M) hd dd.mapOf ?_;rw[<- (J.val k).isSome_eq,<- l];exact h _ (I.tok _)
 .subst L;cases (show u=Value.ref b from M);obtain⟨z,hd,xs,J,dd⟩:=vI I.hok e;refine wpAny_in_heap (lh U) (qZ I.hok Y) hd dd ?_;have q:=(J.val k).isSome_eq;rw[qr]at q;rw[<- q,<- l];exact h _ (I.tok _)
def aDC {Q:Value->Shared->Prop} (U:A.units+1<cLine) (I:Inv X pins σ H s) (g:DGet H a y o) (M:RelV y u) (h:∀ s',Inv X pins σ H s'->Q (.bool (!o.isSome)) s') :
 wpAny (model X.prog X.w) A (compareOp .NotIn u (.ref a)) Q E s:=by
 rcases g with ⟨kvs,k,e,L,l⟩ | ⟨kvs,k,b,e,L,Y,l⟩
 .subst L;obtain⟨z,hd,vs,J,dd⟩:=pN I.hok e;refine wpAny_notIn_of (pM M) hd dd.mapOf ?_;rw[<- (J.val k).isSome_eq,<- l];exact h _ (I.tok _)
 .subst L;cases (show u=Value.ref b from M);obtain⟨z,hd,xs,J,dd⟩:=vI I.hok e;refine wpAny_notIn_heap (lh U) (qZ I.hok Y) hd dd ?_;have q:=(J.val k).isSome_eq;rw[qr]at q;rw[<- q,<- l];exact h _ (I.tok _)
def tU {h':Heap} {t':Nat} {J:HO} (I:Inv X pins σ H s) (L:Mut (H a)) (hs:Heap.SameBut a s.heap h') (he:∃ q,h'.get? a=some q) (new:ObjOk X.prog X.w (upd H a J) h' a J) :
 Inv X pins σ (upd H a J) { s with heap:=h',toks:=t' } :=
 I.write (x:=a) (e:=a) L (.inl rfl) (λb q M z=>(hs.2 b M).trans z) he new
def zZ {P:Program} {w:World} {H':Hp} {h':Heap} {kvs:List (Key×V)} {vs:List (Key×Value)} (z:kvs.length<=sizeLine) (hd:(a == sysModules)=false) (J:KV kvs vs) (dd:h'.DictOf (bF P w) a vs) :
 ObjOk P w H' h' a (.dK kvs):=⟨z,hd,vs,J,dd⟩
def x6 {H':Hp} {Q:Unit->Shared->Prop} (hu:A.units+1<cLine) (I:Inv X pins σ H s) (g:DPut H a y v H') (ry:RelV y u) (rv:RelV v r) (h:∀ s',Inv X pins σ H' s'->Q () s') :
 wpAny (model X.prog X.w) A (setItem (.ref a) u r) Q E s:=by
 rcases g with ⟨kvs,k,e,U,l,Y⟩ | ⟨kvs,k,b,e,U,eb,l,Y⟩
 .subst U Y;obtain⟨z,hd,vs,J,dd⟩:=pO I.hok e;have hz:vs.length<=sizeLine:=by rw[<- J.length];exact z
  have hl:(iJ kvs k v).length<=sizeLine:=by have:=iQ kvs k v;lia
  refine wpAny_setItem_pairs (hsz:=hz) (pM ry) dd λh' L hs=>h _ ?_;have he:∃ q,h'.get? a=some q:=let ⟨q,_,_,M,_⟩:=L;⟨q,M⟩;exact tU I (by rw[e];exact True.intro) hs he (zZ hl hd (J.put k rv) L)
 .subst U Y;cases (show u=Value.ref b from ry);obtain⟨z,hd,xs,J,dd⟩:=aFL I.hok e;have hz:xs.length<=sizeLine:=by rw[<- lw J];exact z
  have hl:(iJ kvs k v).length<=sizeLine:=by have:=iQ kvs k v;lia
  refine wpAny_setItem_heap (hsz:=hz) (lh hu) (qZ I.hok eb) dd λh' L hs=>h _ ?_;obtain⟨q,es,ep,M,h2,h3,h4,_,h5⟩:=L;refine tU I (by rw[e];exact True.intro) hs ⟨q,M⟩ ⟨hl,hd,_,(J.put k eb rv).keeps λc ys ec=>?_,q,es,ep,M,h2,h3,h4,h5⟩;rw[aF (cI ec e (λz=>nomatch z))];exact ec
end
section
variable {X:Cx} {pins:List (Addr×Obj)} {σ:St} {H:Hp} {s:Shared} {a:Addr} {kvs:List (Key×V)} {k:Key} {u:Value} {A:Around} {E:Value->Shared->Prop}
def x8 {Q:Unit->Shared->Prop} (I:Inv X pins σ H s) (e:H a=some (.dK kvs)) (M:RelV (kV k) u) (l:(dM kvs k).isSome=true) (h:∀ s',Inv X pins σ (upd H a (.dK (sF kvs k))) s'->Q () s') :
 wpAny (model X.prog X.w) A (delItem (.ref a) u) Q E s:=by
 obtain⟨z,hd,vs,J,dd⟩:=pO I.hok e;refine wpAny_delItem_slot dd.typeIs (by decide) qj
  (mv qj dd.typeIs PySem.F.entry_dict_delitem (PySem.F.args_dict_delitem_2 _ _) (meets_dict_delitem_pairs (bF X.prog X.w) a (pM M)) ⟨vs,dd,by rw[<- J.length];exact z,by rw[<- (J.val k).isSome_eq];exact l,λh' L hs=>h _ ?_⟩)
 have he:∃ q,h'.get? a=some q:=let ⟨q,_,_,U,_⟩:=L;⟨q,U⟩;exact tU I (by rw[e];exact True.intro) hs he (zZ (g0 (aBS kvs k) z) hd (J.drop k) L)
def aFM {Q:Value->Shared->Prop} (I:Inv X pins σ H s) (e:Rd H a (.dK kvs)) (h:∀ t s',Inv X pins σ H s'->Q (.int kvs.length t) s'):wpAny (model X.prog X.w) A (call (.builtin "len") [.ref a]) Q E s:=by
 obtain⟨z,hd,vs,J,dd⟩:=pN I.hok e;refine call_len_dict hd dd (by rw[<- J.length];rw[ka]at z;lia) ?_;rw[<- J.length];exact h _ _ (I.tok _)
def aDD {Q:Bool->Shared->Prop} (I:Inv X pins σ H s) (e:Rd H a (.dK kvs)) (h:∀ s',Inv X pins σ H s'->Q (!kvs.isEmpty) s'):wpAny (model X.prog X.w) A (truthy (.ref a)) Q E s:=by
 obtain⟨z,hd,vs,J,dd⟩:=pN I.hok e;refine wpAny_truthy_dict hd dd (by rw[<- J.length];rw[ka]at z;lia) ?_;have q:kvs.isEmpty=vs.isEmpty:=by cases J <;> rfl
 rw[<- q];exact h _ (I.tok _)
end
def aEK (i:Expr):Prop:=∀ z J,subscripted i false z J=operate [z,J] (getItem z J)
def b8 {prog:Program} {w:World} {A:Around} {E:Value->Shared->Prop} {s:Shared} {env:Env} {value slice:Expr} {pos:Pos} {T id:String} {Q:Value->Shared->Prop}
 (hl:typeLookup (.type T) "__getitem__"=pure (some (.builtin id))) (hs:aEK slice)
 (h:wpAny (model prog w) A (eval value env) (λo L=>wpAny (model prog w) A (eval slice env) (λi z=>z.TypeIs o T/\wpAny (model prog w) A (getItem o i) Q E z) E L) E s) :
 wpAny (model prog w) A (eval (.Subscript value slice pos) env) Q E s:=by
 refine Subscript_ (ew h (λo L U=>ew U (λi z J=>?_) λ_ _ x=>x) λ_ _ x=>x);obtain⟨hT,J⟩:=J;unfold subscriptTail;refine aGT ?_;rw[getitemInPython_of_ne hT.not_modules];refine aGT (so hT hl ?_);have fin:wpAny (model prog w) A (subscripted slice false o i) (λr M=>wpAny (model prog w) A (letTemporaryGo value o r >>= λ_=>pure r) Q E M) E z:=by
  rw[hs o i];exact wpAny_operating (ew J (λr M Y=>aGT (wpAny_letTemporaryGo (aGU Y))) λ_ _ x=>x)
 first
  | exact aGU (aGT fin)
  | exact aGT (aGU (aGT fin))
  | exact aGT fin
def J9 {X:Cx} {pins:List (Addr×Obj)} {σ:St} {H:Hp} {s:Shared} {a:Addr} {y:V} {o:Option V} (I:Inv X pins σ H s) (g:DGet H a y o):s.TypeIs (.ref a) "dict":=by
 rcases g with ⟨kvs,k,e,_,_⟩ | ⟨kvs,k,b,e,_,_,_⟩
 .obtain⟨_,_,vs,_,dd⟩:=pN I.hok e;exact dd.typeIs
 .obtain⟨_,_,xs,_,dd⟩:=vI I.hok e;exact dd.typeIs
inductive b9 (Q:VK) (x:V) (y:V) (H2:Hp):Prop
 | mk (a:_) (v:_) (h0_:x=.ref a) (h1_:DGet H2 a y (some v)) (h2_:Q v H2):b9 Q x y H2
def aFN (td ty:TE):TE:=fun σ H Q=>td σ H λx H1=>ty σ H1 λy H2=>b9 Q x y H2
inductive aBT (Q:VK) (y:V) (x:V) (H2:Hp):Prop
 | mk (a:_) (o:_) (h0_:x=.ref a) (h1_:DGet H2 a y o) (h2_:Q (.bl o.isSome) H2):aBT Q y x H2
def aGJ (ty td:TE):TE:=fun σ H Q=>ty σ H λy H1=>td σ H1 λx H2=>aBT Q y x H2
inductive yV (Q:VK) (y:V) (x:V) (H2:Hp):Prop
 | mk (a:_) (o:_) (h0_:x=.ref a) (h1_:DGet H2 a y o) (h2_:Q (.bl (!o.isSome)) H2):yV Q y x H2
def aDE (ty td:TE):TE:=fun σ H Q=>ty σ H λy H1=>td σ H1 λx H2=>yV Q y x H2
def aFO (td ty tv:TE):TS:=λD σ H=>tv σ H λv H1=>td σ H1 λx H2=>ty σ H2 λy J=>∃ a z,x=.ref a/\DPut J a y v z/\D.nx σ z
def aFP (td ty:TE):TS:=λD σ H=>td σ H λx H1=>ty σ H1 λy H2=>∃ a kvs k,x=.ref a/\H2 a=some (.dK kvs)/\y=kV k/\(dM kvs k).isSome=true/\D.nx σ (upd H2 a (.dK (sF kvs k)))
section
variable {X:Cx} {o i e value:Expr} {pos pos' al:Pos} {td ty tv:TE}
def kD (L:X.A.units+1<cLine) (M:PE X o td) (hi:PE X i ty) (hs:aEK i):PE X (.Subscript o i pos) (aFN td ty):=by
 intro pins s σ H Q I h;refine b8 PySem.F.slot_dict_getitem.lookup hs (thn (M pins s σ H _ I h) λu U ⟨x,H1,Y,rx,q1⟩=>thn (hi pins U σ H1 _ Y q1) λiv s2 ⟨y,H2,J,ry,a,v,ex,g,q2⟩=>?_);subst ex;obtain rfl:u=Value.ref a:=rx;exact⟨J9 J g,w8 L J g ry λw' s3 I3 z=>⟨v,H2,I3,z,q2⟩⟩
def aEL (z:X.A.units+1<cLine) (hi:PE X i ty) (J:PE X o td):PC X .In i o (aGJ ty td):=by
 intro pins s σ H Q I h;refine thn (hi pins s σ H _ I h) λiv L ⟨y,H1,M,U,Y⟩=>thn (J pins L σ H1 _ M Y) λu s2 ⟨x,H2,I2,rx,a,ov,ex,g,q2⟩=>?_;subst ex;obtain rfl:u=Value.ref a:=rx;exact aGI z I2 g U λs3 I3=>⟨.bl ov.isSome,H2,I3,rfl,q2⟩
def x9 (z:X.A.units+1<cLine) (hi:PE X i ty) (J:PE X o td):PC X .NotIn i o (aDE ty td):=by
 intro pins s σ H Q I h;refine thn (hi pins s σ H _ I h) λiv L ⟨y,H1,M,U,Y⟩=>thn (J pins L σ H1 _ M Y) λu s2 ⟨x,H2,I2,rx,a,ov,ex,g,q2⟩=>?_;subst ex;obtain rfl:u=Value.ref a:=rx;exact aDC z I2 g U λs3 I3=>⟨.bl (!ov.isSome),H2,I3,rfl,q2⟩
def A0 (z:X.A.units+1<cLine) (J:PE X o td) (hi:PE X i ty) (L:PE X value tv) (hs:swapsWith value (some (.Subscript o i pos')) pos.line X.env=pure false) :
 PS X (.Assign [.Subscript o i pos'] value pos) (aFO td ty tv):=by
 intro pins s σ H D I h;refine wpAny_Assign_Subscript (thn (L pins s σ H _ I h) λr M ⟨v,H1,U,Y,q1⟩=>thn (J pins M σ H1 _ U q1) λu s2 ⟨x,H2,I2,rx,q2⟩=>thn (hi pins s2 σ H2 _ I2 q2) λiv s3 ⟨y,H3,I3,ry,a,H4,ex,g,q3⟩=>?_) hs;subst ex;obtain rfl:u=Value.ref a:=rx;exact x6 z I3 g ry Y λs4 I4=>⟨σ,H4,I4,q3⟩
def aDF (z:PE X o td) (hi:PE X i ty):PS X (.Delete [.Subscript o i al] pos) (aFP td ty):=by
 intro pins s σ H D I h;refine wpAny_Delete (wpAny_deleteEach_cons (wpAny_delete_Subscript (thn (z pins s σ H _ I h) λu J ⟨x,H1,L,M,U⟩=>thn (hi pins J σ H1 _ L U) λiv s2 ⟨y,H2,Y,ry,a,kvs,k,ex,e,ey,l,q2⟩=>?_)));subst ex ey;obtain rfl:u=Value.ref a:=M;exact x8 Y e ry l λs3 I3=>wpAny_deleteEach_nil ⟨σ,_,I3,q2⟩
end
def aBU {P:Program} {w:World} {H:Hp} (h:Heap) (z:sysModules<h.objs.size):ObjOk P w H (h.push { cls:=.type "dict",data:=.dict #[] }) h.objs.size (.dK []) :=
 ⟨gr _,beq_eq_false_iff_ne.mpr (gi (aGi z)),[],.nil,Heap.DictOf.new h⟩
def aEM:TE:=λ_ H Q=>∀ p,H p=none->Q (.ref p) (upd H p (.dK []))
section
variable {X:Cx} {pos:Pos}
def hW:PE X (.Dict [] [] pos) aEM:=λpins s σ H Q I h =>
 wpAny_Dict_empty ⟨.ref s.heap.objs.size,_,I.laid (a:=s.heap.objs.size) (o:=.dK []) (t':=s.toks) (λ_ _ q=>aGW _ q) (ah _) (aBU s.heap I.big),rfl,h _ (I.hok.fresh (ah _))⟩
end
structure M2 (X:Cx) (o:Expr) (m:Str) (apos:Pos) (e f:Expr) (aa:Pos):Prop where
 base:attributeBase o m X.env (eval o X.env)=eval o X.env
 few:((backTo aa (starEach [e,f] X.env)).all (λx=>!x.1) && (backToKw aa (keywordEach [] X.env)).all (λx=>x.1.isSome)
  && decide (([e,f]:List Expr).length+([]:List Keyword).length+(if ([]:List Keyword).isEmpty then 0 else 1)<30))=true
 line:(apos.endLine == aa.line)=true
 trees:backTo aa (starEach [e,f] X.env)=[(false,eval e X.env),(false,eval f X.env)]
def IsD (H:Hp) (a:Addr):Prop:=(∃ kvs,Rd H a (.dK kvs))\/∃ kvs,Rd H a (.dT kvs)
def vJ {X:Cx} {pins:List (Addr×Obj)} {σ:St} {H:Hp} {s:Shared} {a:Addr} (I:Inv X pins σ H s) (d:IsD H a) :
 s.TypeIs (.ref a) "dict"/\(∀ b,Value.ref a=.ref b->∃ z,s.heap.get? b=some z/\z.dict=none)/\(a == sysModules)=false:=by
 rcases d with ⟨kvs,e⟩ | ⟨kvs,e⟩
 .obtain⟨_,hd,vs,_,dd⟩:=pN I.hok e;refine⟨dd.typeIs,λb q=>?_,hd⟩;cases q;obtain⟨z,_,_,h1,h2,_⟩:=dd;exact⟨z,h1,h2.2.1⟩
 .obtain⟨_,hd,xs,_,dd⟩:=vI I.hok e;refine⟨dd.typeIs,λb q=>?_,hd⟩;cases q;obtain⟨z,_,_,h1,h2,_⟩:=dd;exact⟨z,h1,h2.2.1⟩
section
variable {X:Cx} {pins:List (Addr×Obj)} {σ:St} {H:Hp} {s:Shared} {a:Addr} {y d:V} {u r:Value} {o:Option V} {A:Around} {E:Value->Shared->Prop}
def aEN {Q:Value->Shared->Prop} (Y:A.units+1<cLine) (I:Inv X pins σ H s) (g:DGet H a y o) (M:RelV y u) (rd:RelV d r) (h:∀ U s',Inv X pins σ H s'->RelV (o.getD d) U->Q U s') :
 wpAny (model X.prog X.w) A (call (.builtin "dict.get") [.ref a,u,r]) Q E s:=by
 rcases g with ⟨kvs,k,e,L,l⟩ | ⟨kvs,k,b,e,L,eb,l⟩
 .subst L;obtain⟨z,hd,vs,J,dd⟩:=pN I.hok e;refine mv og dd.typeIs rn (ra _ _ _) (meets_dict_get_default (bF X.prog X.w) a (pM M) hd r) ⟨_,dd.mapOf,h _ _ (I.tok _) ?_⟩;rw[l];exact(J.val k).getD rd
 .subst L;cases (show u=Value.ref b from M);obtain⟨z,hd,xs,J,dd⟩:=vI I.hok e;refine mv og dd.typeIs rn (ra _ _ _) (meetsH_dict_get_default (tupleKind (bF X.prog X.w)) a b hd r) ⟨lh Y,k,xs,qZ I.hok eb,dd,h _ _ (I.tok _) ?_⟩;rw[l];exact(J.val k).getD rd
end
inductive K0 (Q:VK) (a:Addr) (y:V) (z:V) (H3:Hp):Prop
 | mk (o:_) (h0_:DGet H3 a y o) (h1_:Q (o.getD z) H3):K0 Q a y z H3
inductive K1 (ty:TE) (tx:TE) (σ:St) (Q:VK) (x:V) (H1:Hp):Prop
 | mk (a:_) (h0_:x=.ref a) (h1_:IsD H1 a) (h2_:ty σ H1 λy H2=>tx σ H2 λz H3=>K0 Q a y z H3):K1 ty tx σ Q x H1
def aEO (td ty tx:TE):TE:=fun σ H Q=>td σ H λx H1=>K1 ty tx σ Q x H1
section
variable {X:Cx} {o e f:Expr} {apos aa:Pos} {td ty tx:TE}
def aBV (M:X.A.units+1<cLine) (U:PE X o td) (he:PE X e ty) (Y:PE X f tx) (m:M2 X o "get" apos e f aa):PE X (.Call (.Attribute o "get" apos) [e,f] [] aa) (aEO td ty tx):=by
 intro pins s σ H Q I h;refine wpAny_Call_method m.base m.few m.line jo og PySem.F.type_dict_get (thn (U pins s σ H _ I h) λu s1 ⟨x,H1,L,rx,a,ex,d,q1⟩=>?_);subst ex;obtain rfl:u=Value.ref a:=rx;obtain⟨t1,t2,_⟩:=vJ L d;refine⟨t1,t2,?_⟩;rw[m.trees];refine io rfl (jb (iq (thn (he pins s1 σ H1 _ L q1) λiv s2 ⟨y,H2,I2,ry,q2⟩ =>
  iq (thn (Y pins s2 σ H2 _ I2 q2) λfv s3 ⟨z,H3,I3,rz,ov,g,q3⟩=>ki ?_))))
 exact aEN M I3 g ry rz λw' s4 I4 J=>⟨_,H3,I4,J,q3⟩
end
section
variable {X:Cx} {pins:List (Addr×Obj)} {σ:St} {H:Hp} {s:Shared} {d:Addr} {kvs:List (Key×V)}
def Inv.freezeD (I:Inv X pins σ H s) (e:H d=some (.dK kvs)):∃ od,s.heap.get? d=some od/\Inv X pins σ (upd H d (.frz od (.dK kvs))) s:=by
 obtain⟨z,hd,vs,L,dd⟩:=pO I.hok e;obtain⟨ep,M⟩:=dd.dictAt;obtain⟨od,es,U,_⟩:=id M;refine⟨od,U,?_⟩;have ne:∀ b u,H b=some u->(∀ ks,u≠.dK ks)->b≠d:=λb u q n z=>by rw[z,e]at q;cases q;exact n _ rfl
 have nb:∀ b,H b=none->b≠d:=λb q z=>by rw[z,e]at q;cases q
 have J:∀ b u,H b=some u->(∀ ks,u≠.dK ks)->upd H d (.frz od (.dK kvs)) b=some u:=λb u q n=>by rw[aF (ne b u q n)];exact q
 have un:Un X.fs [] H (upd H d (.frz od (.dK kvs))) s.heap s.heap:=⟨λ_ _ q _ _ _=>q,λ_ o q _ _ _=>⟨o.slots,q⟩,λb _ _ n _=>by rw[aF (nb b n)];exact n,λ_ o q _=>⟨o,q⟩,
  λb xs q=>J b _ q (λ_ z=>by cases z),λb o u q=>J b _ q (λ_ z=>by cases z),λb ps q=>⟨#[],by rw[J b _ q (λ_ z=>by cases z)];simp⟩⟩
 exact I.un (t':=s.toks) un λb u q=>by
  by_cases Y:b=d
  .subst Y;rw[aE]at q;cases q;exact⟨U,z,hd,vs,L,dd⟩
  .rw[aF Y]at q;exact(I.hok b u q).stay (λ_ _ _ z=>z) (λc z=>J c _ z λ_ z=>by cases z) λc xs z=>J c _ z λ_ z=>by cases z
end
def Itd (d:Addr) (od:Obj) (kvs:List (Key×V)):It :=
 ⟨λi H=>H d=some (.frz od (.dK kvs))/\i<kvs.length,λi H v H'=>∃ t k x,v=.ref t/\H t=none/\kvs[i]?=some (k,x)/\H'=upd H t (.tup [kV k,x]),λi H=>H d=some (.frz od (.dK kvs))/\kvs.length<=i⟩
def c6 {kvs:List (Key×V)} {vs:List (Key×Value)} (r:KV kvs vs) {i:Nat} {k:Key} {x:V} (e:kvs[i]?=some (k,x)):∃ u,vs[i]?=some (k,u)/\RelV x u:=by
 induction r generalizing i with
 | nil=>simp at e
 | cons h _ z =>
  cases i with
  | zero =>
   rename_i p q _ _ _
   obtain⟨p1,p2⟩:=p;obtain⟨J,L⟩:=q;simp only[List.getElem?_cons_zero,Option.some.injEq,Prod.mk.injEq]at e;obtain⟨rfl,rfl⟩:=e;obtain⟨h1,h2⟩:=h;simp only at h1 h2;subst h1;exact⟨_,rfl,h2⟩
  | succ i=>exact z e
def aBW {P:Program} {w:World} {k:Key} {u:Value} (h:(bF P w).is k u=true):RelV (kV k) u:=by
 rw[uD]at h;rcases cJ h with ⟨i,t,rfl,rfl⟩ | ⟨x,t,rfl,rfl⟩
 .exact⟨_,rfl⟩
 .exact⟨_,rfl⟩
def S6 {P:Program} {w:World} {K:PySem.W.Frag} {elts:List Expr} {x1} {pos:Pos} (d it:Addr) (od:Obj) (kvs:List (Key×V)) (vs:List (Key×Value)) (ep:Nat) (rel:KV kvs vs) (hat:∀ h:Heap,h.get? d=some od->h.DictAt (bF P w) d vs ep) (hne:d≠it) :
 uL P w K (.Tuple elts x1 pos) (Itd d od kvs) [it] it (λi h=>∃ ok ov,IsItemIter h it d i vs.length ep ok ov) where
 mem:=by simp
 obj:=λi h st b hb=>by
  obtain⟨ok,ov,he⟩:=st;have z:b=it:=by simpa using hb
  subst z;exact⟨_,he,λv z=>by have z':Data.fields _=Data.cell v:=z;cases z'⟩
 keep:=λi h h' st k=>let ⟨ok,ov,he⟩:=st;⟨ok,ov,k it (by simp) _ he⟩
 item:=by
  intro X hP hw hK hc i pins s σ H E I hf st hg;subst hP hw hK;obtain⟨hd,hi⟩:=hg;obtain⟨⟨k,x⟩,hx⟩:∃ p,kvs[i]?=some p:=⟨kvs[i],by simp[hi]⟩;obtain⟨u,hu,ru⟩:=c6 rel hx;obtain⟨ok,ov,he⟩:=st;have hod:s.heap.get? d=some od:=(I.hok d _ hd).1;have li:it<s.heap.objs.size:=aG1 he;refine wpAny_pyNext_items_item he (hat _ hod) hu λkey h' hkey ho hT hsz kp=>?_;refine⟨_,rfl,?_⟩;have hn:H s.heap.objs.size=none:=I.hok.fresh (ah _);have tupOk:∀ h2:Heap,h2.get? s.heap.objs.size=some { cls:=.type "tuple",data:=.seq #[key,u] }->ObjOk X.prog X.w (upd H s.heap.objs.size (.tup [kV k,x])) h2 s.heap.objs.size (.tup [kV k,x]):=λh2 q =>
   ⟨by show 2<=sizeLine;decide,[key,u],.cons (aBW hkey) (.cons ru .nil),_,q,rfl,_,rfl⟩
  refine wpAny_letOwnedTupleGo_items ho λh2 f1 sb=>?_;have k2:∀ b o,b∉[it]->s.heap.get? b=some o->h2.get? b=some o:=λb o hb q=>sb.extBut b o (λz=>hb (by simp[z])) (kp b o (λz=>hb (by simp[z])) q);have n1:s.heap.objs.size≠it:=aGl li;refine⟨.ref s.heap.objs.size,_,I.turnLaid (t':=s.toks) (h':=h2) (o:=.tup [kV k,x]) k2 hf (ah _) (tupOk _ (sb.extBut _ _ n1 hT)),rfl,⟨_,k,x,rfl,hn,hx,rfl⟩,⟨_,_,f1⟩,λb hb=>?_⟩;have hb':b≠s.heap.objs.size:=by
   have z:b=it:=by simpa using hb
   subst z;exact aGi li
  rw[aF hb'];exact(hf b hb).1
 done:=by
  intro X hP hw hK hc i pins s σ H E I hf st hg;subst hP hw hK;obtain⟨hd,hi⟩:=hg;obtain⟨ok,ov,he⟩:=st;have hod:s.heap.get? d=some od:=(I.hok d _ hd).1;have hl:=rel.length;exact wpAny_pyNext_items_end (I.ok.hd hc) he (hat _ hod) (by simp;omega) λh' eb=>⟨rfl,I.turnedF (fp:=[it]) (t':=s.toks) (λb o hb e=>eb b o (λz=>hb (by simp[z])) e) hf⟩
 self:=λ_ _ _ _ _ st h=>let ⟨_,_,he⟩:=st;PySem.W.kcp_self he h
def aEP (td:TE):TI:=fun σ H R=>td σ H λx H1=>∃ d kvs,x=.ref d/\H1 d=some (.dK kvs)/\∀ od,R (Itd d od kvs) (upd H1 d (.frz od (.dK kvs)))
def pP {X:Cx} {elts:List Expr} {x1} {al:Pos} {o:Expr} {td:TE} {apos pos:Pos} (ho:PE X o td) (M:attributeBase o "items" X.env (eval o X.env)=eval o X.env:=by rfl) (U:(apos.endLine == pos.line)=true:=by rfl) :
 PI X (.Tuple elts x1 al) (.Call (.Attribute o "items" apos) [] [] pos) (aEP td):=by
 intro pins s σ H R I h;refine kt M U (thn (ho pins s σ H _ I h) λu J ⟨x,H1,I1,rx,d,kvs,ex,hd,q⟩=>?_);subst ex;obtain rfl:u=Value.ref d:=rx;obtain⟨z,ax,vs,ay,dd⟩:=pO I1.hok hd;obtain⟨ep,az⟩:=id dd.dictAt;obtain⟨od,Y,I2⟩:=I1.freezeD hd;obtain⟨t1,t2,_⟩:=vJ I1 (.inl ⟨kvs,.inl hd⟩);refine⟨"dict","dict.items",jo,kz,rb,t1,t2,io rfl (mq ?_)⟩;refine mv kz dd.typeIs qt (qk _) (meets_dict_items (bF X.prog X.w) d ax) ⟨⟨vs,dd⟩,?_⟩;have hv:(J.heap.push { cls:=.type "dict_items",data:=.fields #[.ref d] }).IsItemsView J.heap.objs.size d:=⟨_,aG2 _ rfl,rfl,rfl⟩;have h1:(J.heap.push { cls:=.type "dict_items",data:=.fields #[.ref d] }).get? d=some od:=aGW _ Y;have L:∀ h:Heap,h.get? d=some od->h.DictAt (bF X.prog X.w) d vs ep:=λh e=>az.at λo q=>by rw[Y]at q;cases q;exact e
 refine wpAny_pyIter_items hv (L _ h1) ?_;generalize a_:({ cls:=.type "dict_itemiterator",data:=.fields #[.none,.bool false,.ref d,.int 0 0,.int vs.length 0,.int ep 0,.none,.none] }:Obj)=ob;have kp:∀ b o,J.heap.get? b=some o->((J.heap.push { cls:=.type "dict_items",data:=.fields #[.ref d] }).push ob).get? b=some o:=λb o e=>aGW _ (aGW _ e);have hsz:(J.heap.push { cls:=.type "dict_items",data:=.fields #[.ref d] }).objs.size=J.heap.objs.size+1:=im ..;have I3:=I2.kept (t':=J.toks) kp;have aw:J.heap.objs.size<=(J.heap.push { cls:=.type "dict_items",data:=.fields #[.ref d] }).objs.size:=by rw[hsz];exact lq _
 have ba:d≠(J.heap.push { cls:=.type "dict_items",data:=.fields #[.ref d] }).objs.size:=λz=>by
  have:=aG1 Y;rw[z]at this;exact absurd this (Nat.not_lt.mpr aw)
 refine⟨_,[_],_,_,_,rfl,I3,S6 d _ od kvs vs ep ay L ba,⟨.none,.none,?_⟩,λb hb=>?_,q od⟩
 .rw[<- a_];exact aG2 _ rfl
 .have z:b=(J.heap.push { cls:=.type "dict_items",data:=.fields #[.ref d] }).objs.size:=by simpa using hb
  rw[z];exact I2.fpOk aw (I2.hok.fresh aw)
def oJ {d:Addr} {od:Obj} {kvs:List (Key×V)} {z:St} {g:TG} {tt:TT} {te:TE} {H:Hp} {Q:VK} (Pv:Nat->List V->Hp->Prop) (h0:Pv 0 [] H) (U:∀ i ys H,i<=kvs.length->Pv i ys H->H d=some (.frz od (.dK kvs))/\ys.length<sizeLine)
 (hs:∀ i k x ys H t,kvs[i]?=some (k,x)->Pv i ys H->H t=none->g (.ref t) z (upd H t (.tup [kV k,x])) λJ H2=>tt J H2 λb M=>if b=true then te J M λy Y=>Pv (i+1) (ys++[y]) Y else Pv (i+1) ys M) (hd:∀ ys H,Pv kvs.length ys H->∀ D,H D=none->Q (.ref D) (upd H D (.lst ys))) :
 pG (Itd d od kvs) z g tt te Q H:=by
 refine⟨λi m ys H=>m=kvs.length - i/\i<=kvs.length/\Pv i ys H,⟨kvs.length,by simp,gr _,h0⟩,?_⟩;rintro i m ys H ⟨rfl,hi,p⟩;obtain⟨q,hz⟩:=U i ys H hi p;refine⟨hz,?_⟩
 by_cases L:i<kvs.length
 .refine .inr ⟨⟨q,L⟩,Pv (i+1),λaw H' p'=>⟨kvs.length - (i+1),by omega,rfl,L,p'⟩,λx H' y=>?_⟩;obtain⟨t,k,v,rfl,hn,hx,rfl⟩:=y;exact hs i k v ys _ t hx p hn
 .have e:i=kvs.length:=by omega
  subst e;exact .inl ⟨⟨q,ah _⟩,hd ys H p⟩
inductive c7 (Q:VK) (a:Addr) (y:V) (z:V) (H3:Hp):Prop
 | mk (kvs:_) (k:_) (h0_:H3 a=some (.dK kvs)) (h1_:y=kV k) (h2_:kvs.length<sizeLine) (h3_:(∀ v,dM kvs k=some v->Q v H3)) (h4_:(dM kvs k=none->Q z (upd H3 a (.dK (iJ kvs k z))))):c7 Q a y z H3
inductive c8 (ty:TE) (tx:TE) (σ:St) (Q:VK) (x:V) (H1:Hp):Prop
 | mk (a:_) (h0_:x=.ref a) (h1_:IsD H1 a) (h2_:ty σ H1 λy H2=>tx σ H2 λz H3=>c7 Q a y z H3):c8 ty tx σ Q x H1
def aFQ (td ty tx:TE):TE:=fun σ H Q=>td σ H λx H1=>c8 ty tx σ Q x H1
section
variable {X:Cx} {o e f:Expr} {apos aa:Pos} {td ty tx:TE}
def c9 (Y:PE X o td) (he:PE X e ty) (hf:PE X f tx) (m:M2 X o "setdefault" apos e f aa):PE X (.Call (.Attribute o "setdefault" apos) [e,f] [] aa) (aFQ td ty tx):=by
 intro pins s σ H Q I h;refine wpAny_Call_method m.base m.few m.line jo oz PySem.F.type_dict_setdefault (thn (Y pins s σ H _ I h) λu s1 ⟨x,H1,I1,rx,a,ex,d,q1⟩=>?_);subst ex;obtain rfl:u=Value.ref a:=rx;obtain⟨t1,t2,_⟩:=vJ I1 d;refine⟨t1,t2,?_⟩;rw[m.trees];refine io rfl (jb (iq (thn (he pins s1 σ H1 _ I1 q1) λiv s2 ⟨y,H2,I2,ry,q2⟩ =>
  iq (thn (hf pins s2 σ H2 _ I2 q2) λfv s3 ⟨z,H3,I3,rz,kvs,k,ea,ey,hl,q3,q4⟩=>ki ?_))))
 subst ey;obtain⟨hz,L,vs,J,dd⟩:=pO I3.hok ea;refine mv oz dd.typeIs PySem.F.entry_dict_setdefault (PySem.F.args_dict_setdefault_3 _ _ _) (kt_meets_setdefault (bF X.prog X.w) a (pM ry) L fv) ⟨vs,dd,by rw[<- J.length];exact hz,λv hv=>?_,λhn h' U hs=>?_⟩
 .have r:=J.val k;rw[hv]at r;cases M:dM kvs k with
  | none=>rw[M]at r;exact r.elim
  | some v'=>rw[M]at r;exact⟨v',H3,I3.tok _,r,q3 v' M⟩
 .have r:=J.val k;rw[hn]at r;have M:dM kvs k=none:=by
   cases M:dM kvs k with
   | none=>rfl
   | some v'=>rw[M]at r;exact r.elim
  refine⟨z,_,tU (t':=_) I3 (by rw[ea];exact True.intro) hs ?_ (zZ ?_ L (J.put k rz) U),rz,q4 M⟩
  .obtain⟨_,aw⟩:=U.dictAt;obtain⟨o,es,Y,_⟩:=id aw;exact⟨o,Y⟩
  .have:=iQ kvs k z;omega
end
def Inv.thaw {X:Cx} {pins:List (Addr×Obj)} {σ:St} {H:Hp} {s:Shared} {d:Addr} {od:Obj} {kvs:List (Key×V)} (I:Inv X pins σ H s) (e:H d=some (.frz od (.dK kvs))) (h0:∀ o u,X.H₀ d≠some (.frz o u)):Inv X pins σ (upd H d (.dK kvs)) s:=by
 obtain⟨ho,hok⟩:=I.hok d _ e;have ne:∀ b u,H b=some u->(∀ o v,u≠.frz o v)->b≠d:=λb u q n z=>by rw[z,e]at q;cases q;exact n _ _ rfl
 have J:∀ b,H b=none->b≠d:=λb q z=>by rw[z,e]at q;cases q
 have L:∀ b u,H b=some u->(∀ o v,u≠.frz o v)->upd H d (.dK kvs) b=some u:=λb u q n=>by rw[aF (ne b u q n)];exact q
 refine⟨I.ok,I.os,I.bare,⟨I.base.keep,I.base.slot,λb o q n x=>?_,I.base.there,λb xs q=>L b _ (I.base.tups b xs q) (λ_ _ z=>by cases z),λb o u q=>?_,λb ps q=>?_⟩,I.loc,I.cell,?_,λx c q=>?_,λp q=>?_,λb u q=>?_,I.len⟩
 .rw[aF (J b (I.base.free b o q n x))];exact I.base.free b o q n x
 .have M:b≠d:=λz=>by rw[z]at q;exact h0 _ _ q
  rw[aF M];exact I.base.frzs b o u q
 .obtain⟨more,U⟩:=I.base.tbls b ps q;exact⟨more,L b _ U (λ_ _ z=>by cases z)⟩
 .rw[aF (J _ I.free)];exact I.free
 .rw[aF (J _ (I.freeC x c q))];exact I.freeC x c q
 .obtain⟨U,n,Y,nf,dd⟩:=I.pin p q;exact⟨U,by rw[aF (J _ n)];exact n,Y,nf,dd⟩
 .by_cases M:b=d
  .subst M;rw[aE]at q;cases q;exact hok
  .rw[aF M]at q;exact(I.hok b u q).stay (λ_ _ _ z=>z) (λc z=>L c _ z λ_ _ z=>by cases z) λc xs z=>L c _ z λ_ _ z=>by cases z
inductive e9 (Q:VK) (d:Addr) (kvs:List (Key×V)) (v:V) (H':Hp):Prop
 | mk (od:_) (h0_:H' d=some (.frz od (.dK kvs))) (h1_:Q v (upd H' d (.dK kvs))):e9 Q d kvs v H'
inductive i0 (t:TE) (σ:St) (H:Hp) (Q:VK):Prop
 | mk (d:_) (kvs:_) (h0_:H d=some (.dK kvs)) (h1_:t σ H λv H'=>e9 Q d kvs v H'):i0 t σ H Q
def aFR (t:TE):TE:=fun σ H Q=>i0 t σ H Q
def tV {X:Cx} {e:Expr} {t:TE} (h:PE X e t):PE X e (aFR t):=by
 intro pins s σ H Q I q;obtain⟨d,kvs,hd,q⟩:=q;have h0:∀ o u,X.H₀ d≠some (.frz o u):=λo u z=>by
  have:=I.base.frzs d o u z;rw[hd]at this;cases this
 exact thn (h pins s σ H _ I q) λu Y ⟨v,H1,J,L,od,M,U⟩=>⟨v,_,J.thaw M h0,L,U⟩
open PySem.W
def A3 {P:Program} {w:World} {ks:List Int} {vs:List Value} (z:vs.length=ks.length) (h:∀ (j:Nat) (v:Value),vs[j]?=some v->∃ k,ks[j]?=some k/\(bF P w).is (Sum.inl k) v=true):IntsAre vs ks:=by
 induction vs generalizing ks with
 | nil=>cases ks with
  | nil=>exact .nil
  | cons _ _=>cases z
 | cons v r M=>cases ks with
  | nil=>cases z
  | cons k ks =>
   obtain⟨U,h1,h2⟩:=h 0 v rfl;cases h1;rw[uD]at h2;rcases cJ h2 with ⟨i,t,J,L⟩ | ⟨x,t,J,L⟩
   .cases J;subst L;exact .cons _ _ (M (by simpa using z) λj v e=>h (j+1) v e)
   .cases J
def K2 (kvs:List (Key×V)) (ks:List Int):Prop:=kvs.map Prod.fst=ks.map Sum.inl
section
variable {X:Cx}
inductive vK (xs:List V) (H:Hp) (Q:VK):Prop
 | mk (a:Addr) (kvs:List (Key×V)) (ks:List Int) (h0_:xs=[.ref a]) (h1_:H a=some (.dK kvs)) (h2_:K2 kvs ks) (h3_:ks.length<64) (h4_:∀ (l:Addr) (ms:List Int),H l=none->ms.Perm ks->ms.Pairwise (·<=·)->Q (.ref l) (upd H l (.lst (ms.map V.int)))):vK xs H Q
def pQ (hc:X.calm=true):eK X (.builtin "sorted") vK:=by
 intro pins s σ H xs us Q I r h;obtain⟨a,kvs,ks,rfl,ha,hk,bf,q⟩:=h;obtain⟨u,rfl,rx⟩:=hJ r;cases rx;obtain⟨z,Y,vs,U,dd⟩:=pO I.hok ha;obtain⟨ep,ba⟩:=id dd.dictAt;have hlen:vs.length=ks.length:=by
  have e1:=U.length;have e2:=congrArg List.length hk;simp at e2
  lia
 have aw:vs.length<=sizeLine:=g0 (show vs.length<=64 by lia) (by decide);refine qi kind_sorted plain_sorted entry_sorted (args_sorted1 _) ?_;unfold Builtin.«sorted»;refine aGT (m:=checkCount "sorted" 1 1 _) (aGU ?_);refine aGT (kdu_collect (A:=X.A.in1) (kdl_dict (knd:=bF X.prog X.w) (kvs:=vs) (ep:=ep) Y) (I.ok.hd hc) ba aw λh' tk J bb L=>?_);have hl:J.toList.length=vs.length:=by rw[ig];exact L.1
 have hI:IntsAre J.toList ks:=A3 (P:=X.prog) (w:=X.w) (by lia) λj v e=>by
  obtain⟨k,x,h1,h2⟩:=L.2 j v (by rw[<- oa];exact e);have hj:j<vs.length:=(aGw.mp h1).1;have h3:(kvs.map Prod.fst)[j]?=some k:=by
   have ax:j<kvs.length:=by rw[U.length];exact hj
   obtain⟨u,e1,e2⟩:=c6 U (i:=j) (k:=(kvs[j]).1) (x:=(kvs[j]).2) (aG5 ax);rw[h1]at e1;cases e1;simp[ax]
  rw[hk,aGj]at h3;obtain⟨n,h4,h5⟩:=aGv.mp h3;subst h5;exact⟨n,h4,h2⟩
 refine aGT (oy ?_ (by lia));have e0:(h'.push (seqObj "list" J.toList.toArray 0)).get? h'.objs.size=some (seqObj "list" J.toList.toArray 0):=aG2 _ rfl;have kp:∀ b o,h'.get? b=some o->(h'.push (seqObj "list" J.toList.toArray 0)).get? b=some o:=λb o e=>aGW _ e;have I':=I.kept (t':=tk) bb;have ay:h'.objs.size<(h'.push (seqObj "list" J.toList.toArray 0)).objs.size:=by rw[size_push'];exact il _
 have M:(h'.push (seqObj "list" J.toList.toArray 0)).objs.size=h'.objs.size+1:=size_push' ..;show wpAny _ _ _ _ _ { s with heap:=h'.push (seqObj "list" J.toList.toArray 0),toks:=tk };generalize h'.push (seqObj "list" J.toList.toArray 0)=h2 at e0 kp ay M;refine aGT (fy (oj slot_list_sort ⟨_,e0,rfl⟩ entry_list_sort (list_sort_tree (s:={ s with heap:=h2,toks:=tk }) e0 hI (by lia) λout az bc hp hs=>⟨_,rfl,?_⟩) (args_list_sort _)));obtain⟨n0,at0⟩:=sortedHeap_at (out:=out) e0;have hn:H h'.objs.size=none:=I'.hok.fresh (ah _);refine aGU ⟨_,rfl,.ref h'.objs.size,_,I'.laid (t':=tk) (o:=.lst (az.map V.int)) (λb o e=>?_) (ah _) ⟨?_,out.toList,n0,mW bc,at0⟩,rfl,q _ az hn hp hs⟩
 .have hb:=aG1 e;have a_:b<h'.objs.size:=hb;exact(sortedHeap_old (aGi a_) (by show b<h2.objs.size;rw[M];exact jg a_)).trans (kp b o e)
 .rw[aGV,hp.length_eq];exact g0 (show ks.length<=64 by lia) (by decide)
end
end L2
namespace L2
open PySem PySem.Spec PyProof.Rows
def Itw (d:Addr) (od:Obj) (kvs:List (Key×V)):It :=
 ⟨λi H=>H d=some (.frz od (.dK kvs))/\i<kvs.length,λi H v H'=>H'=H/\∃ k,kvs[i]?=some (k,v),λi H=>H d=some (.frz od (.dK kvs))/\kvs.length<=i⟩
def K3 {P:Program} {w:World} {K:PySem.W.Frag} {tg:Expr} (d it:Addr) (od:Obj) (kvs:List (Key×V)) (vs:List (Key×Value)) (ep:Nat) (rel:KV kvs vs) (hat:∀ h:Heap,h.get? d=some od->h.DictAt (bF P w) d vs ep) (hne:d≠it) :
 uL P w K tg (Itw d od kvs) [it] it (λi h=>h.IsValIter it d i vs.length ep) where
 mem:=by simp
 obj:=λi h st b hb=>by
  obtain⟨o,he,hc,hd⟩:=st;have z:b=it:=by simpa using hb
  subst z;exact⟨o,he,λv z=>by rw[hd]at z;cases z⟩
 keep:=λi h h' st k=>let ⟨o,he,r⟩:=st;⟨o,k it (by simp) _ he,r⟩
 item:=by
  intro X hP hw hK hc i pins s σ H E I hf st hg;subst hP hw hK;obtain⟨hd,hi⟩:=hg;obtain⟨⟨k,x⟩,hx⟩:∃ p,kvs[i]?=some p:=⟨kvs[i],by simp[hi]⟩;obtain⟨u,hu,ru⟩:=c6 rel hx;have hod:s.heap.get? d=some od:=(I.hok d _ hd).1;refine wpAny_pyNext_values_item st (hat _ hod) hu λh' st' sb=>?_;obtain⟨o,e,c,dd⟩:=id st';exact⟨u,rfl,G5 (s:={ s with heap:=h' }) e c dd (by decide) ⟨x,H,I.turnedF (fp:=[it]) (t':=s.toks) (λb o hb e=>sb.extBut b o (λz=>hb (by simp[z])) e) hf,ru,⟨rfl,k,hx⟩,st',λb hb=>(hf b hb).1⟩⟩
 done:=by
  intro X hP hw hK hc i pins s σ H E I hf st hg;subst hP hw hK;obtain⟨hd,hi⟩:=hg;have hod:s.heap.get? d=some od:=(I.hok d _ hd).1;have hl:=rel.length;exact wpAny_pyNext_values_end (I.ok.hd hc) st (hat _ hod) (by simp;lia) λh' eb=>⟨rfl,I.turnedF (fp:=[it]) (t':=s.toks) (λb o hb e=>eb b o (λz=>hb (by simp[z])) e) hf⟩
 self:=λ_ _ _ _ _ st h=>wpAny_pyIter_valiter st h
def aDG (td:TE):TI:=fun σ H R=>td σ H λx H1=>∃ d kvs,x=.ref d/\H1 d=some (.dK kvs)/\∀ od,R (Itw d od kvs) (upd H1 d (.frz od (.dK kvs)))
def yW {X:Cx} {tg:Expr} {o:Expr} {td:TE} {apos pos:Pos} (ho:PE X o td) (M:attributeBase o "values" X.env (eval o X.env)=eval o X.env:=by rfl) (U:(apos.endLine == pos.line)=true:=by rfl) :
 PI X tg (.Call (.Attribute o "values" apos) [] [] pos) (aDG td):=by
 intro pins s σ H R I h;refine kt M U (thn (ho pins s σ H _ I h) λu J ⟨x,H1,I1,rx,d,kvs,ex,hd,q⟩=>?_);subst ex;obtain rfl:u=Value.ref d:=rx;obtain⟨z,ax,vs,ay,dd⟩:=pO I1.hok hd;obtain⟨ep,az⟩:=id dd.dictAt;obtain⟨od,Y,I2⟩:=I1.freezeD hd;obtain⟨t1,t2,_⟩:=vJ I1 (.inl ⟨kvs,.inl hd⟩);refine⟨"dict","dict.values",jo,qu,PySem.F.type_dict_values,t1,t2,io rfl (mq ?_)⟩;refine mv qu dd.typeIs PySem.F.entry_dict_values (PySem.F.args_dict_values_1 _) (meets_dict_values (bF X.prog X.w) d ax) ⟨⟨vs,dd⟩,?_⟩;have hv:(J.heap.push { cls:=.type "dict_values",data:=.fields #[.ref d] }).IsValuesView J.heap.objs.size d:=⟨_,aG2 _ rfl,rfl,rfl⟩;have h1:(J.heap.push { cls:=.type "dict_values",data:=.fields #[.ref d] }).get? d=some od:=aGW _ Y;have L:∀ h:Heap,h.get? d=some od->h.DictAt (bF X.prog X.w) d vs ep:=λh e=>az.at λo q=>by rw[Y]at q;cases q;exact e
 refine wpAny_pyIter_values hv (L _ h1) ?_;generalize a_:({ cls:=.type "dict_valueiterator",data:=.fields #[.ref d,.int 0 0,.int vs.length 0,.int ep 0] }:Obj)=ob;have kp:∀ b o,J.heap.get? b=some o->((J.heap.push { cls:=.type "dict_values",data:=.fields #[.ref d] }).push ob).get? b=some o:=λb o e=>aGW _ (aGW _ e);have hsz:(J.heap.push { cls:=.type "dict_values",data:=.fields #[.ref d] }).objs.size=J.heap.objs.size+1:=im ..;have I3:=I2.kept (t':=J.toks) kp;have aw:J.heap.objs.size<=(J.heap.push { cls:=.type "dict_values",data:=.fields #[.ref d] }).objs.size:=by rw[hsz];exact lq _
 have ba:d≠(J.heap.push { cls:=.type "dict_values",data:=.fields #[.ref d] }).objs.size:=λz=>by
  have:=aG1 Y;rw[z]at this;exact absurd this (Nat.not_lt.mpr aw)
 refine⟨_,[_],_,_,_,rfl,I3,K3 d _ od kvs vs ep ay L ba,?_,λb hb=>?_,q od⟩
 .rw[<- a_];exact⟨_,aG2 _ rfl,rfl,rfl⟩
 .have z:b=(J.heap.push { cls:=.type "dict_values",data:=.fields #[.ref d] }).objs.size:=by simpa using hb
  rw[z];exact I2.fpOk aw (I2.hok.fresh aw)
def sG {d:Addr} {od:Obj} {kvs:List (Key×V)} {z:St} {g:TG} {tt:TT} {te:TE} {H:Hp} {Q:VK} (Pv:Nat->List V->Hp->Prop) (h0:Pv 0 [] H) (U:∀ i ys H,i<=kvs.length->Pv i ys H->H d=some (.frz od (.dK kvs))/\ys.length<sizeLine)
 (hs:∀ i k x ys H,kvs[i]?=some (k,x)->Pv i ys H->g x z H λJ H2=>tt J H2 λb M=>if b=true then te J M λy Y=>Pv (i+1) (ys++[y]) Y else Pv (i+1) ys M) (hd:∀ ys H,Pv kvs.length ys H->∀ D,H D=none->Q (.ref D) (upd H D (.lst ys))) :
 pG (Itw d od kvs) z g tt te Q H:=by
 refine⟨λi m ys H=>m=kvs.length - i/\i<=kvs.length/\Pv i ys H,⟨kvs.length,by simp,gr _,h0⟩,?_⟩;rintro i m ys H ⟨rfl,hi,p⟩;obtain⟨q,hz⟩:=U i ys H hi p;refine⟨hz,?_⟩
 by_cases L:i<kvs.length
 .refine .inr ⟨⟨q,L⟩,Pv (i+1),λaw H' p'=>⟨kvs.length - (i+1),by lia,rfl,L,p'⟩,λx H' y=>?_⟩;obtain⟨rfl,k,hx⟩:=y;exact hs i k x ys _ hx p
 .have e:i=kvs.length:=by lia
  subst e;exact .inl ⟨⟨q,ah _⟩,hd ys H p⟩
def K4 (A:Around) (s:Shared) (a:Int) (t:Tok) (c:Int) (u:Tok) (prog:Program) (w:World) (E:Value->Shared->Prop) (Q:Value->Shared->Prop) (h:Q (.bool (decide (c<a))) s) :
 wpAny (model prog w) A (richCompare .Gt (.int a t) (.int c u)) Q E s :=
 (PyProof.Rows.gt_int h:wpAny (model prog w) A (compareOp .Gt (.int a t) (.int c u)) Q E s)
section
open PySem.SeqAt
open PySem.AutoSeq1 (wpAny_loadPart')
open PySem.MeetsSeq PySem.MeetsSeq2 PySem.MeetsSeq3
def aDH (l b:Addr) (p q:Int×Int) (k1 k2 m1 m2:Tok) (n n2:Nat) (dd aw:Option Addr) (sl ax:Array (Option Value)) :
 Meets (Builtin.«tuple.__gt__» ⟨[.ref l,.ref b],[]⟩)
  (λ_ R s=>s.heap.get? l=some { cls:=.type "tuple",dict:=dd,data:=.seq #[.int p.1 k1,.int p.2 k2] n,slots:=sl }/\s.heap.get? b=some { cls:=.type "tuple",dict:=aw,data:=.seq #[.int q.1 m1,.int q.2 m2] n2,slots:=ax } /\
   R (.ok (.ret (.bool (plt q p)))) s) :=
 .of_wp λprog w A R s h=>by
  obtain⟨hp,g,d,tk,os⟩:=s;obtain⟨hl,hb,h⟩:=h;have f2:=AutoSeq1.sub_tuple_tuple
  wp_walk using px hl,px hb,wpAny_forIn_list _ (λrest b s'=>b.1=none/\s'=⟨hp,g,d,tk,os⟩/\(rest=[(Value.int p.1 k1,Value.int q.1 m1),(Value.int p.2 k2,Value.int q.2 m2)] \/
   (p.1=q.1/\rest=[(Value.int p.2 k2,Value.int q.2 m2)])\/(p.1=q.1/\p.2=q.2/\rest=[]))) _
  case turn =>
   rintro ⟨y,x⟩ rest b s' ⟨M,rfl,hc⟩;rcases hc with L | ⟨e1,L⟩ | ⟨_,_,L⟩
   .injection L with U hrest
    injection U with hy hx
    subst hy hx;obtain⟨e,he,J⟩:=HT.eqAt_int A.in1 ⟨hp,g,d,tk,os⟩ p.1 k1 q.1 m1;refine aGT (he prog w _ _ ?_);cases e with
    | true =>
     wp_walk
     exact⟨rfl,rfl,.inr (.inl ⟨J.mp rfl,hrest⟩)⟩
    | false =>
     have ay:p.1≠q.1:=λz=>absurd (J.mpr z) aG8;have Y:=K4 A.in1 ⟨hp,g,d,tk,os⟩ p.1 k1 q.1 m1 prog w;have ev:plt q p=decide (q.1<p.1):=by rw[iw,gM];simp;lia
     rw[ev]at h
     wp_walk using Y
     exact⟨_,rfl,by simpa using h⟩
   .injection L with U hrest
    injection U with hy hx
    subst hy hx;obtain⟨e,he,J⟩:=HT.eqAt_int A.in1 ⟨hp,g,d,tk,os⟩ p.2 k2 q.2 m2;refine aGT (he prog w _ _ ?_);cases e with
    | true =>
     wp_walk
     exact⟨rfl,rfl,.inr (.inr ⟨e1,J.mp rfl,hrest⟩)⟩
    | false =>
     have ay:p.2≠q.2:=λz=>absurd (J.mpr z) aG8;have Y:=K4 A.in1 ⟨hp,g,d,tk,os⟩ p.2 k2 q.2 m2 prog w;have ev:plt q p=decide (q.2<p.2):=by rw[iw,gM];simp;lia
     rw[ev]at h
     wp_walk using Y
     exact⟨_,rfl,by simpa using h⟩
   .cases L
  case fin =>
   rintro ⟨b1,b2⟩ s' ⟨M,rfl,hc⟩;simp only at M;subst M;rcases hc with L | ⟨_,L⟩ | ⟨e1,e2,_⟩
   .cases L
   .cases L
   have ev:plt q p=false:=by rw[gN];lia
   rw[ev]at h
   wp_walk
   exact⟨_,rfl,by simpa[Builtin.Tuple.tupleCompareSizes]using h⟩
  case h=>exact⟨rfl,rfl,.inl rfl⟩
end
section
variable {prog:Program} {w:World} {A:Around} {E:Value->Shared->Prop} {s:Shared}
def aBX {x y:Value} {p q:Int×Int} {Q:Value->Shared->Prop} (hx:PairV s.heap x p) (hy:PairV s.heap y q) (hu:A.units<cLine) (h:Q (.bool (plt q p)) s):wpAny (model prog w) A (richCompare .Gt x y) Q E s:=by
 obtain⟨t,⟨cls,dd,data,sl⟩,n,k1,k2,rfl,Y,hc,hd⟩:=hx;obtain⟨t',⟨aw,M,data2,U⟩,n2,m1,m2,rfl,z,J,L⟩:=hy;simp only at hc hd J L;subst hc hd J L;exact richCompare_meets_room (op:=.Gt) ⟨_,Y,rfl⟩ ⟨_,z,rfl⟩ PySem.F.slot_tuple_gt PySem.F.entry_tuple_gt (PySem.F.args_tuple_gt_2 _ _) (aDH t t' p q k1 k2 m1 m2 n n2 dd M sl U)
  ⟨Y,z,show Value.bool (plt q p)≠Value.notImplemented/\Q (.bool (plt q p)) s from ⟨(λx=>nomatch x),h⟩⟩ hu
end
def Top (ps:List (Int×Int)) (i:Nat) (j:Nat):Prop:=j<i/\∀ k,k<i->plt (ps.getD j (0,0)) (ps.getD k (0,0))=false
def Top.keep {ps:List (Int×Int)} {i j:Nat} (h:Top ps i j) (g:plt (ps.getD j (0,0)) (ps.getD i (0,0))=false):Top ps (i+1) j:=⟨jg h.1,λk z=>by
 by_cases e:k=i
 .rw[e];exact g
 .exact h.2 k (by lia)⟩
def Top.take {ps:List (Int×Int)} {i j:Nat} (h:Top ps i j) (g:plt (ps.getD j (0,0)) (ps.getD i (0,0))=true):Top ps (i+1) i:=⟨il i,λk z=>by
 by_cases e:k=i
 .rw[e,gN];lia
 .have h1:=h.2 k (by lia);rw[gN]at h1 ⊢;rw[gM]at g
  lia⟩
abbrev aEQ (v:Value) (c:Nat):Obj:={ cls:=.type "list",dict:=none,data:=.seq #[v,v] c,slots:=#[] }
section
variable {prog:Program} {w:World} {A:Around} {R:Result->Shared->Prop} {l it S:Addr} {its:List Value} {ps:List (Int×Int)}
def PairV.at {h h':Heap} {v:Value} {p:Int×Int} (x:PairV h v p) (k:∀ t o,v=.ref t->h.get? t=some o->o.cls=.type "tuple"->h'.get? t=some o):PairV h' v p:=by
 obtain⟨t,o,n,k1,k2,e,J,z,hd⟩:=x;exact⟨t,o,n,k1,k2,e,k t o e J z,z,hd⟩
def aDI (hh:A.handled=none) (hu:A.in1.units<cLine) (az:l≠it) (M:it≠S) (a_:l≠S) :
 ∀ (k i:Nat) (s:Shared) (j:Nat) (c:Nat),its.length - i=k->i<=its.length->Top ps i j->s.heap.IsListIter it l i->s.heap.IsList l its.toArray->s.heap.get? S=some (aEQ (its.getD j .none) c)->Paired (PairV s.heap) its ps ->
  (∀ h' tk j',(∀ x o,x≠it->x≠S->s.heap.get? x=some o->h'.get? x=some o)->Top ps its.length j'->R (.ok (.ret (its.getD j' .none))) { s with heap:=h',toks:=tk }) ->
  codeAny (model prog w) A (.builtin "max.loop" ⟨[.ref it,.none,.ref S],[]⟩) R s:=by
 have nm:(toString "max"++toString ".loop":String)="max.loop":=by decide
 intro k
 induction k with
 | zero =>
  intro i s j c hk hi ht st hl hS hP hR;have e:i=its.length:=by lia
  refine jr iu (by
   rw[aG7 gh _];show wpAny _ A.in1 (seqItems? (Value.ref S) >>= _) _ _ s;refine aGT (la hS rfl ?_);show wpAny _ A.in1 (tryCatch (pyNext (Value.ref it)) _ >>= _) _ _ s;refine aGT (jq (ln hh st hl (by simp;lia) λh' eb=>?_));have J:=eb S _ (gi M) hS;show wpAny _ A.in1 (updateSeq S (λ_=>#[]) >>= _) _ _ { s with heap:=h' };refine aGT (ls J rfl (aGT (mr (aGU ?_))));exact hR (h'.update S (Obj.mapSeq λ_=>#[])) s.toks j (λx o h1 h2 e=>(aG0 _ _ (gi h2)).trans (eb x o h1 e)) (e ▸ ht))
 | succ k ih =>
  intro i s j c hk hi ht st hl hS hP hR;have L:i<its.length:=by lia
  have ba:j<its.length:=uw ht.1 L;have hx:its[i]?=some (its.getD i .none):=by simp[ic,L]
  refine jr iu (by
   rw[aG7 gh _];show wpAny _ A.in1 (seqItems? (Value.ref S) >>= _) _ _ s;refine aGT (la hS rfl ?_);show wpAny _ A.in1 (tryCatch (pyNext (Value.ref it)) _ >>= _) _ _ s;refine aGT (jq (ju st hl (x:=its.getD i .none) (by simpa using hx) λh' aw sb=>?_));have J:=sb.extBut S _ (gi M) hS;have ax:=hl.extBut sb.extBut az;have ay:∀ t o,s.heap.get? t=some o->o.cls=.type "tuple"->t≠it:=λt o e c z=>by
    obtain⟨o',e',c',_⟩:=st;rw[z,e']at e;cases e;rw[c']at c;exact absurd c (by simp)
   have bb:∀ t o,s.heap.get? t=some o->o.cls=.type "tuple"->t≠S:=λt o e c z=>by
    rw[z,hS]at e;cases e;exact absurd c (by simp)
   have U:Paired (PairV h') its ps:=Paired.mapP hP λv p x=>x.at λt o _ e c=>sb.extBut t o (ay t o e c) e;have pi:PairV h' (its.getD i .none) (ps.getD i (0,0)):=eE U L;have pj:PairV h' (its.getD j .none) (ps.getD j (0,0)):=eE U ba;show wpAny _ A.in1 (tryCatch (holding [its.getD i .none,its.getD i .none] (richCompare .Gt (its.getD i .none) (its.getD j .none) >>= _)) _ >>= _) _ _ { s with heap:=h' };refine aGT (jq (fy (aGT (aBX (s:={ s with heap:=h' }) pi pj hu ?_))));refine aGT (fy (jd (aGT (mr (aGU ?_)))));cases hb:plt (ps.getD j (0,0)) (ps.getD i (0,0))with
   | true =>
    simp only[qh];refine aGT (ls J rfl (aGT (mr ?_)));rw[nm];obtain⟨c',e1⟩:∃ c',(h'.update S (Obj.mapSeq λ_=>#[its.getD i .none,its.getD i .none])).get? S=some (aEQ (its.getD i .none) c'):=⟨_,aGd _ J rfl⟩;refine aGU ⟨ku gh _,ih (i+1) { s with heap:=h'.update S (Obj.mapSeq λ_=>#[its.getD i .none,its.getD i .none]) } i _ (by lia) L (ht.take hb) (aw.at λo e=>(aG0 _ _ (gi M)).trans e) (ax.at λo e=>(aG0 _ _ (gi a_)).trans e) e1 (Paired.mapP hP λv p x=>x.at λt o _ e c=>(aG0 _ _ (gi (bb t o e c))).trans (sb.extBut t o (ay t o e c) e)) λY tk t' kp=>?_⟩;exact hR Y tk t' (λx o h1 h2 e=>kp x o h1 h2 ((aG0 _ _ (gi h2)).trans (sb.extBut x o h1 e)))
   | false =>
    simp only[ir,mi];refine aGT (mr ?_);rw[nm];refine aGU ⟨ku gh _,ih (i+1) { s with heap:=h' } j c (by lia) L (ht.keep hb) aw ax J U λY tk t' kp=>?_⟩;exact hR Y tk t' (λx o h1 h2 e=>kp x o h1 h2 (sb.extBut x o h1 e)))
def aBY (hh:A.handled=none) (hu:A.in1.units<cLine) (L:l≠it) (J:it≠S) (M:l≠S) {s:Shared} {c:Nat} (h0:0<its.length) (st:s.heap.IsListIter it l 0) (hl:s.heap.IsList l its.toArray)
 (hS:s.heap.get? S=some { cls:=.type "list",dict:=none,data:=.seq #[] c,slots:=#[] }) (hP:Paired (PairV s.heap) its ps)
 (hR:∀ h' tk j',(∀ x o,x≠it->x≠S->s.heap.get? x=some o->h'.get? x=some o)->Top ps its.length j'->R (.ok (.ret (its.getD j' .none))) { s with heap:=h',toks:=tk }) :
 codeAny (model prog w) A (.builtin "max.loop" ⟨[.ref it,.none,.ref S],[]⟩) R s:=by
 have nm:(toString "max"++toString ".loop":String)="max.loop":=by decide
 have hx:its[0]?=some (its.getD 0 .none):=by simp[ic,h0]
 refine jr iu (by
  rw[aG7 gh _];show wpAny _ A.in1 (seqItems? (Value.ref S) >>= _) _ _ s;refine aGT (la hS rfl ?_);show wpAny _ A.in1 (tryCatch (pyNext (Value.ref it)) _ >>= _) _ _ s;refine aGT (jq (ju st hl (x:=its.getD 0 .none) (by simpa using hx) λh' aw Y=>?_));have U:=Y.extBut S _ (gi J) hS;have ax:=hl.extBut Y.extBut L;have ay:∀ t o,s.heap.get? t=some o->o.cls=.type "tuple"->t≠it:=λt o e c z=>by
   obtain⟨o',e',c',_⟩:=st;rw[z,e']at e;cases e;rw[c']at c;exact absurd c (by simp)
  have az:∀ t o,s.heap.get? t=some o->o.cls=.type "tuple"->t≠S:=λt o e c z=>by
   rw[z,hS]at e;cases e;exact absurd c (by simp)
  show wpAny _ A.in1 (updateSeq S (λ_=>#[its.getD 0 .none,its.getD 0 .none]) >>= _) _ _ { s with heap:=h' };refine aGT (ls U rfl ?_);rw[nm];obtain⟨c',e1⟩:∃ c',(h'.update S (Obj.mapSeq λ_=>#[its.getD 0 .none,its.getD 0 .none])).get? S=some (aEQ (its.getD 0 .none) c'):=⟨_,aGd _ U rfl⟩;have t1:Top ps 1 0:=⟨by decide,λk hk=>by
   have e:k=0:=by lia
   rw[e,gN];lia⟩
  refine aGU ⟨ku gh _,aDI (ps:=ps) (its:=its) hh hu L J M _ 1 { s with heap:=h'.update S (Obj.mapSeq λ_=>#[its.getD 0 .none,its.getD 0 .none]) } 0 _ rfl h0 t1 (aw.at λo e=>(aG0 _ _ (gi J)).trans e) (ax.at λo e=>(aG0 _ _ (gi M)).trans e) e1 (Paired.mapP hP λv p x=>x.at λt o _ e c=>(aG0 _ _ (gi (az t o e c))).trans (Y.extBut t o (ay t o e c) e)) λa_ tk t' kp=>?_⟩;exact hR a_ tk t' (λx o h1 h2 e=>kp x o h1 h2 ((aG0 _ _ (gi h2)).trans (Y.extBut x o h1 e))))
def y1 (a:Value):argsOk "max" ⟨[a],[]⟩:=by unfold argsOk;kernel_rfl
def S7 {E:Value->Shared->Prop} {s:Shared} {Q:Value->Shared->Prop} (hh:A.handled=none) (hu:A.in1.in1.units<cLine) (hl:s.heap.IsList l its.toArray) (h0:0<its.length) (hP:Paired (PairV s.heap) its ps)
 (h:∀ h' tk j,(∀ x o,s.heap.get? x=some o->h'.get? x=some o)->Top ps its.length j->Q (its.getD j .none) { s with heap:=h',toks:=tk }):wpAny (model prog w) A (call (.builtin "max") [.ref l]) Q E s:=by
 have nm:(toString "max"++toString ".loop":String)="max.loop":=by decide
 refine kmk_tree PySem.F.kind_max PySem.F.plain_max PySem.F.entry_max (y1 _) (by
  show wpAny _ A.in1 (Builtin.Builtins.bindParams "max" ["key","default"] 0 ⟨[],[]⟩ >>= _) _ _ s;refine aGT (wpAny_of_eq (show Builtin.Builtins.bindParams "max" ["key","default"] 0 ⟨[],[]⟩=pure [none,none] from rfl) (aGT (aGU ?_)));refine aGT (ly hl ?_);refine aGT (jf ?_);rw[nm];have hlt:l<s.heap.objs.size:=by obtain⟨_,e,_⟩:=hl;exact aG1 e
  refine aGU ⟨ku gh _,aBY (l:=l) (it:=s.heap.objs.size) (its:=its) (ps:=ps) hh (by first | exact hu | (simp at hu ⊢;lia)) (aGi hlt) (by rw[im];exact aGi (il _)) (by rw[im];exact aGi (jg hlt)) h0 ⟨_,aGW _ (aG2 _ rfl),rfl,rfl⟩ ((hl.push _).push _) (aG2 _ rfl) (Paired.mapP hP λv p x=>x.at λt o _ e _=>aGW _ (aGW _ e)) λh' tk j kp ht=>?_⟩;refine h h' tk j (λx o e=>?_) ht;have hx:=aG1 e;exact kp x o (aGi hx) (by rw[im];exact aGi (jg hx)) (aGW _ (aGW _ e)))
end
section
variable {X:Cx} {pins:List (Addr×Obj)} {σ:St} {H:Hp} {s:Shared}
def aBZ (I:Inv X pins σ H s):∀ {z:List V} {its:List Value} {ps:List (Int×Int)},Vals z its->CW.Prs H z ps->Paired (PairV s.heap) its ps:=by
 intro z
 induction z with
 | nil=>intro its ps r p;cases r;cases p;exact .nil
 | cons x xs L =>
  intro its ps r p;cases r with
  | cons r1 r2 =>
   cases p with
   | cons p1 p2 =>
    refine .cons ?_ (L r2 p2);obtain⟨t,e,M⟩:=p1;subst e;cases r1;obtain⟨_,its',J,o,U,Y,n,hd⟩:=(show ObjOk X.prog X.w H s.heap t (.tup [.int _,.int _]) from I.hok t _ M);obtain⟨u1,u2,rfl,⟨k1,rfl⟩,⟨k2,rfl⟩⟩:=J.two;exact⟨t,o,n,k1,k2,rfl,U,Y,hd⟩
inductive i3 (xs:List V) (H:Hp) (Q:VK):Prop
 | mk (a:Addr) (us:List V) (ps:List (Int×Int)) (h0_:xs=[.ref a]) (h1_:H a=some (.lst us)) (h2_:CW.Prs H us ps) (h3_:us≠[]) (h4_:∀ j x,Top ps ps.length j->us[j]?=some x->Q x H):i3 xs H Q
def y2 (hc:X.calm=true) (hu:X.A.units+64<cLine):eK X (.builtin "max") i3:=by
 intro pins s σ H xs us Q I r h;obtain⟨a,z,ps,rfl,ha,Y,J,q⟩:=h;obtain⟨u,rfl,rx⟩:=hJ r;cases rx;obtain⟨its,L,pl,hz⟩:=I.list (SqL.of ha);have l1:z.length=ps.length:=lw Y;have M:z.length=its.length:=L.length;have h0:0<its.length:=by rw[<- M];exact List.length_pos_iff.mpr J
 refine S7 (I.ok.hd hc) (by simp only[Around.in1_units];lia) pl.isList h0 (aBZ I L Y) λh' tk j kp ht=>?_;have hj:j<z.length:=by rw[M];exact ht.1
 have hx:z[j]?=some z[j]:=aG5 hj;obtain⟨v,hv,U⟩:=L.get hx;refine⟨z[j],H,I.kept kp,?_,q j z[j] (by rw[<- l1,M];exact ht) hx⟩;rw[ic,hv];exact U
end
def y3 {X:Cx} {a:Expr} {ta:TE} (z:PE X a ta) (he:∀ whole,isTrue a X.env whole=(do let v <- whole;standAt a.pos;holding [v] (truthy v))) :
 PT X a (fun σ H Q=>ta σ H λx H'=>∃ d kvs,x=.ref d/\H' d=some (.dK kvs)/\Q (!kvs.isEmpty) H'):=by
 intro pins s σ H Q I h;refine isTrue_plain (thn (z pins s σ H _ I h) λv U ⟨x,H1,J,r1,d,kvs,ex,hd,L⟩=>?_) (he _);subst ex;obtain rfl:v=Value.ref d:=r1;exact aDD J (.inl hd) λs' M=>⟨H1,M,L⟩
def yX:bootBuiltins "abs"=some (.builtin "abs"):=by decide +kernel
inductive i4 (xs:List V) (H:Hp) (Q:VK):Prop
 | mk (i:Int) (h0_:xs=[.int i]) (h1_:Q (.int (if i<0 then -i else i)) H):i4 xs H Q
def yY {X:Cx}:eK X (.builtin "abs") i4:=by
 intro pins s σ H xs us Q I r h;obtain⟨i,rfl,q⟩:=h;obtain⟨u,rfl,z⟩:=hJ r;obtain⟨t,rfl⟩:=z;exact call_abs_int λu tk=>⟨.int (if i<0 then -i else i),H,I.tok _,⟨u,rfl⟩,q⟩
def cx2 (o:Obj):Option Value:=match o.data with | .fields vs=>vs[2]? | _=>none
def DK {z:Type}:Sem z->Prop
 | .pure _=>True
 | .raise _=>True
 | .unsupported _=>True
 | .finish _=>True
 | .rule _ k=>∀ u,DK (k u)
 | .at _ k=>∀ u,DK (k u)
 | .load _ _ k=>∀ o,DK (k o)
 | .update _ _ f k=>(∀ o,(f o).dict=o.dict/\((f o).cls=o.cls/\cx2 (f o)=cx2 o)/\(o.isFreed=false->(f o).isFreed=false))/\∀ u,DK (k u)
 | .alloc _ k=>∀ a,DK (k a)
 | .loadIfAlive _ k=>∀ o,DK (k o)
 | .point _ k=>∀ u,DK (k u)
 | .register _ _=>True
 | .fresh k=>∀ t,DK (k t)
 | .ask k=>∀ x,DK (k x)
 | .choose _ _ k=>∀ n,DK (k n)
 | .os _ _ _=>False
 | .call _ _ _ _ _=>False
 | .handled _ k=>∀ h,DK (k h)
 | .newGen _ _=>False
 | .genState _ k=>∀ g,DK (k g)
 | .resume _ _ _ _=>False
 | .yield _ _ _ _=>False
 | .stack k=>∀ l,DK (k l)
 | .fork _ _=>False
 | .thread k=>∀ n,DK (k n)
 | .await _ _ _ _ _=>False
def DK.bind {M U:Type} {f:M->Sem U}:∀ {t:Sem M},DK t->(∀ a,DK (f a))->DK (t.bind f):=by
 intro t
 induction t with
 | pure a=>intro _ J;exact J a
 | raise e=>intro _ _;trivial
 | unsupported w=>intro _ _;trivial
 | finish e=>intro _ _;trivial
 | rule Y k z=>intro h J u;exact z u (h u) J
 | «at» pos k z=>intro h J u;exact z u (h u) J
 | load a part k z=>intro h J o;exact z o (h o) J
 | update a part g k z=>intro h J;exact⟨h.1,λu=>z u (h.2 u) J⟩
 | alloc o k z=>intro h J a;exact z a (h a) J
 | loadIfAlive a k z=>intro h J o;exact z o (h o) J
 | point live k z=>intro h J u;exact z u (h u) J
 | register a k z=>intro _ _;trivial
 | fresh k z=>intro h J t;exact z t (h t) J
 | ask k z=>intro h J x;exact z x (h x) J
 | choose src n k z=>intro h J x;exact z x (h x) J
 | os aw live k z=>intro h _;exact h.elim
 | call c hd gd live k z=>intro h _;exact h.elim
 | handled own k z=>intro h J x;exact z x (h x) J
 | newGen c k z=>intro h _;exact h.elim
 | genState g k z=>intro h J x;exact z x (h x) J
 | resume g r live k z=>intro h _;exact h.elim
 | yield v gd live k z=>intro h _;exact h.elim
 | stack k z=>intro h J x;exact z x (h x) J
 | fork c k z=>intro h _;exact h.elim
 | thread k z=>intro h J x;exact z x (h x) J
 | await a take L live k z=>intro h _;exact h.elim
def HD (h0 h:Heap):Prop:=∀ b o,h0.get? b=some o->∃ o',h.get? b=some o'/\o'.dict=o.dict/\o'.cls=o.cls/\cx2 o'=cx2 o
def HD.refl (h:Heap):HD h h:=λb o e=>⟨o,e,rfl,rfl,rfl⟩
def HD.trans {a b c:Heap} (x:HD a b) (y:HD b c):HD a c:=λd o e=>by
 obtain⟨z,J,L,c1⟩:=x d o e;obtain⟨M,U,Y,c2⟩:=y d z J;exact⟨M,U,Y.trans L,c2.1.trans c1.1,c2.2.trans c1.2⟩
def HD.kept {h h':Heap} (k:∀ b o,h.get? b=some o->h'.get? b=some o):HD h h':=λb o e=>⟨o,k b o e,rfl,rfl,rfl⟩
inductive Ended (H:Hp) (h:Heap):Addr->Prop
 | one {e:Addr} {o:Obj} (hn:H e=none) (he:h.get? e=some o) (hc:cx2 o=some .none):Ended H h e
 | more {e d:Addr} {o:Obj} (hn:H e=none) (he:h.get? e=some o) (hc:cx2 o=some (.ref d)) (hd:Ended H h d):Ended H h e
def Ended.hd {H:Hp} {h h':Heap} (k:HD h h') {e:Addr} (x:Ended H h e):Ended H h' e:=by
 induction x with
 | one z he J =>
  obtain⟨o',L,_,_,c⟩:=k _ _ he;exact .one z L (c.trans J)
 | more z he J _ M =>
  obtain⟨o',L,_,_,c⟩:=k _ _ he;exact .more z L (c.trans J) M
def Ended.to {H H':Hp} {h h':Heap} (k:∀ b o v,H b=none->h.get? b=some o->cx2 o=some v->H' b=none/\h'.get? b=some o) {e:Addr} (x:Ended H h e):Ended H' h' e:=by
 induction x with
 | one J he z=>exact .one (k _ _ _ J he z).1 (k _ _ _ J he z).2 z
 | more J he z _ L=>exact .more (k _ _ _ J he z).1 (k _ _ _ J he z).2 z L
def S8 {h:Heap} {a:Addr} {o:Obj} (e:h.get? a=some o):o.isFreed=false:=(Heap.get?_some_iff.mp e).2
def HD.update {h:Heap} {a:Addr} {f:Obj->Obj} (z:∀ o,(f o).dict=o.dict/\((f o).cls=o.cls/\cx2 (f o)=cx2 o)/\(o.isFreed=false->(f o).isFreed=false)):HD h (h.update a f):=λb o e=>by
 by_cases q:b=a
 .subst q;exact⟨f o,aGd f e ((z o).2.2 (S8 e)),(z o).1,(z o).2.1⟩
 .exact⟨o,(kx _ _ _ _ q).trans e,rfl,rfl,rfl⟩
def aFS {L:Type} {M:Model} {U:PySem.Ctx} {h0:Heap}:∀ (t:Sem L),DK t->∀ {Q:L->Pos->Shared->Prop} {E:Value->Pos->Shared->Prop} {p:Pos} {s:Shared},HD h0 s.heap->Sem.wp M U t Q E p s ->
 Sem.wp M U t (λa p s'=>Q a p s'/\HD h0 s'.heap) (λe p s'=>E e p s'/\HD h0 s'.heap) p s:=by
 intro t
 induction t with
 | pure a=>intro _ Q E p s hd h;exact⟨h,hd⟩
 | raise e=>intro _ Q E p s hd h;exact⟨h,hd⟩
 | unsupported w=>intro _ Q E p s hd h;exact h
 | finish e=>intro _ Q E p s hd h;exact h
 | rule Y k z=>intro d Q E p s hd h;exact z () (d ()) hd h
 | «at» pos k z=>intro d Q E p s hd h;exact z () (d ()) hd h
 | load a part k z=>intro d Q E p s hd h;obtain⟨o,e,h⟩:=h;exact⟨o,e,z o (d o) hd h⟩
 | update a part g k z=>intro d Q E p s hd h;exact⟨h.1,z () (d.2 ()) (s:={ s with heap:=s.heap.update a g }) (hd.trans (HD.update d.1)) h.2⟩
 | alloc o k z=>intro d Q E p s hd h;exact z _ (d _) (s:={ s with heap:=s.heap.push o }) (hd.trans (HD.kept λb o e=>aGW _ e)) h
 | loadIfAlive a k z=>intro d Q E p s hd h;exact z _ (d _) hd h
 | point live k z=>intro d Q E p s hd h;exact z () (d ()) hd h
 | register a k z=>intro _ Q E p s hd h;exact h
 | fresh k z=>intro d Q E p s hd h;exact z _ (d _) (s:={ s with toks:=s.toks+1 }) hd h
 | ask k z=>intro d Q E p s hd h;exact z _ (d _) hd h
 | choose src n k z=>intro d Q E p s hd h;exact⟨h.1,z _ (d _) (s:={ s with drawn:=s.drawn.bump src }) hd h.2⟩
 | os aw live k z=>intro d;exact d.elim
 | call c hd gd live k z=>intro d;exact d.elim
 | handled own k z=>intro d Q E p s hd h;exact z _ (d _) hd h
 | newGen c k z=>intro d;exact d.elim
 | genState g k z=>intro d Q E p s hd h;obtain⟨st,e,h⟩:=h;exact⟨st,e,z _ (d _) hd h⟩
 | resume g r live k z=>intro d;exact d.elim
 | yield v gd live k z=>intro d;exact d.elim
 | stack k z=>intro d Q E p s hd h;exact z _ (d _) hd h
 | fork c k z=>intro d;exact d.elim
 | thread k z=>intro d Q E p s hd h;exact z _ (d _) hd h
 | await a take J live k z=>intro d;exact d.elim
def dS {z:Type} {M:Model} {A:Around} {t:Sem z} {Q:z->Shared->Prop} {E:Value->Shared->Prop} {s:Shared} (d:DK t) (h:wpAny M A t Q E s) :
 wpAny M A t (λa s'=>Q a s'/\HD s.heap s'.heap) (λe s'=>E e s'/\HD s.heap s'.heap) s:=λJ p hΓ=>aFS t d (HD.refl _) (h J p hΓ)
def K5 (v:Value):DK (fieldsOf v):=by
 unfold fieldsOf;split
 .intro o;show DK (match o.data with | .fields vs=>pure vs | _=>unsupported _);split <;> trivial
 .trivial
def pR (v:Value) (i:Nat):DK (field v i):=DK.bind (K5 v) λvs=>by
 split <;> trivial
def A4 {i:Nat} {x:Value} (hi:i≠2) (o:Obj):(Obj.mapFields (·.setIfInBounds i x) o).dict=o.dict/\((Obj.mapFields (·.setIfInBounds i x) o).cls=o.cls/\cx2 (Obj.mapFields (·.setIfInBounds i x) o)=cx2 o)/\(o.isFreed=false->(Obj.mapFields (·.setIfInBounds i x) o).isFreed=false):=by
 obtain⟨c,d,data,z⟩:=o;cases data
 case fields vs=>exact⟨rfl,⟨rfl,Array.getElem?_setIfInBounds_ne hi⟩,λ_=>rfl⟩
 all_goals exact⟨rfl,⟨rfl,rfl⟩,λh=>h⟩
def lL (v:Value) (i:Nat) (x:Value) (hi:i≠2:=by decide):DK (setField v i x):=by
 unfold setField;split
 .unfold updateField;intro o;show DK (match o.data with | .fields vs=>if i<vs.size then update _ (Obj.mapFields (·.setIfInBounds i x))else unsupported _ | _=>unsupported _);split
  .split
   .exact⟨A4 hi,λ_=>trivial⟩
   .trivial
  .trivial
 .trivial
def dN (e:Value) (f:Option Addr):DK (setFlight e f):=DK.bind (pR e 1) λtb=>by
 split
 .exact lL _ _ _
 .trivial
def lM:∀ l:List Env,DK (readyFrames l)
 | []=>trivial
 | env :: outer=>by
  unfold readyFrames;split
  .intro o;show DK (if ((o.slots.getD 3 none).isSome)=true then _ else _);split
   .trivial
   .refine DK.bind ?_ λimp=>DK.bind ?_ λback=>⟨λo=>⟨rfl,⟨rfl,rfl⟩,λh=>(by obtain⟨c,d,z,J⟩:=o;cases z <;> first | rfl | exact h)⟩,λ_=>lM outer⟩
    .unfold behindIsImport;split
     .trivial
     .split
      .trivial
      .exact DK.bind (pR _ _) λ_=>trivial
    .cases outer with
     | nil =>
      show DK (if (env.scope.isGenerator || env.scope.isCoroutine)=true then pure Value.none else underTheClaimsCaller >>= _);split
      .trivial
      .refine DK.bind ?_ λ_=>trivial;unfold underTheClaimsCaller;intro l
       first | trivial | (dsimp only;first | trivial | (split <;> trivial))
     | cons c r=>trivial
  .trivial
def S9 (env:Env):DK (PySem.frameOf env):=by
 unfold PySem.frameOf;refine DK.bind (t:=frameEnvs) (λl=>trivial) λl=>DK.bind ?_ λf=>?_
 .generalize l.dropWhile (·.frame != env.frame)=r;cases r with
  | nil=>trivial
  | cons e r=>exact DK.bind (lM _) λ_=>trivial
 .split <;> trivial
def fL (e:Value) (env:Env):DK (noteFrame e env):=by
 unfold noteFrame;split
 .refine DK.bind (pR _ _) λhead=>?_;have fin:∀ f,DK (do setField e 1 (<- EntryCells.newEntry head (<- PySem.frameOf env) .none (rawInt f) .none (<- entryPlaceOf f (head != .none)))):=λf=>by
   refine DK.bind (S9 env) λfr=>DK.bind ?_ λpl=>DK.bind ?_ λJ=>lL _ _ _
   .unfold entryPlaceOf;intro l;refine DK.bind (t:=Sem.pure l) trivial λz=>?_;split <;> trivial
   .unfold EntryCells.newEntry newFields newObj
    first | (intro a;trivial) | (split <;> (first | trivial | (intro a;trivial))) | (repeat' (first | trivial | split | intro))
  split
  .refine DK.bind (pR _ _) λx=>?_;split
   .trivial
   .exact DK.bind (lL _ _ _) λ_=>fin _
  .exact fin _
 .trivial
def vL (env:Env) (e:Value):DK (leaving env e):=DK.bind (fL e env) λ_=>dN e none
def ObjOk.there {P:Program} {w:World} {H:Hp} {h:Heap} {a:Addr} {u:HO} (x:ObjOk P w H h a u):∃ o,h.get? a=some o:=by
 cases u with
 | lst xs=>obtain⟨_,_,_,_,e⟩:=x;exact⟨_,e⟩
 | tup xs=>obtain⟨_,_,_,o,e,_⟩:=x;exact⟨_,e⟩
 | dK kvs=>obtain⟨_,_,_,_,o,_,_,e,_⟩:=x;exact⟨_,e⟩
 | dT kvs=>obtain⟨_,_,_,_,o,_,_,e,_⟩:=x;exact⟨_,e⟩
 | set S n=>obtain⟨o,_,_,_,e,_⟩:=x;exact⟨_,e⟩
 | ins C dx fs=>obtain⟨_,_,_,e,_⟩:=x;exact⟨_,e⟩
 | own y=>exact x
 | xd fs=>obtain⟨_,⟨_,_,_,e,_⟩,_⟩:=x;exact⟨_,e⟩
 | rng lo hi=>obtain⟨_,_,_,e⟩:=x;exact⟨_,e⟩
 | frz z u=>obtain⟨e,_⟩:=x;exact⟨_,e⟩
 | tbl ps=>exact⟨_,show h.get? a=some _ from x⟩
 | met f y=>exact⟨_,show h.get? a=some _ from x⟩
 | ext φ=>obtain⟨_,e,_⟩:=x;exact e
def CXR (P:Program) (w:World):CXT:=λouter H s E z s'=>∃ (e:Addr) (cls a0:Value) (H':Hp) (B:Heap) (oe:Obj),z=.ref e/\s'.os=s.os/\AllBare s'.gens/\Un (frs outer) [] H H' s.heap s'.heap/\HOk P w H' s'.heap/\H' e=none /\
 (s'.heap.get? e=some oe/\Ended H' s'.heap e)/\Heap.FlyingW B outer e cls a0 s'.heap/\(∀ b u,H' b=some u->∃ o,B.get? b=some o)/\(∀ b o,s.heap.get? b=some o->b∉frs outer->∃ o',B.get? b=some o')/\E cls oe.dict H'
section
variable {X:Cx} {pins:List (Addr×Obj)} {σ:St} {H:Hp} {s:Shared} {E:XK}
structure Body (X:Cx):Prop where
 ex:X.ex=[]
 stk:X.stack=X.env :: X.outer
 fr:X.env.frame=some X.env.locals
def Body.mem (b:Body X) {c:Addr}:c∈frs X.stack↔c=X.env.locals\/c∈X.fs:=by
 rw[b.stk];unfold frs;rw[mn,b.fr,aGx];rfl
def A5 (Bd:Body X) (I:Inv X pins σ H s) {B:Heap} {e:Addr} {cls a0:Value} {oe:Obj} {h':Heap} (he:s.heap.get? e=some oe) (ay:H e=none) (st:B.StaysIn s.heap) (cov:∀ b u,H b=some u->∃ o,B.get? b=some o)
 (olds:∀ b o,X.s₀.heap.get? b=some o->b∉X.fs->∃ o',B.get? b=some o') (fl:Heap.FlyingW B X.outer e cls a0 h') (U:s.heap.UpToSlots h') (hd:HD s.heap h') (az:Ended H s.heap e) (q:E cls oe.dict H) :
 CXR X.prog X.w X.outer X.H₀ X.s₀ E (.ref e) { s with heap:=h' }:=by
 have Y:B.StaysIn h':=fl.1;have nx:∀ b,b∉X.ex:=λb z=>by rw[Bd.ex]at z;cases z
 have bf:∀ b o,X.s₀.heap.get? b=some o->b≠X.env.locals:=λb o e=>aGi (aGc (aG1 e) I.ok.above);have same:∀ b o o',B.get? b=some o->s.heap.get? b=some o'->h'.get? b=some o':=λb o o' J M=>by
  have:=st b o J;rw[M]at this;cases this;exact Y b _ J
 have aw:∀ b∈X.fs,∀ o,s.heap.get? b=some o->∀ vs,o.data≠.fields vs:=λb L o e vs=>by
  obtain⟨_,o',ax,a_⟩:=I.funs.mem L;rw[e]at ax;cases ax;exact a_ vs
 obtain⟨ba,bb,de,ce⟩:=hd e oe he;refine⟨e,cls,a0,H,B,ba,rfl,I.os,I.bare,⟨λb o J n L _=>?_,λb o J n L _=>?_,λb o J n _=>I.base.free b o J n (nx b),λb o J _=>?_,I.base.tups,I.base.frzs,I.base.tbls⟩,λb u J=>?_,ay,⟨bb,az.hd hd⟩,fl,cov,olds,by rw[de];exact q⟩
 .obtain⟨o',eB⟩:=olds b o J L;exact same b o' o eB (I.base.keep b o J n L (nx b))
 .obtain⟨sl,M⟩:=I.base.slot b o J n L (nx b);obtain⟨bc,e3⟩:=U b _ M (aw b L _ M);exact⟨bc,e3⟩
 .by_cases L:b∈X.fs
  .obtain⟨o',M⟩:=I.base.there b o J (nx b);obtain⟨sl,e3⟩:=U b o' M (aw b L o' M);exact⟨_,e3⟩
  .obtain⟨o',eB⟩:=olds b o J L;exact⟨o',Y b o' eB⟩
 .refine(I.hok b u J).stay (λc v hc M=>?_) (λ_ z=>z) λ_ _ z=>z;have tr:∃ o,B.get? c=some o:=by
   rcases hc with z | z
   .rw[z];exact cov b u J
   .exact cov c _ z
  obtain⟨o,eB⟩:=tr;exact same c o v eB M
def K6 (Bd:Body X) (U:X.A.frames=some (X.env :: X.outer)) (I:Inv X pins σ H s) {Y:Value} {s':Shared} {E':Value->Shared->Prop} (h:CXR X.prog X.w X.stack H s E Y s') :
 wpAny (model X.prog X.w) X.A (leaving X.env Y) (λ_ J=>CXR X.prog X.w X.outer X.H₀ X.s₀ E Y J) E' s':=by
 obtain⟨e,cls,a0,H',B,oe,rfl,os,bare,un,hok,aw,⟨he,ax⟩,fl,cov,olds,q⟩:=h;have I':Inv X pins σ H' s':=I.call' os un hok bare λb z=>absurd z (by simp);have ay:Heap.FlyingW B (X.env :: X.outer) e cls a0 s'.heap:=by rw[Bd.stk]at fl;exact fl
 have w1:=wpAny_leaves_onW (M:=model X.prog X.w) (A:=X.A) (E:=λ_ _=>False) (s:=s') (Q:=λ_ J=>∃ h',J={ s' with heap:=h' }/\Heap.FlyingW B X.outer e cls a0 h'/\s'.heap.UpToSlots h') U Bd.fr ay λh' f u=>⟨h',rfl,f,u⟩;refine ew (dS (vL X.env (.ref e)) w1) (λ_ J ⟨⟨h',L,f,u⟩,hd⟩=>?_) λ_ _ z=>z.1.elim;subst L;refine A5 Bd I' he aw fl.1 cov (λb o L hb=>?_) f u hd ax q;obtain⟨o1,e2⟩:=I.base.there b o L (by rw[Bd.ex];simp);refine olds b o1 e2 λz=>?_;rcases Bd.mem.mp z with z | z
 .exact absurd (aGc (aG1 L) I.ok.above) (by rw[z];exact ie _)
 .exact hb z
def y4 (Bd:Body X) (ax:X.A.frames=some (X.env :: X.outer)) (I:Inv X pins σ H s) {e:Addr} {oe:Obj} {vs:Array Value} {a0:Value} {E':Value->Shared->Prop} (he:s.heap.get? e=some oe) (U:H e=none) (hold:∀ b o,X.s₀.heap.get? b=some o->b≠e) (hd:oe.data=.fields vs) (h1:vs[1]?=some .none) (h0:vs[0]?=some a0) (ay:Ended H s.heap e) (q:E oe.cls oe.dict H) :
 wpAny (model X.prog X.w) X.A (leaving X.env (.ref e)) (λ_ L=>CXR X.prog X.w X.outer X.H₀ X.s₀ E (.ref e) L) E' s:=by
 have az:s.heap.FunFrames X.base (X.env :: X.outer):=by have:=I.stack;rw[Bd.stk]at this;exact this
 have bc:e∉frs X.stack:=λz=>by
  obtain⟨_,o,ho,a_⟩:=I.stack.mem z;rw[he]at ho;cases ho;exact a_ vs hd
 have Y:∀ b o,s.heap.get? b=some o->b≠e->b∉frs X.stack->(PySem.W.hideAll s.heap (e :: frs X.stack)).get? b=some o:=λb o J n1 n2=>ml _ J (by simp[n1,n2]);have ba:s.heap.FunFrames (PySem.W.hideAll s.heap (e :: frs X.stack)) (X.env :: X.outer):=by
  refine ro az λenv hm a ha=>aGY _ ?_;rw[Bd.stk];exact List.mem_filterMap.mpr ⟨env,hm,ha⟩
 have aw:(PySem.W.hideAll s.heap (e :: frs X.stack)).StaysIn s.heap:=λb o J=>lg _ J;have w1:=wpAny_leaving_firstW (M:=model X.prog X.w) (A:=X.A) (E:=λ_ _=>False) (s:=s) (base:=PySem.W.hideAll s.heap (e :: frs X.stack)) (Q:=λ_ L=>∃ h',L={ s with heap:=h' }/\Heap.LeftW (PySem.W.hideAll s.heap (e :: frs X.stack)) (X.env :: X.outer) e oe.cls a0 s.heap h') ax ba Bd.fr he aw (kd _ (by simp)) hd h1 h0 λh' z=>⟨h',rfl,z⟩;refine ew (dS (vL X.env (.ref e)) w1) (λ_ L ⟨⟨h',J,k1,⟨_,_,k2⟩,k3,k4⟩,bb⟩=>?_) λ_ _ z=>z.1.elim;subst J;refine A5 Bd I he U aw (λb u J=>?_) (λb o J hb=>?_) ⟨k1,kd _ (by simp),k2,k3⟩ k4 bb ay q
 .obtain⟨o,e2⟩:=(I.hok b u J).there;refine⟨o,Y b o e2 (λz=>by rw[z,U]at J;cases J) λz=>?_⟩;rw[I.stkFree b z]at J;cases J
 .obtain⟨o',e2⟩:=I.base.there b o J (by rw[Bd.ex];simp);have lt:=aG1 J;refine⟨o',Y b o' e2 (hold b o J) λz=>?_⟩
  .rcases Bd.mem.mp z with z | z
   .rw[z]at lt;exact absurd (aGc lt I.ok.above) (ie _)
   .exact hb z
end
def dF {P:Program} {w:World} {K:PySem.W.Frag} {mg:Str->Option Value} {base:Heap} {N:List Str} {qual:Str} {scope:Scope} {f:Addr} {cd:Value} {A:Around} {outer:List Env} {s:Shared} {H:Hp} {E:XK} (z:A.frames=some outer) :
 dL (CXR P w) (gE (CXR P w) P w K mg base N qual scope f cd A outer s H E) E:=λpins σ H1 J L s' I h =>
 K6 (X:=gE (CXR P w) P w K mg base N qual scope f cd A outer s H E) ⟨rfl,rfl,rfl⟩ (ja z) I h
def FP (X:Cx) (v:Expr) (n:Nat) (t:TE):Prop:=∀ (pins:List (Addr×Obj)) (s:Shared) (σ:St) (H:Hp) (Q:Hp->Prop),Inv X pins σ H s->(t σ H λ_ H'=>Q H') ->
 wpAny (model X.prog X.w) X.A (eval v X.env) (λu s'=>∃ y tk H',u=.str y tk/\y.length<=n/\Inv X pins σ H' s'/\Q H') X.xe s
def FPs (X:Cx) (vs:List Expr) (n:Nat) (t:TA):Prop:=∀ (pins:List (Addr×Obj)) (s:Shared) (σ:St) (H:Hp) (Q:Hp->Prop) (out:Str),out.length+n<=sizeLine->Inv X pins σ H s->(t σ H λ_ H'=>Q H') ->
 wpAny (model X.prog X.w) X.A (joinParts out (evalEach vs X.env)) (λu s'=>∃ y tk H',u=.str y tk/\Inv X pins σ H' s'/\Q H') X.xe s
section
variable {X:Cx}
def cV {z:Str} {j pos} (h:z.length<=1000):FP X (.Constant (.str z) j pos) 1000 (tC (.str z)):=λpins s σ H Q I q=>by
 refine thn (aU pins s σ H (λy H'=>y=.str z/\Q H') I ⟨rfl,q⟩) λu s' ⟨v,H',J,r,e,L⟩=>?_;subst e;obtain⟨t,rfl⟩:=r;exact⟨z,t,H',rfl,h,J,L⟩
inductive K7 (Q:VK) (x:V) (H1:Hp):Prop
 | mk (i:Int) (h0_:x=.int i) (h1_:i.natAbs.log2<1920) (h2_:(toString i:Str).length<=1000) (h3_:Q x H1):K7 Q x H1
def aER (te:TE):TE:=fun σ H Q=>te σ H λx H1=>K7 Q x H1
def gF {v:Expr} {te:TE} {pos:Pos} (h:PE X v te):FP X (.FormattedValue v (-1) none pos) 1000 (aER te):=λpins s σ H Q I q=>by
 refine FormattedValue_plain (thn (h pins s σ H _ I q) λu s' ⟨x,H',J,r,z⟩=>?_);obtain⟨i,rfl,hd,L,z⟩:=z;obtain⟨t,rfl⟩:=r;exact formatField_int_small hd ⟨_,_,H',rfl,L,J.tok _,z⟩
def eN:FPs X [] 0 xL:=λpins s σ H Q out z I q=>joinParts_nil ⟨out,_,H,rfl,I.tok _,q⟩ (by lia)
def aX {v:Expr} {vs:List Expr} {n m:Nat} {te:TE} {t:TA} (h1:FP X v n te) (h2:FPs X vs m t) (he:evalEach (v :: vs) X.env=eval v X.env :: evalEach vs X.env:=by rfl):FPs X (v :: vs) (n+m) (yH te t):=λpins s σ H Q out M I q=>by
 rw[he];refine joinParts_cons (thn (h1 pins s σ H _ I q) λu s' ⟨y,tk,H',e,U,J,L⟩=>?_);subst e;have z:(out++y).length=out.length+y.length:=strLen_append _ _;exact⟨by rw[z];lia,h2 pins s' σ H' Q (out++y) (by rw[z];lia) J L⟩
def aFT (t:TA):TE:=fun σ H Q=>t σ H λ_ H'=>∀ z,Q (.str z) H'
def eO {v w:Expr} {vs:List Expr} {n:Nat} {t:TA} {pos:Pos} (h:FPs X (v :: w :: vs) n t) (M:n<=100000:=by decide) (he:evalEach (v :: w :: vs) X.env=eval v X.env :: eval w X.env :: evalEach vs X.env:=by rfl):PE X (.JoinedStr (v :: w :: vs) pos) (aFT t):=λpins s σ H Q I q=>by
 refine JoinedStr_many ?_;rw[<- he];refine thn (h pins s σ H (λH'=>∀ z,Q (.str z) H') Str.empty (by
  have:Str.empty.length=0:=rfl;rw[this];exact g0 (by lia) (show 100000<=sizeLine by decide)) I q) λu s' ⟨y,tk,H',e,J,L⟩=>?_
 subst e;exact⟨.str y,H',J,⟨_,rfl⟩,L y⟩
end
abbrev bmV:List Value:=[.type "ValueError",.type "Exception",.type "BaseException",.type "object"]
def T3 (X:Cx) (E:XK):Prop:=∀ (pins:List (Addr×Obj)) (σ:St) (H:Hp) (s:Shared) (e:Addr) (oe:Obj) (vs:Array Value) (a0:Value),Inv X pins σ H s->s.heap.get? e=some oe->H e=none->(∀ b o,X.s₀.heap.get? b=some o->b≠e)->oe.data=.fields vs->vs[1]?=some .none->vs[0]?=some a0->Ended H s.heap e->E oe.cls oe.dict H->X.xe (.ref e) s
def cW {P:Program} {w:World} {K:PySem.W.Frag} {mg:Str->Option Value} {base:Heap} {N:List Str} {qual:Str} {scope:Scope} {f:Addr} {cd:Value} {A:Around} {outer:List Env} {s:Shared} {H:Hp} {E:XK} (z:A.frames=some outer) :
 T3 (gE (CXR P w) P w K mg base N qual scope f cd A outer s H E) E:=λpins σ H1 M e oe vs a0 I he J hold hd h1 h0 L q =>
 y4 (X:=gE (CXR P w) P w K mg base N qual scope f cd A outer s H E) ⟨rfl,rfl,rfl⟩ (ja z) I he J hold hd h1 h0 L q
section
variable {X:Cx}
def aGK (i:Int):Prop:=i.natAbs.log2<1920/\(toString i:Str).length<=1000
inductive i5 (xs:List V) (H:Hp) (Q:VK):Prop
 | mk (a:Addr) (kvs:List (Key×V)) (h0_:xs=[.ref a]) (h1_:H a=some (.dK kvs)) (h2_:Q (.int kvs.length) H):i5 xs H Q
def y6:eK X (.builtin "len") i5:=by
 intro pins s σ H xs us Q I r h;obtain⟨a,kvs,rfl,z,q⟩:=h;obtain⟨u,rfl,J⟩:=hJ r;cases J;exact aFM I (Rd.of z) λt s' L=>⟨.int _,H,L,⟨_,rfl⟩,q⟩
end
open PySem.MeetsSeq
end L2
namespace L2
open PySem PySem.W PySem.Spec PyProof.Rows
end L2
namespace L2
open PySem PySem.Spec PyProof.Rows
def y8 {d:Addr} {od:Obj} {kvs:List (Key×V)} {g:TG} {tb:TS} {D:iX} {σ:St} {H:Hp} (Pv:Nat->St->Hp->Prop) (h0:Pv 0 σ H) (U:∀ i σ H,i<=kvs.length->Pv i σ H->H d=some (.frz od (.dK kvs)))
 (hs:∀ i k x σ H t,kvs[i]?=some (k,x)->Pv i σ H->H t=none->g (.ref t) σ (upd H t (.tup [kV k,x])) λz H2=>tb { D with nx:=Pv (i+1),ct:=Pv (i+1),bk:=D.nx } z H2) (hd:∀ σ H,Pv kvs.length σ H->D.nx σ H) :
 ∃ W:Nat->Nat->St->Hp->Prop,(∃ m,W 0 m σ H)/\∀ i m σ H,W i m σ H ->
  ((Itd d od kvs).stop i H/\D.nx σ H)\/((Itd d od kvs).go i H/\∃ N:St->Hp->Prop,(∀ J H',N J H'->∃ M,M<m/\W (i+1) M J H')/\∀ x H',(Itd d od kvs).yld i H x H'->g x σ H' λz H2=>tb { D with nx:=N,ct:=N,bk:=D.nx } z H2):=by
 refine⟨λi m σ H=>m=kvs.length - i/\i<=kvs.length/\Pv i σ H,⟨kvs.length,by simp,gr _,h0⟩,?_⟩;rintro i m σ H ⟨rfl,hi,p⟩;have q:=U i σ H hi p
 by_cases L:i<kvs.length
 .refine .inr ⟨⟨q,L⟩,Pv (i+1),λJ H' Y=>⟨kvs.length - (i+1),by omega,rfl,L,Y⟩,λx H' y=>?_⟩;obtain⟨t,k,v,rfl,hn,hx,rfl⟩:=y;exact hs i k v σ _ t hx p hn
 .have e:i=kvs.length:=by omega
  subst e;exact .inl ⟨⟨q,ah _⟩,hd σ H p⟩
inductive i6 (xs:List V) (H:Hp) (Q:VK):Prop
 | mk (i:Int) (h0_:xs=[.int i]) (h1_:aGK i) (h2_:Q (.str (toString i:Str)) H):i6 xs H Q
def y9 {X:Cx}:eK X (.type "str") i6:=by
 intro pins s σ H xs us Q I r h;obtain⟨i,rfl,hi,q⟩:=h;obtain⟨u,rfl,t,rfl⟩:=hJ r;exact PySem.P.str_of_int hi.1 ⟨.str _,H,I.tok _,⟨_,rfl⟩,q⟩
section
variable {X:Cx}
def yZ:∀ l:List (Str×Tok),Vals ((l.map (·.1)).map V.str) (strValues l)
 | []=>.nil
 | p :: l=>.cons ⟨p.2,rfl⟩ (yZ l)
inductive K8 (x:V) (vs:List V) (H:Hp) (Q:VK):Prop
 | mk (t y:Str) (h0_:x=.str t) (h1_:vs=[.str y]) (h2_:(y.length == 0)=false) (h3_:t.length+2<=sizeLine) (h4_:(Txt.split t y).length<=sizeLine) (h5_:∀ l,H l=none->Q (.ref l) (upd H l (.lst ((Txt.split t y).map V.str)))):K8 x vs H Q
def aES:V->List V->Hp->VK->Prop:=λx vs H Q=>K8 x vs H Q
def aB0:MtM X "str.split" aES:=by
 intro pins s σ H x vs v us Q I M U h;obtain⟨t,y,rfl,rfl,L,hz,J,q⟩:=h;obtain⟨tx,rfl⟩:=M;obtain⟨u,rfl,ty,rfl⟩:=U.one;have fin:∀ (l:List (Str×Tok)) (k:Nat),l.map (·.1)=Txt.split t y->EP X pins σ Q (.ref s.heap.objs.size) { s with toks:=k,heap:=s.heap.push { cls:=.type "list",data:=.seq (strValues l).toArray } }:=λl k e=>by
  refine⟨.ref s.heap.objs.size,upd H s.heap.objs.size (.lst ((Txt.split t y).map V.str)),I.laid (t':=k) (λb o e=>aGW _ e) (ah _) ⟨by rw[aGV];exact J,strValues l,0,?_,aG2 _ rfl⟩,rfl,q _ I.fresh⟩;rw[<- e];exact yZ l
 have Y:(Builtin.Str.partsBetween t (Builtin.Str.occurrences t y 0 t.length (t.length+1)) y.length).length<=sizeLine:=by
  have e1:=StrLaws.occ_length_le t y 0 t.length (t.length+1);rw[length_partsBetween];lia
 cases h1:(decide (t.length<y.length) || decide (Builtin.Str.strKind t<Builtin.Str.strKind y))
 .cases z:(Builtin.Str.occurrences t y 0 t.length (t.length+1)).isEmpty
  .refine tq rj (tm _ _ _) qv (qc _ _) (meets_str_split_sep t y tx ty h1 L z (by lia) Y) ?_;show wants _ _ _ { s with toks:=_,heap:=s.heap.push { cls:=.type "list",data:=.seq (strsFrom s.toks (Builtin.Str.partsBetween t (Builtin.Str.occurrences t y 0 t.length (t.length+1)) y.length)).toArray } };rw[strsFrom_eq];exact fin (numbered s.toks _) _ ((numbered_texts _ _).trans ((dt (py h1)).trans (dt (py z))).symm)
  .exact tq rj (tm _ _ _) qv (qc _ _) (meets_str_split_not_found t y tx ty h1 L z)
    (fin [(t,tx)] s.toks ((dt (py h1)).trans (eH z)).symm)
 .exact tq rj (tm _ _ _) qv (qc _ _) (meets_str_split_cannot_occur t y tx ty h1)
   (fin [(t,tx)] s.toks (eH h1).symm)
def Its (x:Str):It:=⟨λi _=>i<x.cps.size,λi H v H'=>H'=H/\∃ c,x.cps[i]?=some c/\v=.str ⟨#[c]⟩,λi _=>x.cps.size<=i⟩
def aB1 {P:Program} {w:World} {K:PySem.W.Frag} {tg:Expr} (x:Str) (t:Tok) (it:Addr):uL P w K tg (Its x) [it] it (λi h=>h.IsStrIter it "str_ascii_iterator" x t i) where
 mem:=by simp
 obj:=λi h st b hb=>by
  have e:b=it:=by simpa using hb
  subst e;obtain⟨o,e,c,d⟩:=st;exact⟨o,e,λv z=>by rw[d]at z;cases z⟩
 keep:=λi h h' st k=>let ⟨o,he,r⟩:=st;⟨o,k it (by simp) _ he,r⟩
 item:=by
  intro X hP hw hK hc i pins s σ H E I hf st hg;subst hP hw hK;obtain⟨c,hx⟩:∃ c,x.cps[i]?=some c:=⟨_,Array.getElem?_eq_getElem hg⟩;refine wpAny_pyNext_ascii_item st hx λh' st' sb=>?_;obtain⟨o,e,cc,d⟩:=id st';exact⟨_,rfl,G5 (s:={ s with heap:=h',toks:=s.toks+1 }) e cc d (by decide) ⟨.str ⟨#[c]⟩,H,I.turnedF (fp:=[it]) (t':=s.toks+1) (λb o hb e=>sb.extBut b o (λz=>hb (by simp[z])) e) hf,⟨_,rfl⟩,⟨rfl,c,hx,rfl⟩,st',λb hb=>(hf b hb).1⟩⟩
 done:=by
  intro X hP hw hK hc i pins s σ H E I hf st hg;subst hP hw hK;exact wpAny_pyNext_ascii_end (I.ok.hd hc) st (Array.getElem?_eq_none hg) λh' eb=>⟨rfl,I.turnedF (fp:=[it]) (t':=s.toks) (λb o hb e=>eb b o (λz=>hb (by simp[z])) e) hf⟩
 self:=λ_ _ _ _ _ st h=>wpAny_pyIter_striter_ascii st h
def aGL (td:TE):TI:=fun σ H R=>td σ H λx H1=>∃ z:Str,x=.str z/\z.cps.all (·<128)=true/\R (Its z) H1
def aET {tg:Expr} {o:Expr} {td:TE} (M:PE X o td):PI X tg o (aGL td):=by
 intro pins s σ H R I h;refine thn (M pins s σ H _ I h) λu J ⟨x,H1,L,U,z,ex,Y,q⟩=>?_;subst ex;obtain⟨t,rfl⟩:=U;refine wpAny_pyIter_ascii Y ?_;refine⟨J.heap.objs.size,[J.heap.objs.size],_,_,H1,rfl,L.kept (t':=J.toks) λb o e=>aGW _ e,aB1 z t _,⟨_,aG2 _ rfl,rfl,rfl⟩,λb hb=>?_,q⟩;have e:b=J.heap.objs.size:=by simpa using hb
 subst e;exact L.fpOk (ah _) (L.hok.fresh (ah _))
def aB2 {z:Str} {J:St} {g:TG} {tt:TT} {te:TE} {H:Hp} {Q:VK} (Pv:Nat->List V->Hp->Prop) (h0:Pv 0 [] H) (Y:∀ i ys H,i<=z.cps.size->Pv i ys H->ys.length<sizeLine)
 (hs:∀ i c ys H,z.cps[i]?=some c->Pv i ys H->g (.str ⟨#[c]⟩) J H λL H2=>tt L H2 λb U=>if b=true then te L U λy H4=>Pv (i+1) (ys++[y]) H4 else Pv (i+1) ys U) (hd:∀ ys H,Pv z.cps.size ys H->∀ D,H D=none->Q (.ref D) (upd H D (.lst ys))) :
 pG (Its z) J g tt te Q H:=by
 refine⟨λi m ys H=>m=z.cps.size - i/\i<=z.cps.size/\Pv i ys H,⟨z.cps.size,by simp,gr _,h0⟩,?_⟩;rintro i m ys H ⟨rfl,hi,p⟩;refine⟨Y i ys H hi p,?_⟩
 by_cases M:i<z.cps.size
 .refine .inr ⟨M,Pv (i+1),λaw H' p'=>⟨z.cps.size - (i+1),by lia,rfl,M,p'⟩,λx H' y=>?_⟩;obtain⟨e,c,hc,rfl⟩:=y;subst e;exact hs i c ys _ hc p
 .have e:i=z.cps.size:=by lia
  subst e;exact .inl ⟨ah _,hd ys H p⟩
end
open PySem.W
section
variable {prog:Program} {w:World} {A:Around} {E:Value->Shared->Prop} {s:Shared}
def z0 {l:Addr} {items:Array Value} {n i:Nat} {Q:List Value->Shared->Prop} (hl:s.heap.IsList l items) (hh:A.handled=none) (hi:i<n) (hn:n<=items.size+1) (hz:items.size<=16384)
 (h:∀ (h':Heap) (tk:Nat),(∀ b o,s.heap.get? b=some o->h'.get? b=some o)->Q (items.toList.take i++[.ref h'.objs.size]++(items.toList.drop i).drop (items.size+1 - n)) { s with heap:=h'.push (seqObj "list" ((items.toList.drop i).take (items.size+1 - n)).toArray 0),toks:=tk }):wpAny (model prog w) A (unpackItems (.ref l) n (some i)) Q E s:=by
 have ax:l≠s.heap.objs.size:=by obtain⟨o,ho,_⟩:=hl;exact aGi (aG1 ho)
 unfold unpackItems;refine aGT ?_;unfold notIterableAtAll;refine aGT (so hl.typeIs slot_list_iter.lookup ?_);refine aGU ?_;simp only[ir,mi];refine aGT (fy (ly hl ?_));refine aGT (fy (kun_draw ax i 0 _ _ ⟨_,aG2 _ rfl,rfl,rfl⟩ (hl.push _) (by lia) λY z J=>?_));have L:Y.IsList l items:=(hl.push _).extBut J.extBut ax;rw[sr]at z;have M:=z;obtain⟨oi,a_,_⟩:=M;have U:=L;obtain⟨ol,ba,_⟩:=U;rw[nv];have bb:(items.toList.take i).length=i:=by rw[aGb,ig];lia
 rw[dt (show ¬ ((items.toList.take i).length<i)by rw[bb];lia)];refine aGT (fy (kun_collect (s:={ s with heap:=Y }) (T:="list_iterator") (.inr (.inr (.inl rfl))) (Walks.list (A:=A.in1) hh s.heap.objs.size l ax items) (λj u st=>st.1.typeIs) (k:=i) (by lia) ⟨z,L⟩ (aG1 a_) (aG1 ba) (λaw tk hk=>?_) (by rw[ka];lia)));have ay:(items.toList.drop i).length=items.size - i:=by rw[jy,ig]
 have az:(items.toList.drop i).length - (n - 1 - i)=items.size+1 - n:=by rw[ay];lia
 show wpAny _ _ (if (items.toList.drop i).length<n - 1 - i then _ else _) _ _ _;rw[dt (by rw[ay];lia)];show wpAny _ _ (newList ((items.toList.drop i).take ((items.toList.drop i).length - (n - 1 - i))) >>= λd=>pure (items.toList.take i++[d]++(items.toList.drop i).drop ((items.toList.drop i).length - (n - 1 - i)))) _ _ _;rw[az];have he:∀ b o,s.heap.get? b=some o->aw.get? b=some o:=λb o e=>hk b o (aGi (aG1 e)) (J.extBut b o (aGi (aG1 e)) (aGW _ e));exact aGT (oy (aGU (h aw tk he)) (by rw[aGb,ay,ka];lia))
end
section
variable {X:Cx} {pos:Pos}
inductive i7 (K:PySem.W.Frag) (n:Nat) (i:Nat) (t:TGs) (v:V) (σ:St) (H:Hp) (Q:St->Hp->Prop):Prop
 | mk (a:_) (xs:_) (h0_:v=.ref a) (h1_:SqL K H a xs) (h2_:i<n) (h3_:n<=xs.length+1) (h4_:xs.length<=16384) (h5_:∀ D,H D=none->t (xs.take i++[.ref D]++(xs.drop i).drop (xs.length+1 - n)) σ (upd H D (.lst ((xs.drop i).take (xs.length+1 - n)))) Q):i7 K n i t v σ H Q
def aFU (K:PySem.W.Frag) (n i:Nat) (t:TGs):TG:=λv σ H Q=>i7 K n i t v σ H Q
def jN:∀ {xs:List V} {us:List Value} (n:Nat),Vals xs us->Vals (xs.take n) (us.take n)
 | _,_,0,_=>by simp;exact .nil
 | _,_,_+1,.nil=>.nil
 | _,_,n+1,.cons r t=>.cons r (jN n t)
def fS:∀ {xs:List V} {us:List Value} (n:Nat),Vals xs us->Vals (xs.drop n) (us.drop n)
 | _,_,0,h=>h
 | _,_,_+1,.nil=>.nil
 | _,_,n+1,.cons _ t=>fS n t
def lN:∀ {a:List V} {b:List Value} {z:List V} {J:List Value},Vals a b->Vals z J->Vals (a++z) (b++J)
 | _,_,_,_,.nil,h=>h
 | _,_,_,_,.cons r t,h=>.cons r (lN t h)
def K9 {e:Expr} {es:List Expr} {t:TG} {u:TGs} {p:Pos} (h1:PG X e t) (h2:PGs X es u)
 (hs:(assignEach (.Starred e p :: es) X.env).map (·.2)=assign e X.env :: (assignEach es X.env).map (·.2):=by rfl):PGs X (.Starred e p :: es) (aA5 t u):=by
 intro pins s σ H vs us Q I r h;obtain⟨v,Y,J,h⟩:=h;subst J;cases r with
 | cons r1 r2 =>
  rw[hs];refine assignInOrder_cons (thn (h1 pins s σ H _ _ _ I r1 h) λ_ L ⟨z,H1,M,U⟩=>?_);exact h2 pins L z H1 _ _ Q M r2 U
def aDJ {es:List Expr} {k:Nat} {t:TGs} {n i:Nat} (L:X.calm=true) (h:PGs X es t) (M:(assignEach es X.env).length=n:=by rfl) (hst:(assignEach es X.env).findIdx? (·.1)=some i:=by rfl):PG X (.Tuple es k pos) (aFU X.K n i t):=by
 intro pins s σ H v u Q I r hw;obtain⟨a,xs,U,Y,hi,hl,hz,hw⟩:=hw;subst U;cases r;obtain⟨its,z,ht,aw⟩:=I.list Y;have el:=z.length;rw[assign_Tuple];refine aGT (gw ?_);unfold unpack;rw[M,hst];refine aGT (fy (z0 ht.isList (I.ok.hd L) hi (by rw[aG3];lia) (by rw[aG3];lia) λh' tk kp=>?_));have J:Inv X pins σ H { s with heap:=h',toks:=tk }:=I.kept kp;simp only[aG3,<- el];have I2:Inv X pins σ (upd H h'.objs.size (.lst ((xs.drop i).take (xs.length+1 - n)))) { s with heap:=h'.push (seqObj "list" ((its.drop i).take (xs.length+1 - n)).toArray 0),toks:=tk } :=
  J.laid (λb o e=>aGW _ e) (ah _) ⟨by rw[aGb,jy];lia,_,0,jN _ (fS _ z),aG2 _ rfl⟩
 exact h pins _ σ _ _ _ Q I2 (lN (lN (jN _ z) (.cons (show RelV (.ref h'.objs.size) (.ref h'.objs.size) from rfl) .nil)) (fS _ (fS _ z))) (hw _ (J.hok.fresh (ah _)))
end
end L2
namespace L2
open PySem PySem.Spec PyProof.Rows
structure GDict (P:Program) (w:World) (K:PySem.W.Frag) (d:Addr) (kvs:List (Key×Value)):Prop where
 nsys:(d == sysModules)=false
 obj:∃ es ep,K.lookup d=some ⟨.type "dict",none,.dict es ep,#[]⟩/\KeysOf (bF P w) es/\Pairs (bF P w) es.toList kvs/\(kvs.map (·.1)).Nodup
def GDict.of {P:Program} {w:World} {K:PySem.W.Frag} {h:Heap} {d:Addr} {kvs:List (Key×Value)} (g:GDict P w K d kvs) (x:K.In h):h.DictOf (bF P w) d kvs:=by
 obtain⟨es,ep,a,b,c,e⟩:=g.obj;exact⟨_,es,ep,x _ _ a,⟨rfl,rfl,rfl⟩,rfl,b,c,e⟩
def vM (x:Str) (t:Tok):rY (Sum.inr x) (.str x t)=true:=by
 show (x == x)=true;exact ri x
abbrev vN (w:World) (p:Str×Tok×Addr):DictEntry:=⟨PyData.keyHash w.params p.1,.str p.1 p.2.1,.ref p.2.2⟩
def aB3 {P:Program} {w:World} {K:PySem.W.Frag} {d:Addr} {ep:Nat} (l:List (Str×Tok×Addr)) (h:K.lookup d=some ⟨.type "dict",none,.dict (l.map (vN w)).toArray ep,#[]⟩) (hs:(d == sysModules)=false) (nd:(l.map (·.1)).Nodup):GDict P w K d (l.map λp=>(Sum.inr p.1,.ref p.2.2)):=by
 refine⟨hs,_,ep,h,λe he=>?_,?_,?_⟩
 .have J:e∈l.map (vN w):=by simpa using he
  obtain⟨p,_,rfl⟩:=aGz.mp J;exact⟨Sum.inr p.1,vM p.1 p.2.1,rfl⟩
 .rw[List.toList_toArray];clear h nd hs
  induction l with
  | nil=>exact .nil
  | cons p l L=>exact .cons (vM p.1 p.2.1) rfl L
 .rw[aGp];have e:(l.map ((·.1)∘λp:Str×Tok×Addr=>((Sum.inr p.1:Key),Value.ref p.2.2)))=(l.map (·.1)).map (Sum.inr:Str->Key):=by rw[aGp];rfl
  rw[e];exact nd.map (f:=(Sum.inr:Str->Key)) λa b h=>by intro z;exact h (uc z)
section
variable {X:Cx} {i:Expr} {ty:TE} {p pos:Pos}
inductive i8 (kvs:List (Key×Value)) (Q:VK) (y:V) (H1:Hp):Prop
 | mk (x:Str) (t:Addr) (h0_:y=.str x) (h1_:valueAt kvs (Sum.inr x)=some (.ref t)) (h2_:Q (.ref t) H1):i8 kvs Q y H1
def aFV (kvs:List (Key×Value)) (ty:TE):TE:=fun σ H Q=>ty σ H λy H1=>i8 kvs Q y H1
def aDK {D:Str} {d:Addr} {kvs:List (Key×Value)} (g:GDict X.prog X.w X.K d kvs) (J:Gl X D) (L:X.mg D=some (.ref d)) (hi:PE X i ty) (hs:aEK i) (hdb:(D == ("__debug__":Str))=false:=by decide):PE X (.Subscript (.Name D p) i pos) (aFV kvs ty):=by
 intro pins s σ H Q I h;refine b8 PySem.F.slot_dict_getitem.lookup hs (eL I J L (thn (hi pins s σ H _ I h) λiv s2 ⟨y,H2,z,M,x,t,U,ht,Y⟩=>?_) hdb);subst U;have dd:=g.of z.kIn;refine⟨?_,wpAny_getItem_of (knd:=bF X.prog X.w) (k:=Sum.inr x) (pM (k:=Sum.inr x) M) dd.mapOf ht ⟨.ref t,H2,z.tok _,rfl,Y⟩⟩;obtain⟨o,es,ep,e,ex,_⟩:=dd;exact⟨o,e,ex.1⟩
end
end L2
namespace CW
open PySem L2
abbrev nT (n:Int):Str:=(toString n:Str)
abbrev dG (x:Str):List Nat:=x.cps.toList
def gO (x y:Str):dG (x++y)=dG x++dG y:=by
 show (x.cps++y.cps).toList=_;simp[dG]
def zA (x:Str):(dG x).length=x.length:=ig
abbrev dg (m:Nat):List Nat:=(Nat.toDigits 10 m).map Char.toNat
def aEU (m:Nat):dG (nT (m:Int))=dg m:=PySem.W.KIN.signs_num m
def aDL {m:Nat} (h:10<=m):dg m=dg (m / 10)++dg (m % 10):=by
 have z:m % 10<10:=Nat.mod_lt m (by decide);have t:Nat.toDigits 10 (m / 10)++Nat.toDigits 10 (m % 10)=Nat.toDigits 10 (10 * (m / 10)+m % 10):=Nat.toDigits_append_toDigits (by decide) (by lia) z;rw[Nat.div_add_mod]at t;unfold dg;rw[<- t,aGa]
def T5:∀ m:Nat,m<10->dg m=[48+m]:=by decide
def aB4:∀ (k m:Nat),m<10 ^ (k+1)->1<=(dg m).length/\(dg m).length<=k+1
 | 0,m,h=>by rw[T5 m (by simpa using h)];exact⟨ah _,ah _⟩
 | k+1,m,h=>by
  by_cases z:m<10
  .rw[T5 m z];exact⟨ah _,by simp⟩
  .have:=aB4 k (m / 10) (by rw[Nat.pow_succ]at h;lia);rw[aDL (by lia),T5 (m % 10) (Nat.mod_lt m (by decide)),aG4];show 1<=(dg (m / 10)).length+1/\(dg (m / 10)).length+1<=k+1+1
   lia
def aEV (m:Nat):PySem.NumText.AllDigits (dg m):=by
 intro c J;obtain⟨ch,z,e⟩:=aGz.mp J;have r:=PyProof.Rows.digit_range (Nat.isDigit_of_mem_toDigits (by decide) (by decide) z);rw[<- e];exact r
abbrev L3:Str:="abcdefghijklmnopqrstuvwxyz"
def A6 (x:Str):Prop:=x.cps.all (·<128)=true
def aB5 {x:Str} (h:∀ c∈dG x,c<128):A6 x:=by
 unfold A6;rw[<- Array.all_toList,om];intro c z;exact aGh (h c z)
def sH (t z:Str) (most:Int):Bool:=decide (t≠"") && (decide ((t.length:Int)<=most) && (dG t).all λc=>decide (c∈dG z))
def aB6 (x y:Str):Txt.split x y≠[]:=by
 unfold Txt.split;split
 .simp
 .split
  .simp
  .unfold Builtin.Str.partsBetween;intro z;have:=congrArg List.length z;simp at this
end CW
namespace L2
open PySem PySem.Spec PyProof.Rows
section
variable {X:Cx}
@[irreducible] def PEi (X:Cx) (e:Expr) (t:TE):Prop:=PE X e t
def PEi.out {X:Cx} {e:Expr} {t:TE} (h:PEi X e t):PE X e t:=by unfold PEi at h;exact h
def PEi.of {X:Cx} {e:Expr} {t:TE} (h:PE X e t):PEi X e t:=by unfold PEi;exact h
def asT:Stmt->List Expr
 | .Assign t _ _=>t
 | _=>[]
def asP:Stmt->Pos
 | .Assign _ _ p=>p
 | _=>⟨0,0,0,0⟩
end
end L2
namespace CW
open PySem L2
def aB7 {X:Cx} {x z:Str} {pos:Pos} (L:Gl X x) (J:∃ t,X.mg x=some (.str z t)) (hd:(x == ("__debug__":Str))=false:=by decide):PE X (.Name x pos) (tC (.str z)):=by
 obtain⟨t,J⟩:=J;exact cF L J ⟨t,rfl⟩ hd
def aB8 {X:Cx} {x:Str} {z:Int} {pos:Pos} (L:Gl X x) (J:∃ t,X.mg x=some (.int z t)) (hd:(x == ("__debug__":Str))=false:=by decide):PE X (.Name x pos) (tC (.int z)):=by
 obtain⟨t,J⟩:=J;exact cF L J ⟨t,rfl⟩ hd
end CW
namespace L2
open PySem PySem.Spec PyProof.Rows
section
variable {X:Cx}
def T6 {i:Nat} {x:Str} {pos:Pos} {pins:List (Addr×Obj)} {s:Shared} {σ:St} {H:Hp} {v:V} {Q:Value->Shared->Prop} {E:Value->Shared->Prop} (I:Inv X pins σ H s) (M:X.N[i]?=some x) (U:Vis X.env.scope x) (e:σ[i]?=some (some v)) (h:∀ u,RelV v u->Q u s)
 (hd:(x == ("__debug__":Str))=false:=by decide) (J:(x == ("__classdict__":Str))=false:=by decide):wpAny (model X.prog X.w) X.A (eval (.Name x pos) X.env) Q E s:=by
 obtain⟨m,Y,hl⟩:=I.loc;obtain⟨u,r,l⟩:=hl i x v M e U;rcases l with ⟨hk,hm⟩ | ⟨hk,c,L,z⟩
 .exact qo (ot I.ok.kind hk Y hm (h u r)) hd
 .rcases hk with hk | hk
  .exact qo (pk I.ok.kind hk L z (h u r)) hd
  .exact qo (wpAny_loadName_free I.ok.kind hk L z (h u r) J) hd
end
section
variable {X:Cx} {pins:List (Addr×Obj)} {σ:St} {H H':Hp} {s:Shared} {h':Heap}
def Inv.many {t':Nat} (I:Inv X pins σ H s) (k:∀ b u,s.heap.get? b=some u->h'.get? b=some u) (ext:∀ b o,H b=some o->H' b=some o) (new:∀ b o,H' b=some o->H b=none->s.heap.objs.size<=b) (hok:∀ b o,H' b=some o->H b=none->ObjOk X.prog X.w H' h' b o)
 (z:∀ b o,H b=some o->ObjOk X.prog X.w H' h' b o):Inv X pins σ H' { s with heap:=h',toks:=t' }:=by
 refine I.un (H':=H') ⟨λb o e n _ _=>k b o e,λb o e n _ _=>⟨o.slots,k b o e⟩,λb o e n _=>?_,λb o e _=>⟨o,k b o e⟩,λb xs e=>ext b _ e,λb o u e=>ext b _ e,λb ps e=>⟨#[],by rw[ext b _ e];simp⟩⟩ (λb o e=>?_)
 .cases q:H' b with
  | none=>rfl
  | some o'=>exact absurd (aG1 e) (Nat.not_lt.mpr (new b o' q n))
 .cases q:H b with
  | none=>exact hok b o e q
  | some o' =>
   have:=ext b o' q;rw[e]at this;cases this;exact z b o q
end
open PySem.W
def jO:List Addr->List V->List V->Addr->Option (V×V)
 | T :: z,x :: xs,y :: ys,b=>if b=T then some (x,y)else jO z xs ys b
 | _,_,_,_=>none
def mY:∀ {z:List Addr} {xs ys:List V} {b:Addr} {p:V×V},jO z xs ys b=some p->b∈z/\∃ j:Nat,z[j]?=some b/\xs[j]?=some p.1/\ys[j]?=some p.2
 | [],_,_,_,_,h=>by simp[jO]at h
 | T :: z,[],_,_,_,h=>by simp[jO]at h
 | T :: z,x :: xs,[],_,_,h=>by simp[jO]at h
 | T :: z,x :: xs,y :: ys,b,p,h=>by
  unfold jO at h;split at h
  .rename_i e
   cases h;subst e;exact⟨aGX,0,rfl,rfl,rfl⟩
  .obtain⟨h1,j,h2,h3,h4⟩:=mY h;exact⟨aGY _ h1,j+1,by simpa using h2,by simpa using h3,by simpa using h4⟩
def L4:∀ {z:List Addr} {xs ys:List V} {j:Nat} {T:Addr} {x y:V},z.Nodup->z[j]?=some T->xs[j]?=some x->ys[j]?=some y->jO z xs ys T=some (x,y)
 | [],_,_,_,_,_,_,_,h,_,_=>by simp at h
 | T0 :: z,[],_,_,_,_,_,_,_,h,_=>by simp at h
 | T0 :: z,J :: xs,[],_,_,_,_,_,_,_,h=>by simp at h
 | T0 :: z,J :: xs,L :: ys,0,T,x,y,_,h,h1,h2=>by
  simp at h h1 h2;subst h h1 h2;simp[jO]
 | T0 :: z,J :: xs,L :: ys,j+1,T,x,y,nd,h,h1,h2=>by
  rw[List.nodup_cons]at nd;simp only[List.getElem?_cons_succ]at h h1 h2;have:T≠T0:=λe=>nd.1 (by rw[<- e];exact aG6 h);unfold jO;rw[dt this];exact L4 nd.2 h h1 h2
def sI (H:Hp) (S:Addr) (z:List Addr) (xs ys:List V):Hp:=λb=>if b=S then some (.lst (z.map V.ref))else match jO z xs ys b with | some p=>some (.tup [p.1,p.2]) | none=>H b
def zB:∀ z:List Addr,Vals (z.map V.ref) (z.map Value.ref)
 | []=>.nil
 | T :: z=>.cons rfl (zB z)
def z5 {X:Cx} {pins:List (Addr×Obj)} {σ:St} {H:Hp} {s:Shared} (I:Inv X pins σ H s) {h2:Heap} {tk c:Nat} {S:Addr} {J:List Addr} {xs ys:List V}
 (M:∀ b o,s.heap.get? b=some o->h2.get? b=some o) (U:s.heap.objs.size<=S) (aw:h2.get? S=some { cls:=.type "list",dict:=none,data:=.seq (J.map Value.ref).toArray c,slots:=#[] })
 (nT:∀ T∈J,S<T) (nd:J.Nodup) (hl:J.length=xs.length) (ay:xs.length=ys.length) (L:xs.length<=sizeLine)
 (at_:∀ (j:Nat) (T:Addr),J[j]?=some T->∃ x y u v,xs[j]?=some x/\ys[j]?=some y/\RelV x u/\RelV y v/\h2.get? T=some { cls:=.type "tuple",data:=.seq #[u,v] }) :
 ∃ H',Inv X pins σ H' { s with heap:=h2,toks:=tk }/\H S=none/\Same H H'/\H' S=some (.lst (J.map V.ref))/\∀ (j:Nat) (T:Addr),J[j]?=some T->∃ x y,xs[j]?=some x/\ys[j]?=some y/\H' T=some (.tup [x,y]):=by
 have nS:∀ c o,H c=some o->c≠S:=λc o e z=>by
  have lc:=(I.hok c o e).lt;rw[z]at lc;exact ie _ (aGc lc U)
 have ax:∀ c o,H c=some o->c∉J:=λc o e z=>ie _ (uw (aGc (I.hok c o e).lt U) (nT c z));have ext:∀ c o,H c=some o->sI H S J xs ys c=some o:=λc o e=>by
  unfold sI;rw[dt (nS c o e)];cases L:jO J xs ys c with
  | none=>exact e
  | some p=>exact absurd (mY L).1 (ax c o e)
 have atT:∀ (j:Nat) T,J[j]?=some T->∃ x y,xs[j]?=some x/\ys[j]?=some y/\sI H S J xs ys T=some (.tup [x,y]):=λj T e=>by
  obtain⟨x,y,u,v,h1,h2,_⟩:=at_ j T e;refine⟨x,y,h1,h2,?_⟩;unfold sI;rw[dt (aGl (nT T (aG6 e))),L4 nd e h1 h2]
 refine⟨sI H S J xs ys,I.many (h':=h2) (t':=tk) M ext (λc o e hN=>?_) (λc o e hN=>?_) (λc o e=>?_),I.hok.fresh U,ext,by unfold sI;rw[eH rfl],atT⟩
 .unfold sI at e;split at e
  .rename_i z;rw[z];exact U
  .cases L:jO J xs ys c with
   | none=>rw[L]at e;rw[hN]at e;cases e
   | some p=>exact g0 U (ji (nT c (mY L).1))
 .unfold sI at e;split at e
  .rename_i z
   cases e;rw[z];exact⟨by rw[aGV,hl];exact L,J.map Value.ref,_,zB J,aw⟩
  .cases L:jO J xs ys c with
   | none=>rw[L]at e;rw[hN]at e;cases e
   | some p =>
    rw[L]at e;cases e;obtain⟨_,j,h1,Y,h3⟩:=mY L;obtain⟨x,y,u,v,e1,e2,ru,rv,hp⟩:=at_ j c h1;rw[e1]at Y;rw[e2]at h3;cases Y;cases h3;exact⟨by show 2<=sizeLine;decide,[u,v],.cons ru (.cons rv .nil),_,hp,rfl,_,rfl⟩
 .exact(I.hok c o e).stay (λc' u _ e=>M c' u e) (λc' e=>ext _ _ e) (λc' xs e=>ext _ _ e)
section
variable {X:Cx}
inductive pS (Q:VK) (x:V) (H1:Hp):Prop
 | mk (d:_) (kvs:_) (h0_:x=.ref d) (h1_:H1 d=some (.dK kvs)) (h2_:∀ (S:Addr) (Ts:List Addr) (H':Hp),H1 S=none->Same H1 H'->H' S=some (.lst (Ts.map V.ref))->Ts.length=kvs.length->(∀ (j:Nat) (T:Addr),Ts[j]?=some T->∃ k y,kvs[j]?=some (k,y)/\H' T=some (.tup [kV k,y]))->Q (.ref S) H'):pS Q x H1
def T7 (td:TE):TE:=fun σ H Q=>td σ H λx H1=>pS Q x H1
def A7 {o:Expr} {td:TE} {p apos J pos:Pos} (hc:X.calm=true) (hg:Gl X "list") (hm:X.mg "list"=none) (ho:PE X o td)
 (L:attributeBase o "items" X.env (eval o X.env)=eval o X.env:=by rfl) (M:(apos.endLine == J.line)=true:=by rfl) :
 PE X (.Call (.Name "list" p) [.Call (.Attribute o "items" apos) [] [] J] [] pos) (T7 td):=by
 intro pins s σ H Q I h;refine ib (jX I hg hm yQ ?_ (by decide) (by decide));refine iy ?_ rfl rfl;show wpAny _ _ (spliced ((false,eval (.Call (.Attribute o "items" apos) [] [] J) X.env) :: backTo pos (starEach [] X.env))) _ _ s;refine iq ?_;refine kt L M (thn (ho pins s σ H _ I h) λu U ⟨x,H1,I1,rx,d,kvs,ex,hd,q⟩=>?_);subst ex;obtain rfl:u=Value.ref d:=rx;obtain⟨z,Y,vs,aw,dd⟩:=pO I1.hok hd;obtain⟨ep,ay⟩:=id dd.dictAt;obtain⟨t1,t2,_⟩:=vJ I1 (.inl ⟨kvs,.inl hd⟩);have rl:=aw.length;refine⟨"dict","dict.items",jo,kz,rb,t1,t2,io rfl (mq ?_)⟩;refine mv kz dd.typeIs qt (qk _) (meets_dict_items (bF X.prog X.w) d Y) ⟨⟨vs,dd⟩,?_⟩;have hv:(U.heap.push { cls:=.type "dict_items",data:=.fields #[.ref d] }).IsItemsView U.heap.objs.size d:=⟨_,aG2 _ rfl,rfl,rfl⟩;refine ki ?_;refine kdx_call (knd:=bF X.prog X.w) (kvs:=vs) (ep:=ep) (I1.ok.hd hc) hv (ay.push _) (by lia) λh' tk az c as hk hS hl hG ax=>?_;have hsz:(U.heap.push { cls:=.type "dict_items",data:=.fields #[.ref d] }).objs.size=U.heap.objs.size+1:=im ..;have ea:az=(as.map Value.ref).toArray:=by rw[<- ax,Array.toArray_toList]
 rw[ea]at hS;obtain⟨H',I',hN,sm,eS,eT⟩:=z5 (tk:=tk) (xs:=kvs.map λp=>kV p.1) (ys:=kvs.map (·.2)) I1 (λb o e=>hk b o (aGW _ e)) (ji (by show U.heap.objs.size<(U.heap.push _).objs.size;rw[hsz];exact il _)) hS hG.above (hG.rise.imp λh=>aGi h) (by rw[hl,aGV];lia) (by rw[aGV,aGV]) (by rw[aGV];exact z) λj T e=>by
  obtain⟨key,k,x,e1,e2,e3⟩:=hG.pairs j T e;have hj:j<kvs.length:=by have:=(aGw.mp e1).1;lia
  obtain⟨u,hu,ru⟩:=c6 aw (aG5 hj);rw[e1]at hu;cases hu;exact⟨_,_,_,_,by rw[aGj,aG5 hj];rfl,by rw[aGj,aG5 hj];rfl,aBW e2,ru,e3⟩
 refine⟨.ref _,H',I',rfl,q _ as H' hN sm eS (by lia) λj T e=>?_⟩;obtain⟨x,y,e1,e2,e3⟩:=eT j T e;rw[aGj,aGv]at e1 e2;obtain⟨p1,h1,rfl⟩:=e1;obtain⟨p2,h2,rfl⟩:=e2;rw[h1]at h2;cases h2;exact⟨p1.1,p1.2,h1,e3⟩
end
end L2
namespace L2
open PySem PySem.Spec PyProof.Rows
def aFW (H:Hp) (Q:VK) (xs:List V):Prop:=∀ (p:Addr) (H':Hp),Same H H'->H' p=some (.tup xs)->Q (.ref p) H'
section
variable {prog:Program} {w:World} {A:Around} {E:Value->Shared->Prop} {s:Shared}
def aB9 {t b:Addr} {vs ws:List Value} {Q:Value->Shared->Prop} (ht:IsTup s.heap t vs.toArray) (hb:IsTup s.heap b ws.toArray) (hv:vs=[])
 (h1:Q (.ref b) s):wpAny (model prog w) A (binaryOp .Add (.ref t) (.ref b)) Q E s:=by
 obtain⟨⟨cls,dd,data,sl⟩,Y,hc,n,hd⟩:=id ht;obtain⟨⟨aw,M,data2,U⟩,z,J,n2,L⟩:=id hb;simp only at hc hd J L;subst hc hd J L;exact uu ⟨_,Y,rfl⟩ ⟨_,z,rfl⟩ rh um nj my (mu _ _)
  (tuple_addW0 t b vs.toArray ws.toArray n n2 dd M sl U (by simp[hv])) ⟨Y,z,h1⟩
def nI {t J:Addr} {items:Array Value} {Y vu:Value} {lo hi:Option Int} {Q:Value->Shared->Prop} (ht:IsTup s.heap t items) (hs:s.heap.IsSliceOf J Y vu .none) (pl:IsPart Y lo) (pu:IsPart vu hi)
 (hw:HT.sIx items.size 0 lo=0/\HT.sIx items.size items.size hi=items.size) (h:Q (.ref t) s):wpAny (model prog w) A (getItem (.ref t) (.ref J)) Q E s:=by
 obtain⟨os,L,M,aw⟩:=id hs;have U:s.TypeIs (.ref J) "slice":=⟨os,L,M⟩;unfold getItem
 try with_reducible refine fy ?_
 first | refine aGT (aGU ?_) | skip
 refine aGT (wpAny_sequenceKey ht.typeIs (by decide) ?_);refine aGT (r6 (name:=Str.ofString "__getitem__") ht.typeIs je
  (oj je ht.typeIs entry_tuple_getitem ?_ (args_tuple_getitem _ _)))
 show wpAny _ _ (Builtin.Tuple.tupleItemsOf (.ref t) >>= _) _ _ s;refine aGT (tupleItemsOf_ ht ?_);refine aGT (sf U ?_);rw[eH (by decide)];refine aGT (HT.sliceApplied_gen hs pl pu ?_);have z:(((HT.sIx items.size 0 lo:Nat):Int) == 0 && (1:Int) == 1 && (HT.sIx items.size items.size hi - HT.sIx items.size 0 lo) == items.size)=true:=by
  rw[hw.1,hw.2];simp
 show wpAny _ _ (if (((HT.sIx items.size 0 lo:Nat):Int) == 0 && (1:Int) == 1 && (HT.sIx items.size items.size hi - HT.sIx items.size 0 lo) == items.size)=true then _ else _) _ _ s;rw[eH z];unfold Builtin.Tuple.tupleIsExact;refine aGT (aGT (sf ht.typeIs (aGU ?_)));rw[eH (by decide)];exact aGT (ph (aGU ⟨_,rfl,aGU h⟩))
end
section
variable {X:Cx}
inductive i9 (x:V) (y:V) (H:Hp) (Q:VK):Prop
 | mk (a:_) (b:_) (xs:_) (ys:_) (h0_:x=.ref a) (h1_:y=.ref b) (h2_:H a=some (.tup xs)) (h3_:H b=some (.tup ys)) (h4_:xs.length+ys.length<=sizeLine) (h5_:aFW H Q (xs++ys)):i9 x y H Q
def aFX:R2:=λx y H Q=>i9 x y H Q
def pT:OpR X (binaryOp .Add) aFX:=by
 intro pins s σ H x y v u Q I L M h;obtain⟨a,b,xs,ys,rfl,rfl,z,J,hz,q⟩:=h
 by_cases U:xs=[]
 .subst U;cases L;cases M;obtain⟨its,r1,p1,_⟩:=I.tuple (SqT.of z);obtain⟨Y,r2,p2,_⟩:=I.tuple (SqT.of J);exact aB9 p1 p2 (r1.nil_iff.mpr rfl) ⟨.ref b,H,I,rfl,q b H (Same.refl _) (by rw[kj];exact J)⟩
 .refine aCt pins s σ H _ _ v u Q I L M ⟨a,b,xs,ys,rfl,rfl,SqT.of z,SqT.of J,U,hz,λe=>?_,λ_ p hp=>q p _ (Same.upd hp) aE⟩;subst e;exact q a H (Same.refl _) (by rw[gv];exact z)
inductive aBa (x:V) (lo:Option Int) (hi:Option Int) (H:Hp) (Q:VK):Prop
 | mk (a:_) (xs:_) (h0_:x=.ref a) (h1_:H a=some (.tup xs)) (h2_:aFW H Q (jZ xs lo hi)):aBa x lo hi H Q
def aGM:V->Option Int->Option Int->Hp->VK->Prop:=λx lo hi H Q=>aBa x lo hi H Q
def j0:SlR X aGM:=by
 intro pins s σ H x v M U lo hi Y Q I J hs pl L h;obtain⟨a,xs,rfl,z,q⟩:=h
 by_cases hw:HT.sIx xs.length 0 lo=0/\HT.sIx xs.length xs.length hi=xs.length
 .cases J;obtain⟨its,r,ht,hz⟩:=I.tuple (SqT.of z);have hlen:its.toArray.size=xs.length:=by rw[aG3];exact r.length.symm
  refine⟨"tuple",_,PyProof.Rows.slot_tuple_getitem.lookup,ht.typeIs,?_⟩;refine nI ht hs pl L (by rw[hlen];exact hw) ⟨.ref a,H,I,rfl,q a H (Same.refl _) ?_⟩;unfold jZ;rw[hw.1,hw.2,nv,sh,aG9];exact z
 .exact aEB pins s σ H _ v M U lo hi Y Q I J hs pl L ⟨a,xs,rfl,SqT.of z,hw,λp hp=>q p _ (Same.upd hp) aE⟩
end
section
variable {prog:Program} {w:World} {A:Around} {E:Value->Shared->Prop} {s:Shared}
def aBb {l:Addr} {items:Array Value} {n i:Nat} {Q:List Value->Shared->Prop} (hl:IsTup s.heap l items) (hh:A.handled=none) (hi:i<n) (hn:n<=items.size+1) (hz:items.size<=16384)
 (h:∀ (h':Heap) (tk:Nat),(∀ b o,s.heap.get? b=some o->h'.get? b=some o)->Q (items.toList.take i++[.ref h'.objs.size]++(items.toList.drop i).drop (items.size+1 - n)) { s with heap:=h'.push (seqObj "list" ((items.toList.drop i).take (items.size+1 - n)).toArray 0),toks:=tk }):wpAny (model prog w) A (unpackItems (.ref l) n (some i)) Q E s:=by
 have ax:l≠s.heap.objs.size:=by obtain⟨o,ho,_⟩:=hl;exact aGi (aG1 ho)
 unfold unpackItems;refine aGT ?_;unfold notIterableAtAll;refine aGT (so hl.typeIs slot_tuple_iter.lookup ?_);refine aGU ?_;simp only[ir,mi];refine aGT (fy (iter_tuple hl ?_));refine aGT (fy (draw_tuple ax i 0 _ _ ⟨_,aG2 _ rfl,rfl,rfl⟩ (hl.push _) (by lia) λY z J=>?_));have L:IsTup Y l items:=(hl.push _).extBut J.extBut ax;rw[sr]at z;have M:=z;obtain⟨oi,a_,_⟩:=M;have U:=L;obtain⟨ol,ba,_⟩:=U;rw[nv];have bb:(items.toList.take i).length=i:=by rw[aGb,ig];lia
 rw[dt (show ¬ ((items.toList.take i).length<i)by rw[bb];lia)];refine aGT (fy (PySem.W.kun_collect (s:={ s with heap:=Y }) (T:="tuple_iterator") (.inr (.inr (.inr rfl))) (Walks.tuple (A:=A.in1) hh s.heap.objs.size l ax items) (λj u st=>st.1.typeIs) (k:=i) (by lia) ⟨z,L⟩ (aG1 a_) (aG1 ba) (λaw tk hk=>?_) (by rw[ka];lia)));have ay:(items.toList.drop i).length=items.size - i:=by rw[jy,ig]
 have az:(items.toList.drop i).length - (n - 1 - i)=items.size+1 - n:=by rw[ay];lia
 show wpAny _ _ (if (items.toList.drop i).length<n - 1 - i then _ else _) _ _ _;rw[dt (by rw[ay];lia)];show wpAny _ _ (newList ((items.toList.drop i).take ((items.toList.drop i).length - (n - 1 - i))) >>= λd=>pure (items.toList.take i++[d]++(items.toList.drop i).drop ((items.toList.drop i).length - (n - 1 - i)))) _ _ _;rw[az];have he:∀ b o,s.heap.get? b=some o->aw.get? b=some o:=λb o e=>hk b o (aGi (aG1 e)) (J.extBut b o (aGi (aG1 e)) (aGW _ e));exact aGT (oy (aGU (h aw tk he)) (by rw[aGb,ay,ka];lia))
end
section
variable {X:Cx} {pos:Pos}
inductive L5 (K:PySem.W.Frag) (n:Nat) (i:Nat) (t:TGs) (v:V) (σ:St) (H:Hp) (Q:St->Hp->Prop):Prop
 | mk (a:_) (xs:_) (h0_:v=.ref a) (h1_:SqT K H a xs) (h2_:i<n) (h3_:n<=xs.length+1) (h4_:xs.length<=16384) (h5_:∀ D,H D=none->t (xs.take i++[.ref D]++(xs.drop i).drop (xs.length+1 - n)) σ (upd H D (.lst ((xs.drop i).take (xs.length+1 - n)))) Q):L5 K n i t v σ H Q
def aEW (K:PySem.W.Frag) (n i:Nat) (t:TGs):TG:=λv σ H Q=>L5 K n i t v σ H Q
def aBc {es:List Expr} {k:Nat} {t:TGs} {n i:Nat} (L:X.calm=true) (h:PGs X es t) (M:(assignEach es X.env).length=n:=by rfl) (hst:(assignEach es X.env).findIdx? (·.1)=some i:=by rfl):PG X (.Tuple es k pos) (aEW X.K n i t):=by
 intro pins s σ H v u Q I r hw;obtain⟨a,xs,U,Y,hi,hl,hz,hw⟩:=hw;subst U;cases r;obtain⟨its,z,ht,aw⟩:=I.tuple Y;have el:=z.length;rw[assign_Tuple];refine aGT (gw ?_);unfold unpack;rw[M,hst];refine aGT (fy (aBb ht (I.ok.hd L) hi (by rw[aG3];lia) (by rw[aG3];lia) λh' tk kp=>?_));have J:Inv X pins σ H { s with heap:=h',toks:=tk }:=I.kept kp;simp only[aG3,<- el];have I2:Inv X pins σ (upd H h'.objs.size (.lst ((xs.drop i).take (xs.length+1 - n)))) { s with heap:=h'.push (seqObj "list" ((its.drop i).take (xs.length+1 - n)).toArray 0),toks:=tk } :=
  J.laid (λb o e=>aGW _ e) (ah _) ⟨by rw[aGb,jy];lia,_,0,jN _ (fS _ z),aG2 _ rfl⟩
 exact h pins _ σ _ _ _ Q I2 (lN (lN (jN _ z) (.cons (show RelV (.ref h'.objs.size) (.ref h'.objs.size) from rfl) .nil)) (fS _ (fS _ z))) (hw _ (J.hok.fresh (ah _)))
end
def jP (P:Program) (w:World) (K:PySem.W.Frag) (mg:Str->Option Value) (base:Heap) (x:Str) (C:Addr) (k:Nat) (ps:List Str) (sp:Sp):Prop :=
 ∃ f fd,FnOk P w K mg base CX0 k f fd ps sp/\Mk K C f/\mg x=some (.ref C)/\Binds K fd ps []
section
variable {X:Cx} {C:Addr} {x m:Str} {j k:Nat} {ps:List Str} {sp:Sp} {ta:TE} {t:TA} {o e:Expr} {es:List Expr} {p pos apos:Pos}
def rA (N:jP X.prog X.w X.K X.mg X.base x C j ps sp) (z:Room k X.A) (J:Gl X x) (L:PA X (e :: es) t) (U:j+1<=k:=by decide) (hdb:(x == ("__debug__":Str))=false:=by decide)
 (he:starEach (e :: es) X.env=(false,eval e X.env) :: starEach es X.env:=by rfl) (hpl:(backTo pos (starEach es X.env)).any (·.1)=false:=by rfl) :
 PE X (.Call (.Name x p) (e :: es) [] pos) (Z4 C sp [] E0 t):=by
 obtain⟨f,fd,G,M,Y,hb⟩:=N;exact aCq (hdb:=hdb) (he:=he) (hpl:=hpl) M G (z.mono U) J Y hb .nil eA L
def j3 (N:jP X.prog X.w X.K X.mg X.base x C j ps sp) (z:Room k X.A) (J:Gl X x) (L:j+1<=k:=by decide) (hdb:(x == ("__debug__":Str))=false:=by decide) :
 PE X (.Call (.Name x p) [] [] pos) (Z4 C sp [] E0 xL):=by
 obtain⟨f,fd,G,M,U,Y⟩:=N;exact aAj (hdb:=hdb) M G (z.mono L) J U Y .nil eA
inductive L6 (xs:List V) (H:Hp) (Q:VK):Prop
 | mk (a:_) (kvs:_) (h0_:xs=[.ref a]) (h1_:H a=some (.dK kvs)) (h2_:∀ d,H d=none->Q (.ref d) (upd H d (.dK kvs))):L6 xs H Q
def vO:eK X (.type "dict") L6:=by
 intro pins s σ H xs us Q I r h;obtain⟨a,kvs,rfl,M,q⟩:=h;obtain⟨u,rfl,U⟩:=hJ r;cases U;obtain⟨z,J,vs,L,dd⟩:=pO I.hok M;have Y:vs.length<=sizeLine:=by have:=L.length;lia
 refine kt_call_dict (knd:=bF X.prog X.w) J dd Y λh' hd hs=>?_;have hn:=I.hok.fresh (ah s.heap.objs.size);refine⟨.ref s.heap.objs.size,_,I.laid (h':=h') (t':=s.toks) (λb o e=>?_) (ah _) (zZ z (beq_eq_false_iff_ne.mpr (gi (aGi I.big))) L hd),rfl,q _ hn⟩;exact hs.extBut b o (aGi (aG1 e)) (aGW _ e)
end
end L2
namespace CW
open PySem L2
def cT {J Y:Type} {f:J->Y}:∀ {l:List J},(l.map f).Nodup->∀ {x y:J},x∈l->y∈l->f x=f y->x=y
 | [],_,_,_,L,_,_=>by cases L
 | z :: r,h,x,y,L,U,e=>by
  rw[aGk,List.nodup_cons]at h;rcases aGx.mp L with ex | hx'
  .rcases aGx.mp U with M | hy'
   .rw[ex,M]
   .exact absurd (aGz.mpr ⟨y,hy',by rw[<- e,ex]⟩) h.1
  .rcases aGx.mp U with M | hy'
   .exact absurd (aGz.mpr ⟨x,hx',by rw[e,M]⟩) h.1
   .exact cT h.2 hx' hy' e
abbrev Grp:=Int×Addr×List Int
def kvG (gs:List Grp):List (Key×V):=gs.map λg=>((Sum.inl g.1:Key),V.ref g.2.1)
structure DG (H:Hp) (d:Addr) (gs:List Grp):Prop where
 at_:H d=some (.dK (kvG gs))
 lst:∀ g∈gs,H g.2.1=some (.lst (g.2.2.map V.int))
 adr:(gs.map (·.2.1)).Nodup
 key:(gs.map (·.1)).Nodup
def SameD (d:Addr) (H H':Hp):Prop:=∀ b o,b≠d->H b=some o->H' b=some o
def wgt (f:Int->Int) (gs:List Grp):Int:=(gs.map λg=>f g.1 * (g.2.2.length:Int)).sum
def tot (f:Int->Int) (ps:List (Int×Int)):Int:=(ps.map λp=>f p.1).sum
def fM (k:Int):∀ gs:List Grp,dM (kvG gs) (Sum.inl k:Key)=(gs.find? λg=>decide (g.1=k)).map λg=>V.ref g.2.1
 | []=>rfl
 | g :: r=>by
  by_cases h:g.1=k
  .have:dM (kvG (g :: r)) (Sum.inl k:Key)=some (V.ref g.2.1):=bS (p:=((Sum.inl g.1:Key),V.ref g.2.1)) (by rw[h]);rw[this,jj,aGh h];rfl
  .have:dM (kvG (g :: r)) (Sum.inl k:Key)=dM (kvG r) (Sum.inl k:Key):=dA (p:=((Sum.inl g.1:Key),V.ref g.2.1)) (λz=>h (uz z));rw[this,jj,aGg h];exact fM k r
def fG (k o:Int) (gs:List Grp):List Grp:=gs.map λg=>if g.1=k then (g.1,g.2.1,g.2.2++[o])else g
def L7 (k o:Int) (gs:List Grp):kvG (fG k o gs)=kvG gs:=by
 unfold kvG fG;rw[aGp];refine ii λg _=>?_;simp only[Function.comp];split <;> rfl
def L8 (k o:Int) (gs:List Grp):(fG k o gs).map (·.2.1)=gs.map (·.2.1):=by
 unfold fG;rw[aGp];refine ii λg _=>?_;simp only[Function.comp];split <;> rfl
def L9 (k o:Int) (gs:List Grp):(fG k o gs).map (·.1)=gs.map (·.1):=by
 unfold fG;rw[aGp];refine ii λg _=>?_;simp only[Function.comp];split <;> rfl
def aBd (k o:Int) (gs:List Grp):(fG k o gs).length=gs.length:=by simp[fG]
def rB {k o:Int}:∀ {gs:List Grp},(∀ g∈gs,g.1≠k)->fG k o gs=gs
 | [],_=>rfl
 | g :: r,h=>by
  have h1:=h g aGX;unfold fG;rw[aGk,dt h1]
  congr 1
  exact rB λx z=>h x (aGY _ z)
def M0 (f:Int->Int) {k o:Int}:∀ {gs:List Grp},(gs.map (·.1)).Nodup->(∃ g∈gs,g.1=k)->wgt f (fG k o gs)=wgt f gs+f k
 | [],_,⟨g,h,_⟩=>by cases h
 | g :: r,L,hex=>by
  have z:=List.nodup_cons.mp L
  by_cases h:g.1=k
  .have M:fG k o r=r:=rB λx hx e=>z.1 (aGz.mpr ⟨x,hx,e.trans h.symm⟩);have:fG k o (g :: r)=(g.1,g.2.1,g.2.2++[o]) :: r:=by
    show (if g.1=k then (g.1,g.2.1,g.2.2++[o])else g) :: fG k o r=_;rw[eH h,M]
   rw[this];simp only[wgt,aGk,aGn,aG4,gm];rw[<- h];have:f g.1 * ((g.2.2.length+1:Nat):Int)=f g.1 * (g.2.2.length:Int)+f g.1:=by
    rw[show ((g.2.2.length+1:Nat):Int)=(g.2.2.length:Int)+1 by lia,uh,ue]
   rw[this]
   lia
  .have J:∃ g∈r,g.1=k:=by
    obtain⟨x,hx,e⟩:=hex;rcases aGx.mp hx with rfl | hx
    .exact absurd e h
    .exact⟨x,hx,e⟩
   have U:=M0 f (o:=o) z.2 J;have:fG k o (g :: r)=g :: fG k o r:=by
    show (if g.1=k then (g.1,g.2.1,g.2.2++[o])else g) :: fG k o r=_;rw[dt h]
   rw[this];simp only[wgt,aGk,aGn]at U ⊢
   lia
def gP (j k:Int):Int:=if k<j then k else j
def StayG (d:Addr) (gs:List Grp) (H H':Hp):Prop:=∀ b o,b≠d->(∀ g∈gs,b≠g.2.1)->H b=some o->H' b=some o
def pops (k:Int) (gs:List Grp):List Grp:=gs.map λg=>if g.1=k then (g.1,g.2.1,g.2.2.dropLast)else g
def outs (k:Int) (gs:List Grp):List Grp:=gs.filter λg=>decide (g.1≠k)
def aBe (k:Int) (gs:List Grp):kvG (pops k gs)=kvG gs:=by
 unfold kvG pops;rw[aGp];refine ii λg _=>?_;simp only[Function.comp];split <;> rfl
def aBf (k:Int) (gs:List Grp):(pops k gs).map (·.2.1)=gs.map (·.2.1):=by
 unfold pops;rw[aGp];refine ii λg _=>?_;simp only[Function.comp];split <;> rfl
def lO (k:Int) (gs:List Grp):(pops k gs).map (·.1)=gs.map (·.1):=by
 unfold pops;rw[aGp];refine ii λg _=>?_;simp only[Function.comp];split <;> rfl
def pU {k:Int} {gs:List Grp} {g':Grp} (h:g'∈pops k gs):∃ g∈gs,g'.2.1=g.2.1/\g'.1=g.1/\g'.2.2=if g.1=k then g.2.2.dropLast else g.2.2:=by
 obtain⟨g,J,rfl⟩:=aGz.mp h;refine⟨g,J,?_⟩
 by_cases z:g.1=k
 .rw[eH z,eH z];exact⟨rfl,rfl,rfl⟩
 .rw[dt z,dt z];exact⟨rfl,rfl,rfl⟩
def DG.pops {H:Hp} {d:Addr} {gs:List Grp} (dg:DG H d gs) {g:Grp} (L:g∈gs):DG (upd H g.2.1 (.lst (g.2.2.dropLast.map V.int))) d (pops g.1 gs):=by
 have M:d≠g.2.1:=cI dg.at_ (dg.lst g L) (by intro z;cases z);refine⟨by rw[aBe,aF M];exact dg.at_,λg' U=>?_,by rw[aBf];exact dg.adr,by rw[lO];exact dg.key⟩;obtain⟨J,h0,e1,e2,e3⟩:=pU U;rw[e1,e3]
 by_cases Y:J.2.1=g.2.1
 .have:J=g:=cT (f:=λg:Grp=>g.2.1) dg.adr h0 L Y;subst this;rw[aE,eH rfl]
 .have hk:J.1≠g.1:=λe=>Y (by rw[cT (f:=λg:Grp=>g.1) dg.key h0 L e]);rw[aF Y,dt hk];exact dg.lst J h0
def aBg (k:Int):∀ gs:List Grp,sF (kvG gs) (Sum.inl k:Key)=kvG (outs k gs):=by
 intro gs;unfold sF kvG outs;rw[List.filter_map]
 congr 1
 refine List.filter_congr λg _=>?_;simp only[Function.comp,ne_eq,Sum.inl.injEq]
def DG.outs {H:Hp} {d:Addr} {gs:List Grp} (dg:DG H d gs) (k:Int):DG (upd H d (.dK (sF (kvG gs) (Sum.inl k:Key)))) d (outs k gs):=by
 refine⟨by rw[aE,aBg],λg L=>?_,?_,?_⟩
 .have J:=(aHA.mp L).1;rw[aF (cI (dg.lst g J) dg.at_ (by intro z;cases z))];exact dg.lst g J
 .exact dg.adr.sublist (List.filter_sublist.map _)
 .exact dg.key.sublist (List.filter_sublist.map _)
def pV {gs:List Grp} {g:Grp} (J:(gs.map (·.1)).Nodup) (z:g∈gs):gs.find? (λx=>decide (x.1=g.1))=some g:=by
 cases h:gs.find? (λx=>decide (x.1=g.1))with
 | none=>exact absurd (List.find?_eq_none.mp h g z) (by simp)
 | some x =>
  have h1:=kc h;have h2:x.1=g.1:=by simpa using ss h
  rw[cT (f:=λg:Grp=>g.1) J h1 z h2]
def DG.get {H:Hp} {d:Addr} {gs:List Grp} (dg:DG H d gs) {g:Grp} (z:g∈gs):DGet H d (.int g.1) (some (.ref g.2.1)):=by
 have h:=DGet.k (k:=(Sum.inl g.1:Key)) dg.at_;rw[fM,pV dg.key z]at h;exact h
def shr (k:Int) (gs:List Grp):List Grp:=if (pops k gs).any (λg=>decide (g.1=k) && g.2.2.isEmpty)then outs k (pops k gs)else pops k gs
section
variable {P:Program} {w:World} {K:PySem.W.Frag} {mg:Str->Option Value} {base:Heap}
inductive vP (vs:List V) (H:Hp) (Q:VK) (E_:XK):Prop
 | mk (d:Addr) (gs:List Grp) (j:Int) (h0_:vs=[.ref d,.int j]) (h1_:DG H d gs) (h2_:gs.length<=60) (h3_:(∀ g∈gs,g.2.2.length<=60)) (h4_:∀ H',Same H H'->Q (.int (2 * wgt (gP j) gs)) H'):vP vs H Q E_
inductive kE (vs:List V) (H:Hp) (Q:VK) (E_:XK):Prop
 | mk (d:Addr) (gs:List Grp) (g:Grp) (h0_:vs=[.ref d,.int g.1]) (h1_:DG H d gs) (h2_:g∈gs) (h3_:g.2.2≠[]) (h4_:∀ H',StayG d gs H H'->DG H' d (shr g.1 gs)->Q .non H'):kE vs H Q E_
end
def GoodG (gs:List Grp):Prop:=∀ g∈gs,1<=g.1/\g.2.2≠[]
def sto (gs:List Grp):Int:=wgt (λk=>k) gs
def cP (f:Int->Int) (g:Grp) (r:List Grp):wgt f (g :: r)=f g.1 * (g.2.2.length:Int)+wgt f r:=by simp[wgt]
def GoodG.tail {g:Grp} {r:List Grp} (h:GoodG (g :: r)):GoodG r:=λx z=>h x (aGY _ z)
def GoodG.one {g:Grp} {r:List Grp} (h:GoodG (g :: r)):(g.2.2.length:Int)<=g.1 * (g.2.2.length:Int)/\1<=(g.2.2.length:Int):=by
 obtain⟨h1,h2⟩:=h g aGX;have h3:0<g.2.2.length:=List.length_pos_iff.mpr h2;refine⟨?_,by lia⟩;have:=Int.mul_le_mul_of_nonneg_right h1 (show (0:Int)<=(g.2.2.length:Int)by lia)
 lia
def GoodG.bound:∀ {gs:List Grp},GoodG gs->(gs.length:Int)<=sto gs/\∀ g∈gs,(g.2.2.length:Int)<=sto gs
 | [],_=>⟨nr _,λg z=>(nomatch z)⟩
 | g :: r,h=>by
  obtain⟨a,b⟩:=GoodG.bound h.tail;obtain⟨c,d⟩:=h.one;unfold sto at a b ⊢;rw[cP];refine⟨by simp only[aGo];lia,λx hx=>?_⟩;rcases aGx.mp hx with e | hx
  .rw[e];lia
  .have:=b x hx;lia
def rC {k:Int}:∀ {gs:List Grp},(∀ g∈gs,g.1≠k)->pops k gs=gs
 | [],_=>rfl
 | g :: r,h=>by
  have h1:=h g aGX;show (if g.1=k then (g.1,g.2.1,g.2.2.dropLast)else g) :: pops k r=g :: r;rw[dt h1,rC λx z=>h x (aGY _ z)]
def vQ (f:Int->Int):∀ {gs:List Grp},(gs.map (·.1)).Nodup->∀ {g:Grp},g∈gs->g.2.2≠[]->wgt f (pops g.1 gs)=wgt f gs - f g.1
 | [],_,g,L,_=>by cases L
 | x :: r,U,g,L,z=>by
  have J:=List.nodup_cons.mp U;have Y:pops g.1 (x :: r)=(if x.1=g.1 then (x.1,x.2.1,x.2.2.dropLast)else x) :: pops g.1 r:=rfl;rw[Y]
  by_cases h:x.1=g.1
  .have hx:x=g:=cT (f:=λg:Grp=>g.1) U aGX L h;subst hx;rw[eH rfl,rC λy hy e=>J.1 (aGz.mpr ⟨y,hy,e⟩),cP,cP];have h3:0<x.2.2.length:=List.length_pos_iff.mpr z;have h4:((x.2.2.dropLast.length:Nat):Int)=(x.2.2.length:Int) - 1:=by rw[tu];lia
   simp only[h4,Int.mul_sub,ue]
   lia
  .have M:g∈r:=by
    rcases aGx.mp L with e | e
    .exact absurd (by rw[e]) h
    .exact e
   rw[dt h,cP,cP,vQ f J.2 M z]
   lia
def M3 (f:Int->Int) {k:Int}:∀ {gs:List Grp},(∀ g∈gs,g.1=k->g.2.2=[])->wgt f (outs k gs)=wgt f gs
 | [],_=>rfl
 | g :: r,h=>by
  have z:=M3 f (k:=k) (gs:=r) λx J=>h x (aGY _ J);unfold outs at z ⊢;rw[oo,cP]
  by_cases e:g.1=k
  .have:=h g aGX e;rw[dt (by simp[e]),z,this];simp
  .rw[eH (by simp[e]),cP,z]
def j4 (f:Int->Int) {gs:List Grp} (J:(gs.map (·.1)).Nodup) {g:Grp} (M:g∈gs) (z:g.2.2≠[]):wgt f (shr g.1 gs)=wgt f gs - f g.1:=by
 unfold shr;split
 .next h =>
  obtain⟨x,U,L⟩:=List.any_eq_true.mp h;simp only[gf,nn,List.isEmpty_iff]at L;rw[M3 f λy Y e=>?_,vQ f J M z];have:y=x:=cT (f:=λg:Grp=>g.1) (by rw[lO];exact J) Y U (e.trans L.1.symm);rw[this];exact L.2
 .exact vQ f J M z
def GoodG.shr {gs:List Grp} (h:GoodG gs) (k:Int):GoodG (shr k gs):=by
 have J:∀ x∈pops k gs,1<=x.1/\(x.1≠k->x.2.2≠[]):=λx z=>by
  obtain⟨g,U,e1,L,e3⟩:=pU z;obtain⟨h1,h2⟩:=h g U;refine⟨by rw[L];exact h1,λn=>?_⟩;rw[e3,dt (by rw[<- L];exact n)];exact h2
 intro x z;unfold CW.shr at z;split at z
 .obtain⟨h1,h2⟩:=aHA.mp z;exact⟨(J x h1).1,(J x h1).2 (by simpa using h2)⟩
 .next Y =>
  refine⟨(J x z).1,λe=>?_⟩
  by_cases M:x.1=k
  .exact Y (List.any_eq_true.mpr ⟨x,z,by simp[M,e]⟩)
  .exact(J x z).2 M e
def j5 {gs:List Grp} {k:Int} {x:Grp} (z:x∈shr k gs):∃ g∈gs,x.2.1=g.2.1:=by
 unfold shr at z;have J:x∈pops k gs:=by
  split at z
  .exact(aHA.mp z).1
  .exact z
 obtain⟨g,L,M,_⟩:=pU J;exact⟨g,L,M⟩
def vR (H:Hp) (k o:Int) (gs J:List Grp):Prop:=(∃ g∈gs,g.1=k)/\J=fG k o gs\/(∀ g∈gs,g.1≠k)/\∃ z,H z=none/\J=gs++[(k,z,[o])]
def aBh (f:Int->Int) {H:Hp} {k o:Int} {gs J:List Grp} (L:(gs.map (·.1)).Nodup) (h:vR H k o gs J):wgt f J=wgt f gs+f k:=by
 rcases h with ⟨M,rfl⟩ | ⟨_,z,_,rfl⟩
 .exact M0 f L M
 .simp[wgt]
def GoodG.puts {H:Hp} {k o:Int} {gs J:List Grp} (g:GoodG gs) (M:1<=k) (h:vR H k o gs J):GoodG J:=by
 rcases h with ⟨U,rfl⟩ | ⟨_,z,_,rfl⟩
 .intro x hx;obtain⟨L,h0,rfl⟩:=aGz.mp hx;obtain⟨h1,h2⟩:=g L h0
  by_cases e:L.1=k
  .rw[eH e];exact⟨h1,by simp⟩
  .rw[dt e];exact⟨h1,h2⟩
 .intro x hx;rcases aGy.mp hx with hx | hx
  .exact g x hx
  .rw[aGr.mp hx];exact⟨M,by simp⟩
def M4 {H:Hp} {k o:Int} {gs J:List Grp} (h:vR H k o gs J) {x:Grp} (hx:x∈J):(∃ g∈gs,x.2.1=g.2.1)\/H x.2.1=none:=by
 rcases h with ⟨U,rfl⟩ | ⟨_,z,L,rfl⟩
 .obtain⟨M,h0,rfl⟩:=aGz.mp hx;refine .inl ⟨M,h0,?_⟩;split <;> rfl
 .rcases aGy.mp hx with hx | hx
  .exact .inl ⟨x,hx,rfl⟩
  .rw[aGr.mp hx];exact .inr L
def StayG.same {H H1 H2:Hp} {d r:Addr} {gs:List Grp} (st:StayG d gs H1 H2) (L:Same H H1) (hd:H d=none) (J:∀ g∈gs,H g.2.1=none/\g.2.1≠r):Same H H2:=λb o e =>
 st b o (λz=>by rw[z,hd]at e;cases e) (λg M z=>by rw[z,(J g M).1]at e;cases e) (L b o e)
end CW
namespace CW
abbrev Trs:=List (Int×Int)
def les (ps:Trs) (j:Int):Int:=(ps.map λq=>min j q.1).sum
def dH (q:Int×Int) (ps:Trs) (j:Int):les (q :: ps) j=min j q.1+les ps j:=by simp[les]
def bR {ps z:Trs} (h:ps.Perm z) (j:Int):les ps j=les z j:=by
 unfold les
 induction h with
 | nil=>rfl
 | cons x _ J=>simp only[aGk,aGn];lia
 | swap x y l=>simp only[aGk,aGn];lia
 | trans _ _ h1 h2=>exact h1.trans h2
def Bd (ps:Trs) (n:Int):Prop:=∀ q∈ps,1<=q.1/\q.2+2 * les ps q.1<=n
def Bd.mono {ps:Trs} {n m:Int} (h:Bd ps n) (e:n<=m):Bd ps m:=λq z=>⟨(h q z).1,Int.le_trans (h q z).2 e⟩
def Add (ps:Trs) (p:Int) (z:Trs):Prop:=∃ (s:Int) (rest:Trs),0<=s/\(s=0/\ps.Perm rest\/1<=s/\ps.Perm ((s,p - 1 - 2 * les ps s) :: rest))/\(∀ q∈ps,s<q.1->q.2+2 * les ps q.1≠p - 1)/\z.Perm ((s+1,p - 2 * les rest (s+1) - 2 * (s+1)) :: rest)
def Add.perm {ps z L J:Trs} {p:Int} (h:Add ps p L) (e:ps.Perm z) (f:L.Perm J):Add z p J:=by
 obtain⟨s,rest,h0,h1,h2,h3⟩:=h;refine⟨s,rest,h0,?_,λq M hs=>?_,f.symm.trans h3⟩
 .rcases h1 with ⟨a,b⟩ | ⟨a,b⟩
  .exact .inl ⟨a,e.symm.trans b⟩
  .refine .inr ⟨a,?_⟩;rw[<- bR e];exact e.symm.trans b
 .rw[<- bR e];exact h2 q (e.mem_iff.mpr M) hs
def Add.uniq {ps qs L:Trs} {p:Int} (h:Add ps p qs) (h':Add ps p L):qs.Perm L:=by
 obtain⟨s,rest,h0,h1,h2,h3⟩:=h;obtain⟨s',z,aw,M,U,Y⟩:=h';have hs:s=s':=by
  rcases h1 with ⟨a,b⟩ | ⟨a,b⟩ <;> rcases M with ⟨a',J⟩ | ⟨a',J⟩
  .lia
  .exact absurd (show (p - 1 - 2 * les ps s')+2 * les ps s'=p - 1 by lia) (h2 _ (J.mem_iff.mpr aGX) (show s<s' by lia))
  .exact absurd (show (p - 1 - 2 * les ps s)+2 * les ps s=p - 1 by lia) (U _ (b.mem_iff.mpr aGX) (show s'<s by lia))
  .rcases Int.lt_trichotomy s s' with l | l | l
   .exact absurd (show (p - 1 - 2 * les ps s')+2 * les ps s'=p - 1 by lia) (h2 _ (J.mem_iff.mpr aGX) l)
   .exact l
   .exact absurd (show (p - 1 - 2 * les ps s)+2 * les ps s=p - 1 by lia) (U _ (b.mem_iff.mpr aGX) l)
 subst hs;have hr:rest.Perm z:=by
  rcases h1 with ⟨a,b⟩ | ⟨a,b⟩ <;> rcases M with ⟨a',J⟩ | ⟨a',J⟩
  .exact b.symm.trans J
  .lia
  .lia
  .exact List.Perm.cons_inv (b.symm.trans J)
 refine h3.trans (List.Perm.trans ?_ Y.symm);rw[bR hr];exact hr.cons _
def Add.bd {ps z:Trs} {p:Int} (h:Add ps p z) (b:Bd ps (p - 1)):Bd z p:=by
 obtain⟨s,rest,h0,h1,h2,h3⟩:=h;have M:∀ j,1<=j->les z j=les ps j+if s<j then 1 else 0:=λj U=>by
  rw[bR h3,dH];rcases h1 with ⟨a,b⟩ | ⟨a,b⟩
  .rw[bR b];simp only;split <;> lia
  .rw[bR b,dH];simp only;split <;> lia
 intro q hq;rcases aGx.mp (h3.mem_iff.mp hq)with rfl | hq
 .refine⟨show 1<=s+1 by lia,?_⟩;have:les z (s+1)=s+1+les rest (s+1):=by
   rw[bR h3,dH];simp only
   lia
  show (p - 2 * les rest (s+1) - 2 * (s+1))+2 * les z (s+1)<=p
  lia
 .have J:q∈ps:=by
   rcases h1 with ⟨_,e⟩ | ⟨_,e⟩
   .exact e.mem_iff.mpr hq
   .exact e.mem_iff.mpr (aGY _ hq)
  obtain⟨L,Y⟩:=b q J;refine⟨L,?_⟩;have:=h2 q J;rw[M q.1 L];split <;> lia
def Tak (ps:Trs) (p:Int) (z:Trs):Prop:=∃ (s:Int) (rest:Trs),1<=s/\ps.Perm ((s,p - 2 * les ps s) :: rest)/\(∀ q∈ps,q.2+2 * les ps q.1<=p)/\(∀ q∈ps,q.1<s->q.2+2 * les ps q.1<p) /\
 (s=1/\z.Perm rest\/2<=s/\z.Perm ((s - 1,p - 1 - 2 * les rest (s - 1) - 2 * (s - 1)) :: rest))
def Tak.add {ps z:Trs} {p:Int} (h:Tak ps p z) (Y:∀ q∈ps,1<=q.1):Bd z (p - 1)/\Add z p ps:=by
 obtain⟨s,rest,h0,h1,h2,h3,h4⟩:=h;have hl:∀ j,0<=j->les ps j=les z j+if s<=j then 1 else 0:=λj hj=>by
  rw[bR h1,dH];rcases h4 with ⟨a,b⟩ | ⟨a,b⟩
  .rw[bR b];simp only;split <;> lia
  .rw[bR b,dH];simp only;split <;> lia
 have hold:∀ q∈rest,1<=q.1/\q.2+2 * les z q.1<=p - 1/\(s<=q.1->q.2+2 * les z q.1<=p - 2):=λq hq=>by
  have L:q∈ps:=h1.mem_iff.mpr (aGY _ hq);have a1:=Y q L;have a2:=h2 q L;have a3:=h3 q L;have M:=hl q.1 (by lia);refine⟨a1,?_,λhs=>?_⟩
  .by_cases hs:s<=q.1
   .rw[eH hs]at M;lia
   .rw[dt hs]at M;have:=a3 (by lia);lia
  .rw[eH hs]at M;lia
 have J:2<=s->les z (s - 1)=(s - 1)+les rest (s - 1):=λh=>by
  rcases h4 with ⟨a,b⟩ | ⟨a,b⟩
  .lia
  .rw[bR b,dH];simp only;lia
 refine⟨λq hq=>?_,s - 1,rest,by lia,?_,λq hq hs=>?_,?_⟩
 .rcases h4 with ⟨a,b⟩ | ⟨a,b⟩
  .have:=hold q (b.mem_iff.mp hq);exact⟨this.1,this.2.1⟩
  .rcases aGx.mp (b.mem_iff.mp hq)with rfl | hq
   .refine⟨show 1<=s - 1 by lia,?_⟩;have:=J a;show (p - 1 - 2 * les rest (s - 1) - 2 * (s - 1))+2 * les z (s - 1)<=p - 1
    lia
   .have:=hold q hq;exact⟨this.1,this.2.1⟩
 .rcases h4 with ⟨a,b⟩ | ⟨a,b⟩
  .exact .inl ⟨by lia,b⟩
  .refine .inr ⟨by lia,?_⟩;have e:p - 1 - 2 * les z (s - 1)=p - 1 - 2 * les rest (s - 1) - 2 * (s - 1):=by have:=J a;lia
   rw[e];exact b
 .have U:q∈rest:=by
   rcases h4 with ⟨a,b⟩ | ⟨a,b⟩
   .exact b.mem_iff.mp hq
   .rcases aGx.mp (b.mem_iff.mp hq)with rfl | hq
    .exact absurd hs (by show ¬ (s - 1<s - 1);lia)
    .exact hq
  have:=(hold q U).2.2 (by lia)
  lia
 .have e:s - 1+1=s:=by lia
  rw[e];have e2:p - 2 * les rest s - 2 * s=p - 2 * les ps s:=by rw[bR h1,dH];simp only;lia
  rw[e2];exact h1
def Add.tak {ps z:Trs} {p:Int} (h:Add ps p z) (b:Bd ps (p - 1)):Tak z p ps:=by
 have J:=h.bd b;obtain⟨s,rest,h0,h1,h2,h3⟩:=h;have L:∀ j,0<=j->les z j=les ps j+if s<j then 1 else 0:=λj Y=>by
  rw[bR h3,dH];rcases h1 with ⟨a,b⟩ | ⟨a,b⟩
  .rw[bR b];simp only;split <;> lia
  .rw[bR b,dH];simp only;split <;> lia
 have M:p - 2 * les z (s+1)=p - 2 * les rest (s+1) - 2 * (s+1):=by rw[bR h3,dH];simp only;lia
 refine⟨s+1,rest,by lia,by rw[M];exact h3,λq hq=>(J q hq).2,λq hq hs=>?_,?_⟩
 .rcases aGx.mp (h3.mem_iff.mp hq)with rfl | hq
  .exact absurd hs (by show ¬ (s+1<s+1);lia)
  .have U:q∈ps:=by
    rcases h1 with ⟨_,e⟩ | ⟨_,e⟩
    .exact e.mem_iff.mpr hq
    .exact e.mem_iff.mpr (aGY _ hq)
   obtain⟨b1,b2⟩:=b q U;have:=L q.1 (by lia);rw[dt (by lia)]at this
   lia
 .rcases h1 with ⟨a,e⟩ | ⟨a,e⟩
  .exact .inl ⟨by lia,e⟩
  .refine .inr ⟨by lia,?_⟩;have e3:s+1 - 1=s:=by lia
   rw[e3];have e4:p - 1 - 2 * les rest s - 2 * s=p - 1 - 2 * les ps s:=by rw[bR e,dH];simp only;lia
   rw[e4];exact e
def Tak.uniq {ps z qs M:Trs} {p U:Int} (h:Tak ps p qs) (h':Tak z U M) (e:ps.Perm z):p=U/\qs.Perm M:=by
 obtain⟨s,rest,h0,h1,h2,h3,h4⟩:=h;obtain⟨s',J,ay,L,Y,aw,ax⟩:=h';have m1:(s,p - 2 * les ps s)∈ps:=h1.mem_iff.mpr aGX;have m2:(s',U - 2 * les z s')∈z:=L.mem_iff.mpr aGX;have a1:=Y _ (e.mem_iff.mp m1);have a2:=h2 _ (e.mem_iff.mpr m2);have l1:=bR e s;have l2:=bR e s';simp only at a1 a2;have hp:p=U:=by lia
 subst hp;have b1:=aw _ (e.mem_iff.mp m1);have b2:=h3 _ (e.mem_iff.mpr m2);simp only at b1 b2;have hs:s=s':=by
  rcases Int.lt_trichotomy s s' with l | l | l
  .have:=b1 l;lia
  .exact l
  .have:=b2 l;lia
 subst hs;rw[<- l1]at L;have hr:rest.Perm J:=List.Perm.cons_inv ((h1.symm.trans e).trans L);refine⟨rfl,?_⟩;rcases h4 with ⟨a,b⟩ | ⟨a,b⟩ <;> rcases ax with ⟨a',b'⟩ | ⟨a',b'⟩
 .exact b.trans (hr.trans b'.symm)
 .lia
 .lia
 .refine b.trans (List.Perm.trans ?_ b'.symm);rw[bR hr];exact hr.cons _
inductive Lst:List Int->Trs->Prop
 | nil:Lst [] []
 | snoc {r:List Int} {ps:Trs} {p:Int} {qs:Trs}:Lst r ps->(∀ x∈r,x<p)->Add ps p qs->Lst (r++[p]) qs
def Add.ne {ps z:Trs} {p:Int} (h:Add ps p z):z≠[]:=by
 obtain⟨s,rest,_,_,_,h3⟩:=h;intro e;rw[e]at h3;exact absurd h3.symm.eq_nil (by simp)
def Lst.perm {r:List Int} {ps z:Trs} (h:Lst r ps) (e:ps.Perm z):Lst r z:=by
 cases h with
 | nil=>rw[e.symm.eq_nil];exact .nil
 | snoc a b c=>exact .snoc a b (c.perm (.refl _) e)
def Lst.inv {r:List Int} {p:Int} {z:Trs} (h:Lst (r++[p]) z):∃ ps,Lst r ps/\(∀ x∈r,x<p)/\Add ps p z:=by
 generalize e:r++[p]=t at h;cases h with
 | nil=>simp at e
 | snoc a b c =>
  obtain⟨rfl,J⟩:=List.append_inj' e rfl;obtain rfl:p=_:=by simpa using J
  exact⟨_,a,b,c⟩
def Lst.nilr {z:Trs} (h:Lst [] z):z=[]:=by
 generalize e:([]:List Int)=t at h;cases h with
 | nil=>rfl
 | snoc a b c=>simp at e
def Lst.bd {r:List Int} {ps:Trs} (h:Lst r ps) {n:Int}:(∀ x∈r,x<=n)->Bd ps n:=by
 induction h generalizing n with
 | nil=>intro _ q z;cases z
 | snoc a b c J =>
  intro L
  rename_i r ps p Y
  have M:p<=n:=L p (by simp);have:=J (n:=p - 1) λx U=>by have:=b x U;lia
  exact(c.bd this).mono M
def Lst.uniq {r:List Int} {ps z:Trs} (h:Lst r ps) (h':Lst r z):ps.Perm z:=by
 induction h generalizing z with
 | nil=>rw[h'.nilr]
 | snoc a b c J =>
  obtain⟨L,M,U,c'⟩:=h'.inv;exact(c.perm (J M) (.refl _)).uniq c'
def Lst.row {r:List Int} {ps:Trs} (h:Lst r ps) {z:List Int} {J:Trs} (h':Lst z J) (e:ps.Perm J):r=z:=by
 induction h generalizing z J with
 | nil =>
  cases h' with
  | nil=>rfl
  | snoc a b c=>exact absurd e.symm.eq_nil c.ne
 | snoc a b c Y =>
  cases h' with
  | nil=>exact absurd e.eq_nil c.ne
  | snoc U b' c' =>
   rename_i r ps p J z aw p'
   have bd:=a.bd (n:=p - 1) λx L=>by have:=b x L;lia
   have M:=U.bd (n:=p' - 1) λx L=>by have:=b' x L;lia
   obtain⟨rfl,e2⟩:=(c.tak bd).uniq (c'.tak M) e;rw[Y U e2]
def siz (ps:Trs):Int:=(ps.map (·.1)).sum
def pW {ps z:Trs} (h:ps.Perm z):siz ps=siz z:=by
 unfold siz
 induction h with
 | nil=>rfl
 | cons x _ J=>simp only[aGk,aGn];lia
 | swap x y l=>simp only[aGk,aGn];lia
 | trans _ _ h1 h2=>exact h1.trans h2
def M5 (q:Int×Int) (ps:Trs):siz (q :: ps)=q.1+siz ps:=by simp[siz]
def Add.sizx {ps z:Trs} {p:Int} (h:Add ps p z):siz z=siz ps+1:=by
 obtain⟨s,rest,h0,h1,h2,h3⟩:=h;rw[pW h3,M5];rcases h1 with ⟨a,b⟩ | ⟨a,b⟩
 .rw[pW b];simp only;lia
 .rw[pW b,M5];simp only;lia
def Lst.sizx {r:List Int} {ps:Trs} (h:Lst r ps):siz ps=(r.length:Int):=by
 induction h with
 | nil=>rfl
 | snoc a b c z=>rw[c.sizx,z];simp
def Lst.pos {r:List Int} {ps:Trs} (h:Lst r ps):∀ q∈ps,1<=q.1:=by
 obtain⟨n,z⟩:∃ n:Int,∀ x∈r,x<=n:=by
  clear h
  induction r with
  | nil=>exact⟨0,λx hx=>(nomatch hx)⟩
  | cons a r J =>
   obtain⟨n,z⟩:=J;refine⟨max a n,λx hx=>?_⟩;rcases aGx.mp hx with rfl | hx
   .lia
   .have:=z x hx;lia
 exact λq L=>(h.bd z q L).1
end CW
namespace CW
open PySem L2
def bK (gs:List Grp):Trs:=gs.flatMap λg=>g.2.2.map λo=>(g.1,o)
def cY (g:Grp) (r:List Grp):bK (g :: r)=g.2.2.map (λo=>(g.1,o))++bK r:=rfl
def M6 (a b:List Grp):bK (a++b)=bK a++bK b:=by simp[bK]
def gC {gs:List Grp} {q:Int×Int}:q∈bK gs↔∃ g∈gs,g.1=q.1/\q.2∈g.2.2:=by
 unfold bK;rw[List.mem_flatMap]
 constructor
 .rintro ⟨g,z,h⟩;obtain⟨o,J,rfl⟩:=aGz.mp h;exact⟨g,z,rfl,J⟩
 .rintro ⟨g,z,h1,h2⟩;exact⟨g,z,aGz.mpr ⟨q.2,h2,by rw[h1]⟩⟩
def T8 (f:Int->Int) (a b:Trs):tot f (a++b)=tot f a+tot f b:=by simp[tot]
def vS (f:Int->Int):∀ gs:List Grp,wgt f gs=tot f (bK gs)
 | []=>rfl
 | g :: r=>by
  rw[cP,cY,T8,vS f r]
  congr 1
  generalize g.2.2=l
  induction l with
  | nil=>simp[tot]
  | cons x l z =>
   have:tot f ((x :: l).map λo=>(g.1,o))=f g.1+tot f (l.map λo=>(g.1,o)):=by simp[tot]
   rw[this,<- z,aGo,show ((l.length+1:Nat):Int)=(l.length:Int)+1 by lia,uh,ue]
   lia
def pX (j k:Int):gP j k=min j k:=by unfold gP;split <;> lia
def aBi (ps:Trs) (j:Int):tot (gP j) ps=les ps j:=by
 unfold tot les
 congr 1
 exact ii λq _=>pX j q.1
def A8 (gs:List Grp) (j:Int):wgt (gP j) gs=les (bK gs) j:=by rw[vS,aBi]
def tW (gs:List Grp):sto gs=siz (bK gs):=vS _ gs
def zC {k o:Int}:∀ {gs:List Grp},(gs.map (·.1)).Nodup->(∃ g∈gs,g.1=k)->(bK (fG k o gs)).Perm ((k,o) :: bK gs)
 | [],_,⟨g,h,_⟩=>by cases h
 | g :: r,L,hex=>by
  have z:=List.nodup_cons.mp L
  by_cases h:g.1=k
  .have M:fG k o r=r:=rB λx hx e=>z.1 (aGz.mpr ⟨x,hx,e.trans h.symm⟩);have:fG k o (g :: r)=(g.1,g.2.1,g.2.2++[o]) :: r:=by
    show (if g.1=k then (g.1,g.2.1,g.2.2++[o])else g) :: fG k o r=_;rw[eH h,M]
   rw[this,cY,cY];simp only[aGa,aGk,lr,jh,h];exact oq
  .have J:∃ g∈r,g.1=k:=by
    obtain⟨x,hx,e⟩:=hex;rcases aGx.mp hx with rfl | hx
    .exact absurd e h
    .exact⟨x,hx,e⟩
   have U:=zC (o:=o) z.2 J;have:fG k o (g :: r)=g :: fG k o r:=by
    show (if g.1=k then (g.1,g.2.1,g.2.2++[o])else g) :: fG k o r=_;rw[dt h]
   rw[this,cY,cY];exact(U.append_left _).trans oq
def gZ {H:Hp} {k o:Int} {gs J:List Grp} (L:(gs.map (·.1)).Nodup) (h:vR H k o gs J):(bK J).Perm ((k,o) :: bK gs):=by
 rcases h with ⟨M,rfl⟩ | ⟨_,z,_,rfl⟩
 .exact zC L M
 .rw[M6];exact su
def rD:∀ {gs:List Grp},(gs.map (·.1)).Nodup->∀ {g:Grp} (_:g∈gs) (z:g.2.2≠[]),(bK gs).Perm ((g.1,g.2.2.getLast z) :: bK (pops g.1 gs))
 | [],_,g,L,_=>by cases L
 | x :: r,U,g,L,z=>by
  have J:=List.nodup_cons.mp U;have Y:pops g.1 (x :: r)=(if x.1=g.1 then (x.1,x.2.1,x.2.2.dropLast)else x) :: pops g.1 r:=rfl;rw[Y]
  by_cases h:x.1=g.1
  .have hx:x=g:=cT (f:=λg:Grp=>g.1) U aGX L h;subst hx;rw[eH rfl,rC λy hy e=>J.1 (aGz.mpr ⟨y,hy,e⟩),cY,cY];have e1:x.2.2.map (λo=>(x.1,o))=x.2.2.dropLast.map (λo=>(x.1,o))++[(x.1,x.2.2.getLast z)]:=by
    conv=>lhs;rw[<- lj z]
    rw[aGa];rfl
   rw[e1,jh];exact oq
  .have M:g∈r:=by
    rcases aGx.mp L with e | e
    .exact absurd (by rw[e]) h
    .exact e
   rw[dt h,cY,cY];exact((rD J.2 M z).append_left _).trans oq
def zD {k:Int}:∀ {gs:List Grp},(∀ g∈gs,g.1=k->g.2.2=[])->bK (outs k gs)=bK gs
 | [],_=>rfl
 | g :: r,h=>by
  have z:=zD (k:=k) (gs:=r) λx J=>h x (aGY _ J);unfold outs at z ⊢;rw[oo,cY]
  by_cases e:g.1=k
  .have:=h g aGX e;rw[dt (by simp[e]),z,this];rfl
  .rw[eH (by simp[e]),cY,z]
def M7 {gs:List Grp} (J:(gs.map (·.1)).Nodup) {g:Grp} (M:g∈gs) (z:g.2.2≠[]):(bK gs).Perm ((g.1,g.2.2.getLast z) :: bK (shr g.1 gs)):=by
 unfold shr;split
 .next h =>
  obtain⟨x,U,L⟩:=List.any_eq_true.mp h;simp only[gf,nn,List.isEmpty_iff]at L;rw[zD λy Y e=>?_]
  .exact rD J M z
  have:y=x:=cT (f:=λg:Grp=>g.1) (by rw[lO];exact J) Y U (e.trans L.1.symm);rw[this];exact L.2
 .exact rD J M z
def Asc (gs:List Grp):Prop:=∀ g∈gs,g.2.2.Pairwise (·<=·)
def Asc.last {gs:List Grp} (h:Asc gs) {g:Grp} (M:g∈gs) (z:g.2.2≠[]) {o:Int} (J:o∈g.2.2):o<=g.2.2.getLast z:=by
 have L:=h g M;rw[<- lj z]at J L;rcases aGy.mp J with h1 | h1
 .exact(List.pairwise_append.mp L).2.2 o h1 _ (by simp)
 .rw[aGr.mp h1];exact nr _
def Asc.shr {gs:List Grp} (h:Asc gs) (k:Int):Asc (shr k gs):=by
 have J:Asc (pops k gs):=λx z=>by
  obtain⟨g,L,M,U,e3⟩:=pU z;rw[e3];split
  .exact(h g L).sublist (List.dropLast_sublist _)
  .exact h g L
 intro x z;unfold CW.shr at z;split at z
 .exact J x (aHA.mp z).1
 .exact J x z
def Asc.puts {H:Hp} {k o:Int} {gs J:List Grp} (h:Asc gs) (U:vR H k o gs J) (M:∀ q∈bK gs,q.1=k->q.2<=o):Asc J:=by
 rcases U with ⟨hg,rfl⟩ | ⟨_,z,_,rfl⟩
 .intro x hx;obtain⟨L,h0,rfl⟩:=aGz.mp hx
  by_cases e:L.1=k
  .rw[eH e];refine List.pairwise_append.mpr ⟨h L h0,by simp,λa Y b hb=>?_⟩;rw[aGr.mp hb];exact M (L.1,a) (gC.mpr ⟨L,h0,rfl,Y⟩) e
  .rw[dt e];exact h L h0
 .intro x hx;rcases aGy.mp hx with hx | hx
  .exact h x hx
  .rw[aGr.mp hx];simp
def A9 {gs:List Grp} (k:Int) (h:(gs.map (·.1)).Nodup):((shr k gs).map (·.1)).Nodup:=by
 unfold shr;split
 .exact(show ((pops k gs).map (·.1)).Nodup by rw[lO];exact h).sublist (List.filter_sublist.map _)
 .rw[lO];exact h
def T9 {H:Hp} {gs L:List Grp} {p s:Int} (Y:(gs.map (·.1)).Nodup) (gd:GoodG gs) (ac:Asc gs) (bd:Bd (bK gs) (p - 1)) {J:List Grp}
 (hs:s=0/\J=gs\/1<=s/\∃ g∈gs,∃ z:g.2.2≠[],g.1=s/\g.2.2.getLast z=p - 1 - 2 * les (bK gs) s/\J=shr s gs)
 (aw:∀ g∈gs,∀ z:g.2.2≠[],s<g.1->g.2.2.getLast z≠p - 1 - 2 * les (bK gs) g.1)
 (hp:vR H (s+1) (p - 2 * les (bK J) (s+1) - 2 * (s+1)) J L):Add (bK gs) p (bK L)/\Asc L/\GoodG L:=by
 have ha:Add (bK gs) p (bK L):=by
  refine⟨s,bK J,?_,?_,λq hq ax e=>?_,?_⟩
  .rcases hs with h | h <;> lia
  .rcases hs with ⟨h,rfl⟩ | ⟨h,g,U,z,e1,e2,rfl⟩
   .exact .inl ⟨h,.refl _⟩
   .refine .inr ⟨h,?_⟩;have:=M7 Y U z;rw[e1,e2]at this;exact this
  .obtain⟨g,U,e1,e2⟩:=gC.mp hq;have z:=(gd g U).2;have h1:=ac.last U z e2;have h2:=(bd (g.1,g.2.2.getLast z) (gC.mpr ⟨g,U,rfl,List.getLast_mem z⟩)).2;simp only at h2;rw[<- e1]at e ax;exact aw g U z ax (by lia)
  .have M:(J.map (·.1)).Nodup:=by
    rcases hs with ⟨h,rfl⟩ | ⟨h,g,U,z,e1,e2,rfl⟩
    .exact Y
    .exact A9 s Y
   exact gZ M hp
 have hb:=ha.bd bd;have M:(J.map (·.1)).Nodup/\Asc J/\GoodG J:=by
  rcases hs with ⟨h,rfl⟩ | ⟨h,g,U,z,e1,e2,rfl⟩
  .exact⟨Y,ac,gd⟩
  .exact⟨A9 s Y,ac.shr s,gd.shr s⟩
 have ay:=gZ M.1 hp;refine⟨ha,M.2.1.puts hp λq hq e=>?_,M.2.2.puts (by rcases hs with h | h <;> lia) hp⟩;have h1:=(hb q (ay.mem_iff.mpr (aGY _ hq))).2;rw[bR ay,dH,e]at h1;simp only at h1
 lia
def vT {H:Hp} {gs J:List Grp} {p:Int} (hn:(gs.map (·.1)).Nodup) (M:GoodG gs) (ac:Asc gs) {g:Grp} (hg:g∈gs) (Y:g.2.2≠[]) (hp:g.2.2.getLast Y+2 * les (bK gs) g.1=p)
 (U:∀ x∈gs,∀ z:x.2.2≠[],x.2.2.getLast z+2 * les (bK gs) x.1<=p/\(x.1<g.1->x.2.2.getLast z+2 * les (bK gs) x.1<p))
 (L:g.1=1/\J=shr g.1 gs\/2<=g.1/\vR H (g.1 - 1) (p - 1 - 2 * les (bK (shr g.1 gs)) (g.1 - 1) - 2 * (g.1 - 1)) (shr g.1 gs) J):Tak (bK gs) p (bK J)/\Asc J/\GoodG J:=by
 have ax:=A9 g.1 hn;have a_:=M7 hn hg Y;have ay:∀ q∈bK gs,1<=q.1:=λq L=>by
  obtain⟨x,z,e1,_⟩:=gC.mp L;rw[<- e1];exact(M x z).1
 have aw:g.2.2.getLast Y=p - 2 * les (bK gs) g.1:=by lia
 have ht:Tak (bK gs) p (bK J):=by
  refine⟨g.1,bK (shr g.1 gs),(M g hg).1,by rw[<- aw];exact a_,λq L=>?_,λq L hl=>?_,?_⟩
  .obtain⟨x,z,e1,e2⟩:=gC.mp L;have h1:=ac.last z (M x z).2 e2;have h2:=(U x z (M x z).2).1;rw[<- e1];lia
  .obtain⟨x,z,e1,e2⟩:=gC.mp L;have h1:=ac.last z (M x z).2 e2;have h2:=(U x z (M x z).2).2 (by rw[e1];exact hl);rw[<- e1];lia
  .rcases L with ⟨h,rfl⟩ | ⟨h,h2⟩
   .exact .inl ⟨h,.refl _⟩
   .exact .inr ⟨h,gZ ax h2⟩
 refine⟨ht,?_⟩;obtain⟨hb,_⟩:=ht.add ay;rcases L with ⟨h,rfl⟩ | ⟨h,h2⟩
 .exact⟨ac.shr _,M.shr _⟩
 .have az:=gZ ax h2;refine⟨(ac.shr _).puts h2 λq L e=>?_,(M.shr _).puts (by lia) h2⟩;have h1:=(hb q (az.mem_iff.mpr (aGY _ L))).2;rw[bR az,dH,e]at h1;simp only at h1
  lia
def lng (b:Int) (gs:List Grp):Int:=wgt (λk=>if b<k then 1 else 0) gs
def B0 (f h:Int->Int):∀ gs:List Grp,wgt (λk=>f k+h k) gs=wgt f gs+wgt h gs
 | []=>rfl
 | g :: r=>by
  rw[cP,cP,cP,B0 f h r];have:(f g.1+h g.1) * (g.2.2.length:Int)=f g.1 * (g.2.2.length:Int)+h g.1 * (g.2.2.length:Int):=Int.add_mul ..
  lia
def j6 (c:Int) (f:Int->Int):∀ gs:List Grp,wgt (λk=>c * f k) gs=c * wgt f gs
 | []=>by simp[wgt]
 | g :: r=>by rw[cP,cP,j6 c f r,uh,Int.mul_assoc]
def mZ {f h:Int->Int} {gs:List Grp} (e:∀ g∈gs,f g.1=h g.1):wgt f gs=wgt h gs:=by
 unfold wgt
 congr 1
 exact ii λg z=>by rw[e g z]
def vU:∀ gs:List Grp,wgt (λ_=>0) gs=0
 | []=>rfl
 | g :: r=>by rw[cP,vU r];simp
def U0 {gs:List Grp} {b m:Int} (z:b<=m) (h:∀ g∈gs,b<g.1->m<=g.1):wgt (gP m) gs=wgt (gP b) gs+(m - b) * lng b gs:=by
 unfold lng;rw[<- j6,<- B0];refine mZ λg J=>?_;rw[pX,pX];have:=h g J;split
 .have:=this (by assumption);lia
 .lia
def aBj {gs:List Grp} {b m:Int} (U:b<m) (h:∀ g∈gs,b<g.1->m<=g.1) (Y:(gs.map (·.1)).Nodup) {g:Grp} (M:g∈gs) (hm:g.1=m):lng m gs=lng b gs - (g.2.2.length:Int):=by
 have h1:lng b gs=lng m gs+wgt (λk=>if k=m then 1 else 0) gs:=by
  unfold lng;rw[<- B0];refine mZ λx L=>?_;have:=h x L
  by_cases c:b<x.1
  .have:=this c;rw[eH c]
   by_cases d:x.1=m
   .rw[dt (by lia),eH d];lia
   .rw[eH (by lia),dt d];lia
  .rw[dt c,dt (by lia),dt (by lia)];lia
 have h2:wgt (λk=>if k=m then 1 else 0) gs=(g.2.2.length:Int):=by
  clear h1 h
  induction gs with
  | nil=>cases M
  | cons x r ih =>
   have J:=List.nodup_cons.mp Y;rw[cP];rcases aGx.mp M with e | e
   .subst e;have:wgt (λk=>if k=m then 1 else 0) r=0:=by
     have:wgt (λk=>if k=m then 1 else 0) r=wgt (λ_=>0) r:=mZ λy hy=>dt λz=>J.1 (aGz.mpr ⟨y,hy,by show y.1=g.1;lia⟩);rw[this];exact vU r
    rw[this,eH hm];lia
   .have L:x.1≠m:=λz=>J.1 (aGz.mpr ⟨g,e,by show g.1=x.1;lia⟩);rw[dt L,ih J.2 e];lia
 lia
def aBk {gs:List Grp} (z:GoodG gs):lng 0 gs=(gs.map (λg:Grp=>(g.2.2.length:Int))).sum:=by
 unfold lng wgt
 congr 1
 exact ii λg J=>by show (if 0<g.1 then (1:Int)else 0) * _=_;rw[eH (by have:=(z g J).1;lia)];lia
def aBl {gs:List Grp} (z:GoodG gs):wgt (gP 0) gs=0:=by
 have:wgt (gP 0) gs=wgt (λ_=>0) gs:=mZ λg J=>by rw[pX];have:=(z g J).1;lia
 rw[this];exact vU gs
end CW
namespace L2
open PySem PySem.Spec PyProof.Rows
inductive M8 (J:It) (σ0:St) (g:TG) (tt:TT) (te:TE) (ys0:List V) (N:List V->Hp->Prop) (H1:Hp):Prop
 | mk (W:Nat->Nat->List V->Hp->Prop) (h0_:(∃ m,W 0 m ys0 H1)) (h1_:∀ i m ys H,W i m ys H->ys.length<sizeLine/\((J.stop i H/\N ys H)\/(J.go i H/\∃ N':List V->Hp->Prop,(∀ ys' H',N' ys' H'->∃ m',m'<m/\W (i+1) m' ys' H')/\∀ x H',J.yld i H x H'->g x σ0 H' fun σ2 H2=>tt σ2 H2 λb H3=>if b=true then te σ2 H3 λy H4=>N' (ys++[y]) H4 else N' ys H3))):M8 J σ0 g tt te ys0 N H1
inductive B2 (J:It) (σ0:St) (g:TG) (tt:TT) (wi:TI) (g2:TG) (ak:TT) (te:TE) (Q:VK) (H1:Hp):Prop
 | mk (W:Nat->Nat->List V->Hp->Prop) (h0_:(∃ m,W 0 m [] H1)) (h1_:∀ i m ys H,W i m ys H->ys.length<sizeLine/\((J.stop i H/\∀ D,H D=none->Q (.ref D) (upd H D (.lst ys)))\/(J.go i H/\∃ N:List V->Hp->Prop,(∀ ys' H',N ys' H'->∃ m',m'<m/\W (i+1) m' ys' H')/\∀ x H',J.yld i H x H'->g x σ0 H' fun σ2 H2=>tt σ2 H2 λb H3=>if b=true then wi σ2 H3 λJ2 H4=>M8 J2 σ2 g2 ak te ys N H4 else N ys H3))):B2 J σ0 g tt wi g2 ak te Q H1
def aEX (wi:TI) (nt:Nat) (js:List Nat) (g:TG) (tt:TT) (am:TI) (g2:TG) (ak:TT) (te:TE):TE:=fun σ H Q=>wi σ H λJ H1=>B2 J (sIn nt js σ) g tt am g2 ak te Q H1
def GR (lo hi:Nat) (g:TG):Prop:=∀ v σ H Q,g v σ H Q->g v σ H λz H'=>((∀ i,(i<lo\/hi<=i)->z[i]?=σ[i]?)/\z.length=σ.length)/\Q z H'
def aDM {lo hi i:Nat} (h:lo<=i) (h2:i<hi):GR lo hi (rZ i):=λv σ H Q q=>⟨⟨λj z=>by rw[jl (by lia)],by simp⟩,q⟩
def sQ (elt t1 i1 t2 i2:Expr) (f1 f2:List Expr) (scope:Scope) (pos:Pos) (it z:Value) (env:Env) :
 compTurn (.ListComp elt [⟨t1,i1,f1,0⟩,⟨t2,i2,f2,0⟩] scope pos) 0 it z env=(do
  standAt i1.pos
  match <- pyNext it with
  | none=>pure (.done .next)
  | some v =>
   letOwnedTupleGo t1 it v
   assign t1 env v
   let mut ok:=true
   for c in f1 do
    if ok then ok <- isTrue c env (eval c env)
   if ok then
    let x <- eval i2 env
    standAt i2.pos
    let x <- foldedSetIterable i2 env x
    let _ <- runOwn (.compStart (.ListComp elt [⟨t1,i1,f1,0⟩,⟨t2,i2,f2,0⟩] scope pos) 1 (<- holding [x] (pyIter x)) z env) env
   again (.compLoop (.ListComp elt [⟨t1,i1,f1,0⟩,⟨t2,i2,f2,0⟩] scope pos) 0 it z env)):=by rfl
def sR (elt t1 i1 t2 i2:Expr) (f1 f2:List Expr) (scope:Scope) (pos:Pos) (it z:Value) (env:Env) :
 compTurn (.ListComp elt [⟨t1,i1,f1,0⟩,⟨t2,i2,f2,0⟩] scope pos) 1 it z env=(do
  standAt i2.pos
  match <- pyNext it with
  | none=>pure (.done .next)
  | some v =>
   letOwnedTupleGo t2 it v
   assign t2 env v
   let mut ok:=true
   for c in f2 do
    if ok then ok <- isTrue c env (eval c env)
   if ok then
    (do let _ <- call (.builtin "list.append") [z,<- eval elt env])
   again (.compLoop (.ListComp elt [⟨t1,i1,f1,0⟩,⟨t2,i2,f2,0⟩] scope pos) 1 it z env)):=by rfl
def jQ {prog:Program} {w:World} {A:Around} {R:Result->Shared->Prop} {s:Shared} {elt L target iter ifs rest scope pos it z env}
 (h0:codeAny (model prog w) A (.compLoop (.ListComp elt (L :: ⟨target,iter,ifs,0⟩ :: rest) scope pos) 1 it z env) R s)
 (h:wpAny (model prog w) A (pyIter it) (λJ s'=>codeAny (model prog w) A (.compLoop (.ListComp elt (L :: ⟨target,iter,ifs,0⟩ :: rest) scope pos) 1 J z env) R s')
  (notedBy (model prog w) A env λx s'=>R (.error x) s') s) :
 codeAny (model prog w) A (.compStart (.ListComp elt (L :: ⟨target,iter,ifs,0⟩ :: rest) scope pos) 1 it z env) R s:=by
 refine codeAny_of_tree ?_;show wpAny _ _ ((compStart (.ListComp elt (L :: ⟨target,iter,ifs,0⟩ :: rest) scope pos) 1 it z env).onRaise (λx=>do noteFrame x env;standAt theWindowsPlace)) _ _ s;refine wpAny_notedAt ?_;unfold compStart;show wpAny _ _ (ask >>= _) _ _ s;refine aGT (wpAny_askSetting (wpAny_ite ?_));split
 .first
   | exact aGT (aGU (aGU (And.intro rfl h0)))
   | exact aGU (And.intro rfl h0)
 .first
   | exact aGT (ph (aGT (gw (aGT (ew h (λJ s' h'=>aGU (And.intro rfl h')) λ_ _ x=>x)))))
   | (refine aGT (ph ?_);show wpAny _ _ (standAt iter.pos >>= _) _ _ s;exact aGT (gw (aGT (ew h (λJ s' h'=>aGU (And.intro rfl h')) λ_ _ x=>x))))
def U1 {X:Cx} {pl:List (Addr×Obj)} {σ:St} {elt t1 i1 tg iter:Expr} {f1 ifs:List Expr} {inn:Scope} {pos:Pos} {g:TG} {tt:TT} {te:TE} {lo hi:Nat} {J:It} {fp:List Addr} {it:Addr} {tn:Nat->Heap->Prop} {H2:Hp} {s2:Shared} {bb:List V} {N:List V->Hp->Prop} {RR:Result->Shared->Prop} {D:Addr}
 (U:X.calm=true) (bc:X.xe=λ_ _=>False) (DX:D∈X.ex) (Dl:D≠X.env.locals) (hpl:∀ p∈X.pn++pl,p.1≠D) (bh:D∉fp)
 (bt:PG X tg g) (hk:GR lo hi g) (bu:PIf X ifs tt) (bv:PE X elt te) (bw:∀ i v,lo<=i->i<hi->σ[i]?≠some (some v))
 (I2:Inv X pl σ H2 s2) (T:uL X.prog X.w X.K tg J fp it tn) (bi:tn 0 s2.heap) (f2:∀ b∈fp,lB X pl H2 b) (bx:H2 D=none) {Y:List Value} {c0:Nat} (bz:Vals bb Y) (b_:s2.heap.get? D=some { cls:=.type "list",data:=.seq Y.toArray c0 })
 (R:M8 J σ g tt te bb N H2)
 (cb:∀ s' H' ys its c,Inv X pl σ H' s'->Vals ys its->s'.heap.get? D=some { cls:=.type "list",data:=.seq its.toArray c }->H' D=none->N ys H'->RR (.ok .next) s') :
 codeAny (model X.prog X.w) X.A (.compStart (.ListComp elt [⟨t1,i1,f1,0⟩,⟨tg,iter,ifs,0⟩] inn pos) 1 (.ref it) (.ref D) X.env) RR s2:=by
 have okX:=I2.ok;obtain⟨W,⟨m0,w0⟩,turn⟩:=R;have aw:∀ {H':Hp} {ql:List (Addr×Obj)},(∀ b∈fp,H' b=none)->(∀ p∈ql,p.1=D)->∀ b∈fp,lB X (pl++ql) H' b:=λ{H' ql} hn cf b L=>by
  obtain⟨_,a1,a2,a3,a4,a5⟩:=f2 b L;refine⟨hn b L,a1,a2,a3,a4,λp hp=>?_⟩;rw[<- jh]at hp;rcases aGy.mp hp with hp | hp
  .exact a5 p hp
  .rw[cf p hp];intro e;exact bh (e ▸ L)
 have loop:codeAny (model X.prog X.w) X.A (.compLoop (.ListComp elt [⟨t1,i1,f1,0⟩,⟨tg,iter,ifs,0⟩] inn pos) 1 (.ref it) (.ref D) X.env) RR s2:=by
  refine uv rfl (λn s'=>∃ i ys H',Inv X pl σ H' s'/\tn i s'.heap/\(∀ b∈fp,H' b=none)/\H' D=none/\(∃ (its:List Value) (c:Nat),Vals ys its/\s'.heap.get? D=some { cls:=.type "list",data:=.seq its.toArray c })/\W i n ys H') ?_ m0
   ⟨0,bb,H2,I2,bi,λb L=>(f2 b L).1,bx,⟨Y,c0,bz,b_⟩,w0⟩
  rintro n s5 ⟨i,ys,H5,I5,bj,bn,bo,⟨its,c,rv,eD⟩,w5⟩;show wpAny _ X.A ((compTurn (.ListComp elt [⟨t1,i1,f1,0⟩,⟨tg,iter,ifs,0⟩] inn pos) 1 (.ref it) (.ref D) X.env).onRaise (λx=>do noteFrame x X.env;theTreesLotGoes x)) _ _ s5;refine wpAny_noted ?_;rw[sR];refine aGT (gw (aGT ?_));have ba:Inv X (pl++cU [D] s5.heap) σ H5 s5:=by
   refine I5.pinned (fp:=[D]) (λb L=>?_) (λb L=>?_)
   .have e:b=D:=by simpa using L
    subst e;exact⟨bo,Dl,λz=>okX.exfs b DX z,.inl DX,(okX.exf b DX).2,hpl⟩
   .have e:b=D:=by simpa using L
    subst e;exact⟨_,eD,λv z=>by cases z⟩
  have bf:∀ p∈cU [D] s5.heap,p.1=D:=λp hp=>by simpa using (jK hp).1
  have memD:(D,({ cls:=.type "list",data:=.seq its.toArray c }:Obj))∈cU [D] s5.heap:=cH (by simp) eD;obtain⟨hz,cg⟩:=turn i n ys H5 w5;rcases cg with ⟨stop,fin⟩ | ⟨go,N',hN,step⟩
  .have q:=T.done X rfl rfl rfl U i _ s5 _ H5 (notedBy (model X.prog X.w) X.A X.env λe s'=>RR (.error e) s') ba (aw bn bf) bj stop;refine ew q (λr s6 ⟨hr,I6⟩=>?_) λ_ _ z=>z;subst hr;refine aGU ?_;have ci:=(I6.pin (D,_) (aGZ _ (aGZ _ memD))).1;exact cb s6 H5 ys its c (I6.pins_of λp hp=>I6.pin p (aGZ _ (aGe _ hp))) rv ci bo fin
  .have q:=T.item X rfl rfl rfl U i _ s5 _ H5 (notedBy (model X.prog X.w) X.A X.env λe s'=>RR (.error e) s') ba (aw bn bf) bj go;refine ew q (λr s6 ⟨u,hr,h6⟩=>?_) λ_ _ z=>z;subst hr;refine aGT (ew h6 (λ_ s7 ⟨x,H7,I7,r7,y7,bg,cj⟩=>?_) λ_ _ z=>z);have ck:=I7.pinned (fp:=fp) (λb L=>aw cj bf b L) (T.obj _ _ bg);have q8:=bt _ s7 _ H7 x u _ ck r7 (hk x _ H7 _ (step x H7 y7));rw[bc]at q8;refine aGT (ew q8 (λ_ s8 ⟨M,H8,I8,⟨k8,l8⟩,q8⟩=>?_) λ_ _ z=>z.elim);have q9:=bu _ s8 M H8 _ I8 q8;rw[bc]at q9;refine aGT (ew q9 (λok s9 ⟨H9,I9,q9⟩=>?_) λ_ _ z=>z.elim);have ay:∀ (j:Nat) v,σ[j]?=some (some v)->M[j]?=some (some v):=λj v e=>by
    by_cases hj:j<lo\/hi<=j
    .rw[k8 j hj];exact e
    .exact absurd e (bw j v (by lia) (by lia))
   have ends:∀ {H9:Hp} {s9:Shared} {ax:List V},Inv X ((pl++cU [D] s5.heap)++cU fp s7.heap) M H9 s9->∀ {h':Heap} {its':List Value} {c':Nat},(∀ b o,b≠D->s9.heap.get? b=some o->h'.get? b=some o)->Vals ax its'->h'.get? D=some { cls:=.type "list",data:=.seq its'.toArray c' }->N' ax H9 ->
    ∀ tk,∃ m,m<n/\∃ i ys H',Inv X pl σ H' { s9 with heap:=h',toks:=tk }/\tn i h'/\(∀ b∈fp,H' b=none)/\H' D=none/\(∃ (its:List Value) (c:Nat),Vals ys its/\h'.get? D=some { cls:=.type "list",data:=.seq its.toArray c })/\W i m ys H':=λ{H9 s9 ax} I9 {h' its' c'} kp cm cn n9 tk=>by
    obtain⟨m',hm,w9⟩:=hN ax H9 n9;have bq:H9 D=none:=(I9.pin (D,_) (aGZ _ (aGe _ (aGZ _ memD)))).2.1;have cp:∀ b∈fp,H9 b=none:=λb L=>by
     obtain⟨o,e,d⟩:=T.obj _ _ bg b L;exact(I9.pin (b,o) (aGZ _ (aGZ _ (cH L e)))).2.1
    have az:Inv X pl M H9 s9:=I9.pins_of λp hp=>I9.pin p (aGZ _ (aGe _ (aGe _ hp)));have cq:Inv X pl M H9 { s9 with heap:=h',toks:=tk }:=az.turned (it:=D) kp bq Dl (.inl DX) (okX.exf D DX).2 hpl;refine⟨m',hm,i+1,ax,H9,cq.weak l8.symm ay,T.keep _ _ _ bg λb L o e=>kp b o (λz=>bh (z ▸ L)) (I9.pin (b,o) (aGZ _ (aGZ _ (cH L e)))).1,cp,bq,⟨its',c',cm,cn⟩,w9⟩
   cases ok with
   | false =>
    rw[dt aG8]at q9;have cr:=(I9.pin (D,_) (aGZ _ (aGe _ (aGZ _ memD)))).1;exact aGU ⟨rfl,ends I9 (h':=s9.heap) (λ_ _ _ e=>e) rv cr q9 s9.toks⟩
   | true =>
    rw[eH rfl]at q9;have a_:=bv _ s9 M H9 _ I9 q9;rw[bc]at a_;refine aGT (aGT (ew a_ (λv cu ⟨y,cx,az,cv,a_⟩=>?_) λ_ _ z=>z.elim));have br:=(az.pin (D,_) (aGZ _ (aGe _ (aGZ _ memD)))).1;have hlen:=rv.length;refine aGT (r8 (items:=its.toArray) ⟨c,br⟩ (λh' hl hs=>aGU (aGU ⟨rfl,?_⟩)) (by rw[aG3];lia));obtain⟨c',e'⟩:=hl;have cw:h'.get? D=some { cls:=.type "list",data:=.seq (its++[v]).toArray c' }:=by rw[e'];simp
    exact ends az (h':=h') (λb o L e=>hs.extBut b o L e) (rv.append (.cons cv .nil)) cw a_ cu.toks
 refine jQ loop ?_;exact T.self X.A 0 _ _ _ bi loop
section
variable {X:Cx} {pins:List (Addr×Obj)} {σ:St} {inn:Scope} {js:List Nat} {cs ts:List Str} {nt lo:Nat} {elt tg iter t2 i2:Expr} {ifs f2:List Expr} {pos:Pos} {g g2:TG} {tt ak:TT} {te:TE} {wi am:TI}
def U2 {J:It} {fp:List Addr} {it:Addr} {tn:Nat->Heap->Prop} {H2:Hp} {s2:Shared} {E:Value->Shared->Prop} {Q:VK} {RR:Value->Addr->Result->Shared->Prop}
 (bt:X.calm=true) (O:CompOk X.env.scope inn X.N js cs) (df:ts.length=nt)
 (dh:lo<=nt) (hg:∀ U Y ex,PG (eR X inn (ts++cs) U Y ex) tg g) (hk:GK lo g) (di:∀ U Y ex,PI (eR X inn (ts++cs) U Y ex) t2 i2 am) (dj:∀ U Y ex,PG (eR X inn (ts++cs) U Y ex) t2 g2) (dm:GR lo nt g2) (dn:∀ U Y ex,PIf (eR X inn (ts++cs) U Y ex) f2 ak) (dq:∀ env x,foldedSetIterable i2 env x=pure x) (ht:∀ U Y ex,PIf (eR X inn (ts++cs) U Y ex) ifs tt) (he:∀ U Y ex,PE (eR X inn (ts++cs) U Y ex) elt te)
 (I2:Inv X pins σ H2 s2) (T:uL X.prog X.w X.K tg J fp it tn) (bu:tn 0 s2.heap) (fo:∀ b∈fp,lB X pins H2 b)
 (R:B2 J (sIn nt js σ) g tt am g2 ak te Q H2)
 (dr:∀ D C s' H',Inv X pins σ H' s'->(∃ m,s'.heap.Ns C m)->H' C=none->C≠X.env.locals->X.s₀.heap.objs.size<=C->(∀ x c,X.env.cells.lookup x=some c->c≠C)->(∀ p∈X.pn++pins,p.1≠C)->Q (.ref D) H'->RR (.ref D) C (.ok .next) s') :
 wpAny (model X.prog X.w) X.A (newList []) (λcb cf=>wpAny (model X.prog X.w) X.A (newFunctionEnv inn X.env.globals (lG inn X.env) [] X.env.qual none .none (some X.env)) (λbo cg =>
  codeAny (model X.prog X.w) X.A (.compStart (.ListComp elt [⟨tg,iter,ifs,0⟩,⟨t2,i2,f2,0⟩] inn pos) 0 (.ref it) cb { bo with scope:=relabel inn X.env }) (RR cb bo.locals) cg) E cf) E s2:=by
 refine jf (ou O.nocell (by intro y hy;simp at hy) (λay aw ax=>?_) O.kind);dsimp only at aw ax ⊢;generalize hD:s2.heap.objs.size=D;have I3:Inv X pins σ H2 { s2 with heap:=s2.heap.push { cls:=.type "list",dict:=none,data:=.seq ([]:List Value).toArray } }:=I2.kept (t':=s2.toks) λb o e=>aGW _ e;generalize ci:({ s2 with heap:=s2.heap.push { cls:=.type "list",dict:=none,data:=.seq ([]:List Value).toArray } }:Shared)=s3 at I3;have e3:s3.heap=s2.heap.push { cls:=.type "list",dict:=none,data:=.seq ([]:List Value).toArray }:=by rw[<- ci]
 have du:s3.heap.get? D=some { cls:=.type "list",dict:=none,data:=.seq ([]:List Value).toArray }:=by rw[e3,<- hD];exact aG2 _ rfl
 have bc:s3.heap.objs.size=D+1:=by rw[e3,im,hD]
 have dv:(s2.heap.push { cls:=.type "list",dict:=none,data:=.seq ([]:List Value).toArray })=s3.heap:=e3.symm;rw[dv]at aw ax ⊢;have bq:H2 D=none:=I2.hok.fresh (by rw[hD];exact ah _);have up:∀ b o,s3.heap.get? b=some o->ay.get? b=some o:=λb o e=>ax.extBut b o (aGi (aG1 e)) (aGW _ e);have bh:∀ b∈fp,b<s3.heap.objs.size/\b≠D:=λb hb=>by
  obtain⟨o,eo,_⟩:=T.obj 0 _ bu b hb;have h1:=aG1 eo;rw[hD]at h1;exact⟨by rw[bc];exact jg h1,aGi h1⟩
 have nb:∀ b,X.s₀.heap.objs.size<=b->∀ o,X.base.get? b≠some o:=λb hb o e=>absurd (aGc (aG1 e) (g0 I2.ok.bsz hb)) (ie _);have bi:s2.heap.objs.size<=D:=by rw[hD];exact ah _
 have fD:lB X pins H2 D:=I2.fpOk bi bq;have hex:∀ b∈D :: fp,b<s3.heap.objs.size/\b≠X.env.locals/\b∉X.fs/\(∀ x c,X.env.cells.lookup x=some c->c≠b)/\∀ o,X.base.get? b≠some o:=λb hb=>by
  rcases aGx.mp hb with rfl | hb
  .exact⟨by rw[bc];exact il _,fD.2.1,fD.2.2.1,fD.2.2.2.2.1,nb _ (g0 I2.sz bi)⟩
  .obtain⟨f0,f1,cj,f3,f4,f5⟩:=fo b hb;refine⟨(bh b hb).1,f1,cj,f4,λo e=>?_⟩;rcases f3 with z | z
   .exact I2.ok.noex b o e z
   .exact nb b z o e
 have hC:s3.heap.objs.size=s3.heap.objs.size:=rfl;generalize M:eR X inn (ts++cs) s3 H2 (D :: fp)=L;have I4:Inv L [] (sIn nt js σ) H2 { s3 with heap:=ay,toks:=s3.toks }:=by
  rw[<- M];exact aAy df I3 O hex ⟨_,aw⟩ up
 have xp:L.prog=X.prog:=by rw[<- M];rfl
 have xw:L.w=X.w:=by rw[<- M];rfl
 have xK:L.K=X.K:=by rw[<- M];rfl
 have xA:L.A=X.A:=by rw[<- M];rfl
 have xc:L.calm=true:=by rw[<- M];exact bt
 have xe:L.env=compEnvC inn (lG inn X.env) s3.heap.objs.size X.env:=by rw[<- M];rfl
 have xx:L.xe=λ_ _=>False:=by rw[<- M];rfl
 have bv:L.ex=D :: fp:=by rw[<- M];rfl
 have bj:L.pn=[]:=by rw[<- M];rfl
 have ck:L.s₀=s3:=by rw[<- M];rfl
 have dw:L.H₀=H2:=by rw[<- M];rfl
 have dy:L.fs=frs X.stack:=by rw[<- M];rfl
 have dz:PG L tg g:=by rw[<- M];exact hg _ _ _
 have d_:PIf L ifs tt:=by rw[<- M];exact ht _ _ _
 have ef:PE L elt te:=by rw[<- M];exact he _ _ _
 have cm:PI L t2 i2 am:=by rw[<- M];exact di _ _ _
 have cn:PG L t2 g2:=by rw[<- M];exact dj _ _ _
 have cp:PIf L f2 ak:=by rw[<- M];exact dn _ _ _
 have okX:=I4.ok;have xl:L.env.locals=s3.heap.objs.size:=by rw[xe];rfl
 have Dl:D≠L.env.locals:=by rw[xl,bc];exact aGi (il _)
 have bf:∀ {H':Hp} {pl:List (Addr×Obj)},(∀ b∈fp,H' b=none)->(∀ p∈pl,p.1=D)->∀ b∈fp,lB L pl H' b:=λ{H' pl} hn hpl b hb=>by
  have bn:b∈L.ex:=by rw[bv];exact aGY _ hb
  refine⟨hn b hb,(okX.exf b bn).1,λz=>okX.exfs b bn z,.inl bn,(okX.exf b bn).2,λp hp=>?_⟩;rw[bj,kj]at hp;rw[hpl p hp];exact gi (bh b hb).2
 have DX:D∈L.ex:=by rw[bv];exact aGX
 obtain⟨W,⟨m0,w0⟩,turn⟩:=R;have loop:codeAny (model X.prog X.w) X.A (.compLoop (.ListComp elt [⟨tg,iter,ifs,0⟩,⟨t2,i2,f2,0⟩] inn pos) 0 (.ref it) (.ref D) L.env) (RR (.ref D) s3.heap.objs.size) { s3 with heap:=ay,toks:=s3.toks }:=by
  refine uv rfl (λn s'=>∃ i ys H',Inv L [] (sIn nt js σ) H' s'/\tn i s'.heap/\(∀ b∈fp,H' b=none)/\H' D=none/\(∃ (its:List Value) (c:Nat),Vals ys its/\s'.heap.get? D=some { cls:=.type "list",data:=.seq its.toArray c })/\W i n ys H') ?_ m0
   ⟨0,[],H2,I4,?_,λb hb=>(fo b hb).1,bq,⟨[],0,.nil,up D _ du⟩,w0⟩
  .rintro n s5 ⟨i,ys,H5,I5,cq,cr,bw,⟨its,c,rv,eD⟩,w5⟩;show wpAny _ X.A ((compTurn (.ListComp elt [⟨tg,iter,ifs,0⟩,⟨t2,i2,f2,0⟩] inn pos) 0 (.ref it) (.ref D) L.env).onRaise (λx=>do noteFrame x L.env;theTreesLotGoes x)) _ _ s5;refine wpAny_noted ?_;rw[sQ];refine aGT (gw (aGT ?_));have br:Inv L (cU [D] s5.heap) (sIn nt js σ) H5 s5:=by
    have q:=I5.pinned (fp:=[D]) (λb hb=>?_) (λb hb=>?_)
    .simpa using q
    .have e:b=D:=by simpa using hb
     subst e;refine⟨bw,Dl,λz=>okX.exfs b DX z,.inl DX,(okX.exf b DX).2,λp hp=>?_⟩;rw[bj,kj]at hp;cases hp
    .have e:b=D:=by simpa using hb
     subst e;exact⟨_,eD,λv z=>by cases z⟩
   have bx:∀ p∈cU [D] s5.heap,p.1=D:=λp hp=>by simpa using (jK hp).1
   have memD:(D,({ cls:=.type "list",data:=.seq its.toArray c }:Obj))∈cU [D] s5.heap:=cH (by simp) eD;obtain⟨hz,eh⟩:=turn i n ys H5 w5;rcases eh with ⟨stop,fin⟩ | ⟨go,N,hN,step⟩
   .have q:=T.done L xp xw xK xc i _ s5 _ H5 (notedBy (model X.prog X.w) X.A L.env λe s'=>RR (.ref D) s3.heap.objs.size (.error e) s') br (bf cr bx) cq stop;rw[xA]at q;refine ew q (λr s6 ⟨hr,I6⟩=>?_) λ_ _ z=>z;subst hr;refine aGU ?_;have ej:=(I6.pin (D,_) (aGZ _ memD)).1;have un:Un (frs X.stack) (D :: fp) H2 H5 s3.heap s6.heap:=by
     have z:=I6.base;rw[dy,bv,dw,ck]at z;exact z
    have ek:s6.os=s3.os:=by have z:=I6.os;rw[ck]at z;exact z
    have cu:HOk X.prog X.w H5 s6.heap:=by have z:=I6.hok;rw[xp,xw]at z;exact z
    have I7:Inv X pins σ H5 s6:=I3.call' ek un cu I6.bare λb hb=>by
     rcases aGx.mp hb with e | hb
     .rw[e];exact⟨.inr (g0 I2.sz bi),fD.2.1,fD.2.2.2.2.1,fD.2.2.2.2.2⟩
     .obtain⟨f0,f1,cj,f3,f4,f5⟩:=fo b hb;exact⟨f3,f1,f4,f5⟩
    have I8:Inv X pins σ (upd H5 D (.lst ys)) s6:=I7.track bw (g0 I2.sz bi) fD.2.1 fD.2.2.2.2.1 fD.2.2.2.2.2 ⟨ji hz,its,c,rv,ej⟩;have cv:s3.heap.objs.size<=s3.heap.objs.size:=ah _;have fC:lB X pins (upd H5 D (.lst ys)) s3.heap.objs.size:=I3.fpOk cv (by
     rw[aF (by rw[<- xl];exact gi Dl)];have z:=I6.free;rw[xl]at z;exact z)
    obtain⟨mm,cw,_⟩:=I6.loc;rw[xl]at cw;exact dr D _ s6 _ I8 ⟨mm,cw⟩ fC.1 fC.2.1 (g0 I3.sz cv) fC.2.2.2.2.1 fC.2.2.2.2.2 (fin D bw)
   .have q:=T.item L xp xw xK xc i _ s5 _ H5 (notedBy (model X.prog X.w) X.A L.env λe s'=>RR (.ref D) s3.heap.objs.size (.error e) s') br (bf cr bx) cq go;rw[xA]at q;refine ew q (λr s6 ⟨u,hr,h6⟩=>?_) λ_ _ z=>z;subst hr;refine aGT (ew h6 (λ_ s7 ⟨x,H7,I7,r7,y7,bg,e_⟩=>?_) λ_ _ z=>z);have fb:=I7.pinned (fp:=fp) (λb hb=>bf e_ bx b hb) (T.obj _ _ bg);have q8:=dz _ s7 _ H7 x u _ fb r7 (hk x _ H7 _ (step x H7 y7));rw[xp,xw,xA,xx]at q8;refine aGT (ew q8 (λ_ s8 ⟨a_,H8,I8,⟨k8,l8⟩,q8⟩=>?_) λ_ _ z=>z.elim);have q9:=d_ _ s8 a_ H8 _ I8 q8;rw[xp,xw,xA,xx]at q9;refine aGT (ew q9 (λok s9 ⟨H9,I9,q9⟩=>?_) λ_ _ z=>z.elim);have ba:∀ (j:Nat) v,(sIn nt js σ)[j]?=some (some v)->a_[j]?=some (some v):=λj v e=>by
     have hj:=(tP e).1;rw[k8 j (g0 dh hj)];exact e
    have ends:∀ {H9:Hp} {s9:Shared} {az:List V},Inv L (cU [D] s5.heap++cU fp s7.heap) a_ H9 s9->∀ {h':Heap} {its':List Value} {c':Nat},(∀ b o,b≠D->s9.heap.get? b=some o->h'.get? b=some o)->Vals az its'->h'.get? D=some { cls:=.type "list",data:=.seq its'.toArray c' }->N az H9 ->
     ∀ tk,∃ m,m<n/\∃ i ys H',Inv L [] (sIn nt js σ) H' { s9 with heap:=h',toks:=tk }/\tn i h'/\(∀ b∈fp,H' b=none)/\H' D=none/\(∃ (its:List Value) (c:Nat),Vals ys its/\h'.get? D=some { cls:=.type "list",data:=.seq its.toArray c })/\W i m ys H':=λ{H9 s9 az} I9 {h' its' c'} kp bz b_ n9 tk=>by
     obtain⟨m',hm,w9⟩:=hN az H9 n9;have cx:H9 D=none:=(I9.pin (D,_) (aGZ _ (aGe _ memD))).2.1;have fc:∀ b∈fp,H9 b=none:=λb hb=>by
      obtain⟨o,e,d⟩:=T.obj _ _ bg b hb;exact(I9.pin (b,o) (aGZ _ (aGZ _ (cH hb e)))).2.1
     have fe:Inv L [] a_ H9 s9:=I9.pins_of λp hp=>by cases hp
     have bb:Inv L [] a_ H9 { s9 with heap:=h',toks:=tk }:=fe.turned (it:=D) kp cx Dl (.inl DX) (okX.exf D DX).2 (λp hp=>by rw[bj]at hp;cases hp);refine⟨m',hm,i+1,az,H9,bb.weak l8.symm ba,T.keep _ _ _ bg λb hb o e=>kp b o (bh b hb).2 (I9.pin (b,o) (aGZ _ (aGZ _ (cH hb e)))).1,fc,cx,⟨its',c',bz,b_⟩,w9⟩
    cases ok with
    | false =>
     rw[dt aG8]at q9;have ff:=(I9.pin (D,_) (aGZ _ (aGe _ memD))).1;exact aGU ⟨rfl,ends I9 (h':=s9.heap) (λ_ _ _ e=>e) rv ff q9 s9.toks⟩
    | true =>
     rw[eH rfl]at q9;have cy:=cm _ s9 a_ H9 _ I9 q9;rw[xp,xw,xA,xx]at cy;refine aGT (ew cy (λv ft fg=>?_) λ_ _ z=>z.elim);refine aGT (gw (aGT (wpAny_of_eq (dq _ v) (aGT (fy (ew fg (λfu fw fi=>?_) λ_ _ z=>z.elim))))));obtain⟨fz,f_,gb,J2,fj,ei,bb,T2,cz,c_,fk⟩:=fi;subst ei;have pm:(D,({ cls:=.type "list",data:=.seq its.toArray c }:Obj))∈L.pn++(cU [D] s5.heap++cU fp s7.heap):=aGZ _ (aGe _ memD);have da:=(bb.pin (D,_) pm).1;have db:fj D=none:=(bb.pin (D,_) pm).2.1;have hpl:∀ p∈L.pn++cU fp s7.heap,p.1≠D:=λp hp=>by
      rw[bj,kj]at hp;exact(bh p.1 (jK hp).1).2
     have gc:L.calm=true:=xc;refine aGT (wpAny_runOwn ?_);have core:=U1 (X:=L) (pl:=cU fp s7.heap) (σ:=a_) (elt:=elt) (t1:=tg) (i1:=iter) (tg:=t2) (iter:=i2) (f1:=ifs) (ifs:=f2) (inn:=inn) (pos:=pos) (lo:=lo) (hi:=nt) (D:=D) (N:=N)
      (RR:=λr s'=>match r with | .ok f=>wpAny (model L.prog L.w) L.A (again (.compLoop (.ListComp elt [⟨tg,iter,ifs,0⟩,⟨t2,i2,f2,0⟩] inn pos) 0 (.ref it) (.ref D) L.env)) (λf s'=>f=Fin.again (.compLoop (.ListComp elt [⟨tg,iter,ifs,0⟩,⟨t2,i2,f2,0⟩] inn pos) 0 (.ref it) (.ref D) L.env)/\∃ m,m<n/\∃ i ys H',Inv L [] (sIn nt js σ) H' s'/\tn i s'.heap/\(∀ b∈fp,H' b=none)/\H' D=none/\(∃ (its:List Value) (c:Nat),Vals ys its/\s'.heap.get? D=some { cls:=.type "list",data:=.seq its.toArray c })/\W i m ys H') (λ_ _=>False) s' | .error e=>False)
      xc xx DX Dl hpl (λhb=>(c_ D hb).2.2.2.2.2 _ pm rfl) cn dm cp ef (λj v h1 h2 e=>?_) (bb.pins_of λp hp=>bb.pin p (aGZ _ (aGZ _ hp))) T2 cz
      (λb hb=>let ⟨a0,a1,a2,a3,a4,a5⟩:=c_ b hb;⟨a0,a1,a2,a3,a4,λp hp=>a5 p ((aGy.mp hp).elim (aGe _) λz=>aGZ _ (aGZ _ z))⟩) db rv da fk ?_
     .rw[xp,xw,xA]at core;refine jp core λr s' hr=>?_;cases r with
      | ok f=>exact ew hr (λ_ _ z=>by obtain⟨rfl,z⟩:=z;exact⟨rfl,z⟩) λ_ _ z=>z.elim
      | error e=>exact hr.elim
     .have e':=(k8 j h1).symm.trans e;exact absurd (tP e').1 (by lia)
     .intro s' H' az its' c' I' bz b_ fm n';obtain⟨m',hm,w9⟩:=hN az H' n';have fq:∀ b∈fp,H' b=none:=λb hb=>by
       obtain⟨o,e,d⟩:=T.obj _ _ bg b hb;exact(I'.pin (b,o) (aGZ _ (cH hb e))).2.1
      refine aGU ⟨rfl,m',hm,i+1,az,H',(I'.pins_of λp hp=>by cases hp).weak l8.symm ba,T.keep _ _ _ bg λb hb o e=>(I'.pin (b,o) (aGZ _ (cH hb e))).1,fq,fm,⟨its',c',bz,b_⟩,w9⟩
  .exact T.keep 0 _ _ bu λb hb o e=>up b o (by rw[e3];exact aGW _ e)
 have e4:({ s2 with heap:=ay,toks:=s2.toks+([]:List (Str×Value)).length }:Shared)={ s3 with heap:=ay,toks:=s3.toks }:=by rw[<- ci];rfl
 rw[e4];show codeAny _ _ (.compStart (.ListComp elt [⟨tg,iter,ifs,0⟩,⟨t2,i2,f2,0⟩] inn pos) 0 (.ref it) (.ref D) (compEnvC inn (lG inn X.env) s3.heap.objs.size X.env)) (RR (.ref D) s3.heap.objs.size) _;rw[<- xe];refine rm loop ?_;refine T.self X.A 0 _ _ _ ?_ loop;exact T.keep 0 _ _ bu λb hb o e=>up b o (by rw[e3];exact aGW _ e)
def aBm (M U cs:List Str) (js:List Nat) (Y:X.calm=true) (O:CompOk X.env.scope inn X.N js cs) (hi:PI X tg iter wi)
 (hg:∀ z L ex,PG (eR X inn ((M++U)++cs) z L ex) tg g) (hk:GK M.length g) (ht:∀ z L ex,PIf (eR X inn ((M++U)++cs) z L ex) ifs tt)
 (aw:∀ z L ex,PI (eR X inn ((M++U)++cs) z L ex) t2 i2 am) (ax:∀ z L ex,PG (eR X inn ((M++U)++cs) z L ex) t2 g2) (ay:GR M.length (M++U).length g2) (az:∀ z L ex,PIf (eR X inn ((M++U)++cs) z L ex) f2 ak) (he:∀ z L ex,PE (eR X inn ((M++U)++cs) z L ex) elt te)
 (hs:∀ x,foldedSetIterable iter X.env x=pure x:=by intro _;rfl) (a_:∀ env x,foldedSetIterable i2 env x=pure x:=by intro _ _;rfl):PE X (.ListComp elt [⟨tg,iter,ifs,0⟩,⟨t2,i2,f2,0⟩] inn pos) (aEX wi (M++U).length js g tt am g2 ak te):=by
 intro pins s σ H Q I h;rw[uo];refine km (use:=none) rfl hs (tN λy hy e=>I.ok.has y.1 (O.frees y hy e)) O.kind O.names (thn (hi pins s σ H _ I h) λxv s1 h1=>thn h1 λbf s2 h2=>?_);obtain⟨it,fp,tn,J,H2,e,I2,T,ba,f2,R⟩:=h2;subst e;refine U2 (Q:=Q) (RR:=λbb C=>compPost (model X.prog X.w) X.A X.xe none (EP X pins σ Q) bb C) Y O rfl (lo:=M.length) (by simp) hg hk aw ax ay az a_ ht he I2 T ba f2 R ?_;intro D C s' H' I' ⟨m,hm⟩ c1 c2 c3 c4 c5 q;refine⟨m,hm,λh' bc=>?_⟩;exact⟨.ref D,H',I'.turned (it:=C) (t':=s'.toks) (λb o hb e=>bc.extBut b o hb e) c1 c2 (.inr c3) c4 c5,rfl,q⟩
end
def aBn {X:Cx} {tg:Expr} (K:PySem.W.Frag) (h:X.K=K) {l:Expr} {tl:TE} (z:PE X l tl):PI X tg l (aAa K tl):=h ▸ eM z
def U3 {K:PySem.W.Frag} {a:Addr} {xs:List V} {J:St} {g g2:TG} {tt ak:TT} {wi:TI} {te:TE} {H:Hp} {Q:VK} (Pv:Nat->List V->Hp->Prop) (h0:Pv 0 [] H) (U:∀ i ys H,i<=xs.length->Pv i ys H->SqL K H a xs/\ys.length<sizeLine)
 (hs:∀ i x ys H,xs[i]?=some x->Pv i ys H->g x J H λz H2=>tt z H2 λb M=>if b=true then wi z M λY H4=>M8 Y z g2 ak te ys (Pv (i+1)) H4 else Pv (i+1) ys M) (hd:∀ ys H,Pv xs.length ys H->∀ D,H D=none->Q (.ref D) (upd H D (.lst ys))) :
 B2 (Itl K a) J g tt wi g2 ak te Q H:=by
 refine⟨λi m ys H=>m=xs.length - i/\i<=xs.length/\Pv i ys H,⟨xs.length,by simp,gr _,h0⟩,?_⟩;rintro i m ys H ⟨rfl,hi,p⟩;obtain⟨q,hz⟩:=U i ys H hi p;refine⟨hz,?_⟩
 by_cases L:i<xs.length
 .refine .inr ⟨⟨xs,xs[i],q,by simp[L]⟩,Pv (i+1),λaw H' p'=>⟨xs.length - (i+1),by omega,rfl,L,p'⟩,λx H' y=>?_⟩;obtain⟨e,y⟩:=y;subst e;exact hs i x ys _ (y xs q) p
 .have e:i=xs.length:=by omega
  subst e;exact .inl ⟨⟨xs,q,ah _⟩,hd ys H p⟩
def U4 {K:PySem.W.Frag} {a:Addr} {xs:List V} {z:St} {g:TG} {tt:TT} {te:TE} {H:Hp} {N:List V->Hp->Prop} {J:List V} (Pv:Nat->List V->Hp->Prop) (h0:Pv 0 J H) (Y:∀ i ys H,i<=xs.length->Pv i ys H->SqL K H a xs/\ys.length<sizeLine)
 (hs:∀ i x ys H,xs[i]?=some x->Pv i ys H->g x z H λL H2=>tt L H2 λb U=>if b=true then te L U λy H4=>Pv (i+1) (ys++[y]) H4 else Pv (i+1) ys U) (hd:∀ ys H,Pv xs.length ys H->N ys H) :
 M8 (Itl K a) z g tt te J N H:=by
 refine⟨λi m ys H=>m=xs.length - i/\i<=xs.length/\Pv i ys H,⟨xs.length,by simp,gr _,h0⟩,?_⟩;rintro i m ys H ⟨rfl,hi,p⟩;obtain⟨q,hz⟩:=Y i ys H hi p;refine⟨hz,?_⟩
 by_cases M:i<xs.length
 .refine .inr ⟨⟨xs,xs[i],q,by simp[M]⟩,Pv (i+1),λaw H' p'=>⟨xs.length - (i+1),by omega,rfl,M,p'⟩,λx H' y=>?_⟩;obtain⟨e,y⟩:=y;subst e;exact hs i x ys _ (y xs q) p
 .have e:i=xs.length:=by omega
  subst e;exact .inl ⟨⟨xs,q,ah _⟩,hd ys H p⟩
def aFY (t u:TS):TS:=λD σ H=>∀ M:St->Hp->Prop,(∀ z H',u D z H'->M z H')->t { D with nx:=M } σ H
def fT {X:Cx} {st:Stmt} {rest:List Stmt} {t u:TS} (h1:PS X st t) (h2:PSs X rest u):PSs X (st :: rest) (aFY t u):=λpins s σ H D I h=>aI h1 h2 pins s σ H D I (h (u D) λ_ _ z=>z)
end L2
namespace L2
open PySem
open PyProof.Rows PySem.MeetsSeq PySem.SeqAt PySem.Spec
open PySem.AutoSeq1 (wpAny_loadPart')
section
variable {X:Cx}
inductive M9 (t:TS) (D:iX) (σ:St) (H:Hp):Prop
 | mk (d:_) (kvs:_) (h0_:H d=some (.dK kvs)) (h1_:t { D with nx:=fun σ' H'=>∃ od,H' d=some (.frz od (.dK kvs))/\D.nx σ' (upd H' d (.dK kvs)) } σ H):M9 t D σ H
def aEY (t:TS):TS:=λD σ H=>M9 t D σ H
def j7 {st:Stmt} {t:TS} (h:PS X st t):PS X st (aEY t):=by
 intro pins s σ H D I q;obtain⟨d,kvs,hd,q⟩:=q;have h0:∀ o u,X.H₀ d≠some (.frz o u):=λo u z=>by
  have:=I.base.frzs d o u z;rw[hd]at this;cases this
 refine thn (h pins s σ H _ I q) λf Y J=>?_;cases f with
 | next =>
  obtain⟨L,H',M,od,U,J⟩:=J;exact⟨L,_,M.thaw U h0,J⟩
 | ret v=>exact J
 | brk=>exact J
 | cont=>exact J
end
end L2
namespace CW
open PySem L2
def aBo {b:Int}:∀ {gs:List Grp},(∀ g∈gs,g.2.2.length<=60)->0<=lng b gs/\lng b gs<=60 * (gs.length:Int)
 | [],_=>⟨nr _,nr _⟩
 | g :: r,h=>by
  obtain⟨h1,h2⟩:=aBo (b:=b) (gs:=r) λx z=>h x (aGY _ z);have h3:=h g aGX;unfold lng at h1 h2 ⊢;rw[cP,aGo]
  by_cases c:b<g.1
  .rw[eH c];lia
  .rw[dt c];lia
def laid (z:List Int) (gs:List Grp):Trs:=z.flatMap λm=>match gs.find? (λg=>decide (g.1=m))with | some g=>g.2.2.map λo=>(m,o) | none=>[]
def rE (m:Int) (z:List Int) (gs:List Grp):laid (m :: z) gs=(match gs.find? (λg=>decide (g.1=m))with | some g=>g.2.2.map (λo=>(m,o)) | none=>[])++laid z gs:=rfl
def sJ (a b:List Int) (gs:List Grp):laid (a++b) gs=laid a gs++laid b gs:=by simp[laid]
def aBp {gs:List Grp} (z:(gs.map (·.1)).Nodup) {g:Grp} (J:g∈gs):laid [g.1] gs=g.2.2.map λo=>(g.1,o):=by
 rw[rE,pV z J];exact gv _
def zE {z ks:List Int} (gs:List Grp) (h:z.Perm ks):(laid z gs).Perm (laid ks gs):=h.flatMap_right _
def zF:∀ {gs:List Grp},(gs.map (·.1)).Nodup->laid (gs.map (·.1)) gs=bK gs:=by
 intro gs z;have go:∀ us:List Grp,(∀ g∈us,g∈gs)->laid (us.map (·.1)) gs=bK us:=by
  intro us
  induction us with
  | nil=>intro _;rfl
  | cons g r J =>
   intro h;rw[aGk,rE,pV z (h g aGX),cY,J λx L=>h x (aGY _ L)]
 exact go gs λ_ h=>h
def aBq {J:List Int} {gs:List Grp} {q:Int×Int} (h:q∈laid J gs):q.1∈J:=by
 unfold laid at h;obtain⟨m,L,z⟩:=List.mem_flatMap.mp h;split at z
 .obtain⟨o,_,rfl⟩:=aGz.mp z;exact L
 .cases z
def sK {gs:List Grp} (ac:Asc gs):∀ {z:List Int},z.Pairwise (·<·)->(laid z gs).Pairwise ple
 | [],_=>List.Pairwise.nil
 | m :: z,h=>by
  obtain⟨h1,h2⟩:=List.pairwise_cons.mp h;rw[rE];refine List.pairwise_append.mpr ⟨?_,sK ac h2,λa J b U=>?_⟩
  .split
   .next g Y =>
    rw[List.pairwise_map];exact(ac g (kc Y)).imp λ{x y} L=>.inr ⟨rfl,L⟩
   .exact List.Pairwise.nil
  .have M:=h1 _ (aBq U);split at J
   .obtain⟨o,_,rfl⟩:=aGz.mp J;exact .inl M
   .cases J
def zG {z ks:List Int} (J:z.Perm ks) (hs:z.Pairwise (·<=·)) (L:ks.Nodup):z.Pairwise (·<·):=by
 have h:=J.nodup_iff.mpr L;exact(List.pairwise_and_iff.mpr ⟨hs,h⟩).imp λ{x y} ⟨a,b⟩=>by lia
section
variable {P:Program} {w:World} {K:PySem.W.Frag} {mg:Str->Option Value} {base:Heap}
inductive nA (vs:List V) (H:Hp) (Q:VK) (E_:XK):Prop
 | mk (d:Addr) (gs:List Grp) (h0_:vs=[.ref d]) (h1_:DG H d gs) (h2_:GoodG gs) (h3_:gs.length<=60) (h4_:(∀ g∈gs,g.2.2.length<=60)) (h5_:∀ (e:Addr) (kvs:List (Key×V)) (H':Hp),H e=none->Same H H'->H' e=some (.dK kvs)->(∀ g∈gs,dM kvs (Sum.inl g.1:Key)=some (.int (2 * les (bK gs) g.1)))->Q (.ref e) H'):nA vs H Q E_
inductive iR (vs:List V) (H:Hp) (Q:VK) (E_:XK):Prop
 | mk (d:Addr) (gs:List Grp) (k p:Int) (h0_:vs=[.ref d,.int k,.int p]) (h1_:DG H d gs) (h2_:gs.length<=60) (h3_:(∀ g∈gs,g.2.2.length<=60)) (h4_:∀ (gs':List Grp) (H':Hp),StayG d gs H H'->DG H' d gs'->vR H k (p - 2 * wgt (gP k) gs - 2 * k) gs gs'->Q .non H'):iR vs H Q E_
inductive oK (vs:List V) (H:Hp) (Q:VK) (E_:XK):Prop
 | mk (d:Addr) (gs:List Grp) (p:Int) (H0:Hp) (h0_:vs=[.ref d,.int p]) (h1_:DG H d gs) (h2_:GoodG gs) (h3_:Asc gs) (h4_:sto gs<=59) (h5_:Bd (bK gs) (p - 1)) (h6_:Same H0 H) (h7_:H0 d=none) (h8_:(∀ g∈gs,H0 g.2.1=none)) (h9_:∀ (gs':List Grp) (H':Hp),Same H0 H'->DG H' d gs'->GoodG gs'->Asc gs'->Add (bK gs) p (bK gs')->(∀ g∈gs',H0 g.2.1=none)->Q .non H'):oK vs H Q E_
end
def j8 {l:List Int} (h:l≠[]):atI (l.map V.int) (-1)=some (V.int (l.getLast h)):=by
 have e:l.map V.int=l.dropLast.map V.int++[V.int (l.getLast h)]:=by
  rw[<- List.map_singleton (f:=V.int),<- aGa,lj h]
 rw[e];exact aAm _ _
def lP:∀ (r:List Int) (n:Int),(r.foldl max n=n\/r.foldl max n∈r)/\n<=r.foldl max n/\∀ x∈r,x<=r.foldl max n
 | [],n=>⟨.inl rfl,nr _,λx hx=>(nomatch hx)⟩
 | a :: r,n=>by
  obtain⟨h1,h2,h3⟩:=lP r (max n a);rw[aGm];refine⟨?_,by lia,λx hx=>?_⟩
  .rcases h1 with h1 | h1
   .rcases Int.le_total n a with c | c
    .right;rw[h1];rw[show max n a=a by lia];exact aGX
    .left;rw[h1];lia
   .exact .inr (aGY _ h1)
  .rcases aGx.mp hx with rfl | hx
   .lia
   .exact h3 x hx
def z6 {gs:List Grp} {p:Int} (Y:GoodG gs) {ns:List Int} (h1:∀ n∈ns,∃ g∈gs,∃ J:g.2.2≠[],n=g.1/\g.2.2.getLast J=p - 1 - 2 * les (bK gs) g.1)
 (h2:∀ g∈gs,∀ J:g.2.2≠[],g.2.2.getLast J=p - 1 - 2 * les (bK gs) g.1->g.1∈ns) :
 ∃ s:Int,mxD ns (.int 0)=.int s/\0<=s/\(s=0\/1<=s/\∃ g∈gs,∃ J:g.2.2≠[],g.1=s/\g.2.2.getLast J=p - 1 - 2 * les (bK gs) s)/\(∀ g∈gs,∀ J:g.2.2≠[],s<g.1->g.2.2.getLast J≠p - 1 - 2 * les (bK gs) g.1):=by
 cases ns with
 | nil=>exact⟨0,rfl,nr _,.inl rfl,λg L J _ e=>(nomatch (h2 g L J e))⟩
 | cons n r =>
  obtain⟨a1,a2,a3⟩:=lP r n;have hm:r.foldl max n∈n :: r:=by
   rcases a1 with h | h
   .rw[h];exact aGX
   .exact aGY _ h
  obtain⟨g,L,J,U,e2⟩:=h1 _ hm;have aw:=(Y g L).1;refine⟨r.foldl max n,rfl,by lia,.inr ⟨by lia,g,L,J,U.symm,by rw[U];exact e2⟩,λx hx M ax e=>?_⟩;have:=h2 x hx M e;rcases aGx.mp this with z | z
  .lia
  .have:=a3 _ z;lia
def Lst.le {r:List Int} {ps:Trs} (h:Lst r ps) {n:Int} (b:Bd ps n):∀ x∈r,x<=n:=by
 cases h with
 | nil=>intro x hx;cases hx
 | snoc a z c =>
  rename_i r J p
  have bd:=a.bd (n:=p - 1) λx hx=>by have:=z x hx;omega
  obtain⟨s,rest,h0,h1,_⟩:=c.tak bd;have:=(b _ (h1.mem_iff.mpr aGX)).2;simp only at this;intro x hx;rcases aGy.mp hx with hx | hx
  .have:=z x hx;omega
  .have:x=p:=by simpa using hx
   omega
def Lst.rowp {r:List Int} {ps:Trs} (h:Lst r ps):Row r:=by
 induction h with
 | nil=>exact List.Pairwise.nil
 | snoc a b c z=>exact aBP z b
def N0 {ps J z:Trs} {p:Int} {done:List Int} (t:Tak ps p J) (M:∀ q∈ps,1<=q.1) (fin:∀ r,Lst r ps->Lst (r++done) z):∀ r,Lst r J->Lst (r++p :: done) z:=λr L=>by
 obtain⟨b,a⟩:=t.add M;have:=fin (r++[p]) (.snoc L (λx U=>by have:=L.le b x U;omega) a);rw[jh]at this;exact this
def U5 {z row:List Int} (J:z.Perm row) (hs:z.Pairwise (·<=·)) (L:Row row.reverse):z=row.reverse :=
 List.Perm.eq_of_pairwise (le:=λa b:Int=>a<=b) (λx y _ _ h1 h2=>by omega) hs (L.imp λ{x y} q=>by omega) (J.trans (List.reverse_perm _).symm)
def U6 {gs:List Grp} (gd:GoodG gs) {J:List (Int×Int)} {j:Nat} {p:Int×Int} (ht:Top J J.length j) (Y:J[j]?=some p) (h1:∀ q∈J,∃ g∈gs,∃ z:g.2.2≠[],q=(g.2.2.getLast z+2 * les (bK gs) g.1,-g.1))
 (h2:∀ g∈gs,∀ z:g.2.2≠[],(g.2.2.getLast z+2 * les (bK gs) g.1,-g.1)∈J) :
 ∃ g∈gs,∃ z:g.2.2≠[],p.2=-g.1/\g.2.2.getLast z+2 * les (bK gs) g.1=p.1/\∀ x∈gs,∀ M:x.2.2≠[],x.2.2.getLast M+2 * les (bK gs) x.1<=p.1/\(x.1<g.1->x.2.2.getLast M+2 * les (bK gs) x.1<p.1):=by
 obtain⟨g,hg,z,e⟩:=h1 p (aG6 Y);refine⟨g,hg,z,by rw[e],by rw[e],λx M L=>?_⟩;obtain⟨k,hk,U⟩:=List.mem_iff_getElem.mp (h2 x M L);have h3:=ht.2 k hk;have e1:J.getD j (0,0)=p:=by rw[ic,Y];rfl
 have e2:J.getD k (0,0)=(x.2.2.getLast L+2 * les (bK gs) x.1,-x.1):=by rw[ic,aG5 hk,U];rfl
 rw[e1,e2,gN]at h3;simp only at h3;rw[e]at h3 ⊢;simp only at h3 ⊢;omega
section
variable {P:Program} {w:World} {K:PySem.W.Frag} {mg:Str->Option Value} {base:Heap}
inductive rF (vs:List V) (H:Hp) (Q:VK) (E_:XK):Prop
 | mk (a:Addr) (ps:List (Int×Int)) (h0_:vs=[.ref a]) (h1_:LP H a ps) (h2_:ps.length<=60) (h3_:∀ (d:Addr) (gs:List Grp) (H':Hp),H d=none->Same H H'->DG H' d gs->(bK gs).Perm ps->Asc gs->(∀ g∈gs,g.2.2≠[]/\H g.2.1=none)->Q (.ref d) H'):rF vs H Q E_
inductive aEZ (H0:Hp) (ps:Trs) (a d r:Addr) (m:Nat) (σ:St) (Hx:Hp):Prop
 | mk (gs:List Grp) (row:List Int) (v3 v4 v5 v6:Option V) (h0_:σ=[some (.ref a),some (.ref d),some (.ref r),v3,v4,v5,v6]) (h1_:Same H0 Hx) (h2_:DG Hx d gs) (h3_:GoodG gs) (h4_:Asc gs) (h5_:Hx r=some (.lst (row.map V.int))) (h6_:(∀ g∈gs,H0 g.2.1=none/\g.2.1≠r)) (h7_:sto gs=(m:Int)) (h8_:m+row.length<=60) (h9_:∀ r',Lst r' (bK gs)->Lst (r'++row.reverse) ps):aEZ H0 ps a d r m σ Hx
inductive vV (vs:List V) (H:Hp) (Q:VK) (E_:XK):Prop
 | mk (a:Addr) (ps:List (Int×Int)) (h0_:vs=[.ref a]) (h1_:LP H a ps) (h2_:Trn ps) (h3_:∀ r:List Int,Lst r ps->S2 H Q r):vV vs H Q E_
end
def j9 (s:Int) (q:Int×Int):Int:=q.2 * (if s<q.1 then s else q.1)
def aBr (ws:List (Int×Int)) (s:Int):Int:=(ws.map (j9 s)).sum
def nQ (ps ws:List (Int×Int)):List (Int×Int):=ps.map λp=>(p.1,p.2+aBr ws p.1)
def Crl (ws:List (Int×Int)):Prop:=∀ q∈ws,1<=q.1
inductive B3 (vs:List V) (H:Hp) (Q:VK) (E_:XK):Prop
 | mk (a:Addr) (ws:List (Int×Int)) (h0_:vs=[.ref a]) (h1_:LP H a ws) (h2_:Crl ws) (h3_:Q .non H):B3 vs H Q E_
inductive U7 (vs:List V) (H:Hp) (Q:VK) (E_:XK):Prop
 | mk (a:Addr) (ws:List (Int×Int)) (s:Int) (h0_:vs=[.ref a,.int s]) (h1_:LP H a ws) (h2_:ws.length<=200) (h3_:Crl ws) (h4_:0<=s) (h5_:s<=1000) (h6_:∀ H',Same H H'->Q (.int (aBr ws s)) H'):U7 vs H Q E_
inductive B4 (vs:List V) (H:Hp) (Q:VK) (E_:XK):Prop
 | mk (a b:Addr) (ps ws:List (Int×Int)) (h0_:vs=[.ref a,.ref b]) (h1_:LP H a ps) (h2_:Trn ps) (h3_:LP H b ws) (h4_:ws.length<=200) (h5_:Crl ws) (h6_:∀ qs:List (Int×Int),qs.Perm (nQ ps ws)->qs.Pairwise ple->aFK H Q qs):B4 vs H Q E_
def aE0 {ps:List (Int×Int)} (h:Trn ps) {p:Int×Int} (M:p∈ps):p.1<=60:=by
 have:=h.few;have:∀ {l:List (Int×Int)},(∀ q∈l,1<=q.1)->p∈l->p.1<=(szs l).sum:=by
  intro l
  induction l with
  | nil=>intro _ z;cases z
  | cons x r U =>
   intro J hm;simp only[szs,aGk,aGn];have hx:=J x aGX;have Y:=kC (ps:=r) λq L=>J q (aGY _ L);rcases aGx.mp hm with rfl | hm
   .simp only[szs]at Y;lia
   .have:=U (λq L=>J q (aGY _ L)) hm;simp only[szs]at this
    lia
 have:=this h.pos M
 lia
end CW
namespace CW
end CW
namespace CW
open PySem L2
def Lst.trn {r:List Int} {ps:Trs} (h:Lst r ps) (z:r.length<=60):Trn ps:=⟨h.pos,by have:=h.sizx;unfold siz at this;unfold szs;lia⟩
end CW
namespace CW
end CW
namespace CW
open PySem L2
structure Rw (r:List Int):Prop where
 row:Row r
 len:r.length<=60
abbrev kvW (ws:Trs):List (Key×V):=ws.map λq=>((Sum.inl q.1:Key),V.int q.2)
def z7 {x:Str} (h:A6 x):PyData.strOk x=true:=by
 unfold A6 at h;unfold PyData.strOk;rw[<- Array.all_toList,om]at *;intro c z;have:=of_decide_eq_true (h c z);exact aGh (by lia)
def aBs {x:Str} (h:A6 x):SeqAt.shaped (.str x)=true:=by
 simp[SeqAt.shaped,PyData.canLay0,PyData.depth,z7 h]
def aFZ (x y:Str):PyData.eqv (.str x) (.str y)=decide (x=y):=by
 simp only[PyData.eqv]
 by_cases h:x=y
 .rw[aGh h,h];exact ri y
 .rw[aGg h];exact beq_eq_false_iff_ne.mpr h
structure Txs (x:Str):Prop where
 asc:A6 x
 len:x.length<=5000
inductive U8 (vs:List V) (H:Hp) (Q:VK) (E_:XK):Prop
 | mk (t sg:Str) (most:Int) (h0_:vs=[.str t,.str sg,.int most]) (h1_:Txs t) (h2_:∀ H',Same H H'->Q (.bl (sH t sg most)) H'):U8 vs H Q E_
inductive B5 (vs:List V) (H:Hp) (Q:VK) (E_:XK):Prop
 | mk (t:Str) (h0_:vs=[.str t]) (h1_:Txs t) (h2_:∀ H',Same H H'->Q (.bl (sH t L3 8)) H'):B5 vs H Q E_
mutual
inductive DT (H:Hp):V->PyData->Prop
 | int (i:Int):DT H (.int i) (.int i)
 | str (x:Str):DT H (.str x) (.str x)
 | tup {a:Addr} {vs:List V} {ds:List PyData}:H a=some (.tup vs)->DTs H vs ds->DT H (.ref a) (.tuple ds)
inductive DTs (H:Hp):List V->List PyData->Prop
 | nil:DTs H [] []
 | cons {v:V} {d:PyData} {vs:List V} {ds:List PyData}:DT H v d->DTs H vs ds->DTs H (v :: vs) (d :: ds)
end
mutual
def DT.mono {H H':Hp} (e:TupS H H'):∀ {v:V} {d:PyData},DT H v d->DT H' v d
 | _,_,.int i=>.int i
 | _,_,.str x=>.str x
 | _,_,.tup h t=>.tup (e _ _ h) (DTs.mono e t)
def DTs.mono {H H':Hp} (e:TupS H H'):∀ {vs:List V} {ds:List PyData},DTs H vs ds->DTs H' vs ds
 | _,_,.nil=>.nil
 | _,_,.cons r t=>.cons (DT.mono e r) (DTs.mono e t)
end
mutual
def DT.den {H:Hp}:∀ {v:V} {d:PyData},DT H v d->Den H v d
 | _,_,.int i=>.int i
 | _,_,.str x=>.str x
 | _,_,.tup h t=>.tup h (DTs.dens t)
def DTs.dens {H:Hp}:∀ {vs:List V} {ds:List PyData},DTs H vs ds->Dens H vs ds
 | _,_,.nil=>.nil
 | _,_,.cons r t=>.cons (DT.den r) (DTs.dens t)
end
structure Hc (K:PySem.W.Frag) where
 Rd:Addr
 Cs:Addr
 Hs:Addr
 rd:Cls K Rd
 cs:Cls K Cs
 hs:Cls K Hs
 ne1:Rd≠Hs
 ne2:Cs≠Hs
 rEn:NoAttr K Rd "entries"
 rRe:NoAttr K Rd "rests"
 rCo:NoAttr K Rd "course"
 cRe:NoAttr K Cs "rested"
 cWa:NoAttr K Cs "walks"
 cTu:NoAttr K Cs "turned"
 hSt:NoAttr K Hs "standing"
 hPa:NoAttr K Hs "past"
 hAh:NoAttr K Hs "ahead"
def RowA (N:Addr->Prop) (H:Hp) (t:Addr) (r:List Int):Prop:=N t/\H t=some (.lst (r.map V.int))\/H t=some (.tup (r.map V.int))
abbrev aF0 (t d:Addr) (b:Bool):List (Str×V):=[("rested",.ref t),("walks",.ref d),("turned",.bl b)]
abbrev aF1 (e r c:Addr):List (Str×V):=[("entries",.ref e),("rests",.ref r),("course",.ref c)]
abbrev oM (d p q:Addr):List (Str×V):=[("standing",.ref d),("past",.ref p),("ahead",.ref q)]
section
variable {K:PySem.W.Frag} (G:Hc K)
variable {G}
def RowA.same {N:Addr->Prop} {H H':Hp} (g:Same H H') {t:Addr} {r:List Int} (h:RowA N H t r):RowA N H' t r:=by
 rcases h with ⟨h1,h2⟩ | h
 .exact .inl ⟨h1,g _ _ h2⟩
 .exact .inr (g _ _ h)
def RowA.imp {N z:Addr->Prop} {H:Hp} {t:Addr} {r:List Int} (k:∀ t xs,N t->H t=some (.lst xs)->z t) (h:RowA N H t r):RowA z H t r:=by
 rcases h with ⟨h1,h2⟩ | h
 .exact .inl ⟨k _ _ h1 h2,h2⟩
 .exact .inr h
end
end CW
namespace L2
open PySem PySem.Spec PyProof.Rows
open Sem (wp)
def lQ (ag bm:List Value):Prop:=∀ {X:String} {b:Bool},ag.contains (.type X)=b->bm.contains (.type X)=b
def U9:List Value->List Value
 | .ref _ :: r=>U9 r
 | l=>l
def N1 {ag:List Value}:∀ {bm:List Value},U9 bm=ag->lQ ag bm
 | [],e=>λz=>by
  have J:([]:List Value)=ag:=e;rw[J];exact z
 | v :: r,e=>λz=>by
  cases v
  case ref a =>
   have L:=N1 (bm:=r) e z;rw[gz,L];rfl
  all_goals (rw[show _ :: r=ag from e];exact z)
section
variable {prog:Program} {w:World} {A:Around} {E:Value->Shared->Prop} {h:Heap} {g:Array GenState} {d:Drawn} {t:Nat} {os:OsState}
variable {nm q:Str} {C N:Addr} {bs bm ag:List Value} {hdct:Bool} {sn:List Str} {sub:List Value} {ab:Bool} {col:Option Bool} {dd:Option Addr} {k0 k1 k2 k3 k5:Option Value} {B newId af:String}
def V0 {M:Model} (F:ExcBaseFacts B newId af ag) (T:lQ ag bm) {rest:List Value} {Q:Unit->Shared->Prop} (J:h.get? C=some (excClassObj nm q C N bs bm hdct sn sub ab col dd k0 k1 k2 k3 k5 newId))
 (kq:Q () ⟨h,g,d,t,os⟩):wpAny M A (checkBuiltinCall newId ⟨.ref C :: rest,[]⟩) Q E ⟨h,g,d,t,os⟩:=by
 have z:(Value.ref C :: bm).contains (.type B)=true:=by
  rw[gz,T F.hasB];exact lv _
 have ns:=F.noStar;simp only[checkBuiltinCall,F.newRow,F.newSplit,F.newKind]
 repeat (first
  | refine gk J ?_
  | (refine jt J ?_;rw[z])
  | refine wpAny_staticBase_exc J ?_
  | refine wpAny_madeBy_exc J ?_
  | simp only[qq,mi,ir]
  | wp_step)
 exact kq
def aBt {R:Result->Shared->Prop} (F:ExcBaseFacts B newId af ag) (T:lQ ag bm) {rest:List Value} (M:h.get? C=some (excClassObj nm q C N bs bm hdct sn sub ab col dd k0 k1 k2 k3 k5 newId))
 (kq:R (.ok (.ret (.ref (h.objs.size+1)))) ⟨(h.push { cls:=.type "tuple",data:=.seq rest.toArray }).push { cls:=.ref C,data:=.fields #[.ref h.objs.size,.none,.none,.none,.bool false,.none] },g,d,t,os⟩) (hrest:rest.length<=sizeLine:=by size_fits) :
 codeAny (model prog w) A (.builtin newId ⟨.ref C :: rest,[]⟩) R ⟨h,g,d,t,os⟩:=by
 have ends:=F.ends;have z:(Value.ref C :: bm).contains (.type B)=true:=by
  rw[gz,T F.hasB];exact lv _
 have J:(Value.ref C :: bm).contains (.type "AttributeError")=false:=by
  rw[gz,T F.noAttr];rfl
 have L:(Value.ref C :: bm).contains (.type "NameError")=false:=by
  rw[gz,T F.noName];rfl
 refine codeAny_builtinAt F.entry ?_;unfold Builtin.«BaseException.__new__»;refine PySem.wpAt_bind ?_;show PySem.wpAt _ _ _ (stack >>= _) _ _ _;refine PySem.wpAt_bind (PySem.wpAt_stack λ_ _=>ui ?_)
 wp_walk
 refine ui ?_;rw[F.owner]
 repeat (first
  | with_reducible refine wpAny_madeHere_exc F.canon M ?_
  | with_reducible refine gk M ?_
  | (with_reducible refine jt M ?_;first | rw[z] | rw[J] | rw[L])
  | wp_step)
 show R _ _;rw[im];exact kq
def N2 {M:Model} (F:ExcBaseFacts B newId af ag) (T:lQ ag bm) {e:Addr} {oe:Obj} {rest:List Value} {Q:Unit->Shared->Prop}
 (oC:h.get? C=some (excClassObj nm q C N bs bm hdct sn sub ab col dd k0 k1 k2 k3 k5 newId)) (oE:h.get? e=some oe) (ocl:oe.cls=.ref C) (kq:Q () ⟨h,g,d,t,os⟩) :
 wpAny M A (checkBuiltinCall af ⟨.ref e :: rest,[]⟩) Q E ⟨h,g,d,t,os⟩:=by
 have hasIt:(Value.ref C :: bm).contains (.type B)=true:=by
  rw[gz,T F.hasB];exact lv _
 have ns:=F.noStar;simp only[checkBuiltinCall,F.initRow,F.initSplit,F.initKind]
 repeat (first
  | (with_reducible refine gk oE ?_;rw[ocl])
  | with_reducible refine gk oC ?_
  | (with_reducible refine jt oC ?_;rw[hasIt])
  | wp_step)
 refine wpAny_onRaise ?_;rw[show ∀ (a b:String) (n:Nat),Bind.check ⟨.positional,"*",B,.self,[⟨"args",.varPos,false⟩]⟩ a b n (List.map (λx=>x.fst) ({ pos:=Value.ref e :: rest }:Args).kw)=pure () from λa b n=>check_star_args _ _ _ _ _ _];exact aGU kq
def sS (F:ExcBaseFacts B newId af ag) (T:lQ ag bm) {mN:Str->Option Value} {rest:List Value} {fI:Addr} {oI:Obj} {Q:Fin->Shared->Prop}
 (U:h.get? C=some (excClassObj nm q C N bs bm hdct sn sub ab col dd k0 k1 k2 k3 k5 newId)) (hn:h.Ns N mN) (hi:mN "__init__"=some (.ref fI))
 (Y:h.get? fI=some oI) (aw:oI.cls=.type "function")
 (hq:∀ h' e,Heap.MadeExcOf h h' e (.ref C) rest ->
  wpAny (model prog w) A (call (.ref fI) (.ref e :: rest)) (λr s'=>r=.none/\Q (.done (.ret (.ref e))) s') E ⟨h',g,d,t,os⟩) (hrest:rest.length<=sizeLine:=by size_fits) :
 wpAny (model prog w) A (Builtin.«type.__call__» ⟨.ref C :: rest,[]⟩) Q E ⟨h,g,d,t,os⟩:=by
 repeat (first | with_reducible refine gk U ?_ | with_reducible refine wpAny_madeBy_exc U ?_ | wp_step)
 refine codeAny_call_builtin_code (Code.quiet_builtin _ F.quiet) (V0 F T U ?_);refine aBt F T U ?_ hrest;show wpAny _ _ _ _ _ _;have k2:∀ b o,h.get? b=some o->((h.push { cls:=.type "tuple",data:=.seq rest.toArray }).push { cls:=.ref C,data:=.fields #[.ref h.objs.size,.none,.none,.none,.bool false,.none] }).get? b=some o :=
  λb o e=>aGW _ (aGW _ e)
 have z:=k2 _ _ U;have J:=k2 _ _ Y;have M:=hn.keeps k2;have L:((h.push { cls:=.type "tuple",data:=.seq rest.toArray }).push
  { cls:=.ref C,data:=.fields #[.ref h.objs.size,.none,.none,.none,.bool false,.none] }).get? (h.objs.size+1)=some
  { cls:=.ref C,data:=.fields #[.ref h.objs.size,.none,.none,.none,.bool false,.none] }:=by heap_get
 have ax:(Value.ref C :: bm).contains (.ref C)=true:=by simp
 unfold isInstance
 repeat (first | with_reducible refine gk L ?_ | (with_reducible refine jt z ?_;rw[ax]) | wp_step)
 show wpAny _ _ (typeLookup (.ref C) _) _ _ _;rw[typeLookup_eq];refine aGT (wpAny_mroOf_exc z ?_);rw[lookupAlong_cons];refine aGT (wpAny_classOwn_exc z M ?_);rw[hi];refine aGU ?_;refine fy (aGT ?_);unfold bindSpecial;refine aGT (sf (T:="function") ⟨_,J,aw⟩ ?_);rw[eH (by decide)];refine aGU (aGT (ew (hq _ (h.objs.size+1) ⟨k2,md (lq _),h.objs.size,L,md (ah _),?_⟩) (λr s' hr=>?_) λ_ _ x=>x))
 .exact aGW _ (Heap.get?_push_at rfl rfl)
 .obtain⟨rfl,hQ⟩:=hr
  wp_walk
  exact hQ
def oN (F:ExcBaseFacts B newId af ag) (T:lQ ag bm) {mN:Str->Option Value} {rest:List Value} {fI:Addr} {oI:Obj} {Q:Value->Shared->Prop}
 (hC:h.get? C=some (excClassObj nm q C N bs bm hdct sn sub ab col dd k0 k1 k2 k3 k5 newId)) (hn:h.Ns N mN) (hi:mN "__init__"=some (.ref fI))
 (hfI:h.get? fI=some oI) (hfc:oI.cls=.type "function")
 (hq:∀ h' e,Heap.MadeExcOf h h' e (.ref C) rest ->
  wpAny (model prog w) (A.under (.builtin "type.__call__" ⟨.ref C :: rest,[]⟩)) (call (.ref fI) (.ref e :: rest)) (λr s'=>r=.none/\Q (.ref e) s') E ⟨h',g,d,t,os⟩) (hrest:rest.length<=sizeLine:=by size_fits) :
 wpAny (model prog w) A (call (.ref C) rest) Q E ⟨h,g,d,t,os⟩:=by
 have f1:=tc_lookup;have f2:=tc_bind (.ref C);have hT:(⟨h,g,d,t,os⟩:Shared).TypeIs (.ref C) "type":=⟨_,hC,rfl⟩;refine jx (codeAny_of_tree ?_);show wpAny _ _ (callAny (.ref C) _) _ _ _
 repeat (any_goals (first | assumption | with_reducible refine gk hC ?_ | wp_step))
 refine⟨rfl,?_⟩;refine codeAny_call_builtin_at (Code.quiet_builtin _ (by decide +kernel)) entry_typeCall (wpAny_check_type_call_sub hC (sS (hrest:=hrest) F T hC hn hi hfI hfc λh' e hm=>?_));exact hq h' e hm
def xO {M:Model} {s:Shared} {env:Env} {x:Sem Value} {Q:Flow->Shared->Prop} (J:bm.contains (.type "BaseException")=true) (hh:A.handled=none)
 (h:wpAny M A x (λv z=>∃ e od t,v=.ref e/\z.heap.get? C=some (excClassObj nm q C N bs bm hdct sn sub ab col dd k0 k1 k2 k3 k5 newId) /\
  z.heap.get? e=some { cls:=.ref C,dict:=od,data:=.fields #[.ref t,.none,.none,.none,.bool false,.none] }/\E (.ref e) z) E s) :
 wpAny M A (raiseStmt env (some x) none) Q E s:=by
 have U:(Value.ref C :: bm).contains (.type "BaseException")=true:=by rw[gz,J,lv]
 unfold raiseStmt;refine aGT (ew h (λv z L=>?_) λ_ _ x=>x);obtain⟨e,od,t,rfl,Y,he,hE⟩:=L;obtain⟨hp,g,d,tk,os⟩:=z
 repeat (first | with_reducible refine gk he ?_ | with_reducible refine gk Y ?_ | (with_reducible refine jt Y ?_;rw[U]) | wp_step)
 exact wpAny_raiseNew_none hh hE
def N3 {s:Shared} {env:Env} (F:ExcBaseFacts B newId af ag) {mN:Str->Option Value} {x:Str} {np aa pos:Pos} {args:List Expr} {fI:Addr} {oI:Obj} {Q:Flow->Shared->Prop}
 (aw:bm.contains (.type "BaseException")=true) (hh:A.handled=none) (U:(backTo aa (starEach args env)).any (·.1)=false) (hi:mN "__init__"=some (.ref fI)) (ay:oI.cls=.type "function")
 (h:wpAny (model prog w) A (eval (.Name x np) env) (λf Y=>f=.ref C/\wpAny (model prog w) A (evalArgs (.ref C) true (backTo aa (starEach args env)) [])
  (λa J=>a.kw=[]/\a.pos.length<=sizeLine/\J.heap.get? C=some (excClassObj nm q C N bs bm hdct sn sub ab col dd k0 k1 k2 k3 k5 newId)/\J.heap.Ns N mN/\lQ ag bm/\J.heap.get? fI=some oI /\
   ∀ h' e,Heap.MadeExcOf J.heap h' e (.ref C) a.pos->wpAny (model prog w) (A.under (.builtin "type.__call__" ⟨.ref C :: a.pos,[]⟩)) (call (.ref fI) (.ref e :: a.pos)) (λr s'=>r=.none /\
    (s'.heap.get? C=some (excClassObj nm q C N bs bm hdct sn sub ab col dd k0 k1 k2 k3 k5 newId))/\(∃ od t,s'.heap.get? e=some { cls:=.ref C,dict:=od,data:=.fields #[.ref t,.none,.none,.none,.bool false,.none] })/\E (.ref e) s') E { J with heap:=h' }) E Y) E s) :
 wpAny (model prog w) A (exec (.Raise (some (.Call (.Name x np) args [] aa)) none pos) env) Q E s:=by
 rw[arm_exec_Raise];simp only[evalOpt,Option.map];refine aGT (gw (xO (C:=C) (nm:=nm) (q:=q) (N:=N) (bs:=bs) (bm:=bm) (hdct:=hdct) (sn:=sn) (sub:=sub) (ab:=ab) (col:=col) (dd:=dd) (k0:=k0) (k1:=k1) (k2:=k2) (k3:=k3) (k5:=k5) (newId:=newId) aw hh (aGT (ew (qw (ew h (λf Y L=>?_) λ_ _ x=>x)) (λv bb ax=>aGT (gw (aGU ax))) λ_ _ x=>x))));obtain⟨rfl,L⟩:=L;unfold callWith;refine aGT (fy (ew L (λa J M=>aGT (gw ?_)) λ_ _ x=>x));obtain⟨apos,az⟩:=a;obtain⟨a_,hlen,hC,hn,T,ba,M⟩:=M;obtain rfl:az=[]:=a_;obtain⟨hp,g,d,tk,os⟩:=J;simp only[U];refine aGT (qd hC ?_);refine aGT (oN (hrest:=hlen) F T hC hn hi ba ay λh' e hm=>ew (M h' e hm) (λr s' ⟨hr,z1,⟨od,vs,z2⟩,z3⟩=>⟨hr,?_⟩) λ_ _ z=>z);refine aGT (fy (wpAny_point (aGU ?_)));exact⟨e,od,vs,rfl,z1,z2,z3⟩
def V1 (F:ExcBaseFacts B newId af ag) (T:lQ ag bm) {rest:List Value} {e J:Addr} {od:Option Addr} {Q:Value->Shared->Prop}
 (L:h.get? C=some (excClassObj nm q C N bs bm hdct sn sub ab col dd k0 k1 k2 k3 k5 newId)) (he:h.get? e=some { cls:=.ref C,dict:=od,data:=.fields #[.ref J,.none,.none,.none,.bool false,.none] })
 (M:∀ h' t1,(∀ b o,b≠e->h.get? b=some o->h'.get? b=some o)->h'.get? e=some { cls:=.ref C,dict:=od,data:=.fields #[.ref t1,.none,.none,.none,.bool false,.none] }->Q .none ⟨h',g,d,t,os⟩) (hrest:rest.length<=sizeLine:=by size_fits) :
 wpAny (model prog w) A (call (.builtin af) (.ref e :: rest)) Q E ⟨h,g,d,t,os⟩:=by
 refine jx (ke F.init.plain F.initEntry (N2 F T L he rfl ?_));have z:=aGW { cls:=.type "tuple",data:=.seq rest.toArray } he
 wp_walk
 refine M _ h.objs.size (λb o n U=>?_) ?_
 .rw[aG0 _ _ n.symm];exact aGW _ U
 .rw[aGd _ z rfl];rfl
end
open Sem (wp)
open Builtin Builtin.ObjectAttr
structure hX (K:PySem.W.Frag) (C:Addr) (name:Str):Prop where
 cls:∃ cd bm,PySem.W.clsIn K C=some cd/\cd.mro=.ref C :: bm/\(∀ self,refuseLoop self "__setattr__" bm=pure ())/\bm.contains (.type "object")=true/\cd.hasDict=true
 set:PySem.W.findIn K (.ref C) "__setattr__"=some (some (.builtin "object.__setattr__"))
 free:PySem.W.findIn K (.ref C) name=some none
section
variable {prog:Program} {w:World} {A:Around} {E:Value->Shared->Prop} {h:Heap} {g:Array GenState} {d:Drawn} {t:Nat} {os:OsState} {K:PySem.W.Frag} {C e:Addr} {name:Str} {v:Value} {vs:Array Value}
def z8 {Q:Unit->Shared->Prop} (X:K.In h) (S:hX K C name) (hx:h.get? e=some { cls:=.ref C,dict:=none,data:=.fields vs })
 (hq:∀ h' dx tk',h.get? dx=none->(∀ b o,b≠e->h.get? b=some o->h'.get? b=some o)->h'.get? e=some { cls:=.ref C,dict:=some dx,data:=.fields vs }->h'.Ns1 dx (λy=>if y=name then some v else none)->Q () ⟨h',g,d,tk',os⟩) :
 wpAny (model prog w) A (setAttr (.ref e) name v) Q E ⟨h,g,d,t,os⟩:=by
 obtain⟨⟨cd,bm,hc,hm,href,hob,hdct⟩,hs,hfree⟩:=S;have SF:=qx;have I:PySem.W.InstAt h e { cls:=.ref C,dict:=none,data:=.fields vs } C none:=⟨hx,rfl,rfl,trivial⟩;have hmro:PySem.W.Looks (model prog w) h (mroOf (.ref C)) cd.mro:=(kr X hc).andThen .now;have hsub:PySem.W.Looks (model prog w) h (isInstance (.ref e) (.type "object")) true:=I.type.andThen (uj X (by
  unfold PySem.W.mroIn;rw[hc,Option.bind_some,hm,dt (by simp),gz,hob,lv]))
 refine qp (s:=⟨h,g,d,t,os⟩) X I hs ?_;refine ke SF.slot.plain SF.entry (@PySem.W.check_slot (model prog w) _ _ _ "object.__setattr__" "object" "__setattr__" (.ref e) [.str name t,v] [] _ SF.kind SF.split hsub (SF.args (.ref e) (.str name t) v) ?_);rw[PySem.W.osa_eq,refuse_eq];refine aGT (aGT (I.type.at (aGT (hmro.at ?_))));rw[hm,refuseLoop_ref,href];refine aGU (aGT (I.type.at (aGT ((jm X hfree).at (aGT ?_)))));refine aGU ?_;dsimp only;have hx₁:(h.push { cls:=.type "dict",data:=.dict #[] }).get? e=some { cls:=.ref C,dict:=none,data:=.fields vs }:=aGW _ hx;have hxs:e≠h.objs.size:=aGi (aG1 hx);refine aGT (aGU (aGT (aGT (qf hx (aGT ((kr X hc).at ?_))))));rw[hdct];rw[dt (by decide)];dsimp only;rw[dt (by simp[typeHasDict])];refine aGT (wpAny_alloc' ?_);refine aGT (wpAny_update' hx₁ ?_);refine aGU ?_;dsimp only;have hgd:((h.push { cls:=.type "dict",data:=.dict #[] }).update e λo=>{ cls:=o.cls,dict:=some h.objs.size,data:=o.data,slots:=o.slots }).get? h.objs.size
  = some { cls:=.type "dict",data:=.dict #[] }:=(kx _ _ _ _ hxs.symm).trans (Heap.get?_push_at rfl rfl)
 have hnd:((h.push { cls:=.type "dict",data:=.dict #[] }).update e λo=>{ cls:=o.cls,dict:=some h.objs.size,data:=o.data,slots:=o.slots }).Ns h.objs.size (λ_=>none) :=
  ⟨_,#[],_,hgd,rfl,λe he=>absurd he (by simp),λ_=>rfl⟩
 unfold storeInDict newKeyGuard;refine aGT (aGU (aGT (ur (Heap.Ns1.of_empty hnd) λh' hn' hs=>?_)));obtain⟨oD,esD,epD,hoD,hdD,hcD⟩:=hn'.count (Within.cons name v Within.nil);refine aGT (rf hoD (by rw[hdD];exact rg (g0 hcD (by rw[aGo,sk,ka];lia))) ?_)
 wp_walk
 refine hq h' h.objs.size _ (md (ah _)) (λb o n hb=>?_) ?_ hn'
 .exact(hs.2 b (aGi (aG1 hb))).trans ((kx _ _ _ _ n).trans (aGW _ hb))
 .exact(hs.2 e hxs).trans (aGd _ hx₁ rfl)
end
end L2
namespace L2
open PySem PySem.Spec PyProof.Rows
def XO (C e:Addr) (od:Option Addr):HO:=.ext λh=>∃ t,h.get? e=some { cls:=.ref C,dict:=od,data:=.fields #[.ref t,.none,.none,.none,.bool false,.none] }
def XO.mk {P:Program} {w:World} {H:Hp} {h:Heap} {C e t:Addr} {od:Option Addr} (x:h.get? e=some { cls:=.ref C,dict:=od,data:=.fields #[.ref t,.none,.none,.none,.bool false,.none] }):ObjOk P w H h e (XO C e od) :=
 ⟨⟨t,x⟩,⟨_,x⟩,λh1 h2 ⟨t,z⟩ k=>⟨t,k _ z⟩⟩
def del (H:Hp) (a:Addr):Hp:=λb=>if b=a then none else H b
def jR {H:Hp} {a:Addr}:del H a a=none:=by unfold del;rw[eH rfl]
def gG {H:Hp} {a b:Addr} (h:b≠a):del H a b=H b:=by unfold del;rw[dt h]
section
variable {X:Cx} {pins:List (Addr×Obj)} {σ:St} {H:Hp} {s:Shared} {h':Heap} {C e dx:Addr} {od:Option Addr} {φ:Heap->Prop}
def Inv.forget (I:Inv X pins σ H s) (he:H e=some (.ext φ)):Inv X pins σ (del H e) s:=by
 have ne:∀ b u,H b=some u->(∀ L,u≠.ext L)->b≠e:=λb u q n z=>by rw[z,he]at q;cases q;exact n _ rfl
 have un:Un X.fs [] H (del H e) s.heap s.heap:=⟨λ_ _ q _ _ _=>q,λ_ o q _ _ _=>⟨o.slots,q⟩,λb _ _ n _=>by unfold del;split <;> first | rfl | exact n,λ_ o q _=>⟨o,q⟩,
  λb xs q=>by rw[gG (ne b _ q λ_ z=>by cases z)];exact q,λb o u q=>by rw[gG (ne b _ q λ_ z=>by cases z)];exact q,λb ps q=>⟨#[],by rw[gG (ne b _ q λ_ z=>by cases z),q];simp⟩⟩
 exact I.un (t':=s.toks) un λb u q=>by
  by_cases J:b=e
  .rw[J,jR]at q;cases q
  .rw[gG J]at q;exact(I.hok b u q).stay (λ_ _ _ z=>z) (λc z=>by rw[gG (ne c _ z λ_ z=>by cases z)];exact z) λc xs z=>by rw[gG (ne c _ z λ_ z=>by cases z)];exact z
def Inv.unthere (I:Inv X pins σ H s) {a:Addr} (J:s.heap.get? a=none):H a=none:=by
 cases L:H a with
 | none=>rfl
 | some u =>
  obtain⟨o,z⟩:=(I.hok a u L).there;rw[J]at z;cases z
def Inv.newX (I:Inv X pins σ H s) {args:List Value} (J:Heap.MadeExcOf s.heap h' e (.ref C) args):Inv X pins σ (upd H e (XO C e none)) { s with heap:=h' }:=by
 have M:=I.unthere J.new;have ne:∀ b u,H b=some u->b≠e:=λb u q z=>by rw[z,M]at q;cases q
 have U:∀ b o,s.heap.get? b=some o->b≠e:=λb o q z=>by rw[z,J.new]at q;cases q
 obtain⟨t,ht,_,_⟩:=J.there;have un:Un X.fs [] H (upd H e (XO C e none)) s.heap h':=⟨λb o q _ _ _=>J.keeps b o q,λb o q _ _ _=>⟨o.slots,J.keeps b o q⟩,λb o q n _=>by rw[aF (U b o q)];exact n,λb o q _=>⟨o,J.keeps b o q⟩,
  λb xs q=>by rw[aF (ne b _ q)];exact q,λb o u q=>by rw[aF (ne b _ q)];exact q,λb ps q=>⟨#[],by rw[aF (ne b _ q),q];simp⟩⟩
 exact I.un (t':=s.toks) un λb u q=>by
  by_cases L:b=e
  .subst L;rw[aE]at q;cases q;exact XO.mk ht
  .rw[aF L]at q;exact(I.hok b u q).stay (λc v _ z=>J.keeps c v z) (λc z=>by rw[aF (ne c _ z)];exact z) λc xs z=>by rw[aF (ne c _ z)];exact z
def Inv.dictX (I:Inv X pins σ H s) {t':Nat} {fs:List (Str×V)} (he:H e=some (XO C e none)) (L:s.heap.get? dx=none) (k:∀ b o,b≠e->s.heap.get? b=some o->h'.get? b=some o) {t:Addr}
 (hx:h'.get? e=some { cls:=.ref C,dict:=some dx,data:=.fields #[.ref t,.none,.none,.none,.bool false,.none] }) (hd:∃ mA,h'.Ns1 dx mA/\∀ f,RelO (fs.lookup f) (mA f)) :
 Inv X pins σ (upd (upd H dx (.xd fs)) e (XO C e (some dx))) { s with heap:=h',toks:=t' }:=by
 have hn:=I.unthere L;have ne:∀ b u,H b=some u->(∀ U,u≠.ext U)->b≠e:=λb u q n z=>by rw[z,he]at q;cases q;exact n _ rfl
 have nd:∀ b u,H b=some u->b≠dx:=λb u q z=>by rw[z,hn]at q;cases q
 have Y:∀ b,H b=none->b≠e:=λb q z=>by rw[z,he]at q;cases q
 have nh:∀ b o,s.heap.get? b=some o->b≠dx:=λb o q z=>by rw[z,L]at q;cases q
 have M:∀ b u,H b=some u->(∀ U,u≠.ext U)->upd (upd H dx (.xd fs)) e (XO C e (some dx)) b=some u:=λb u q n=>by rw[aF (ne b u q n),aF (nd b u q)];exact q
 have un:Un X.fs [] H (upd (upd H dx (.xd fs)) e (XO C e (some dx))) s.heap h':=⟨λb o q n _ _=>k b o (Y b n) q,λb o q n _ _=>⟨o.slots,k b o (Y b n) q⟩,λb o q n _=>by rw[aF (Y b n),aF (nh b o q)];exact n,
  λb o q _=>by
   by_cases J:b=e
   .rw[J];exact⟨_,hx⟩
   .exact⟨o,k b o J q⟩,
  λb xs q=>M b _ q (λ_ z=>by cases z),λb o u q=>M b _ q (λ_ z=>by cases z),λb ps q=>⟨#[],by rw[M b _ q (λ_ z=>by cases z)];simp⟩⟩
 exact I.un (t':=t') un λb u q=>by
  by_cases J:b=e
  .subst J;rw[aE]at q;cases q;exact XO.mk hx
  .rw[aF J]at q
   by_cases hc:b=dx
   .subst hc;rw[aE]at q;cases q;exact hd
   .rw[aF hc]at q;refine(I.hok b u q).stay (λc v aw z=>k c v (λz'=>?_) z) (λc z=>M c _ z λ_ z=>by cases z) λc xs z=>M c _ z λ_ z=>by cases z
    subst z';rcases aw with z1 | z1
    .exact J z1.symm
    .rw[he]at z1;cases z1
end
def sT (K:PySem.W.Frag) (C:Addr) (i:Option Value):Prop:=∀ h:Heap,K.In h->∃ bm N nm q bs hdct sn sub ab col dd k0 k1 k2 k3 k5 mN,h.get? C=some (excClassObj nm q C N bs bm hdct sn sub ab col dd k0 k1 k2 k3 k5 "ValueError.__new__")/\h.Ns N mN/\mN "__init__"=i/\lQ bmV bm
def B7 (K:PySem.W.Frag) (C:Addr) (i:Option Value):Bool:=match K.lookup C with
 | some ⟨.type "type",_,.cls cd,z⟩=>(match cd.mro,z.toList with
  | .ref J :: bm,[_,_,_,_,some (.builtin n),_]=>J == C && n == "ValueError.__new__" && !cd.hasDel && U9 bm == bmV && PySem.W.nsOkIn K cd.ns && PySem.W.nsIn K cd.ns "__init__" == some i
  | _,_=>false)
 | _=>false
def N4 {K:PySem.W.Frag} {h:Heap} {N:Addr} {x:Str} {v:Value} (X:K.In h) (e:PySem.W.nsOkIn K N=true) (q:PySem.W.nsIn K N x=some (some v)):h.nsMap N x=some v:=by
 obtain⟨o,es,ep,J,hd,_,L⟩:=Heap.Ns.of_isNs (PySem.W.isNs_of_in X e);unfold PySem.W.nsIn at q;split at q
 .rename_i c d M U Y z
  have:=X _ _ z;rw[J]at this;cases this;cases hd;split at q
  .rename_i en he
   cases q;rw[<- L];unfold nsFind findBy;rw[<- Array.find?_toList,he];rfl
  .split at q <;> cases q
 .cases q
def k9 {K:PySem.W.Frag} {C:Addr} {i:Option Value} (q:B7 K C i=true):sT K C i:=λh kin=>by
 unfold B7 at q;split at q
 .rename_i dd cd M U
  split at q
  .rename_i C' bm k0 k1 k2 k3 n k5 L hs
   simp only[gf,qy,Bool.not_eq_true']at q;obtain⟨⟨⟨⟨⟨Y,e2⟩,z⟩,ht⟩,hok⟩,J⟩:=q;subst Y e2;obtain⟨nm,bs,aw,ns,qn,hd,sn,sub,ab,col,del⟩:=cd;dsimp only at L z hok J;subst L z;obtain⟨l⟩:=M;dsimp only at hs;subst hs;refine⟨bm,ns,nm,qn,bs,hd,sn,sub,ab,col,dd,k0,k1,k2,k3,k5,_,kin _ _ U,.of_isNs (PySem.W.isNs_of_in kin hok),?_,N1 ht⟩;cases i with
   | none=>exact PySem.W.nsMap_none_of_in kin hok J
   | some v=>exact N4 kin hok J
  .cases q
 .cases q
def B8 {K:PySem.W.Frag} {h:Heap} {f:Addr} (kin:K.In h) (z:PySem.W.isFn K (.ref f)=true):∃ o,h.get? f=some o/\o.cls=.type "function":=by
 unfold PySem.W.isFn at z;have e:=beq_iff_eq.mp z;unfold PySem.W.typeIn at e;cases q:K.lookup f with
 | none=>simp[q]at e
 | some o=>exact⟨o,kin _ _ q,by simpa[q]using e⟩
inductive N5 (K:PySem.W.Frag) (Q:VK) (vs:List V) (H1:Hp):Prop
 | mk (a:_) (C:_) (i:_) (od:_) (rest:_) (h0_:vs=.ref a :: rest) (h1_:rest.length<=sizeLine) (h2_:H1 a=some (XO C a od)) (h3_:sT K C i) (h4_:Q .non H1):N5 K Q vs H1
def aE1 (K:PySem.W.Frag) (t:TA):TE:=fun σ H Q=>t σ H λvs H1=>N5 K Q vs H1
section
variable {X:Cx}
def aGN (K:PySem.W.Frag) (ta tv:TE) (f:Str):TS:=λD σ H=>tv σ H λy H1=>ta σ H1 λx H2=>∃ a C,x=.ref a/\H2 a=some (XO C a none)/\hX K C f /\
 ∀ dx,H2 dx=none->dx≠a->D.nx σ (upd (upd H2 dx (.xd [(f,y)])) a (XO C a (some dx)))
def aE2 {o value:Expr} {f:Str} {ta tv:TE} {pos pos':Pos} (ha:PE X o ta) (hv:PE X value tv) (hs:swapsWith value (some (.Attribute o f pos')) pos.line X.env=pure false):PS X (.Assign [.Attribute o f pos'] value pos) (aGN X.K ta tv f):=by
 intro pins s σ H D I h;refine kh (thn (hv pins s σ H _ I h) λu s1 ⟨y,H1,I1,ry,q⟩=>thn (ha pins s1 σ H1 _ I1 q) λov s2 ⟨x,H2,L,rx,a,C,ex,ea,S,q2⟩=>?_) hs;subst ex;obtain rfl:ov=Value.ref a:=rx;obtain⟨⟨t0,ho⟩,_⟩:=L.hok a _ ea;refine z8 L.kIn S ho λh' dx M J k U Y=>?_;have ne:dx≠a:=λz=>by rw[z,ho]at J;cases J
 refine⟨σ,_,L.dictX (t':=M) (fs:=[(f,y)]) ea J k U ⟨_,Y,λg=>?_⟩,q2 dx (L.unthere J) ne⟩
 by_cases hg:g=f
 .subst hg;rw[sv,eH rfl];exact ry
 .have aw:(g == f)=false:=by simpa using hg
  rw[gq,aw,dt hg];exact True.intro
def l6 (C:Addr) (sp:Sp) (E:XK) (t:TA):TS:=λ_ σ H=>t σ H λvs H1=>vs.length<=sizeLine/\∀ e,H1 e=none ->
 sp (.ref e :: vs) (upd H1 e (XO C e none)) (λv H2=>v=.non/\∃ od,H2 e=some (XO C e od)/\E (.ref C) od (del H2 e)) E0
def z9 {E:XK} {C fI:Addr} {fd:FuncData} {ps:List Str} {sp:Sp} {k:Nat} {x:Str} {e:Expr} {es:List Expr} {t:TA} {np aa pos:Pos} (RX:T3 X E) (hx:X.ex=[]) (U:X.calm=true) (hc:sT X.K C (some (.ref fI)))
 (hf:PySem.W.isFn X.K (.ref fI)=true) (F:FnOk X.prog X.w X.K X.mg X.base CX0 k fI fd ps sp) (hr:Room (k+1) X.A) (hb:Binds X.K fd ps [])
 (hg:Gl X x) (hm:X.mg x=some (.ref C)) (ha:PA X (e :: es) t) (hdb:(x == ("__debug__":Str))=false:=by decide)
 (he:starEach (e :: es) X.env=(false,eval e X.env) :: starEach es X.env:=by rfl) (hpl:(backTo aa (starEach es X.env)).any (·.1)=false:=by rfl):PS X (.Raise (some (.Call (.Name x np) (e :: es) [] aa)) none pos) (l6 C sp E t):=by
 intro pins s σ H D I h;obtain⟨bm,N,nm,q,bs,hdct,sn,sub,ab,col,dd,k0,k1,k2,k3,k5,mN,hC,hN,hi,T⟩:=hc X.base I.mod.kin;obtain⟨oI,az,a_⟩:=B8 I.mod.kin hf;have M:(backTo aa (starEach (e :: es) X.env)).any (·.1)=false:=by
  rw[he];show (false || (backTo aa (starEach es X.env)).any (·.1))=false;rw[hpl];rfl
 refine N3 (C:=C) (nm:=nm) (q:=q) (N:=N) (bs:=bs) (bm:=bm) (hdct:=hdct) (sn:=sn) (sub:=sub) (ab:=ab) (col:=col) (dd:=dd) (k0:=k0) (k1:=k1) (k2:=k2) (k3:=k3) (k5:=k5) (mN:=mN) (fI:=fI) (oI:=oI) jw (T PySem.F.excBase_ValueError.hasBase) (I.ok.hd U) M hi a_ (eL I hg hm ⟨rfl,?_⟩ hdb);have ax:=ha aa pins s σ H _ I h;rw[he]at ax ⊢;refine jb (thn ax λus s2 ⟨vs,H2,I2,r,hz,q2⟩=>?_);refine⟨rfl,by have:=r.length;show us.length<=_;lia,I2.bk _ _ hC,hN.keeps I2.bk,T,I2.bk _ _ az,λh' L Y=>?_⟩;have I3:=Inv.newX (C:=C) I2 Y;have hq:=q2 L (I2.unthere Y.new);have r2:Vals (V.ref L :: (vs++[])) (Value.ref L :: (us++[])):=.cons rfl (r.append .nil);rw[gv,gv]at r2;have hl:((Value.ref L :: us)++[]).length=ps.length:=by
  rw[gv,<- r2.length];exact F.len _ _ _ _ hq
 have ay:=hb { s2 with heap:=h' } (Value.ref L :: us) I3.kIn hl;rw[gv]at ay;refine jx (jp (F.run _ X.stack _ _ ⟨Value.ref L :: us,[]⟩ (Value.ref L :: us) _ _ E0 (hr.make C us []) (I3.env0.make C us []) ay r2 hq) λrr s' J=>?_);cases rr with
 | error ev=>exact J.elim
 | ok fl =>
  cases fl with
  | ret u =>
   obtain⟨v,H',I4,rv,ev,od,ho,q3⟩:=I3.after J;subst ev;obtain⟨⟨t0,aw⟩,_⟩:=I4.hok L _ ho;refine⟨rv,I4.bk _ _ hC,⟨od,t0,aw⟩,RX pins σ (del H' L) s' L _ _ (.ref t0) (I4.forget ho) aw jR (λb o e1 z=>?_) rfl rfl rfl (.one jR aw rfl) q3⟩;obtain⟨o',e2⟩:=I2.base.there b o e1 (by rw[hx];simp);rw[z,Y.new]at e2;cases e2
  | next=>exact False.elim J
  | brk=>exact False.elim J
  | cont=>exact False.elim J
end
section
variable {P:Program} {w:World} {l:List Env} {H:Hp} {s s':Shared} {E:XK} {e:Addr}
structure Fly (P:Program) (w:World) (l:List Env) (H:Hp) (s:Shared) (e:Addr) (cls a0:Value) (od:Option Addr) (H':Hp) (B:Heap) (s':Shared):Prop where
 os:s'.os=s.os
 bare:AllBare s'.gens
 un:Un (frs l) [] H H' s.heap s'.heap
 hok:HOk P w H' s'.heap
 no:H' e=none
 at_:∃ oe,s'.heap.get? e=some oe/\oe.dict=od
 ended:Ended H' s'.heap e
 fl:Heap.FlyingW B l e cls a0 s'.heap
 cov:∀ b u,H' b=some u->∃ o,B.get? b=some o
 olds:∀ b o,s.heap.get? b=some o->b∉frs l->∃ o',B.get? b=some o'
def CXR.fly {L:Value} (h:CXR P w l H s E L s'):∃ e cls a0 od H' B,L=.ref e/\Fly P w l H s e cls a0 od H' B s'/\E cls od H':=by
 obtain⟨e,cls,a0,H',B,oe,rfl,os,bare,un,hok,z,⟨he,J⟩,fl,cov,olds,q⟩:=h;exact⟨e,cls,a0,oe.dict,H',B,rfl,⟨os,bare,un,hok,z,⟨oe,he,rfl⟩,J,fl,cov,olds⟩,q⟩
variable {cls a0:Value} {od:Option Addr} {H':Hp} {B:Heap}
def Fly.frame (f:Fly P w l H s e cls a0 od H' B s') {b:Addr} (L:b∈frs l) {o:Obj} (M:s'.heap.get? b=some o):∀ vs,o.data≠.fields vs:=by
 obtain⟨_,o',z,J⟩:=f.fl.2.2.1.mem L;rw[M]at z;cases z;exact J
def Fly.turn (f:Fly P w l H s e cls a0 od H' B s') {h':Heap} {t':Nat} (fl:Heap.FlyingW B l e cls a0 h') (U:s'.heap.UpToSlots h') (hd:HD s'.heap h'):Fly P w l H s e cls a0 od H' B { s' with heap:=h',toks:=t' }:=by
 have same:∀ b o o',B.get? b=some o->s'.heap.get? b=some o'->h'.get? b=some o':=λb o o' J L=>by
  have:=f.fl.1 b o J;rw[L]at this;cases this;exact fl.1 b _ J
 obtain⟨oe,he,hdct⟩:=f.at_;obtain⟨aw,ax,de,ce⟩:=hd e oe he;refine⟨f.os,f.bare,⟨λb o J n M Y=>?_,λb o J n M Y=>?_,f.un.free,λb o J Y=>?_,f.un.tups,f.un.frzs,f.un.tbls⟩,λb u J=>?_,f.no,⟨aw,ax,de.trans hdct⟩,f.ended.hd hd,fl,f.cov,f.olds⟩
 .obtain⟨o',eB⟩:=f.olds b o J M;exact same b o' o eB (f.un.keep b o J n M Y)
 .obtain⟨sl,L⟩:=f.un.slot b o J n M Y;obtain⟨ay,e3⟩:=U b _ L (f.frame M L);exact⟨ay,e3⟩
 .by_cases M:b∈frs l
  .obtain⟨o',L⟩:=f.un.there b o J Y;obtain⟨sl,e3⟩:=U b o' L (f.frame M L);exact⟨_,e3⟩
  .obtain⟨o',eB⟩:=f.olds b o J M;exact⟨o',fl.1 b o' eB⟩
 .refine(f.hok b u J).stay (λc v hc L=>?_) (λ_ z=>z) λ_ _ z=>z;have tr:∃ o,B.get? c=some o:=by
   rcases hc with z | z
   .rw[z];exact f.cov b u J
   .exact f.cov c _ z
  obtain⟨o,eB⟩:=tr;exact same c o v eB L
def Fly.fresh (f:Fly P w l H s e cls a0 od H' B s') {b:Addr} {o:Obj} (J:s.heap.get? b=some o):b≠e:=λz=>by
 subst z
 by_cases L:b∈frs l
 .obtain⟨o',U⟩:=f.un.there b o J (by simp);obtain⟨oe,vs,he,_,hd,_⟩:=f.fl.first
  exact f.frame L he vs hd
 .obtain⟨o',M⟩:=f.olds b o J L;rw[f.fl.2.1]at M;cases M
end
def XH (e:Addr) (cls:Value) (od:Option Addr):HO:=.ext λh=>∃ o vs,h.get? e=some o/\o.cls=cls/\o.dict=od/\o.data=.fields vs
section
variable {X:Cx} {pins:List (Addr×Obj)} {σ:St} {H:Hp} {s s':Shared} {e:Addr} {cls a0:Value} {od:Option Addr} {H':Hp} {B:Heap}
def Fly.inv (I:Inv X pins σ H s) (f:Fly X.prog X.w X.stack H s e cls a0 od H' B s'):Inv X pins σ H' s':=I.call' f.os f.un f.hok f.bare λb z=>absurd z (by simp)
def Fly.held (I:Inv X pins σ H s) (f:Fly X.prog X.w X.stack H s e cls a0 od H' B s'):Inv X pins σ (upd H' e (XH e cls od)) s':=by
 have ne:∀ b u,H' b=some u->b≠e:=λb u q z=>by rw[z,f.no]at q;cases q
 obtain⟨oe,vs,he,L,hd,_⟩:=f.fl.first
 obtain⟨Y,J,hdct⟩:=f.at_;rw[he]at J;cases J;refine I.call' f.os ⟨f.un.keep,f.un.slot,λb o M n hx=>?_,f.un.there,λb xs q=>?_,λb o u q=>?_,λb ps q=>?_⟩ (λb u q=>?_) f.bare λb z=>absurd z (by simp)
 .rw[aF (f.fresh M)];exact f.un.free b o M n hx
 .have:=f.un.tups b xs q;rw[aF (ne b _ this)];exact this
 .have:=f.un.frzs b o u q;rw[aF (ne b _ this)];exact this
 .obtain⟨more,this⟩:=f.un.tbls b ps q;exact⟨more,by rw[aF (ne b _ this)];exact this⟩
 .by_cases U:b=e
  .subst U;rw[aE]at q;cases q;exact⟨⟨oe,vs,he,L,hdct,hd⟩,⟨_,he⟩,λh1 h2 ⟨o,vs,z,zz⟩ k=>⟨o,vs,k _ z,zz⟩⟩
  .rw[aF U]at q;exact(f.hok b u q).stay (λ_ _ _ z=>z) (λc z=>by rw[aF (ne c _ z)];exact z) λc xs z=>by rw[aF (ne c _ z)];exact z
end
def HD.trans' {a b c:Heap} (x:HD a b) (y:HD b c):HD a c:=HD.trans x y
def Cx.inX (X:Cx) (e:Addr):Cx:={ X with A:=X.A.mark (some (.ref e)),calm:=false,xe:=λ_ _=>False }
section
variable {X:Cx} {pins:List (Addr×Obj)} {σ:St} {H:Hp} {s s':Shared} {e:Addr} {cls a0:Value} {od:Option Addr} {H':Hp} {B:Heap}
def Cx.Ok.inX (o:X.Ok):(X.inX e).Ok:=⟨o.mod,o.kind,o.glob,o.blt,o.above,o.inj,o.has,o.cab,(λz=>by cases z),o.frames,o.stk,o.exf,o.bs,o.bsz,o.noex,o.exfs,o.funs,o.frf⟩
def Inv.inX (I:Inv X pins σ H s):Inv (X.inX e) pins σ H s:=⟨I.ok.inX,I.os,I.bare,I.base,I.loc,I.cell,I.free,I.freeC,I.pin,I.hok,I.len⟩
def Inv.outX (ok:X.Ok) (I:Inv (X.inX e) pins σ H s):Inv X pins σ H s:=⟨ok,I.os,I.bare,I.base,I.loc,I.cell,I.free,I.freeC,I.pin,I.hok,I.len⟩
def aBu (Bd:Body X) (I:Inv X pins σ H s) (f:Fly X.prog X.w X.stack H s e cls a0 od H' B s') {hs:List ExceptHandler} {Q:Flow->Shared->Prop} {E:Value->Shared->Prop}
 (k:∀ J,Fly X.prog X.w X.stack H s e cls a0 od H' B J->wpAny (model X.prog X.w) X.A (handleBy (.ref e) X.env hs) Q E J) :
 wpAny (model X.prog X.w) X.A (noteFrame (.ref e) X.env) (λ_ L=>wpAny (model X.prog X.w) X.A (setFlight (.ref e) none) (λ_ U=>wpAny (model X.prog X.w) X.A (handleBy (.ref e) X.env hs) Q E U) E L) E s':=by
 have Y:X.A.frames=some (X.env :: X.outer):=by rw[I.ok.frames,Bd.stk]
 have aw:Heap.FlyingW B (X.env :: X.outer) e cls a0 s'.heap:=by rw[<- Bd.stk];exact f.fl
 have w1:=wpAny_looks_onW (M:=model X.prog X.w) (A:=X.A) (E:=λ_ _=>False) (s:=s') (Q:=λ_ J=>∃ h',J={ s' with heap:=h' }/\Heap.HeldW B (X.env :: X.outer) e cls a0 X.env.locals h'/\s'.heap.UpToSlots h') Y Bd.fr aw λh' a b=>⟨h',rfl,a,b⟩;refine ew (dS (fL (.ref e) X.env) w1) (λ_ s2 ⟨⟨h4,e4,held,u4⟩,ax⟩=>?_) λ_ _ z=>z.1.elim;subst e4;have w2:=ux (M:=model X.prog X.w) (A:=X.A) (E:=λ_ _=>False) (s:={ s' with heap:=h4 }) (Q:=λ_ J=>∃ h',J={ s' with heap:=h' }/\Heap.FlyingW B (X.env :: X.outer) e cls a0 h'/\h4.UpToSlots h') held λh' a b=>⟨h',rfl,a,b⟩;refine ew (dS (dN (.ref e) none) w2) (λ_ s3 ⟨⟨h5,e5,ay,u5⟩,az⟩=>?_) λ_ _ z=>z.1.elim;subst e5;exact k _ (f.turn (t':=s'.toks) (by rw[Bd.stk];exact ay) (u4.trans u5) (HD.trans' ax az))
def zH (f:Fly X.prog X.w X.stack H s e cls a0 od H' B s') {A:Around} {Q:Unit->Shared->Prop} {E:Value->Shared->Prop} (k:∀ J,Fly X.prog X.w X.stack H s e cls a0 od H' B J->Q () J):wpAny (model X.prog X.w) A (setFlight (.ref e) none) Q E s':=by
 have Y:=lands_againW (M:=model X.prog X.w) (A:=A) (E:=λ_ _=>False) (s:=s') (Q:=λ_ J=>∃ h',J={ s' with heap:=h' }/\Heap.FlyingW B X.stack e cls a0 h'/\s'.heap.UpToSlots h') f.fl λh' a b=>⟨h',rfl,a,b⟩;refine ew (dS (dN (.ref e) none) Y) (λ_ s3 ⟨⟨h5,e5,L,u5⟩,U⟩=>?_) λ_ _ z=>z.1.elim;subst e5;exact k _ (f.turn (t':=s'.toks) L u5 U)
def aBv (I:Inv X pins σ H s) (f:Fly X.prog X.w X.stack H s e cls a0 od H' B s') {A:Around} {x:Str} {c:Value} {b:Bool} {np:Pos} {Q:Bool->Shared->Prop} {E M:Value->Shared->Prop} (U:Gl X x) (Y:X.mg x=some c) (hx:PySem.W.exmOne X.K cls c=some b) (q:Q b s') (hd:(x == ("__debug__":Str))=false:=by decide) :
 wpAny (model X.prog X.w) A (eval (.Name x np) X.env) (λc z=>wpAny (model X.prog X.w) A (excMatches (.ref e) c) Q E z) M s':=by
 have J:=f.inv I;refine jv J.ok.kind U (mw (by rw[J.ok.glob];exact J.mod.glob.keeps J.bk) Y ?_) hd;obtain⟨oe,vs,he,L,_,_⟩:=f.fl.first
 have LT:PySem.W.Looks (model X.prog X.w) s'.heap (typeOf (.ref e)) cls:=L ▸ (rk he).andThen .now;exact(PySem.W.exm_one J.kIn LT hx).here q
end
abbrev HR:=Value->Option Addr->Addr->iX->St->Hp->Prop
def PH (X:Cx) (hs:List ExceptHandler) (r:HR):Prop:=∀ (pins:List (Addr×Obj)) (z:Hp) (J:Shared) (σ:St) (e:Addr) (cls a0:Value) (od:Option Addr) (H':Hp) (B:Heap) (s':Shared) (D:iX),Inv X pins σ z J ->
 Fly X.prog X.w X.stack z J e cls a0 od H' B s'->r cls od e D σ H'->wpAny (model X.prog X.w) X.A (handleBy (.ref e) X.env hs) (SP X pins D) X.xe s'
def aE3 (K:PySem.W.Frag) (c:Value) (i:Nat) (ts:TS) (r:HR):HR:=λcls od e D σ H=>∃ b,PySem.W.exmOne K cls c=some b/\if b=true then
 ts { nx:=λz H2=>D.nx (z.set i none) H2,rt:=D.rt,bk:=λz H2=>D.bk (z.set i none) H2,ct:=λz H2=>D.ct (z.set i none) H2 } (σ.set i (some (.ref e))) (upd H e (XH e cls od))else r cls od e D σ H
def aGO:HR:=λ_ _ _ _ _ _=>False
section
variable {X:Cx} {x:Str} {c:Value} {np pos:Pos} {ar:Stmt} {ap:List Stmt} {rest:List ExceptHandler} {ts:TS} {r:HR}
def aE4:PH X [] aGO:=λ_ _ _ _ _ _ _ _ _ _ _ _ _ _ q=>q.elim
def SP.outX {pins:List (Addr×Obj)} {D:iX} {f:Flow} {s:Shared} {e:Addr} (ok:X.Ok) (h:SP (X.inX e) pins D f s):SP X pins D f s:=by
 cases f with
 | next=>obtain⟨z,H',I,q⟩:=h;exact⟨z,H',I.outX ok,q⟩
 | brk=>obtain⟨z,H',I,q⟩:=h;exact⟨z,H',I.outX ok,q⟩
 | cont=>obtain⟨z,H',I,q⟩:=h;exact⟨z,H',I.outX ok,q⟩
 | ret u=>obtain⟨v,z,H',I,q⟩:=h;exact⟨v,z,H',I.outX ok,q⟩
end
section
variable {X:Cx} {pins:List (Addr×Obj)} {σ:St} {H:Hp} {s:Shared}
def nB {M:Model} {A:Around} {E:Value->Shared->Prop} {i:Nat} {x:Str} {pos:Pos} {Q:Unit->Shared->Prop} (I:Inv X pins σ H s) (hN:X.N.Nodup) (hi:X.N[i]?=some x) (hk:X.env.scope.names.lookup x=some .local)
 (h:∀ s',Inv X pins (σ.set i none) H s'->Q () s'):wpAny M A (do bindName X.env x .none;unbindBehindTheSuite X.env x pos) Q E s:=by
 obtain⟨m,hn,hl⟩:=id I.loc;have L:(X.env.scope.kind == .class || (X.env.scope.kind == .module && X.env.locals != X.env.globals))=false:=by rw[I.ok.kind];rfl
 have U:i<σ.length:=by rw[I.len];exact(aGw.mp hi).1
 have cne:=I.cne;refine wpAny_nameGoes_keeps hk hn L λh' v aw hs=>?_;have tracked:HOk X.prog X.w H h':=λb ob e=>by
  refine(I.hok b ob e).stay (λc w' hc q=>(hs.2 c ?_).trans q) (λ_ q=>q) λ_ _ q=>q;rintro rfl;rcases hc with z | hc
  .rw[<- z,I.free]at e;cases e
  .rw[I.free]at hc;cases hc
 refine h _ ⟨I.ok,I.os,I.bare,⟨λb o e n hb Y=>?_,λb o e n hb Y=>?_,I.base.free,λb o e Y=>?_,I.base.tups,I.base.frzs,I.base.tbls⟩,⟨_,aw,λj y v' J e2 e3=>?_⟩,λy c e=>?_,I.free,I.freeC,λp hp=>?_,tracked,by simpa using I.len⟩
 .exact(hs.2 b (aGi (aGc (aG1 e) I.ok.above))).trans (I.base.keep b o e n hb Y)
 .obtain⟨sl,J⟩:=I.base.slot b o e n hb Y;exact⟨sl,(hs.2 b (aGi (aGc (aG1 e) I.ok.above))).trans J⟩
 .obtain⟨o',J⟩:=I.base.there b o e Y;exact⟨o',(hs.2 b (aGi (aGc (aG1 e) I.ok.above))).trans J⟩
 .by_cases hj:j=i
  .subst hj;rw[ni U]at e2;cases e2
  .rw[jl (gi hj)]at e2;obtain⟨u',r',q⟩:=hl j y v' J e2 e3;refine⟨u',r',?_⟩;rcases q with ⟨k,e⟩ | ⟨k,c,e,z⟩
   .refine .inl ⟨k,?_⟩;have:y≠x:=λe=>hj (uF hN J (e ▸ hi));simp[this,e]
   .exact .inr ⟨k,c,e,z.sameBut hs (cne y c e)⟩
 .obtain⟨w',z⟩:=I.cell y c e;exact⟨w',z.sameBut hs (cne y c e)⟩
 .obtain⟨e,n,ne,nf,d⟩:=I.pin p hp;exact⟨(hs.2 p.1 ne).trans e,n,ne,nf,d⟩
end
section
variable {X:Cx} {x n:Str} {c:Value} {np pos:Pos} {ar:Stmt} {ap:List Stmt} {rest:List ExceptHandler} {ts:TS} {r:HR} {i:Nat}
def aBw (hg:Gl X x) (hm:X.mg x=some c) (hN:X.N.Nodup) (hi:X.N[i]?=some n) (Y:X.env.scope.names.lookup n=some .local) (hs:∀ e,PSs (X.inX e) (ar :: ap) ts) (hr:PH X rest r) (hd:(x == ("__debug__":Str))=false:=by decide) :
 PH X (.ExceptHandler (some (.Name x np)) (some n) (ar :: ap) pos :: rest) (aE3 X.K c i ts r):=λpins H0 s0 σ e cls a0 od H' B s' D I f q=>by
 obtain⟨b,hb,q⟩:=q;refine wpAny_handleBy_cons (sw (aBv I f hg hm hb ?_ hd)) (by intro q;cases q);cases b with
 | false =>
  rw[dt (by decide)]at q;exact hr pins H0 s0 σ e cls a0 od H' B s' D I f q
 | true =>
  rw[eH rfl]at q;refine codeAny_handlers_suite_as (zH f λax aw=>?_);refine qQ (aw.held I) hN hi (.inl Y) (v:=.ref e) (u:=.ref e) rfl (λs3 I3 _=>?_) (.inr Y);refine ew (hs e pins s3 _ _ _ I3.inX q) (λfl s4 z=>?_) λ_ _ z=>z.elim;have z:=z.outX I.ok;cases fl with
  | next=>obtain⟨J,H2,L,M⟩:=z;exact nB L hN hi Y λs5 U=>⟨_,_,U,M⟩
  | brk=>obtain⟨J,H2,L,M⟩:=z;exact nB L hN hi Y λs5 U=>⟨_,_,U,M⟩
  | cont=>obtain⟨J,H2,L,M⟩:=z;exact nB L hN hi Y λs5 U=>⟨_,_,U,M⟩
  | ret u=>obtain⟨v,J,H2,L,rv,M⟩:=z;exact nB L hN hi Y λs5 U=>⟨v,_,_,U,rv,M⟩
end
abbrev SpS:=Shared->List Env->List V->Hp->VK->XK->Prop
structure aF2 (P:Program) (w:World) (K:PySem.W.Frag) (mg:Str->Option Value) (base:Heap) (CX:CXT) (k:Nat) (f:Addr) (fd:FuncData) (ps:List Str) (sp:SpS):Prop where
 len:∀ s o vs H Q E,sp s o vs H Q E->vs.length=ps.length
 run:∀ (A:Around) (outer:List Env) (s:Shared) (H:Hp) (args:Args) (us:List Value) (vs:List V) (Q:VK) (E:XK),Room k A->Env0 P w K mg base A outer s H->BindsTo s fd args (ps.zip us)->Vals vs us->sp s outer vs H Q E ->
  codeAny (model P w) A (.call (.ref f) args) (CR CX outer P w H s Q E) s
def aBx {CX:CXT} {P:Program} {w:World} {K:PySem.W.Frag} {mg:Str->Option Value} {base:Heap} {k:Nat} {f:Addr} {name qual:Str} {params:Arguments} {body:List Stmt} {scope:Scope} {dV kV M pm z ct oc:Value} {an od:Option Addr}
 {aw:Array (Option Value)} {N ps:List Str} {sp:SpS} (lk:K.lookup f=some ⟨oc,od,.func (PySem.W.fnOf name qual params body scope dV kV M pm an z ct),aw⟩) (ax:PySem.W.codeIn K z qual=true) (S:FnScope N ps scope)
 (len:∀ s o vs H Q E,sp s o vs H Q E->vs.length=ps.length)
 (L:∀ (A:Around) (outer:List Env) (s:Shared) (H:Hp) (vs:List V) (Q:VK) (E:XK),A.frames=some outer->Room k (A.deeper (envOfC qual scope s.heap.objs.size f z))->sp s outer vs H Q E ->
  ∃ t,PSs (gE CX P w K mg base N qual scope f z A outer s H E) body t/\t { nx:=λ_ H'=>Q .non H',rt:=Q } (eJ N vs) H) :
 aF2 P w K mg base CX (k+1) f (PySem.W.fnOf name qual params body scope dV kV M pm an z ct) ps sp:=by
 refine⟨len,λA outer s H args us vs Q E hr U hb r Y=>?_⟩;have kp:∀ b o,base.get? b=some o->s.heap.get? b=some o:=λb o e=>(U.bs b o e).1;have KX:K.In s.heap:=U.mod.kin.keeps kp;refine ny hr.depth (KX _ _ lk) rfl S.co S.gen rfl (qa KX ax) (hb _ _ _ _ (ma S.kind (λ⟨n,v⟩ hy=>?_) λenv he s1 x=>?_))
 .exact(S.par n (mx hy).1).imp (λq=>q) λq=>⟨q,lb _ _ _ (.inl q)⟩
 .subst he;obtain⟨t,ht,hq⟩:=L A outer s H vs Q E U.frames (hr.deeper _) Y;have I:Inv (gE CX P w K mg base N qual scope f z A outer s H E) [] (eJ N vs) H s1:=qW S hr.hd U (len _ _ _ _ _ _ Y) r x;refine⟨(U.mod.nolimit.keeps kp).keeps x.toInCall.keep,ut (ew (ht [] s1 (eJ N vs) H _ I hq) (λfl s' hs=>?_) λ_ _ hs=>hs)⟩;cases fl with
  | ret u=>obtain⟨v,ay,H',J,rv,q⟩:=hs;exact⟨v,H',J.os,J.bare,J.base,J.hok,rv,q⟩
  | next=>obtain⟨ay,H',J,q⟩:=hs;exact⟨.non,H',J.os,J.bare,J.base,J.hok,rfl,q⟩
  | brk=>obtain⟨_,_,_,q⟩:=hs;exact q.elim
  | cont=>obtain⟨_,_,_,q⟩:=hs;exact q.elim
def aF3 (D:List (Addr×Obj)) (H:Hp) (h:Heap) (fr:List Addr):Prop:=∀ p∈D,h.get? p.1=some p.2/\H p.1=none/\p.1∉fr
def vW (CX:CXT) (P:Program) (w:World) (K:PySem.W.Frag) (mg:Str->Option Value) (base:Heap) (N:List Str) (qual:Str) (scope:Scope) (f:Addr) (cd:Value) (clos:List (Str×Addr)) (A:Around) (outer:List Env) (s:Shared) (H:Hp) (E:XK):Cx where
 prog:=P
 w:=w
 K:=K
 mg:=mg
 base:=base
 A:=A.deeper (PySem.W.envX qual scope s.heap.objs.size f cd clos)
 N:=N
 s₀:=s
 H₀:=H
 env:=PySem.W.envX qual scope s.heap.objs.size f cd clos
 outer:=outer
 stack:=PySem.W.envX qual scope s.heap.objs.size f cd clos :: outer
 ex:=[]
 calm:=true
 fn:=λ_=>false
 pn:=[]
 xe:=λe s'=>wpAny (model P w) (A.deeper (PySem.W.envX qual scope s.heap.objs.size f cd clos)) (leaving (PySem.W.envX qual scope s.heap.objs.size f cd clos) e) (λ_ s''=>CX outer H s E e s'') (λe' s''=>CX outer H s E e' s'') s'
structure N6 (N:List Str) (scope:Scope) (clos:List (Str×Addr)) (D:List (Addr×Obj)) (σ:St):Prop where
 kind:scope.kind=.function
 co:scope.isCoroutine=false
 gen:scope.isGenerator=false
 nocell:∀ x∈scope.names,x.2≠.cell
 inj:∀ x y c,clos.lookup x=some c->clos.lookup y=some c->x=y
 has:∀ x,scope.names.lookup x=some .free->∃ c,clos.lookup x=some c
 cells:∀ x c,clos.lookup x=some c->∃ o u,(c,o)∈D/\o.data=.cell u
 vals:∀ (i:Nat) (x:Str) (v:V),N[i]?=some x->σ[i]?=some (some v)->scope.names.lookup x=some .free/\∃ c o u,clos.lookup x=some c/\(c,o)∈D/\o.data=.cell (some u)/\RelV v u
 len:σ.length=N.length
def fR {P:Program} {w:World} {K:PySem.W.Frag} {mg:Str->Option Value} {base:Heap} {N:List Str} {qual:Str} {scope:Scope} {f:Addr} {cd:Value} {clos:List (Str×Addr)} {A:Around} {outer:List Env} {s:Shared} {H:Hp} {E:XK} (z:A.frames=some outer) :
 dL (CXR P w) (vW (CXR P w) P w K mg base N qual scope f cd clos A outer s H E) E:=λpins σ H1 J L s' I h =>
 K6 (X:=vW (CXR P w) P w K mg base N qual scope f cd clos A outer s H E) ⟨rfl,rfl,rfl⟩ (ja z) I h
def dI (P:Program) (w:World) (K:PySem.W.Frag) (mg:Str->Option Value) (base:Heap) (x:Str) (k:Nat) (ps:List Str) (sp:Sp):Prop :=
 ∃ f fd,FnOk P w K mg base (CXR P w) k f fd ps sp/\mg x=some (.ref f)/\PySem.W.keepIn K (.ref f)=true/\Binds K fd ps []
section
variable {X:Cx} {x:Str} {j k:Nat} {ps:List Str} {sp:Sp} {t:TA} {e:Expr} {es:List Expr} {p pos:Pos}
def cN {E:XK} (F:dI X.prog X.w X.K X.mg X.base x j ps sp) (z:Room k X.A) (J:Gl X x) (L:dL (CXR X.prog X.w) X E) (M:PA X (e :: es) t) (U:j<=k:=by decide) (hdb:(x == ("__debug__":Str))=false:=by decide)
 (he:starEach (e :: es) X.env=(false,eval e X.env) :: starEach es X.env:=by rfl) (hpl:(backTo pos (starEach es X.env)).any (·.1)=false:=by rfl) :
 PE X (.Call (.Name x p) (e :: es) [] pos) (yI sp [] E t):=by
 obtain⟨f,fd,G,Y,hk,hb⟩:=F;exact Z5 (hdb:=hdb) (he:=he) (hpl:=hpl) G (z.mono U) J Y hk hb .nil L M
end
def Cx.withE (X:Cx) (E:Value->Shared->Prop):Cx:={ X with xe:=E }
def Inv.withE {X:Cx} {pins:List (Addr×Obj)} {σ:St} {H:Hp} {s:Shared} {E:Value->Shared->Prop} (I:Inv X pins σ H s):Inv (X.withE E) pins σ H s :=
 ⟨⟨I.ok.mod,I.ok.kind,I.ok.glob,I.ok.blt,I.ok.above,I.ok.inj,I.ok.has,I.ok.cab,I.ok.hd,I.ok.frames,I.ok.stk,I.ok.exf,I.ok.bs,I.ok.bsz,I.ok.noex,I.ok.exfs,I.ok.funs,I.ok.frf⟩,I.os,I.bare,I.base,I.loc,I.cell,I.free,I.freeC,I.pin,I.hok,I.len⟩
def Inv.noE {X:Cx} {pins:List (Addr×Obj)} {σ:St} {H:Hp} {s:Shared} {E:Value->Shared->Prop} (ok:X.Ok) (I:Inv (X.withE E) pins σ H s):Inv X pins σ H s :=
 ⟨ok,I.os,I.bare,I.base,I.loc,I.cell,I.free,I.freeC,I.pin,I.hok,I.len⟩
def nR (mg:Str->Option Value) (h:Heap):Prop:=∃ bm z,mg "__builtins__"=some (.ref bm)/\bm≠builtinsNs/\h.get? bm=some z/\z.cls=.type "module"/\z.dict=some builtinsNs/\z.data=.plain
def aDN (ix:List Nat) (σ:St):St:=ix.map λi=>(σ[i]?).join
structure aBy (X:Cx) (scope:Scope) (clos:List (Str×Addr)) (NL:List Str) (ix:List Nat):Prop where
 kind:scope.kind=.function
 co:scope.isCoroutine=false
 gen:scope.isGenerator=false
 nocell:∀ x∈scope.names,x.2≠.cell
 cl:closureFor scope X.env=pure clos
 sub:∀ q∈clos,X.env.cells.lookup q.1=some q.2/\X.fn q.1=true
 has:∀ x,scope.names.lookup x=some .free->∃ c,clos.lookup x=some c
 ixs:∀ (j:Nat) (x:Str),NL[j]?=some x->∃ i,ix[j]?=some i/\X.N[i]?=some x/\Vis X.env.scope x/\X.env.kindOf x≠some .local/\scope.names.lookup x=some .free
 len:ix.length=NL.length
section
variable {X:Cx}
def fU {x:Str} {c:Addr} {clos:List (Str×Addr)} (h:clos.lookup x=some c):(x,c)∈clos:=ip h
end
def aAA {Pr:Program} {w:World} {K:PySem.W.Frag} {mg mb:Str->Option Value} {CX:CXT} {k:Nat} {fa a c P:Addr} {fd:FuncData} {x:Str} {sp:Sp} {J:Shared} {vs:List Value} {ns:List Int}
 (KX:K.In J.heap) (ay:J.heap.Ns mainGlobals mg) (hb:J.heap.Ns builtinsNs mb) (bg:∀ x:Str,x≠"__name__"->mb x=bootBuiltins x) (az:J.heap.NoLimit) (hg:J.gens=#[])
 (ha:J.heap.get? a=some { cls:=.type "list",data:=.seq vs.toArray }) (hi:IntsAre vs ns) (hl:ns.length<=sizeLine) (hr:Room k callerA)
 (hC:PySem.W.CodeHd J.heap c P) (hT:J.heap.TableAt c P #[]) (bh:K.lookup P=none) (bi:nR mg J.heap)
 (F:∀ base:Heap,K.In base->base.Ns mainGlobals mg->nR mg base->PySem.W.CodeHd base c P->FnOk Pr w K mg base CX k fa fd [x] sp) (ax:∀ (s:Shared) (u:Value),BindsTo s fd ⟨[u],[]⟩ [(x,u)])
 (bj:∀ H:Hp,H P=some (.tbl #[])->SqL K H a (ns.map V.int)->sp [.ref a] H (λv _=>v=.bl true) λ_ _ _=>False)
 (bn:∀ H e s',CX [] H J (λ_ _ _=>False) e s'->False) :
 codeAny (model Pr w) callerA (.call (.ref fa) ⟨[.ref a],[]⟩) (λr s'=>r=.ok (.ret (.bool true))/\OldK J.heap s'.heap/\s'.os=J.os/\AllBare s'.gens) J:=by
 have rv:=mW hi;have a_:=hi.length;have hP:J.heap.get? P=some (PySem.W.tabObj #[]):=hT.2;have hPa:P≠a:=λz=>by rw[z,ha]at hP;cases hP
 have core:∀ H:Hp,H P=some (.tbl #[])->(∀ b,b≠P->H b=none\/∃ ob xs,H b=some (.frz ob (.lst xs)))->SqL K H a (ns.map V.int)->HOk Pr w H J.heap->(∀ b,H b≠none->b=a\/b=P)->(H a≠none->K.lookup a=none) ->
  codeAny (model Pr w) callerA (.call (.ref fa) ⟨[.ref a],[]⟩) (λr s'=>r=.ok (.ret (.bool true))/\OldK J.heap s'.heap/\s'.os=J.os/\AllBare s'.gens) J:=by
  intro H ba hO hS hok hA hK;have L:∀ {b:Addr} {o:Obj},J.heap.get? b=some o->H b=none->(uE J.heap H).get? b=some o:=λe n=>aA0 e n;have free:∀ {b:Addr},b≠a->b≠P->H b=none:=λ{b} n1 n2=>by
   cases q:H b with
   | none=>rfl
   | some u=>rcases hA b (by rw[q];simp)with z | z <;> contradiction
  have bo:∀ {b:Addr} {o:Obj} {es:Array DictEntry} {ep:Nat},J.heap.get? b=some o->o.data=.dict es ep->H b=none:=λ{b o es ep} e d =>
   free (λz=>by rw[z,ha]at e;cases e;cases d) λz=>by rw[z,hP]at e;cases e;cases d
  have Y:∀ {b:Addr} {m:Str->Option Value},J.heap.Ns b m->(uE J.heap H).Ns b m:=λ{b m} ⟨o,es,ep,e,d,r⟩=>⟨o,es,ep,L e (bo e d),d,r⟩;have bb:K.In (uE J.heap H):=λb o e=>L (KX b o e) (by
   cases q:H b with
   | none=>rfl
   | some u =>
    rcases hA b (by rw[q];simp)with z | z
    .subst z;rw[hK (by rw[q];simp)]at e;cases e
    .subst z;rw[bh]at e;cases e)
  have hM:Mod K mg (uE J.heap H):=⟨bb,Y ay,⟨mb,Y hb,bg⟩,let ⟨mc,h1,h2⟩:=az;⟨mc,Y h1,h2⟩⟩;have e0:Env0 Pr w K mg (uE J.heap H) callerA [] J H:=⟨rfl,hM,λb o e=>aCg e,Nat.le_of_eq (o8 _ _),trivial,λb hb=>absurd (show b∈([]:List Addr) from hb) (by simp),hok,.of_eq hg⟩;have bc:nR mg (uE J.heap H):=by
   obtain⟨bm,ob,b1,b2,b3,b4,b5⟩:=bi;refine⟨bm,ob,b1,b2,L b3 (free (λz=>?_) λz=>?_),b4,b5⟩
   .rw[z,ha]at b3;cases b3;exact absurd (show Value.type "list"=Value.type "module" from b4) (by decide)
   .rw[z,hP]at b3;cases b3;cases b4
  have bq:PySem.W.CodeHd (uE J.heap H) c P:=by
   obtain⟨o,br,file,tf,flags,tg,bt,text,tt,e1,e2,r⟩:=hC;refine⟨o,br,file,tf,flags,tg,bt,text,tt,L e1 (free (λz=>?_) λz=>?_),e2,r⟩
   .rw[z,ha]at e1;cases e1;exact absurd (show Value.type "list"=Value.type "code" from e2) (by decide)
   .rw[z,hP]at e1;cases e1;cases e2
  refine jp ((F _ bb (Y ay) bc bq).run callerA [] J H ⟨[.ref a],[]⟩ [.ref a] [.ref a] _ _ hr e0 (ax J (.ref a)) (.cons rfl .nil) (bj H ba hS)) λr s' h=>?_;cases r with
  | error e=>exact(bn H e s' h).elim
  | ok fl =>
   cases fl with
   | next=>exact False.elim h
   | brk=>exact False.elim h
   | cont=>exact False.elim h
   | ret u =>
    obtain⟨v,H',os,bare,un,aw,r',q⟩:=h;have q':v=.bl true:=q;subst q';obtain rfl:u=Value.bool true:=r';refine⟨rfl,⟨λb o e=>?_,λb o e=>un.there b o e (by simp)⟩,os,bare⟩
    by_cases bf:b=P
    .subst bf;rw[hP]at e;cases e;obtain⟨more,hm⟩:=un.tbls _ _ ba;exact .inr (.inl ⟨hT.isCodeTable,rfl,#[],more,rfl,aw _ _ hm⟩)
    .refine .inl ?_;cases q:H b with
     | none=>exact un.keep b o e q (by intro z;exact absurd (show b∈([]:List Addr) from z) (by simp)) (by simp)
     | some u =>
      rcases hO b bf with z | ⟨ob,xs,z⟩
      .rw[q]at z;cases z
      .have z2:=un.frzs b ob _ z;obtain⟨e1,_⟩:=hok b _ z;obtain⟨e2,_⟩:=aw b _ z2;rw[e]at e1;cases e1;exact e2
 cases hk:K.lookup a with
 | some o =>
  have e:=KX a o hk;rw[ha]at e;cases e;refine core (upd (λ_=>none) P (.tbl #[])) aE (λb n=>.inl (by rw[aF n])) (.inr ⟨_,vs.toArray,_,hk,rfl,rfl,rfl,by rw[aG3,a_];exact hl,by simpa using rv⟩) (λb u z=>?_) (λb z=>?_) λz=>absurd (aF (gi hPa)) z
  .by_cases M:b=P
   .subst M;rw[aE]at z;cases z;exact hP
   .rw[aF M]at z;cases z
  .by_cases M:b=P
   .exact .inr M
   .exact absurd (aF M) z
 | none =>
  refine core (upd (upd (λ_=>none) a (.frz { cls:=.type "list",data:=.seq vs.toArray } (.lst (ns.map V.int)))) P (.tbl #[])) aE (λb n=>?_) (.inl (.inr ⟨{ cls:=.type "list",data:=.seq vs.toArray },by rw[aF (gi hPa),aE]⟩)) (λb u z=>?_) (λb z=>?_) λ_=>hk
  .by_cases M:b=a
   .subst M;exact .inr ⟨_,_,by rw[aF n,aE]⟩
   .exact .inl (by rw[aF n,aF M])
  .by_cases M:b=P
   .subst M;rw[aE]at z;cases z;exact hP
   .rw[aF M]at z
    by_cases U:b=a
    .subst U;rw[aE]at z;cases z;exact⟨ha,by rw[aGV];exact hl,vs,_,rv,ha⟩
    .rw[aF U]at z;cases z
  .by_cases M:b=P
   .exact .inr M
   .by_cases U:b=a
    .exact .inl U
    .exact absurd (by rw[aF M,aF U]) z
def walk_ofT {l:PySem.W.OpenLaw} {n k:Nat} {q:Program} {loose:List Str} {XP:(Str->Option Value)->Heap->Prop} {YP:World->Heap->Prop} {d:DefRec} {K:Params->PySem.W.Frag} {CX:World->CXT} {sp:World->Addr->Sp} {x:Str}
 (hn:l.most=some n) (hn2:n<=sizeLine) (hdf:d.params.defaults=[]) (hr:Room k callerA) {ts:List Addr}
 (hY:∀ (w:World) (h:Heap),YP w h->(K w.params).In h) (hTab:∀ (w:World) (h:Heap),YP w h->∀ P∈ts,h.get? P=some (PySem.W.tabObj #[]))
 (F:∀ (w:World) (mg:Str->Option Value) (fa:Addr) (h:Heap),(K w.params).In h->h.Ns mainGlobals mg->mg d.name=some (.ref fa) ->
  ∃ (fd:FuncData) (c P:Addr),P∈ts/\PySem.W.codeHdIn (K w.params) c P=true/\(K w.params).lookup P=none/\(∀ (s:Shared) (u:Value),BindsTo s fd ⟨[u],[]⟩ [(x,u)]) /\
   ∀ base:Heap,(K w.params).In base->base.Ns mainGlobals mg->nR mg base->PySem.W.CodeHd base c P->FnOk l.prog w (K w.params) mg base (CX w) k fa fd [x] (sp w P))
 (hsp:∀ (w:World) (P:Addr) (H:Hp) (a:Addr) (ns:List Int),ns.length<=n->H P=some (.tbl #[])->SqL (K w.params) H a (ns.map V.int)->sp w P [.ref a] H (λv _=>v=.bl true) λ_ _ _=>False)
 (hCX:∀ (w:World) (H:Hp) (s:Shared) (e:Value) (s':Shared),CX w [] H s (λ_ _ _=>False) e s'->False) :
 PySem.W.WalkO q loose XP YP l.row.toRowW d [] (λf vs=>PySem.call f vs):=by
 refine Att.attach_call hn hdf λw s₀ s₁ mg mb fa o pm cd doc a vs ns G Y ho hd hcd hmg hobj hints hlen hg=>?_;have KX:=hY w _ Y;obtain⟨fd,c,P,hPt,hcode,hKP,hb,hF⟩:=F w mg fa _ KX G.T.g hmg;have hC:=PySem.W.codeHd_of_K KX hcode;have t6:=hC.tab (hTab w _ Y P hPt);exact aAA KX G.T.g G.T.b G.T.builtins G.T.nolimit hg hobj hints (g0 hlen hn2) hr hC t6 hKP G.T.bmain hF hb (λH h1 h2=>hsp w _ H a ns hlen h1 h2) λH e s'=>hCX w H s₁ e s'
section
variable {prog:Program} {w:World} {A:Around} {E:Value->Shared->Prop} {s:Shared} {K:PySem.W.Frag} {x C:Addr} {ox:Obj} {od:Option Obj} {name:Str} {expr:Bool} {Q:Value->Shared->Prop}
def aDO {v:Value} (X:K.In s.heap) (I:PySem.W.InstAt s.heap x ox C od) (hga:PySem.W.findIn K (.ref C) "__getattribute__"=some (some (.builtin "BaseException.__getattribute__"))) (hk:PySem.W.findIn K (.ref C) "__getattr__"=some none)
 (hs:PySem.W.subIn K (.ref C) (.type "BaseException")=some true) (hf:PySem.W.findObj K C od name=some (.value v)) (hh:PySem.W.handedIn v=true) (h:Q v { s with toks:=s.toks+1 }):wpAny (model prog w) A (getAttr (.ref x) name expr) Q E s:=by
 have FB:=pz;have L0:=I.type (M:=model prog w);have L1:=PySem.W.looks_find (M:=model prog w) X I hf;have ht:PySem.W.Looks (model prog w) s.heap (isInstance (.ref x) (.type "BaseException")) true:=L0.andThen (uk X hs);have hook:PySem.W.Looks (model prog w) s.heap (hookBefore (.ref C)) none:=qe X (by rw[eH (show onTheHeap (Value.ref C)=true from rfl)];exact hk);obtain⟨hh',g,d,t,os⟩:=s;refine aGT (wpAny_mkText (fy (aGT (L0.at (aGT ((jm X hga).at ?_))))));dsimp only;rw[show (onTheHeap (Value.ref C) && Value.builtin "BaseException.__getattribute__" == Value.builtin "object.__getattribute__")=false from by rw[show (Value.builtin "BaseException.__getattribute__" == Value.builtin "object.__getattribute__")=false from by decide +kernel,ub],dt (by decide)];refine aGT (hook.at (aGT (uq (fy ?_))));unfold callGetattribute;rw[show (expr && onTheHeap (Value.builtin "BaseException.__getattribute__"))=false from ub _,dt (by decide)];unfold boundAndCalled;rw[FB.ga.bind];refine aGT (aGU ?_);show wpAny _ _ (call (.builtin "BaseException.__getattribute__") [.ref x,.str name t]) _ _ _;refine jx ?_;refine ke FB.ga.plain sx ?_;refine @PySem.W.check_slot (model prog w) _ _ ⟨hh',g,d,t+1,os⟩ "BaseException.__getattribute__" "BaseException" "__getattribute__" (.ref x) [.str name t] [] _ (by decide +kernel) (by decide +kernel) ht (tz (.ref x) (.str name t)) ?_;refine aGT (aGU (aGT (aGU (aGT (L0.at (aGT (L1.at ?_)))))));refine aGU ?_;show wpAny _ _ (handedOut v) _ _ _;rw[ow hh];exact aGU h
end
structure sL (K:PySem.W.Frag) (C:Addr) (f:Str):Prop where
 ga:PySem.W.findIn K (.ref C) "__getattribute__"=some (some (.builtin "BaseException.__getattribute__"))
 hook:PySem.W.findIn K (.ref C) "__getattr__"=some none
 sub:PySem.W.subIn K (.ref C) (.type "BaseException")=some true
 hd:PySem.W.hasDictIn K C=true
 free:PySem.W.findIn K (.ref C) f=some none
section
variable {P:Program} {w:World} {K:PySem.W.Frag} {mg:Str->Option Value} {base:Heap}
def Fun.okX {x qual:Str} {st:Stmt} {f:Addr} {fd:FuncData} {N ps:List Str} {k:Nat} {sp:Sp} (F:Fun K x qual st f fd) (S:FnScope N ps (aG st)) (len:∀ vs H Q E,sp vs H Q E->vs.length=ps.length)
 (J:∀ (z:Value) (A:Around) (outer:List Env) (s:Shared) (H:Hp) (vs:List V) (Q:VK) (E:XK),A.frames=some outer->Room k (A.deeper (envOfC qual (aG st) s.heap.objs.size f z))->sp vs H Q E ->
  ∃ t,PSs (gE (CXR P w) P w K mg base N qual (aG st) f z A outer s H E) (aZ st) t/\t { nx:=λ_ H'=>Q .non H',rt:=Q } (eJ N vs) H):FnOk P w K mg base (CXR P w) (k+1) f fd ps sp:=by
 obtain⟨oc,od,kV,Y,pm,an,z,ct,aw,rfl,lk,L⟩:=F.ex;have G:=aBx (CX:=CXR P w) (P:=P) (w:=w) (mg:=mg) (base:=base) (k:=k) (sp:=λ_ _ vs H Q E=>sp vs H Q E) lk L S (λ_ _ vs H Q E h=>len vs H Q E h) λA outer s H vs Q E M hr U=>J z A outer s H vs Q E M hr U;exact⟨len,G.run⟩
def N7 {CX:CXT} {N:List Str} {qual:Str} {scope:Scope} {f:Addr} {cd:Value} {A:Around} {outer:List Env} {s:Shared} {H:Hp} {E:XK} :
 PassesOwn (model P w) (gE CX P w K mg base N qual scope f cd A outer s H E).A (gE CX P w K mg base N qual scope f cd A outer s H E).env (gE CX P w K mg base N qual scope f cd A outer s H E).xe :=
 PassesOwn.leaving (Q₁:=λe z=>CX outer H s E e z) (E₁:=λe z=>CX outer H s E e z)
end
open Sem (wp)
open Builtin Builtin.ObjectAttr
section
variable {prog:Program} {w:World} {A:Around} {E:Value->Shared->Prop} {h:Heap} {g:Array GenState} {d:Drawn} {t:Nat} {os:OsState} {K:PySem.W.Frag} {C e:Addr} {name:Str} {v:Value} {vs:Array Value}
def V2 {Q:Unit->Shared->Prop} {dx:Addr} {mA:Str->Option Value} {ns:List Str} (X:K.In h) (S:hX K C name) (hx:h.get? e=some { cls:=.ref C,dict:=some dx,data:=.fields vs }) (hn:h.Ns1 dx mA) (ne:e≠dx)
 (hw:Within mA ns) (hsz:ns.length<=1000)
 (hq:∀ h' tk',Heap.SameBut dx h h'->h'.Ns1 dx (λy=>if y=name then some v else mA y)->Q () ⟨h',g,d,tk',os⟩) :
 wpAny (model prog w) A (setAttr (.ref e) name v) Q E ⟨h,g,d,t,os⟩:=by
 obtain⟨⟨cd,bm,hc,hm,href,hob,hdct⟩,hs,hfree⟩:=S;have SF:=qx;obtain⟨oD0,esD0,epD0,hoD0,hdD0,hcD0⟩:=hn.count hw;have I:PySem.W.InstAt h e { cls:=.ref C,dict:=some dx,data:=.fields vs } C (some oD0):=⟨hx,rfl,rfl,hoD0⟩;have hmro:PySem.W.Looks (model prog w) h (mroOf (.ref C)) cd.mro:=(kr X hc).andThen .now;have hsub:PySem.W.Looks (model prog w) h (isInstance (.ref e) (.type "object")) true:=I.type.andThen (uj X (by
  unfold PySem.W.mroIn;rw[hc,Option.bind_some,hm,dt (by simp),gz,hob,lv]))
 refine qp (s:=⟨h,g,d,t,os⟩) X I hs ?_;refine ke SF.slot.plain SF.entry (@PySem.W.check_slot (model prog w) _ _ _ "object.__setattr__" "object" "__setattr__" (.ref e) [.str name t,v] [] _ SF.kind SF.split hsub (SF.args (.ref e) (.str name t) v) ?_);rw[PySem.W.osa_eq,refuse_eq];refine aGT (aGT (I.type.at (aGT (hmro.at ?_))));rw[hm,refuseLoop_ref,href];refine aGU (aGT (I.type.at (aGT ((jm X hfree).at (aGT ?_)))));refine aGU ?_;dsimp only;refine aGT (aGU (aGT (aGT (qf hx (aGT ((kr X hc).at ?_))))));rw[hdct];refine aGU (a:=some dx) (aGT (aGU (aGT ?_)));refine ur hn λh' hn' hs=>?_;obtain⟨oD,esD,epD,hoD,hdD,hcD⟩:=hn'.count (Within.cons name v hw);refine aGT (rf hoD (by rw[hdD];exact rg (g0 hcD (by rw[aGo,ka];lia))) ?_);exact aGU (hq h' _ hs hn')
end
section
variable {X:Cx} {pins:List (Addr×Obj)} {σ:St} {H:Hp} {s:Shared} {h':Heap} {dx:Addr}
def Inv.xdPut (I:Inv X pins σ H s) {t':Nat} {fs fs':List (Str×V)} (M:H dx=some (.xd fs)) (k:∀ b o,b≠dx->s.heap.get? b=some o->h'.get? b=some o) (hd:∃ mA,h'.Ns1 dx mA/\∀ f,RelO (fs'.lookup f) (mA f)) :
 Inv X pins σ (upd H dx (.xd fs')) { s with heap:=h',toks:=t' }:=by
 have ne:∀ b u,H b=some u->(∀ U,u≠.xd U)->b≠dx:=λb u q n z=>by rw[z,M]at q;cases q;exact n _ rfl
 have Y:∀ b,H b=none->b≠dx:=λb q z=>by rw[z,M]at q;cases q
 have L:∀ b u,H b=some u->(∀ U,u≠.xd U)->upd H dx (.xd fs') b=some u:=λb u q n=>by rw[aF (ne b u q n)];exact q
 have th:∃ u,h'.get? dx=some u:=by
  obtain⟨mA,⟨o,es,ep,e,_⟩,_⟩:=hd;exact⟨o,e⟩
 have un:Un X.fs [] H (upd H dx (.xd fs')) s.heap h':=⟨λb o q n _ _=>k b o (Y b n) q,λb o q n _ _=>⟨o.slots,k b o (Y b n) q⟩,λb o q n _=>by rw[aF (Y b n)];exact n,
  λb o q _=>by
   by_cases J:b=dx
   .rw[J];exact th
   .exact⟨o,k b o J q⟩,
  λb xs q=>L b _ q (λ_ z=>by cases z),λb o u q=>L b _ q (λ_ z=>by cases z),λb ps q=>⟨#[],by rw[L b _ q (λ_ z=>by cases z)];simp⟩⟩
 exact I.un (t':=t') un λb u q=>by
  by_cases J:b=dx
  .subst J;rw[aE]at q;cases q;exact hd
  .rw[aF J]at q;refine(I.hok b u q).stay (λc v aw z=>k c v (λz'=>?_) z) (λc z=>L c _ z λ_ z=>by cases z) λc xs z=>L c _ z λ_ z=>by cases z
   subst z';rcases aw with z1 | z1
   .exact J z1.symm
   .rw[M]at z1;cases z1
def aAB {mA:Str->Option Value}:∀ {fs:List (Str×V)},(∀ f,RelO (fs.lookup f) (mA f))->Within mA (fs.map (·.1)):=by
 intro fs r y z;have:=r y;cases q:fs.lookup y with
 | none=>rw[q]at this;exact absurd this.none_of z
 | some v =>
  clear this r z
  induction fs with
  | nil=>cases q
  | cons p r J =>
   obtain⟨a,b⟩:=p;rw[gq]at q
   by_cases h:(y == a)=true
   .rw[qy]at h;subst h;simp
   .rw[Bool.not_eq_true]at h;rw[h]at q;exact aGY _ (J q)
end
section
variable {X:Cx}
def aF4 (K:PySem.W.Frag) (ta tv:TE) (f:Str):TS:=λD σ H=>tv σ H λy H1=>ta σ H1 λx H2=>∃ a C dx fs,x=.ref a/\H2 a=some (XO C a (some dx))/\H2 dx=some (.xd fs)/\fs.length<=1000/\hX K C f /\
 D.nx σ (upd H2 dx (.xd ((f,y) :: fs)))
def pY {o value:Expr} {f:Str} {ta tv:TE} {pos pos':Pos} (ha:PE X o ta) (hv:PE X value tv) (hs:swapsWith value (some (.Attribute o f pos')) pos.line X.env=pure false):PS X (.Assign [.Attribute o f pos'] value pos) (aF4 X.K ta tv f):=by
 intro pins s σ H D I h;refine kh (thn (hv pins s σ H _ I h) λu s1 ⟨y,H1,I1,ry,q⟩=>thn (ha pins s1 σ H1 _ I1 q) λov s2 ⟨x,H2,M,rx,a,C,dx,fs,ex,U,Y,hl,S,q2⟩=>?_) hs;subst ex;obtain rfl:ov=Value.ref a:=rx;obtain⟨⟨t0,ho⟩,_⟩:=M.hok a _ U;obtain⟨mA,aw,J⟩:=M.hok dx _ Y;have ne:a≠dx:=λz=>by rw[z,Y]at U;cases U
 refine V2 M.kIn S ho aw ne (aAB J) (by rw[aGV];exact hl) λh' ax sb L=>?_;refine⟨σ,_,M.xdPut (t':=ax) (fs':=(f,y) :: fs) Y (λb o n z=>(sb.2 b n).trans z) ⟨_,L,λg=>?_⟩,q2⟩
 by_cases hg:g=f
 .subst hg;rw[sv,eH rfl];exact ry
 .have ay:(g == f)=false:=by simpa using hg
  rw[gq,ay,dt hg];exact J g
structure N8 (K:PySem.W.Frag) (D fB:Addr):Prop where
 ga:PySem.W.specialIn K (.ref D) "__getattribute__"=some (some (.builtin "type.__getattribute__"))
 reads:PySem.W.readsIn K D (.type "type")=true
 find:PySem.W.findCls K (.ref D) (.type "type") "__init__"=some (.val (.ref fB))
 keep:PySem.W.keepIn K (.ref fB)=true
def cG {CX:CXT} {k:Nat} {D fB:Addr} {fd:FuncData} {ps:List Str} {sp:Sp} {E:XK} {x:Str} {e:Expr} {es:List Expr} {t:TA} {np apos pos:Pos} {pl:Sem Bool} (B:N8 X.K D fB) (F:FnOk X.prog X.w X.K X.mg X.base CX k fB fd ps sp) (L:Room k X.A) (M:Binds X.K fd ps []) (U:dL CX X E)
 (Y:Gl X x) (hm:X.mg x=some (.ref D)) (ha:PA X (e :: es) t) (hdb:(x == ("__debug__":Str))=false:=by decide)
 (hst:starEach (e :: es) X.env=(false,eval e X.env) :: starEach es X.env:=by rfl) (hpl:(backTo pos (starEach es X.env)).any (·.1)=false:=by rfl)
 (ht:eval (.Call (.Attribute (.Name x np) "__init__" apos) (e :: es) [] pos) X.env=(do
  let z <- eval (.Name x np) X.env
  standAt apos.atName
  let (f,first) <- holding [z] (getMethod z "__init__" pl)
  callWith pos f first (backTo pos (starEach (e :: es) X.env)) (backToKw pos (keywordEach [] X.env))):=by rfl) :
 PE X (.Call (.Attribute (.Name x np) "__init__" apos) (e :: es) [] pos) (yI sp [] E t):=by
 intro pins s σ H Q I h;refine jz (pl:=pl) (eL I Y hm ?_ hdb) ht;refine PySem.W.method_cls I.kIn B.ga (PySem.W.cls_value I.kIn B.reads B.find rfl ?_);refine iz (h₀:=X.base) I.ok.mod.kin B.keep (thn (ha pos pins { s with toks:=s.toks+1 } σ H _ (I.tok _) h) λus s1 ⟨vs,H1,J,r,q⟩=>⟨J.kIn,?_⟩) hst hpl;exact uO F L M .nil U J r q
def aDP (K:PySem.W.Frag):PySem.W.findCls K (.type "ValueError") (.type "type") "__init__"=some (.val (.builtin "ValueError.__init__")):=by kernel_rfl
def B9 {prog:Program} {w:World} {A:Around} {E:Value->Shared->Prop} {s:Shared} {K:PySem.W.Frag} {name:Str} {v:Value} {T:String} {pl:Sem Bool} {Q:Value×List Value->Shared->Prop} (X:K.In s.heap) (ht:typeOf (.type T)=pure (.type "type")) (hs:Manifest.isStub T=false)
 (e:PySem.W.findCls K (.type T) (.type "type") name=some (.val v)) (U:PySem.W.handedIn v=true) (h:Q (v,[]) { s with toks:=s.toks+1 }):wpAny (model prog w) A (getMethod (.type T) name pl) Q E s:=by
 have J:opaqueClassAbove (.type T)=pure none:=by unfold opaqueClassAbove;dsimp only;rw[hs];rfl
 have L:PySem.W.Looks (model prog w) s.heap (typeOf (.type T)) (.type "type"):=sy ht;have M:PySem.W.findIn K (.type "type") "__getattribute__"=some (some (.builtin "type.__getattribute__")):=PySem.W.type_tga;unfold getMethod specialOf;refine aGT (aGT (L.here ((jm X M).here ?_)));dsimp only;rw[eH PySem.W.canon_tga];refine aGT (ew (Q:=λv=>Q (v,[])) (E:=E) ?_ (λ_ _ z=>aGU z) λ_ _ z=>z);have Y:PySem.W.Looks (model prog w) s.heap (opaqueClassAbove (.type T)) none:=sy J;refine PySem.W.cls_open X Y L M (qe X (r:=none) (by rfl)) (by show PySem.W.subIn K _ _=_;rfl) e
  (aGU (by show wpAny _ _ (handedOut v) _ _ _;rw[ow U];exact aGU h))
def aBz {e:Expr} {es:List Expr} {t:TA} {np apos pos:Pos} {pl:Sem Bool} (hg:Gl X "ValueError") (hm:X.mg "ValueError"=none) (ha:PA X (e :: es) t)
 (hst:starEach (e :: es) X.env=(false,eval e X.env) :: starEach es X.env:=by rfl) (hpl:(backTo pos (starEach es X.env)).any (·.1)=false:=by rfl)
 (ht:eval (.Call (.Attribute (.Name "ValueError" np) "__init__" apos) (e :: es) [] pos) X.env=(do
  let U <- eval (.Name "ValueError" np) X.env
  standAt apos.atName
  let (f,first) <- holding [U] (getMethod U "__init__" pl)
  callWith pos f first (backTo pos (starEach (e :: es) X.env)) (backToKw pos (keywordEach [] X.env))):=by rfl) :
 PE X (.Call (.Attribute (.Name "ValueError" np) "__init__" apos) (e :: es) [] pos) (aE1 X.K t):=by
 intro pins s σ H Q I h;refine jz (pl:=pl) (jX I hg hm (u:=.type "ValueError") (by kernel_rfl) ?_) ht;refine B9 I.kIn (by kernel_rfl) (by decide +kernel) (aDP X.K) (by decide +kernel) ?_;have z:(backTo pos (starEach (e :: es) X.env)).any (·.1)=false:=by
  rw[hst];show (false || (backTo pos (starEach es X.env)).any (·.1))=false;rw[hpl];rfl
 refine io z ?_;have sp:=ha pos pins { s with toks:=s.toks+1 } σ H _ (I.tok _) h;rw[hst]at sp ⊢;refine jb (thn sp λus Y ⟨vs,H2,L,r,a,C,i,od,rest,ev,hz,hx,hC,q⟩=>?_);subst ev;cases r with
 | cons r0 rr =>
  rename_i u us _
  obtain rfl:u=Value.ref a:=r0;obtain⟨bm,N,nm,qn,bs,hdct,sn,sub,ab,col,dd,k0,k1,k2,k3,k5,mN,M,hN,aw,T⟩:=hC Y.heap L.kIn;obtain⟨⟨t0,ho⟩,_⟩:=L.hok a _ hx;refine V1 (hrest:=by have:=rr.length;show us.length<=_;lia) jw T M ho λh' t1 k J=>?_;refine⟨.non,H2,?_,rfl,q⟩;have:=L.write (x:=a) (e:=a) (o:=XO C a od) (t':=Y.toks) (by rw[hx];exact True.intro) (.inl rfl) k ⟨_,J⟩ (XO.mk J)
  rwa [show upd H2 a (XO C a od)=H2 from by funext b;unfold upd;split <;> simp_all]at this
end
structure FunD (K:PySem.W.Frag) (x qual:Str) (st:Stmt) (f:Addr) (fd:FuncData):Prop where
 ex:∃ (oc:Value) (od:Option Addr) (dV kV doc pm:Value) (an:Option Addr) (cdv ct:Value) (osl:Array (Option Value)),
  fd=PySem.W.fnOf x qual (bM st) (aZ st) (aG st) dV kV doc pm an cdv ct/\K.lookup f=some ⟨oc,od,.func fd,osl⟩/\PySem.W.codeIn K cdv qual=true
 kp:PySem.W.keepIn K (.ref f)=true
section
variable {P:Program} {w:World} {K:PySem.W.Frag} {mg:Str->Option Value} {base:Heap}
def FunD.ok {x qual:Str} {st:Stmt} {f:Addr} {fd:FuncData} {N ps:List Str} {k:Nat} {sp:Sp} (F:FunD K x qual st f fd) (S:FnScope N ps (aG st)) (len:∀ vs H Q E,sp vs H Q E->vs.length=ps.length)
 (J:∀ (z:Value) (A:Around) (outer:List Env) (s:Shared) (H:Hp) (vs:List V) (Q:VK) (E:XK),Room k (A.deeper (envOfC qual (aG st) s.heap.objs.size f z))->sp vs H Q E ->
  ∃ t,PSs (gE CX0 P w K mg base N qual (aG st) f z A outer s H E).nox (aZ st) t/\t { nx:=λ_ H'=>Q .non H',rt:=Q } (eJ N vs) H):FnOk P w K mg base CX0 (k+1) f fd ps sp:=by
 obtain⟨oc,od,dV,kV,U,pm,an,z,ct,Y,rfl,lk,L⟩:=F.ex;refine aDf lk L S len λA outer s H vs Q E hr M=>?_;obtain⟨t,h,q⟩:=J z A outer s H vs Q E hr M;exact⟨t,h.nox,q⟩
def l7 {x qual:Str} {st:Stmt} {f:Addr} {Y:Value} {od M:Option Addr} {L:Array (Option Value)} {U kV J pm z ct:Value} (l:K.lookup f=some ⟨Y,od,.func (PySem.W.fnOf x qual (bM st) (aZ st) (aG st) U kV J pm M z ct),L⟩)
 (c:PySem.W.codeIn K z qual=true) (k:PySem.W.keepIn K (.ref f)=true):FunD K x qual st f (PySem.W.fnOf x qual (bM st) (aZ st) (aG st) U kV J pm M z ct):=⟨⟨Y,od,U,kV,J,pm,M,z,ct,L,rfl,l,c⟩,k⟩
end
end L2
namespace L2
open PySem PySem.Spec PyProof.Rows
open PySem.W PySem.Calls
section
variable {K:PySem.W.Frag} {x t c:Value}
def aCA {prog:Program} {w:World} {A:Around} {E:Value->Shared->Prop} {s:Shared} {Q:Value->Shared->Prop} (X:K.In s.heap) (LT:∀ M,PySem.W.Looks M s.heap (typeOf x) t) (e:PySem.W.kitOne K t c=some true) (hx:x≠.builtin "__main__.__loader__#opaque") (h:∀ tk,Q (.bool true) { s with toks:=tk }) :
 wpAny (model prog w) A (call (.builtin "isinstance") [x,c]) Q E s:=by
 refine call_isinstance (S:=λ_ R s=>(K.In s.heap/\∀ M,PySem.W.Looks M s.heap (typeOf x) t)/\∀ tk,R (.ok (.ret (.bool true))) { s with toks:=tk })
  (λprog w A R s hs=>isinstance_outer ?_ hx) ⟨⟨X,LT⟩,h⟩
 obtain⟨h0,g,d,tt,os⟩:=s;obtain⟨⟨X,LT⟩,hq⟩:=hs;have LT:=LT (model prog w);unfold PySem.W.kitOne at e;unfold Builtin.«isinstance.nested»;refine aGT (LT.at ?_)
 by_cases q:(t == c)=true
 .rw[eH q]
  first
   | exact aGT (ph (hq tt))
   | exact aGT (ph (aGU (hq tt)))
   | exact aGT (ph (aGT (aGU (aGU (hq tt)))))
 .rw[dt q]at e;rw[dt q];obtain⟨hty,his,hsub⟩:=PySem.W.kit_cls (M:=model prog w) X e;have LI:PySem.W.Looks (model prog w) h0 (isInstance x c) true:=LT.andThen hsub;refine aGT (hty.at ?_);rw[eH (by decide)]
  k_delta "plainIsInstance"
  refine aGT (aGT (his.at ?_));simp only[Bool.not_true,ir,mi];refine aGT (LI.at ?_)
  first
   | exact aGU (aGU (hq tt))
   | (simp only[qh];first | exact aGU (aGU (hq tt)) | exact aGU (hq tt) | exact aGT (aGU (aGU (hq tt))))
end
section
variable {X:Cx}
inductive C0 (K:PySem.W.Frag) (xs:List V) (H:Hp) (Q:VK):Prop
 | mk (e:_) (cls:_) (od:_) (T:_) (h0_:xs=[.ref e,.ty T]) (h1_:H e=some (XH e cls od)) (h2_:PySem.W.kitOne K cls (.type T)=some true) (h3_:Q (.bl true) H):C0 K xs H Q
def aAC:eK X (.builtin "isinstance") (C0 X.K):=by
 intro pins s σ H xs us Q I r h;obtain⟨e,cls,od,T,rfl,he,k,q⟩:=h;obtain⟨u,v,rfl,r1,r2⟩:=r.two;cases r2;obtain rfl:u=Value.ref e:=r1;obtain⟨⟨o,vs,U,J,hdct,L⟩,_⟩:=I.hok e _ he;refine aCA I.kIn (t:=cls) (λM=>?_) k (λz=>nomatch z) λtk=>⟨.bl true,H,I.tok tk,rfl,q⟩;subst J;exact(rk U).andThen .now
def V3 (K:PySem.W.Frag) (z:X.K=K):eK X (.builtin "isinstance") (C0 K):=by
 subst z;exact aAC
abbrev TC2:=St->Hp->(St->Hp->Prop)->XK->Prop
def aCB (X:Cx) (st:Stmt) (t:TC2):Prop:=∀ (pins:List (Addr×Obj)) (s:Shared) (σ:St) (H:Hp) (Q:St->Hp->Prop) (E:XK),Inv X pins σ H s->t σ H Q E ->
 wpAny (model X.prog X.w) X.A (exec st X.env) (λf J=>f=.next/\∃ z H',Inv X pins z H' J/\Q z H') (λU J=>∃ L M,Inv X pins σ L M/\CXR X.prog X.w X.stack L M E U J) s
def aF5 (t:TC2) (r:HR):TS:=λD σ H=>t σ H (λz H'=>D.nx z H') λcls od H'=>∀ e,H' e=none->r cls od e D σ H'
def l9 {st:Stmt} {h:ExceptHandler} {hs:List ExceptHandler} {t:TC2} {r:HR} {pos:Pos} (Bd:Body X) (hc:aCB X st t) (hh:PH X (h :: hs) r):PS X (.Try [st] (h :: hs) [] [] pos) (aF5 t r):=by
 intro pins s σ H D I q;refine wpAny_Try_except (mh (ew (hc pins s σ H _ _ I q) (λf s1 z=>?_) λev s1 z=>?_))
 .obtain⟨rfl,J,H',I',L⟩:=z;exact lm (lm ⟨J,H',I',L⟩)
 .obtain⟨H0,s0,Y,z⟩:=z;obtain⟨e,cls,a0,od,H',B,rfl,f,L⟩:=z.fly;exact aBu Bd Y f λM U=>hh pins H0 s0 σ e cls a0 od H' B M D Y U (L e f.no)
end
end L2
def CW.fm0 {z:Type} {p:z->Prop}:∀ q∈([]:List z),p q:=λ_ h=>nomatch h
def CW.fm1 {z:Type} {p:z->Prop} {a:z} {l:List z} (h:p a) (t:∀ q∈l,p q):∀ q∈a :: l,p q:=List.forall_mem_cons.mpr ⟨h,t⟩
def CW.has_of {names:List (PySem.Str×PySem.NameKind)} {clos:List (PySem.Str×PySem.Addr)} (h:∀ q∈names,q.2=.free->(clos.lookup q.1).isSome=true):∀ x,names.lookup x=some .free->∃ c,clos.lookup x=some c:=λx e=>Option.isSome_iff_exists.mp (h (x,.free) (ip e) rfl)
def CW.ix_nil {p:Nat->PySem.Str->Prop}:∀ (j:Nat) (x:PySem.Str),([]:List PySem.Str)[j]?=some x->p j x:=λ_ _ h=>nomatch h
def CW.ix_cons {a:PySem.Str} {l:List PySem.Str} {p:Nat->PySem.Str->Prop} (h:p 0 a) (t:∀ (j:Nat) (x:PySem.Str),l[j]?=some x->p (j+1) x):∀ (j:Nat) (x:PySem.Str),(a :: l)[j]?=some x->p j x
 | 0,_,e=>by cases e;exact h
 | j+1,x,e=>t j x e
namespace CW
open PySem L2
section
variable {P:Program} {w:World} {K:PySem.W.Frag} {mg:Str->Option Value} {base:Heap}
def vX (i:Int):Prop:=i.natAbs.log2<1920/\(toString i:Str).length<=1000
def vY {i:Int} (h0:0<=i) (h1:i<256):vX i:=by
 have:∀ n:Nat,n<256->((n:Int).natAbs.log2<1920/\(toString (n:Int):Str).length<=1000):=by decide +kernel
 have:=this i.toNat (by lia)
 rwa [show ((i.toNat:Nat):Int)=i from by lia]at this
def aE5 (K:PySem.W.Frag):Sp:=λvs H Q E=>∃ e C i a b,vs=[.ref e,.str a,.str b]/\H e=some (XO C e none)/\sT K C i/\hX K C "word" /\
 ∀ dx,H dx=none->dx≠e->Q .non (upd (upd H dx (.xd [("word",.str b)])) e (XO C e (some dx)))
def aF6 (nm:Str) (C:Addr):Sp:=λvs H Q E=>∃ e a,vs=[.ref e,.str a]/\H e=some (XO C e none) /\
 ∀ dx,H dx=none->dx≠e->Q .non (upd (upd H dx (.xd [("word",.str nm)])) e (XO C e (some dx)))
def V4 (nm:Str) (C:Addr):Sp:=λvs H Q E=>∃ e i,vs=[.ref e,.int i]/\vX i/\H e=some (XO C e none) /\
 ∀ dx,H dx=none->dx≠e->Q .non (upd (upd H dx (.xd [("at",.int i),("word",.str nm)])) e (XO C e (some dx)))
def jS {H:Hp} {e dx:Addr} {o z J:HO} (n:dx≠e):upd (upd (upd H dx o) e z) dx J=upd (upd H dx J) e z:=by
 funext b
 unfold upd
 by_cases h1:b=dx
 .subst h1;rw[eH rfl,dt n,eH rfl]
 .rw[dt h1]
  by_cases h2:b=e
  .rw[eH h2,eH h2]
  .rw[dt h2,dt h2,dt h1,dt h1]
def m3 {H:Hp} {e dx:Addr} {o o' z:HO} (he:H e=none) (n:dx≠e):del (upd (upd (upd H e o) dx o') e z) e=upd H dx o':=by
 funext b
 unfold del upd
 by_cases h1:b=e
 .subst h1;rw[eH rfl,dt (gi n),he]
 .rw[dt h1,dt h1]
  by_cases h2:b=dx
  .rw[eH h2,eH h2]
  .rw[dt h2,dt h2,dt h1]
def Rf (E:XK) (C:Addr) (fs:List (Str×V)) (H:Hp):Prop:=∀ dx,H dx=none->E (.ref C) (some dx) (upd H dx (.xd fs))
def Rf0 (E:XK) (C:Addr) (nm:Str) (H:Hp):Prop:=Rf E C [("word",.str nm)] H
def RfI (E:XK) (C:Addr) (nm:Str) (i:Int) (H:Hp):Prop:=Rf E C [("at",.int i),("word",.str nm)] H
def rd0 {E:XK} {C:Addr} {nm a:Str} {H:Hp} (k:Rf0 E C nm H):[V.str a].length<=sizeLine/\∀ e,H e=none->aF6 nm C (.ref e :: [V.str a]) (upd H e (XO C e none)) (λv H2=>v=.non/\∃ od,H2 e=some (XO C e od)/\E (.ref C) od (del H2 e)) E0 :=
 ⟨by show 1<=sizeLine;decide,λe he=>⟨e,a,rfl,aE,λdx h1 h2=>⟨rfl,some dx,aE,by
  rw[aF h2]at h1;rw[m3 he h2];exact k dx h1⟩⟩⟩
def rdI {E:XK} {C:Addr} {nm:Str} {i:Int} {H:Hp} (hi:vX i) (k:RfI E C nm i H):[V.int i].length<=sizeLine/\∀ e,H e=none->V4 nm C (.ref e :: [V.int i]) (upd H e (XO C e none)) (λv H2=>v=.non/\∃ od,H2 e=some (XO C e od)/\E (.ref C) od (del H2 e)) E0 :=
 ⟨by show 1<=sizeLine;decide,λe he=>⟨e,i,rfl,hi,aE,λdx h1 h2=>⟨rfl,some dx,aE,by
  rw[aF h2]at h1;rw[m3 he h2];exact k dx h1⟩⟩⟩
structure RaisesAs (P:Program) (w:World) (K:PySem.W.Frag) (mg:Str->Option Value) (base:Heap) (x:Str) (C:Addr) (ps:List Str) (sp:Sp):Prop where
 m:mg x=some (.ref C)
 i:∃ fI fd,sT K C (some (.ref fI))/\PySem.W.isFn K (.ref fI)=true/\FnOk P w K mg base CX0 2 fI fd ps sp/\Binds K fd ps []
def bI {X:Cx} {E:XK} {C:Addr} {ps:List Str} {sp:Sp} {k:Nat} {x:Str} {e:Expr} {es:List Expr} {t:TA} {np aa pos:Pos} (J:T3 X E) (R:RaisesAs X.prog X.w X.K X.mg X.base x C ps sp) (L:X.ex=[]) (z:X.calm=true)
 (M:Room k X.A) (U:Gl X x) (Y:PA X (e :: es) t) (hk:3<=k:=by decide) (hdb:(x == ("__debug__":Str))=false:=by decide)
 (he:starEach (e :: es) X.env=(false,eval e X.env) :: starEach es X.env:=by rfl) (hpl:(backTo aa (starEach es X.env)).any (·.1)=false:=by rfl):PS X (.Raise (some (.Call (.Name x np) (e :: es) [] aa)) none pos) (l6 C sp E t):=by
 obtain⟨m,fI,fd,h1,h2,h3,h4⟩:=R;exact z9 (hdb:=hdb) (he:=he) (hpl:=hpl) J L z h1 h2 h3 (M.mono hk) h4 U m Y
def aCC (K:PySem.W.Frag) (C D:Addr) (name:Str):Bool:=(match PySem.W.clsIn K C with
 | some cd=>cd.mro == .ref C :: .ref D :: bmV && cd.hasDict
 | none=>false) && PySem.W.findIn K (.ref C) "__setattr__" == some (some (.builtin "object.__setattr__")) && PySem.W.findIn K (.ref C) name == some none
def N9 (D:Addr) (self:Value):PySem.refuseLoop self "__setattr__" (.ref D :: bmV)=pure ():=by
 rw[PySem.refuseLoop_ref];rfl
def aCD {C D:Addr} {name:Str} (h:aCC K C D name=true):hX K C name:=by
 simp only[aCC,gf,qy]at h;obtain⟨⟨h1,h2⟩,h3⟩:=h;split at h1
 .rename_i cd z
  rw[gf,qy]at h1;exact⟨⟨cd,.ref D :: bmV,z,h1.1,N9 D,by rw[gz];rfl,h1.2⟩,h2,h3⟩
 .cases h1
def aE6 (K:PySem.W.Frag) (C:Addr) (f:Str):Bool:=PySem.W.findIn K (.ref C) "__getattribute__" == some (some (.builtin "BaseException.__getattribute__")) && PySem.W.findIn K (.ref C) "__getattr__" == some none &&
 PySem.W.subIn K (.ref C) (.type "BaseException") == some true && PySem.W.hasDictIn K C && PySem.W.findIn K (.ref C) f == some none
def aF7 {C:Addr} {f:Str} (h:aE6 K C f=true):sL K C f:=by
 simp only[aE6,gf,qy]at h;exact⟨h.1.1.1.1,h.1.1.1.2,h.1.1.2,h.1.2,h.2⟩
def aDQ (row:List Int):Prop:=∀ j,1<=j->j<row.length->row.getD (j - 1) 0<row.getD j 0
def lR (row:List Int) (i:Nat):Prop:=1<=i/\i<row.length/\row.getD i 0<=row.getD (i - 1) 0/\∀ j,1<=j->j<i->row.getD (j - 1) 0<row.getD j 0
inductive WhyRow (row:List Int):Str->Int->Prop where
 | many:60<row.length->WhyRow row "TooMany" 0
 | good:row.length<=60->aDQ row->WhyRow row "" 0
 | bad {i:Nat}:row.length<=60->lR row i->WhyRow row "BadRow" i
def m4 (row:List Int):∀ n,(∀ j,1<=j->j<n->j<row.length->row.getD (j - 1) 0<row.getD j 0)\/∃ i,lR row i
 | 0=>.inl λj h1 h2=>by lia
 | n+1=>by
  rcases m4 row n with h | h
  .by_cases z:1<=n/\n<row.length
   .by_cases L:row.getD n 0<=row.getD (n - 1) 0
    .exact .inr ⟨n,z.1,z.2,L,λj h1 h2=>h j h1 h2 (by lia)⟩
    .refine .inl λj h1 h2 h3=>?_
     by_cases J:j<n
     .exact h j h1 J h3
     .obtain rfl:j=n:=by lia
      lia
   .refine .inl λj h1 h2 h3=>?_
    by_cases J:j<n
    .exact h j h1 J h3
    .exact absurd ⟨by lia,by lia⟩ z
  .exact .inr h
def pZ {row:List Int} {i:Nat} (b:lR row i) (g:aDQ row):False:=by
 have:=g i b.1 b.2.1;have:=b.2.2.1
 lia
def vZ {row:List Int} {i j:Nat} (a:lR row i) (b:lR row j):i=j:=by
 rcases Nat.lt_trichotomy i j with h | h | h
 .have:=b.2.2.2 i a.1 h;have:=a.2.2.1;lia
 .exact h
 .have:=a.2.2.2 j b.1 h;have:=b.2.2.1;lia
def WhyRow.row_of {row:List Int} {nm:Str} {i:Int} (W:WhyRow row nm i) (h:nm=""):row.length<=60/\aDQ row:=by
 cases W with
 | many _=>exact absurd h (by decide)
 | good a b=>exact⟨a,b⟩
 | bad _ _=>exact absurd h (by decide)
structure FunC (K:PySem.W.Frag) (x qual:Str) (st:Stmt) (f:Addr) (fd:FuncData) (c:Addr):Prop where
 ex:∃ (oc:Value) (od:Option Addr) (kV doc pm:Value) (an:Option Addr) (ct:Value) (osl:Array (Option Value)),
  fd=PySem.W.fnOf x qual (bM st) (aZ st) (aG st) .none kV doc pm an (.ref c) ct/\K.lookup f=some ⟨oc,od,.func fd,osl⟩/\PySem.W.codeIn K (.ref c) qual=true
def C1 (K:PySem.W.Frag) (P:Addr):Sp:=λvs H Q _=>∃ (a:Addr) (ns:List Int),vs=[.ref a]/\H P=some (.tbl #[])/\SqL K H a (ns.map V.int)/\ns.length<=63/\∀ H',Q (.bl true) H'
end
end CW
namespace L2
open PySem PySem.Spec PyProof.Rows
section
variable {X:Cx}
def XW (X:Cx) (pins:List (Addr×Obj)) (σ:St) (E:XK) (L:Value) (M:Shared):Prop:=∃ z J,Inv X pins σ z J/\CXR X.prog X.w X.stack z J E L M
abbrev TEX:=St->Hp->VK->XK->Prop
def PEX (X:Cx) (e:Expr) (t:TEX):Prop:=∀ (pins:List (Addr×Obj)) (s:Shared) (σ:St) (H:Hp) (Q:VK) (E:XK),Inv X pins σ H s->t σ H Q E ->
 wpAny (model X.prog X.w) X.A (eval e X.env) (EP X pins σ Q) (XW X pins σ E) s
def tFX (sp:Sp) (t:TA):TEX:=fun σ H Q E=>t σ H λvs H1=>sp vs H1 Q E
def aCE {k j:Nat} {f:Str} {ps:List Str} {sp:Sp} {e:Expr} {es:List Expr} {t:TA} {np aa:Pos} (F:dI X.prog X.w X.K X.mg X.base f j ps sp) (Y:Room k X.A) (hg:Gl X f)
 (ha:∀ E',PA (X.withE E') (e :: es) t) (hj:j<=k:=by decide) (hdb:(f == ("__debug__":Str))=false:=by decide)
 (he:starEach (e :: es) X.env=(false,eval e X.env) :: starEach es X.env:=by rfl) (hpl:(backTo aa (starEach es X.env)).any (·.1)=false:=by rfl) :
 PEX X (.Call (.Name f np) (e :: es) [] aa) (tFX sp t):=by
 obtain⟨fa,fd,G,hm,hk,hb⟩:=F;intro pins s σ H Q E I h;refine ib (eL I hg hm ?_ hdb);refine iz (h₀:=X.base) I.ok.mod.kin hk (thn (ha (XW X pins σ E) aa pins s σ H _ I.withE h) λus M ⟨vs,H1,U,r,q⟩=>⟨U.kIn,?_⟩) he hpl;have J:=U.noE I.ok;have hl:(us++[]).length=ps.length:=by rw[gv,<- r.length];exact G.len _ _ _ _ q
 have z:=hb M us J.kIn hl;rw[gv]at z;refine jx (jp (G.run X.A X.stack M H1 ⟨us,[]⟩ us vs _ E (Y.mono hj) J.env0 z r q) λr s' L=>?_);cases r with
 | error ev=>exact⟨H1,M,J,L⟩
 | ok fl =>
  cases fl with
  | ret u=>exact J.after L
  | next=>exact False.elim L
  | brk=>exact False.elim L
  | cont=>exact False.elim L
def O0 {e:Expr} {t:TEX} {pos:Pos} (he:PEX X e t) (hs:swapsWith e none pos.line X.env=pure false:=by rfl) :
 aCB X (.Expr e pos) (fun σ H Q E=>t σ H (λ_ H'=>Q σ H') E):=by
 intro pins s σ H Q E I h;refine wpAny_Expr_any ?_ I.quiet hs;exact thn (he pins s σ H _ E I h) λu L ⟨v,H',z,M,J⟩=>⟨rfl,σ,H',z,J⟩
end
end L2
namespace CW
open PySem L2
structure Bt6 (mg:Str->Option Value):Prop where
 dict:mg "dict"=none
end CW
namespace L2
open PySem PySem.Spec PyProof.Rows
def aF8 (K:PySem.W.Frag) (tl:TE):TI:=fun σ H R=>aAa K tl σ H R\/aEt K tl σ H R
def aE7 {X:Cx} {tg l:Expr} {tl:TE} (z:PE X l tl):PI X tg l (aF8 X.K tl):=by
 intro pins s σ H R I h;rcases h with h | h
 .exact eM z pins s σ H R I h
 .exact aAb z pins s σ H R I h
def aCF {K:PySem.W.Frag} {a:Addr} {xs:List V} {z:St} {g:TG} {tt:TT} {te:TE} {H:Hp} {Q:VK} (Pv:Nat->List V->Hp->Prop) (h0:Pv 0 [] H) (U:∀ i ys H,i<=xs.length->Pv i ys H->SqT K H a xs/\ys.length<sizeLine)
 (hs:∀ i x ys H,xs[i]?=some x->Pv i ys H->g x z H λJ H2=>tt J H2 λb M=>if b=true then te J M λy Y=>Pv (i+1) (ys++[y]) Y else Pv (i+1) ys M) (hd:∀ ys H,Pv xs.length ys H->∀ D,H D=none->Q (.ref D) (upd H D (.lst ys))) :
 pG (Itt K a) z g tt te Q H:=by
 refine⟨λi m ys H=>m=xs.length - i/\i<=xs.length/\Pv i ys H,⟨xs.length,by simp,gr _,h0⟩,?_⟩;rintro i m ys H ⟨rfl,hi,p⟩;obtain⟨q,hz⟩:=U i ys H hi p;refine⟨hz,?_⟩
 by_cases L:i<xs.length
 .refine .inr ⟨⟨xs,xs[i],q,by simp[L]⟩,Pv (i+1),λaw H' p'=>⟨xs.length - (i+1),by lia,rfl,L,p'⟩,λx H' y=>?_⟩;obtain⟨e,y⟩:=y;subst e;exact hs i x ys _ (y xs q) p
 .have e:i=xs.length:=by lia
  subst e;exact .inl ⟨⟨xs,q,ah _⟩,hd ys H p⟩
end L2
namespace CW
open PySem L2
def SameD.thaw {d:Addr} {H H':Hp} {kvs:List (Key×V)} (hd:H d=some (.dK kvs)) (g:SameD d H H'):Same H (upd H' d (.dK kvs)):=λb o e=>by
 by_cases z:b=d
 .subst z;rw[hd]at e;cases e;exact aE
 .rw[aF z];exact g b o z e
def SameD.frz {d:Addr} {H:Hp} {o:HO}:SameD d H (upd H d o):=λb u n e=>by rw[aF n];exact e
def SameD.then {d:Addr} {H H1 H2:Hp} (a:SameD d H H1) (b:Same H1 H2):SameD d H H2:=λc o n h=>b c o (a c o n h)
def SameD.free {d:Addr} {H H':Hp} {o:HO} (g:SameD d H H') (hd:H' d=some o) {l:Addr} (h:H' l=none):H l=none:=by
 cases q:H l with
 | none=>rfl
 | some u =>
  have n:l≠d:=λe=>by rw[e,hd]at h;cases h
  rw[g l u n q]at h;cases h
def at0 {v:V} {xs:List V}:atI (v :: xs) 0=some v:=pC (xs:=v :: xs) (j:=0) rfl
abbrev NT:Addr->Prop:=λ_=>True
def RowA.nt {N:Addr->Prop} {H:Hp} {t:Addr} {r:List Int} (h:RowA N H t r):RowA NT H t r:=h.imp λ_ _ _ _=>trivial
def RowA.sq {K:PySem.W.Frag} {N:Addr->Prop} {H:Hp} {t:Addr} {r:List Int} (h:RowA N H t r):SqL K H t (r.map V.int)\/SqT K H t (r.map V.int):=by
 rcases h with ⟨_,h⟩ | h
 .exact .inl (SqL.of h)
 .exact .inr (SqT.of h)
def RowA.ix {K:PySem.W.Frag} {N:Addr->Prop} {H:Hp} {t:Addr} {r:List Int} {i:Int} {v:V} {Q:VK} (h:RowA N H t r) (e:atI (r.map V.int) i=some v) (q:Q v H):rIx K (.ref t) (.int i) H Q:=by
 rcases h with ⟨_,h⟩ | h
 .exact .inl ⟨t,_,i,v,rfl,rfl,SqL.of h,e,q⟩
 .exact .inr (.inl ⟨t,_,i,v,rfl,rfl,SqT.of h,e,q⟩)
def aDR {K:PySem.W.Frag} {N:Addr->Prop} {Hb H:Hp} {a:Addr} {r:List Int} {j:Nat} {g:TG} {tb:TS} {D:iX} {σ:St} (Pv:Nat->St->Hp->Prop) (ha:RowA N Hb a r) (L:σ[j]?=some (some (.ref a))) (h0:Pv 0 σ H) (Y:∀ i σ H',Pv i σ H'->Same Hb H')
 (hs:∀ i z σ H,r[i]?=some z->Pv i σ H->g (.int z) σ H λJ H2=>tb { D with nx:=Pv (i+1),ct:=Pv (i+1),bk:=D.nx } J H2) (hd:∀ σ H,Pv r.length σ H->D.nx σ H):aEw (aF8 K (aDq j)) g tb D σ H:=by
 have M:∀ i x σ H,(r.map V.int)[i]?=some x->Pv i σ H->g x σ H λJ H2=>tb { D with nx:=Pv (i+1),ct:=Pv (i+1),bk:=D.nx } J H2:=λi x σ H e p=>by
  obtain⟨z,rfl,hz⟩:=zX e;exact hs i z σ H hz p
 have U:∀ σ H,Pv (r.map V.int).length σ H->D.nx σ H:=fun σ H p=>by rw[aGV]at p;exact hd σ H p
 rcases ha with ⟨_,ha⟩ | ha
 .exact .inl ⟨_,L,a,rfl,⟨_,SqL.of (Y _ _ _ h0 _ _ ha)⟩,jL (K:=K) (a:=a) (xs:=r.map V.int) Pv h0 (λi σ H' _ p=>SqL.of (Y i σ H' p _ _ ha)) M U⟩
 .exact .inr ⟨_,L,a,rfl,⟨_,SqT.of (Y _ _ _ h0 _ _ ha)⟩,aCm (K:=K) (a:=a) (xs:=r.map V.int) Pv h0 (λi σ H' _ p=>SqT.of (Y i σ H' p _ _ ha)) M U⟩
structure Cn3 (mg:Str->Option Value) (t1 t2 t3:Tok):Prop where
 FEW_WALKS:mg "FEW_WALKS"=some (.int 10 t1)
 REST_APART:mg "REST_APART"=some (.int 16 t2)
 MOST_ROADS:mg "MOST_ROADS"=some (.int 8 t3)
structure Wl (mg:Str->Option Value):Prop where
 LETTERS:∃ t,mg "LETTERS"=some (.str L3 t)
 MOST_LETTERS:∃ t,mg "MOST_LETTERS"=some (.int 8 t)
inductive kF (vs:List V) (H:Hp) (Q:VK) (E_:XK):Prop
 | mk (a:Addr) (row:List Int) (h0_:vs=[.ref a]) (h1_:RowA NT H a row) (h2_:Rw row) (h3_:Q .non H):kF vs H Q E_
def aE8 {vs:List V} {H:Hp} {Q:VK} {E:XK} (h:zW vs H Q E):kF vs H Q E:=by
 obtain⟨a,row,e,h1,h2,h3,k⟩:=h;exact⟨a,row,e,.inl ⟨trivial,h1⟩,⟨h2,h3⟩,k⟩
inductive rG (vs:List V) (H:Hp) (Q:VK) (E_:XK):Prop
 | mk (a:Addr) (row:List Int) (h0_:vs=[.ref a]) (h1_:RowA NT H a row) (h2_:Rw row) (h4_:∀ qs:Trs,Lst row qs->qs.Pairwise ple->aFK H Q qs):rG vs H Q E_
section
variable {K:PySem.W.Frag} (G:Hc K)
inductive nD (vs:List V) (H:Hp) (Q:VK) (E_:XK):Prop
 | mk (x dx:Addr) (u1 u2 u3:V) (h0_:vs=[.ref x,u1,u2,u3]) (h1_:H x=some (.ins G.Rd dx [])) (h2_:Q .non (upd H x (.ins G.Rd dx [("entries",u1),("rests",u2),("course",u3)]))):nD vs H Q E_
inductive oO (vs:List V) (H:Hp) (Q:VK) (E_:XK):Prop
 | mk (x dx:Addr) (u1 u2 u3:V) (h0_:vs=[.ref x,u1,u2,u3]) (h1_:H x=some (.ins G.Cs dx [])) (h2_:Q .non (upd H x (.ins G.Cs dx [("rested",u1),("walks",u2),("turned",u3)]))):oO vs H Q E_
def aDi {H:Hp} {x dx:Addr} {z J L:V} {R:Hp->Prop} {E:XK} (M:H x=none) (hd:H dx=none) (U:dx≠x) (k:∀ H',Same H H'->H' x=some (.ins G.Rd dx [("entries",z),("rests",J),("course",L)])->R H') :
 nD G [.ref x,z,J,L] (upd (upd H dx (.own x)) x (.ins G.Rd dx [])) (λv H2=>v=.non/\R H2) E:=by
 refine⟨x,dx,z,J,L,rfl,aE,rfl,k _ (λb o e=>?_) aE⟩;rw[aF (aP e M),aF (aP e M),aF (aP e hd)];exact e
def aCG {H:Hp} {x dx:Addr} {z J L:V} {R:Hp->Prop} {E:XK} (M:H x=none) (hd:H dx=none) (U:dx≠x) (k:∀ H',Same H H'->H' x=some (.ins G.Cs dx [("rested",z),("walks",J),("turned",L)])->R H') :
 oO G [.ref x,z,J,L] (upd (upd H dx (.own x)) x (.ins G.Cs dx [])) (λv H2=>v=.non/\R H2) E:=by
 refine⟨x,dx,z,J,L,rfl,aE,rfl,k _ (λb o e=>?_) aE⟩;rw[aF (aP e M),aF (aP e M),aF (aP e hd)];exact e
end
def iT {J z:Type} {R:J->z->Prop}:∀ {xs:List J} {ys:List z} {j:Nat} {y:z},Paired R xs ys->ys[j]?=some y->∃ x,xs[j]?=some x/\R x y
 | _,_,_,_,.nil,e=>by simp at e
 | _,_,0,_,.cons r _,e=>by simp at e;subst e;exact⟨_,rfl,r⟩
 | _,_,j+1,y,.cons _ t,e=>by
  obtain⟨x,h1,h2⟩:=iT (j:=j) (y:=y) t (by simpa using e);exact⟨x,by simpa using h1,h2⟩
def wo (S:List Addr) (H:Hp):Hp:=λb=>if b∈S then none else H b
def O1 {S:List Addr} {H:Hp} {x:Addr} (h:x∈S):wo S H x=none:=by unfold wo;rw[eH h]
def C4 {S:List Addr} {H:Hp} {x:Addr} (h:x∉S):wo S H x=H x:=by unfold wo;rw[dt h]
def m5 {S:List Addr} {H:Hp}:Same (wo S H) H:=λb o e=>by
 by_cases h:b∈S
 .rw[O1 h]at e;cases e
 .rw[C4 h]at e;exact e
def aF9 {S:List Addr} {Hb H:Hp} (g:Same Hb H) (h:∀ x∈S,Hb x=none):Same Hb (wo S H):=λb o e=>by
 rw[C4 (λz=>by rw[h b z]at e;cases e)];exact g b o e
section
variable {K:PySem.W.Frag} {G:Hc K}
variable (G)
inductive jT (vs:List V) (H:Hp) (Q:VK) (E_:XK):Prop
 | mk (x dx:Addr) (h0_:vs=[.ref x]) (h1_:H x=some (.ins G.Hs dx [])) (h2_:∀ d p q,H d=none->H p=none->H q=none->d≠p->d≠q->p≠q->Q .non (upd (upd (upd (upd H d (.dK [])) p (.lst [])) q (.lst [])) x (.ins G.Hs dx (oM d p q)))):jT vs H Q E_
variable {G}
def dB {H:Hp} {a t:Addr} {o:HO} (h:upd H a o t=none):H t=none:=by
 by_cases z:t=a
 .rw[z,aE]at h;cases h
 .rw[aF z]at h;exact h
def qA {H:Hp} {x y:Addr} {o u:HO} (h:x≠y):upd (upd H x o) y u=upd (upd H y u) x o:=by
 funext b
 unfold upd
 by_cases J:b=y
 .rw[eH J]
  by_cases z:b=x
  .exact absurd (z.symm.trans J) h
  .rw[dt z,eH J]
 .rw[dt J]
  by_cases z:b=x
  .rw[eH z,eH z]
  .rw[dt z,dt z,dt J]
def aAD {H:Hp} {x d p q:Addr} {z J L U Y M:HO} (h1:x≠d) (h2:x≠p) (h3:x≠q):upd (upd (upd (upd (upd (upd H d z) x U) p J) x Y) q L) x M=upd (upd (upd (upd H d z) p J) q L) x M:=by
 rw[qA h3,iK,<- qA h3,qA h2,iK,qA h3]
def aE9 {xs:List V} (h:xs.length=2):∃ a b,xs=[a,b]:=by
 match xs,h with
 | [a,b],_=>exact⟨a,b,rfl⟩
def aGP {xs:List V} (h:xs.length=3):∃ a b c,xs=[a,b,c]:=by
 match xs,h with
 | [a,b,c],_=>exact⟨a,b,c,rfl⟩
def aGQ {xs:List V} (h:xs.length=4):∃ a b c d,xs=[a,b,c,d]:=by
 match xs,h with
 | [a,b,c,d],_=>exact⟨a,b,c,d,rfl⟩
end
end CW
namespace L2
open PySem PySem.W PySem.Spec PyProof.Rows
section
variable {P:Program} {w:World} {K:PySem.W.Frag} {mg:Str->Option Value} {base h:Heap} {x:Str} {st:Stmt} {f c:Addr} {fd:FuncData}
structure DefIn (K:PySem.W.Frag) (x:Str) (st:Stmt) (f:Addr) (fd:FuncData):Prop where
 a:PySem.W.nsIn K mainGlobals x=some (some (.ref f))
 F:Fun K x x st f fd
def defIn {U:Value} {od M:Option Addr} {L:Array (Option Value)} {kV J pm z ct:Value} (a:PySem.W.nsIn K mainGlobals x=some (some (.ref f))) (l:K.lookup f=some ⟨U,od,.func (PySem.W.fnOf x x (bM st) (aZ st) (aG st) .none kV J pm M z ct),L⟩)
 (c:PySem.W.codeIn K z x=true) (k:PySem.W.keepIn K (.ref f)=true):DefIn K x st f (PySem.W.fnOf x x (bM st) (aZ st) (aG st) .none kV J pm M z ct):=⟨a,uT l c k⟩
structure DefC (K:PySem.W.Frag) (x:Str) (st:Stmt) (f:Addr) (fd:FuncData) (c:Addr):Prop where
 a:PySem.W.nsIn K mainGlobals x=some (some (.ref f))
 G:CW.FunC K x x st f fd c
 k:PySem.W.keepIn K (.ref f)=true
def defC {M:Value} {od L:Option Addr} {J:Array (Option Value)} {kV z pm ct:Value} (a:PySem.W.nsIn K mainGlobals x=some (some (.ref f))) (l:K.lookup f=some ⟨M,od,.func (PySem.W.fnOf x x (bM st) (aZ st) (aG st) .none kV z pm L (.ref c) ct),J⟩)
 (cd:PySem.W.codeIn K (.ref c) x=true) (k:PySem.W.keepIn K (.ref f)=true):DefC K x st f (PySem.W.fnOf x x (bM st) (aZ st) (aG st) .none kV z pm L (.ref c) ct) c:=⟨a,⟨⟨_,_,_,_,_,_,_,_,rfl,l,cd⟩⟩,k⟩
def DefC.F (D:DefC K x st f fd c):Fun K x x st f fd:=by
 obtain⟨M,od,kV,z,pm,U,ct,J,e,lk,L⟩:=D.G.ex;exact⟨⟨M,od,kV,z,pm,U,.ref c,ct,J,e,lk,L⟩,D.k⟩
structure DAt (P:Program) (w:World) (base:Heap) (K:PySem.W.Frag) (mg:Str->Option Value) (x:Str) (ps:List Str) (f:Addr) (fd:FuncData):Prop where
 m:mg x=some (.ref f)
 k:PySem.W.keepIn K (.ref f)=true
 b:Binds K fd ps []
def DAt.fn {ps:List Str} {k:Nat} {sp:Sp} (D:DAt P w base K mg x ps f fd) (o:FnOk P w K mg base CX0 k f fd ps sp):cZ P w K mg base x k ps sp:=⟨f,fd,o,D.m,D.k,D.b⟩
def DAt.fx {ps:List Str} {k:Nat} {sp:Sp} (D:DAt P w base K mg x ps f fd) (o:FnOk P w K mg base (CXR P w) k f fd ps sp):dI P w K mg base x k ps sp:=⟨f,fd,o,D.m,D.k,D.b⟩
def DefC.D (D:DefC K x st f fd c):DefIn K x st f fd:=⟨D.a,D.F⟩
end
end L2
namespace CW
open PySem L2
@[elab_as_elim] def aS {P:Hp->Prop} {H:Hp} {a:Addr} {o:HO} (z:H a=none) (h:∀ G,Same H G->G a=some o->P G):P (upd H a o):=h _ (Same.upd z) aE
end CW
namespace L2
open PySem PySem.W PySem.Spec PyProof.Rows
section
variable {P:Program} {w:World} {K:PySem.W.Frag} {mg:Str->Option Value} {base h:Heap} {x q m:Str} {st:Stmt} {f c C:Addr} {fd:FuncData}
structure MethIn (K:PySem.W.Frag) (C:Addr) (m q:Str) (st:Stmt) (f:Addr) (fd:FuncData):Prop where
 me:aAg K C m f
 F:Fun K m q st f fd
def methIn {U:Value} {od M:Option Addr} {L:Array (Option Value)} {kV J pm z ct:Value} (a:PySem.W.findIn K (.ref C) m=some (some (.ref f))) (l:K.lookup f=some ⟨U,od,.func (PySem.W.fnOf m q (bM st) (aZ st) (aG st) .none kV J pm M z ct),L⟩)
 (c:PySem.W.codeIn K z q=true) (k:PySem.W.keepIn K (.ref f)=true) (i:PySem.W.isFn K (.ref f)=true):MethIn K C m q st f (PySem.W.fnOf m q (bM st) (aZ st) (aG st) .none kV J pm M z ct):=⟨⟨a,i,k⟩,uT l c k⟩
structure InitIn (K:PySem.W.Frag) (C:Addr) (q:Str) (st:Stmt) (f:Addr) (fd:FuncData):Prop where
 mk_:Mk K C f
 F:Fun K "__init__" q st f fd
def initIn {U:Value} {od M:Option Addr} {L:Array (Option Value)} {kV J pm z ct:Value} (a:PySem.W.findIn K (.ref C) "__init__"=some (some (.ref f))) (l:K.lookup f=some ⟨U,od,.func (PySem.W.fnOf "__init__" q (bM st) (aZ st) (aG st) .none kV J pm M z ct),L⟩)
 (c:PySem.W.codeIn K z q=true) (k:PySem.W.keepIn K (.ref f)=true) (i:PySem.W.isFn K (.ref f)=true) (mk:PySem.W.makesIn K C=true) (Y:PySem.W.keepIn K (.ref C)=true):InitIn K C q st f (PySem.W.fnOf "__init__" q (bM st) (aZ st) (aG st) .none kV J pm M z ct):=⟨⟨mk,a,i,Y⟩,uT l c k⟩
def InitIn.at {ps:List Str} {k:Nat} {sp:Sp} (D:InitIn K C q st f fd) (hm:mg x=some (.ref C)) (b:Binds K fd ps []) (o:FnOk P w K mg base CX0 k f fd ps sp):jP P w K mg base x C k ps sp:=⟨f,fd,o,D.mk_,hm,b⟩
def DefIn.d5 (D:DefIn K x st f fd) (P:Program) (w:World) (base:Heap) (X:K.In h) (G:h.Ns mainGlobals mg) {ps:List Str} (b:Binds K fd ps []):DAt P w base K mg x ps f fd:=⟨ik X G D.a,D.F.kp,b⟩
end
end L2
namespace CW
open PySem L2
structure HcIn (K:PySem.W.Frag) (Rd Cs Hs:Addr):Prop where
 aR:PySem.W.nsIn K mainGlobals "Road"=some (some (.ref Rd))
 aC:PySem.W.nsIn K mainGlobals "Course"=some (some (.ref Cs))
 aH:PySem.W.nsIn K mainGlobals "House"=some (some (.ref Hs))
 r1:PySem.W.plainGet K Rd Str.empty=true
 r2:PySem.W.hasDictIn K Rd=true
 r3:PySem.W.plainOver K Rd=true
 r4:PySem.W.findIn K (.ref Rd) "__setattr__"=some (some (.builtin "object.__setattr__"))
 c1:PySem.W.plainGet K Cs Str.empty=true
 c2:PySem.W.hasDictIn K Cs=true
 c3:PySem.W.plainOver K Cs=true
 c4:PySem.W.findIn K (.ref Cs) "__setattr__"=some (some (.builtin "object.__setattr__"))
 h1:PySem.W.plainGet K Hs Str.empty=true
 h2:PySem.W.hasDictIn K Hs=true
 h3:PySem.W.plainOver K Hs=true
 h4:PySem.W.findIn K (.ref Hs) "__setattr__"=some (some (.builtin "object.__setattr__"))
 rEn:PySem.W.findIn K (.ref Rd) "entries"=some none
 rRe:PySem.W.findIn K (.ref Rd) "rests"=some none
 rCo:PySem.W.findIn K (.ref Rd) "course"=some none
 cRe:PySem.W.findIn K (.ref Cs) "rested"=some none
 cWa:PySem.W.findIn K (.ref Cs) "walks"=some none
 cTu:PySem.W.findIn K (.ref Cs) "turned"=some none
 hSt:PySem.W.findIn K (.ref Hs) "standing"=some none
 hPa:PySem.W.findIn K (.ref Hs) "past"=some none
 hAh:PySem.W.findIn K (.ref Hs) "ahead"=some none
 ne1:Nat.beq Rd Hs=false
 ne2:Nat.beq Cs Hs=false
def aCH {a b:Nat} (h:Nat.beq a b=false):a≠b:=λe=>by
 rw[e,Nat.beq_refl]at h;cases h
def HcIn.g {K:PySem.W.Frag} {Rd Cs Hs:Addr} (h:HcIn K Rd Cs Hs):Hc K:=⟨Rd,Cs,Hs,⟨h.r1,h.r2,h.r3,h.r4⟩,⟨h.c1,h.c2,h.c3,h.c4⟩,⟨h.h1,h.h2,h.h3,h.h4⟩,aCH h.ne1,aCH h.ne2,h.rEn,h.rRe,h.rCo,h.cRe,h.cWa,h.cTu,h.hSt,h.hPa,h.hAh⟩
def O2 {x y:Str} {v:Value} {l:List (Key×Value)}:valueAt (((Sum.inr y:Key),v) :: l) (Sum.inr x)=if x=y then some v else valueAt l (Sum.inr x):=by
 unfold valueAt;rw[jj]
 by_cases c:x=y
 .rw[eH c,c];simp
 .rw[dt c];have:decide ((Sum.inr y:Key)=Sum.inr x)=false:=aGg λz=>c (uc z).symm;simp only[this]
def aCI {P:Program} {w:World} {K:PySem.W.Frag} {d:Addr} {ep:Nat} {Y t1 t2 t3 t4 t5 t6 t7 t8:Tok} {z r1 r2 r3 r4 J L M U:Addr}
 (h:K.lookup d=some ⟨.type "dict",none,.dict #[vN w ("build",Y,z),vN w ("shut",t1,r1),vN w ("walk",t2,r2),vN w ("put",t3,r3),vN w ("take",t4,r4),vN w ("mirror",t5,J),vN w ("lay",t6,L),vN w ("late",t7,M),vN w ("strike",t8,U)] ep,#[]⟩) (hs:(d == sysModules)=false) :
 ∃ kvs,GDict P w K d kvs/\valueAt kvs (Sum.inr "build")=some (.ref z)/\valueAt kvs (Sum.inr "shut")=some (.ref r1)/\valueAt kvs (Sum.inr "walk")=some (.ref r2)/\valueAt kvs (Sum.inr "put")=some (.ref r3)/\valueAt kvs (Sum.inr "take")=some (.ref r4)/\valueAt kvs (Sum.inr "mirror")=some (.ref J)/\valueAt kvs (Sum.inr "lay")=some (.ref L)/\valueAt kvs (Sum.inr "late")=some (.ref M)/\valueAt kvs (Sum.inr "strike")=some (.ref U):=by
 have g:=aB3 (P:=P) (w:=w) [("build",Y,z),("shut",t1,r1),("walk",t2,r2),("put",t3,r3),("take",t4,r4),("mirror",t5,J),("lay",t6,L),("late",t7,M),("strike",t8,U)] h hs (show (["build","shut","walk","put","take","mirror","lay","late","strike"]:List Str).Nodup by decide +kernel);refine⟨_,g,?_,?_,?_,?_,?_,?_,?_,?_,?_⟩ <;> simp only[aGk,lr] <;> repeat (first | (rw[O2,eH rfl];done) | rw[O2,dt (by decide +kernel)])
inductive Ref where
 | ok | many | row (i:Int) | trains (i:Int) | sizes (i:Int) | creel | number | near | bare
def Ref.nm:Ref->Str
 | .ok=>"" | .many=>"TooMany" | .row _=>"BadRow" | .trains _=>"BadTrains" | .sizes _=>"BadSizes" | .creel=>"BadCreel" | .number=>"BadNumber" | .near=>"TooNear" | .bare=>"Bare"
def Ref.at:Ref->Int
 | .row i=>i | .trains i=>i | .sizes i=>i | _=>0
def Ref.nm_ok {r:Ref}:r.nm=""↔r=.ok:=by cases r <;> simp[Ref.nm] <;> decide
section
variable {P:Program} {w:World} {K:PySem.W.Frag} {mg:Str->Option Value} {base:Heap}
open Classical in
noncomputable def eU (row:List Int):Ref:=if 60<row.length then .many else if h:∃ i,lR row i then .row ((Classical.choose h:Nat):Int)else .ok
def wA (row:List Int):WhyRow row (eU row).nm (eU row).at:=by
 unfold eU
 by_cases h:60<row.length
 .rw[eH h];exact .many h
 .rw[dt h]
  by_cases z:∃ i,lR row i
  .rw[dif_pos z];exact .bad (by omega) (oh z)
  .rw[dif_neg z];rcases m4 row row.length with g | g
   .exact .good (by omega) λj h1 h2=>g j h1 h2 h2
   .exact absurd g z
def O3 {row:List Int} {nm z:Str} {i J:Int} (a:WhyRow row nm i) (b:WhyRow row z J):nm=z/\i=J:=by
 cases a with
 | many h=>cases b with
  | many _=>exact⟨rfl,rfl⟩
  | good h' _=>omega
  | bad h' _=>omega
 | good h g=>cases b with
  | many h'=>omega
  | good _ _=>exact⟨rfl,rfl⟩
  | bad _ b=>exact(pZ b g).elim
 | bad h g=>cases b with
  | many h'=>omega
  | good _ g'=>exact(pZ g g').elim
  | bad _ b=>rw[vZ g b];exact⟨rfl,rfl⟩
def aAE {row:List Int}:eU row=.ok↔row.length<=60/\aDQ row:=by
 constructor
 .intro h;have:=wA row;rw[h]at this;exact this.row_of rfl
 .intro ⟨h1,h2⟩;exact Ref.nm_ok.mp (O3 (wA row) (.good h1 h2)).1
def triples_snoc {ps ps':Array Value} {a b:Int} {c:Value} (h:TriplesOk ps.toList) (e:ps'.toList=ps.toList++[rawInt a,rawInt b,c]):TriplesOk ps'.toList:=by
 rw[e];generalize ps.toList=l at h;clear e ps ps'
 match l,h with
 | [],_=>exact True.intro
 | .int _ _ :: .int _ _ :: _ :: rest,h=>exact triples_app rest h
where triples_app {a b:Int} {c:Value}:∀ (l:List Value),TriplesOk l->TriplesOk (l++[rawInt a,rawInt b,c])
 | [],_=>True.intro
 | .int _ _ :: .int _ _ :: _ :: rest,h=>triples_app rest h
end
inductive RefH where
 | ok | many | row (i:Int) | creel | near | bare | name | taken | full | road | laid | stone | entry | walk | clash (i:Int) | left
def aCJ:Ref->RefH
 | .many=>.many | .row i=>.row i | _=>.ok
section
variable {P:Program} {w:World} {K:PySem.W.Frag} {mg:Str->Option Value} {base:Heap}
structure cL (K:PySem.W.Frag) (mg:Str->Option Value) where
 many:Addr
 row:Addr
 creel:Addr
 near:Addr
 bare:Addr
 name:Addr
 taken:Addr
 full:Addr
 road:Addr
 laid:Addr
 stone:Addr
 entry:Addr
 walk:Addr
 clash:Addr
 left:Addr
 err:Addr
 m_row:mg "BadRow"=some (.ref row)
 m_clash:mg "Clash"=some (.ref clash)
 m_laid:mg "Laid"=some (.ref laid)
 m_stone:mg "NoStone"=some (.ref stone)
 m_err:mg "CreelError"=some (.ref err)
def RefH.go (X:cL K mg) (E:XK) (H:Hp):RefH->Prop
 | .ok=>False
 | .many=>Rf0 E X.many "TooMany" H
 | .row i=>RfI E X.row "BadRow" i H
 | .creel=>Rf0 E X.creel "BadCreel" H
 | .near=>Rf0 E X.near "TooNear" H
 | .bare=>Rf0 E X.bare "Bare" H
 | .name=>Rf0 E X.name "BadName" H
 | .taken=>Rf0 E X.taken "Taken" H
 | .full=>Rf0 E X.full "Full" H
 | .road=>Rf0 E X.road "NoRoad" H
 | .laid=>Rf0 E X.laid "Laid" H
 | .stone=>Rf0 E X.stone "NoStone" H
 | .entry=>Rf0 E X.entry "NoEntry" H
 | .walk=>Rf0 E X.walk "NotWalk" H
 | .clash i=>RfI E X.clash "Clash" i H
 | .left=>Rf0 E X.left "NothingLeft" H
def Refs (X:cL K mg) (E:XK) (H:Hp) (r:RefH):Prop:=∀ H',Same H H'->r.go X E H'
def Refs.mono {X:cL K mg} {E:XK} {H H1:Hp} {r:RefH} (h:Refs X E H r) (g:Same H H1):Refs X E H1 r:=λH' s=>h H' (g.trans s)
def Refs.now {X:cL K mg} {E:XK} {H:Hp} {r:RefH} (h:Refs X E H r):r.go X E H:=h H (Same.refl _)
variable (X:cL K mg)
inductive C5 (vs:List V) (H:Hp) (Q:VK) (E:XK):Prop
 | mk (a:Addr) (row:List Int) (h0_:vs=[.ref a]) (h1_:RowA NT H a row) (h2_:row.length<=200) (h3_:eU row=.ok->Q .non H) (h4_:eU row≠.ok->(aCJ (eU row)).go X E H):C5 vs H Q E
def aAF {X:cL K mg} {row:List Int} {H:Hp} {E:XK} (k:eU row≠.ok->(aCJ (eU row)).go X E H):(60<row.length->Rf0 E X.many "TooMany" H)/\(row.length<=60->∀ i:Nat,lR row i->RfI E X.row "BadRow" i H):=by
 refine⟨λz=>?_,λz i b=>?_⟩
 .have e:eU row=.many:=by unfold eU;rw[eH z]
  have:=k (by rw[e];exact λh=>(nomatch h))
  rwa [e]at this
 .have e:eU row=.row i:=by
   unfold eU;have J:∃ i,lR row i:=⟨i,b⟩;rw[dt (by lia),dif_pos J,vZ (oh J) b]
  have:=k (by rw[e];exact λh=>(nomatch h))
  rwa [e]at this
inductive wB (vs:List V) (H:Hp) (Q:VK) (E:XK):Prop
 | mk (c:Int) (h0_:vs=[.int c]) (h1_:1<=c->Q .non H) (h2_:c<1->RefH.creel.go X E H):wB vs H Q E
variable (G:Hc K)
end
end CW
namespace L2
open PySem PySem.Spec PyProof.Rows
open PySem.W
end L2
namespace CW
open PySem L2
end CW
namespace L2
open PySem PySem.Spec PyProof.Rows
open PySem.W PySem.Calls
def bN (P:Program) (w:World) (K:PySem.W.Frag) (mg:Str->Option Value) (base:Heap) (C:Addr) (m:Str) (k:Nat) (ps:List Str) (sp:Sp):Prop :=
 ∃ f fd,FnOk P w K mg base (CXR P w) k f fd ps sp/\aAg K C m f/\Binds K fd ps []
def oP (P:Program) (w:World) (K:PySem.W.Frag) (mg:Str->Option Value) (base:Heap) (f:Addr) (k:Nat) (ps:List Str) (sp:Sp):Prop :=
 ∃ fd,FnOk P w K mg base (CXR P w) k f fd ps sp/\PySem.W.keepIn K (.ref f)=true/\Binds K fd ps []
section
variable {X:Cx} {C:Addr} {x m:Str} {j k:Nat} {ps:List Str} {sp:Sp} {ta:TE} {t:TA} {o e:Expr} {es:List Expr} {p pos apos:Pos} {E:XK}
def cX {pl:Sem Bool} (M:bN X.prog X.w X.K X.mg X.base C m j ps sp) (c:Cls X.K C) (J:Room k X.A) (L:dL (CXR X.prog X.w) X E) (he:PE X o ta) (U:PA X (e :: es) t) (Y:j<=k:=by decide)
 (hst:starEach (e :: es) X.env=(false,eval e X.env) :: starEach es X.env:=by rfl) (hpl:(backTo pos (starEach es X.env)).any (·.1)=false:=by rfl)
 (ht:eval (.Call (.Attribute o m apos) (e :: es) [] pos) X.env=(do
  let z <- eval o X.env
  standAt apos.atName
  let (f,first) <- holding [z] (getMethod z m pl)
  callWith pos f first (backTo pos (starEach (e :: es) X.env)) (backToKw pos (keywordEach [] X.env))):=by rfl) :
 PE X (.Call (.Attribute o m apos) (e :: es) [] pos) (Z3 C m sp [] E ta t):=by
 obtain⟨f,fd,G,hm,hb⟩:=M;exact aCp (pl:=pl) (hst:=hst) (hpl:=hpl) (ht:=ht) he c hm G (J.mono Y) hb .nil L U
def aCK {pl:Sem Bool} (M:bN X.prog X.w X.K X.mg X.base C m j ps sp) (c:Cls X.K C) (J:Room k X.A) (L:dL (CXR X.prog X.w) X E) (he:PE X o ta) (U:j<=k:=by decide)
 (ht:eval (.Call (.Attribute o m apos) [] [] pos) X.env=(do
  let z <- eval o X.env
  standAt apos.atName
  let (f,first) <- holding [z] (getMethod z m pl)
  callWith pos f first (backTo pos (starEach [] X.env)) (backToKw pos (keywordEach [] X.env))):=by rfl) :
 PE X (.Call (.Attribute o m apos) [] [] pos) (Z3 C m sp [] E ta xL):=by
 obtain⟨f,fd,G,Y,hb⟩:=M;exact aAi (pl:=pl) (ht:=ht) he c Y G (J.mono U) hb .nil L
def aDS (X:Cx) (E:XK) (j i:Nat) (t:TA):TE:=fun σ H Q=>∃ f ps sp,σ[i]?=some (some (.ref f))/\oP X.prog X.w X.K X.mg X.base f j ps sp/\t σ H λvs H1=>sp vs H1 Q E
def aAG (i:Nat) (L:Room k X.A) (M:dL (CXR X.prog X.w) X E) (U:PA X (e :: es) t) (Y:X.N[i]?=some x:=by rfl) (hv:Vis X.env.scope x:=by first | exact Or.inl rfl | exact Or.inr (Or.inl rfl) | exact Or.inr (Or.inr rfl)) (hd:(x == ("__debug__":Str))=false:=by decide)
 (z:(x == ("__classdict__":Str))=false:=by decide) (he:starEach (e :: es) X.env=(false,eval e X.env) :: starEach es X.env:=by rfl) (hpl:(backTo pos (starEach es X.env)).any (·.1)=false:=by rfl) :
 PE X (.Call (.Name x p) (e :: es) [] pos) (aDS X E k i t):=by
 intro pins s σ H Q I h;obtain⟨f,ps,sp,e1,⟨fd,G,hk,hb⟩,h⟩:=h;refine ib (T6 I Y hv e1 (λu ru=>?_) hd z);obtain rfl:u=Value.ref f:=ru;refine iz (h₀:=X.base) I.ok.mod.kin hk (thn (U pos pins s σ H _ I h) λus s1 ⟨vs,H1,J,r,q⟩=>⟨J.kIn,?_⟩) he hpl;exact uO G L hb .nil M J r (by rw[gv];exact q)
end
end L2
namespace CW
open PySem L2
end CW
namespace L2
open PySem PySem.Spec PyProof.Rows
open Sem (wp)
inductive Chn (h:Heap) (e:Addr):Addr->Prop
 | one {d:Addr} {o:Obj} (hd:h.get? d=some o) (hc:cx2 o=some .none) (ne:d≠e):Chn h e d
 | more {d d':Addr} {o:Obj} (hd:h.get? d=some o) (hc:cx2 o=some (.ref d')) (ne:d≠e) (r:Chn h e d'):Chn h e d
def Ended.chn {H:Hp} {h:Heap} {e d:Addr} {u:HO} (x:Ended H h d) (ne:H e=some u):Chn h e d:=by
 have M:∀ {b},H b=none->b≠e:=λq z=>by rw[z,ne]at q;cases q
 induction x with
 | one J he L=>exact .one he L (M J)
 | more J he L _ U=>exact .more he L (M J) U
def Chn.ne {h:Heap} {e d:Addr} (x:Chn h e d):d≠e:=by cases x <;> assumption
inductive Ahd (h:Heap):Addr->Addr->Prop
 | refl (a:Addr):Ahd h a a
 | step {a m b:Addr} {o:Obj} (ha:h.get? a=some o) (hc:cx2 o=some (.ref m)) (r:Ahd h m b):Ahd h a b
def Ahd.on {h:Heap} {a b d:Addr} {o:Obj} (x:Ahd h a b) (z:h.get? b=some o) (J:cx2 o=some (.ref d)):∃ m o',h.get? a=some o'/\cx2 o'=some (.ref m)/\Ahd h m d:=by
 induction x with
 | refl a=>exact⟨d,o,z,J,.refl d⟩
 | step L M _ U =>
  obtain⟨m2,o2,Y,e2,r2⟩:=U z;exact⟨_,_,L,M,.step Y e2 r2⟩
def Ahd.snoc {h:Heap} {a b d:Addr} {o:Obj} (x:Ahd h a b) (z:h.get? b=some o) (J:cx2 o=some (.ref d)):Ahd h a d:=by
 obtain⟨m,o',L,M,r⟩:=x.on z J;exact .step L M r
def kG {o:Obj} {v:Value} (h:cx2 o=some v):∃ vs,o.data=.fields vs/\vs[2]?=some v:=by
 unfold cx2 at h;split at h
 .rename_i vs e
  exact⟨vs,e,h⟩
 .cases h
def nU:plainId "proto.unchain"=true:=by decide +kernel
def nV:entryFor table "proto.unchain"=some Builtin.«proto.unchain»:=entryFor_of_fast (by kernel_rfl)
def xP {h:Heap} {e d:Addr} (x:Chn h e d):∀ (a:Addr) (b:Bool),Ahd h a d->Meets (Builtin.«proto.unchain» ⟨[.ref e,.ref d,.ref a,.bool b],[]⟩) (λ_ R s=>s.heap=h/\R (.ok (.ret .none)) s):=by
 induction x with
 | one hd z ne =>
  intro a b M prog w A R s ⟨hs,J⟩;subst hs;obtain⟨vs,U,h2⟩:=kG z;unfold Builtin.«proto.unchain»;refine aGT (jk hd U h2 ?_);rw[eH (by decide)]
  wp_walk
  exact J
 | @more d d' o hd z ne r ih =>
  intro a b M prog w A R s ⟨hs,J⟩;subst hs;obtain⟨vs,U,h2⟩:=kG z;unfold Builtin.«proto.unchain»;refine aGT (jk hd U h2 ?_);rw[dt (by simp),dt (by have:=r.ne;simpa using this)]
  by_cases q:(Value.ref d' == Value.ref a)=true
  .rw[eH q]
   wp_walk
   exact J
  .rw[dt q];obtain⟨m,o',e1,e2,r2⟩:=M.on hd z;have fin:∀ L,Ahd s.heap L d'->wpAny (model prog w) A.in1 (again (.builtin "proto.unchain" ⟨[.ref e,.ref d',.ref L,.bool !b],[]⟩)) (λfin s'=>match fin with | .done f=>R (.ok f) s' | .again c'=>c'.quiet=true/\codeAny (model prog w) A c' R s') (λe s'=>R (.error e) s') s:=λL Y =>
    MeetsSeq.meets_again rfl nU nV (ih L (!b) Y) prog w A R s ⟨rfl,J⟩
   cases b with
   | false =>
    rw[dt (by decide)];exact aGT (aGU (fin a (M.snoc hd z)))
   | true =>
    rw[eH rfl];obtain⟨ay,aw,ax⟩:=kG e2;exact aGT (jk e1 aw ax (fin m r2))
section
variable {prog:Program} {w:World} {A:Around} {E:Value->Shared->Prop} {h:Heap} {g:Array GenState} {d:Drawn} {t:Nat} {os:OsState}
variable {nm q:Str} {C N:Addr} {bs bm ag:List Value} {hdct:Bool} {sn:List Str} {sub:List Value} {ab:Bool} {col:Option Bool} {dd:Option Addr} {k0 k1 k2 k3 k5:Option Value} {B newId af:String}
def O4 {s:Shared} {e h0:Addr} {Q:Value->Shared->Prop} (x:Chn s.heap e h0) (z:Q .none s):wpAny (model prog w) A (runValue (.builtin "proto.unchain" ⟨[.ref e,.ref h0,.ref h0,.bool false],[]⟩)) Q E s:=by
 refine wpAny_runValue (jr nV ?_);rw[aG7 nU];exact xP x h0 false (.refl h0) prog w A (wants Q E) s ⟨rfl,z⟩
def Chn.keep {h h':Heap} {e d:Addr} (x:Chn h e d) (k:∀ b o,b≠e->h.get? b=some o->h'.get? b=some o):Chn h' e d:=by
 induction x with
 | one hd z ne=>exact .one (k _ _ ne hd) z ne
 | more hd z ne _ J=>exact .more (k _ _ ne hd) z ne J
def V5 {h:Heap} {g:Array GenState} {d:Drawn} {t:Nat} {os:OsState} {e:Addr} {od:Option Addr} {z:Array Value} {Q:Bool->Shared->Prop} (J:h.get? C=some (excClassObj nm q C N bs bm hdct sn sub ab col dd k0 k1 k2 k3 k5 newId)) (he:h.get? e=some { cls:=.ref C,dict:=od,data:=.fields z })
 (L:Q false ⟨h,g,d,t,os⟩):wpAny (model prog w) A (isType (.ref e)) Q E ⟨h,g,d,t,os⟩:=by
 unfold isType
 repeat (first | with_reducible refine gk he ?_ | with_reducible refine gk J ?_ | wp_step)
 exact L
def O5 {h:Heap} {g:Array GenState} {d:Drawn} {t:Nat} {os:OsState} {e:Addr} {od:Option Addr} {z:Array Value} {Q:Value->Shared->Prop} (J:h.get? C=some (excClassObj nm q C N bs bm hdct sn sub ab col dd k0 k1 k2 k3 k5 newId)) (he:h.get? e=some { cls:=.ref C,dict:=od,data:=.fields z })
 (L:Q (.ref e) ⟨h,g,d,t,os⟩):wpAny (model prog w) A (raisedInstance (.ref e)) Q E ⟨h,g,d,t,os⟩:=by
 unfold raisedInstance
 repeat (first | with_reducible refine gk he ?_ | with_reducible refine gk J ?_ | wp_step)
 exact L
def aCL {h:Heap} {g:Array GenState} {d:Drawn} {t:Nat} {os:OsState} {e:Addr} {od:Option Addr} {M:Array Value} {m:String} {Q:Value->Shared->Prop} (z:bm.contains (.type "BaseException")=true) (L:h.get? C=some (excClassObj nm q C N bs bm hdct sn sub ab col dd k0 k1 k2 k3 k5 newId)) (he:h.get? e=some { cls:=.ref C,dict:=od,data:=.fields M })
 (U:Q (.ref e) ⟨h,g,d,t,os⟩):wpAny (model prog w) A (excFromValue (.ref e) m) Q E ⟨h,g,d,t,os⟩:=by
 have J:(Value.ref C :: bm).contains (.type "BaseException")=true:=by rw[gz,z,lv]
 unfold excFromValue
 repeat (first | with_reducible refine gk he ?_ | with_reducible refine gk L ?_ | (with_reducible refine jt L ?_;rw[J]) | wp_step)
 exact U
def sU {s:Shared} {env:Env} {x c:Sem Value} {Q:Flow->Shared->Prop} {h0:Addr} (M:bm.contains (.type "BaseException")=true) (hh:A.handled=some (.ref h0)) (hc:∀ {Q:Value->Shared->Prop} {s:Shared},Q .none s->wpAny (model prog w) A c Q E s)
 (h:wpAny (model prog w) A x (λv J=>∃ e od t,v=.ref e/\J.heap.get? C=some (excClassObj nm q C N bs bm hdct sn sub ab col dd k0 k1 k2 k3 k5 newId) /\
  J.heap.get? e=some { cls:=.ref C,dict:=od,data:=.fields #[.ref t,.none,.none,.none,.bool false,.none] }/\Chn J.heap e h0 /\
  ∀ h',(∀ b o,b≠e->J.heap.get? b=some o->h'.get? b=some o)->h'.get? e=some { cls:=.ref C,dict:=od,data:=.fields #[.ref t,.none,.ref h0,.none,.bool true,.none] }->E (.ref e) { J with heap:=h' }) E s) :
 wpAny (model prog w) A (raiseStmt env (some x) (some c)) Q E s:=by
 have az:(Value.ref C :: bm).contains (.type "BaseException")=true:=by rw[gz,M,lv]
 unfold raiseStmt;refine aGT (ew h (λv J aw=>?_) λ_ _ x=>x);obtain⟨e,od,t,rfl,hC,he,hx,hE⟩:=aw;obtain⟨hp,g,d,tk,os⟩:=J;refine aGT (fy (hc (aGT (aGU ?_))));have ne:C≠e:=λz=>by subst z;rw[he]at hC;cases hC
 dsimp only;refine aGT (fy (aCL M hC he ?_));rw[eH (by decide)];refine aGT (aGU ?_);refine aGT (qm he rfl (show 3<6 by decide) ?_);have ax:=aGd (h:=hp) (Obj.mapFields (·.setIfInBounds 3 Value.none)) he rfl;refine aGT (qm ax rfl (show 4<6 by decide) ?_);have L:=aGd (Obj.mapFields (·.setIfInBounds 4 (Value.bool true))) ax rfl;have kp:∀ b o,b≠e->hp.get? b=some o->((hp.update e (Obj.mapFields (·.setIfInBounds 3 Value.none))).update e (Obj.mapFields (·.setIfInBounds 4 (Value.bool true)))).get? b=some o:=λb o n q=>by
  rw[aG0 _ _ n.symm,aG0 _ _ n.symm];exact q
 have U:=kp _ _ ne hC;have Y:=hx.keep kp;generalize ((hp.update e (Obj.mapFields (·.setIfInBounds 3 Value.none))).update e (Obj.mapFields (·.setIfInBounds 4 (Value.bool true))))=ay at L kp U Y ⊢
 replace L:ay.get? e=some { cls:=.ref C,dict:=od,data:=.fields #[.ref t,.none,.none,.none,.bool true,.none] }:=L
 refine aGT (V5 U L ?_);rw[dt (by decide)];refine aGT (O5 U L ?_);refine aGT ?_;unfold setFlight;refine aGT (jk L rfl (show _=some Value.none from rfl) ?_);rw[dt (by decide)];refine aGU ?_;unfold raiseNew;refine aGT (wpAny_handled ?_);rw[hh];dsimp only;rw[eH (by have:=Y.ne;simpa using this)];refine aGT (fy (O4 Y ?_));unfold updateField;refine aGT (aGT (wpAny_load L ?_));show wpAny _ _ (if 2<6 then _ else _) _ _ _;rw[eH (by decide)];refine wpAny_update L ?_;refine wpAny_throw (hE _ (λb o n q=>?_) ?_)
 .rw[aG0 _ _ n.symm];exact kp b o n q
 .exact aGd _ L rfl
def O6 {s:Shared} {env:Env} (F:ExcBaseFacts B newId af ag) {mN:Str->Option Value} {x:Str} {np aa pos pn:Pos} {jn} {args:List Expr} {fI h0:Addr} {oI:Obj} {Q:Flow->Shared->Prop}
 (aw:bm.contains (.type "BaseException")=true) (hh:A.handled=some (.ref h0)) (U:(backTo aa (starEach args env)).any (·.1)=false) (hi:mN "__init__"=some (.ref fI)) (az:oI.cls=.type "function")
 (h:wpAny (model prog w) A (eval (.Name x np) env) (λf Y=>f=.ref C/\wpAny (model prog w) A (evalArgs (.ref C) true (backTo aa (starEach args env)) [])
  (λa J=>a.kw=[]/\a.pos.length<=sizeLine/\J.heap.get? C=some (excClassObj nm q C N bs bm hdct sn sub ab col dd k0 k1 k2 k3 k5 newId)/\J.heap.Ns N mN/\lQ ag bm/\J.heap.get? fI=some oI /\
   ∀ h' e,Heap.MadeExcOf J.heap h' e (.ref C) a.pos->wpAny (model prog w) (A.under (.builtin "type.__call__" ⟨.ref C :: a.pos,[]⟩)) (call (.ref fI) (.ref e :: a.pos)) (λr s'=>r=.none /\
    (s'.heap.get? C=some (excClassObj nm q C N bs bm hdct sn sub ab col dd k0 k1 k2 k3 k5 newId))/\(∃ od t,s'.heap.get? e=some { cls:=.ref C,dict:=od,data:=.fields #[.ref t,.none,.none,.none,.bool false,.none] }/\Chn s'.heap e h0 /\
     ∀ ax,(∀ b o,b≠e->s'.heap.get? b=some o->ax.get? b=some o)->ax.get? e=some { cls:=.ref C,dict:=od,data:=.fields #[.ref t,.none,.ref h0,.none,.bool true,.none] }->E (.ref e) { s' with heap:=ax })) E { J with heap:=h' }) E Y) E s) :
 wpAny (model prog w) A (exec (.Raise (some (.Call (.Name x np) args [] aa)) (some (.Constant .none jn pn)) pos) env) Q E s:=by
 rw[arm_exec_Raise];simp only[evalOpt,Option.map];refine aGT (gw (sU (C:=C) (nm:=nm) (q:=q) (N:=N) (bs:=bs) (bm:=bm) (hdct:=hdct) (sn:=sn) (sub:=sub) (ab:=ab) (col:=col) (dd:=dd) (k0:=k0) (k1:=k1) (k2:=k2) (k3:=k3) (k5:=k5) (newId:=newId) aw hh ?_ (aGT (ew (qw (ew h (λf Y L=>?_) λ_ _ x=>x)) (λv bc ay=>aGT (gw (aGU ay))) λ_ _ x=>x))))
 .intro Q s hq;exact aGT (wpAny_Constant_none (aGT (gw (aGU hq))))
 obtain⟨rfl,L⟩:=L;unfold callWith;refine aGT (fy (ew L (λa J M=>aGT (gw ?_)) λ_ _ x=>x));obtain⟨apos,a_⟩:=a;obtain⟨ba,hlen,hC,hn,T,bb,M⟩:=M;obtain rfl:a_=[]:=ba;obtain⟨hp,g,d,tk,os⟩:=J;simp only[U];refine aGT (qd hC ?_);refine aGT (oN (hrest:=hlen) F T hC hn hi bb az λh' e hm=>ew (M h' e hm) (λr s' ⟨hr,z1,⟨od,vs,z2,z3,z4⟩⟩=>⟨hr,?_⟩) λ_ _ z=>z);refine aGT (fy (wpAny_point (aGU ?_)));exact⟨e,od,vs,rfl,z1,z2,z3,z4⟩
end
open Sem (wp)
def aCM (A:Around):Around:={ A with handled:=none }
abbrev kZ (k:Nat) (A:Around):Prop:=Room k (aCM A)
def Room.h {k:Nat} {A:Around} (r:Room k A):kZ k A:=⟨rfl,r.dp,r.un⟩
def Room.mk' {k:Nat} {A:Around} {v:Option Value} (r:kZ k A):kZ k (A.mark v):=⟨rfl,r.dp,r.un⟩
structure FnOkH (P:Program) (w:World) (K:PySem.W.Frag) (mg:Str->Option Value) (base:Heap) (CX:CXT) (k:Nat) (f:Addr) (fd:FuncData) (ps:List Str) (sp:Sp):Prop where
 len:∀ vs H Q E,sp vs H Q E->vs.length=ps.length
 run:∀ (A:Around) (outer:List Env) (s:Shared) (H:Hp) (args:Args) (us:List Value) (vs:List V) (Q:VK) (E:XK),kZ k A->Env0 P w K mg base A outer s H->BindsTo s fd args (ps.zip us)->Vals vs us->sp vs H Q E ->
  codeAny (model P w) A (.call (.ref f) args) (CR CX outer P w H s Q E) s
def FnOkH.fn {P:Program} {w:World} {K:PySem.W.Frag} {mg:Str->Option Value} {base:Heap} {CX:CXT} {k:Nat} {f:Addr} {fd:FuncData} {ps:List Str} {sp:Sp} (F:FnOkH P w K mg base CX k f fd ps sp):FnOk P w K mg base CX k f fd ps sp :=
 ⟨F.len,λA outer s H args us vs Q E z=>F.run A outer s H args us vs Q E z.h⟩
def cxH (CX:CXT) (P:Program) (w:World) (K:PySem.W.Frag) (mg:Str->Option Value) (base:Heap) (N:List Str) (qual:Str) (scope:Scope) (f:Addr) (cd:Value) (A:Around) (outer:List Env) (s:Shared) (H:Hp) (E:XK):Cx:={ gE CX P w K mg base N qual scope f cd A outer s H E with calm:=false }
def V6 {CX:CXT} {P:Program} {w:World} {K:PySem.W.Frag} {mg:Str->Option Value} {base:Heap} {N ps:List Str} {qual:Str} {scope:Scope} {f:Addr} {cd:Value} {A:Around} {outer:List Env} {s L:Shared} {H:Hp} {E:XK} {us:List Value} {vs:List V}
 (S:FnScope N ps scope) (J:Env0 P w K mg base A outer s H) (M:vs.length=ps.length) (r:Vals vs us)
 (x:InCallC s s.heap.objs.size (bindL (envOfC qual scope s.heap.objs.size f cd).kindOf (ps.zip us) λ_=>none) (cellsFrom (s.heap.objs.size+1) scope.names []) (bindC (envOfC qual scope s.heap.objs.size f cd).kindOf (ps.zip us) λ_=>none) L) :
 Inv (cxH CX P w K mg base N qual scope f cd A outer s H E) [] (eJ N vs) H L:=by
 have I:=qW (CX:=CX) (A:=aCM A) (E:=E) S rfl ⟨J.frames,J.mod,J.bs,J.bsz,J.funs,J.frf,J.hok,J.bare⟩ M r x;have o:=I.ok;exact⟨⟨o.mod,o.kind,o.glob,o.blt,o.above,o.inj,o.has,o.cab,(λz=>by cases z),o.frames,o.stk,o.exf,o.bs,o.bsz,o.noex,o.exfs,o.funs,o.frf⟩,I.os,I.bare,I.base,I.loc,I.cell,I.free,I.freeC,I.pin,I.hok,I.len⟩
def aCN {CX:CXT} {P:Program} {w:World} {K:PySem.W.Frag} {mg:Str->Option Value} {base:Heap} {k:Nat} {f:Addr} {name qual:Str} {params:Arguments} {body:List Stmt} {scope:Scope} {dV kV Y pm z ct oc:Value} {an od:Option Addr}
 {ax:Array (Option Value)} {N ps:List Str} {sp:Sp} (lk:K.lookup f=some ⟨oc,od,.func (PySem.W.fnOf name qual params body scope dV kV Y pm an z ct),ax⟩) (ay:PySem.W.codeIn K z qual=true) (S:FnScope N ps scope)
 (len:∀ vs H Q E,sp vs H Q E->vs.length=ps.length)
 (M:∀ (A:Around) (outer:List Env) (s:Shared) (H:Hp) (vs:List V) (Q:VK) (E:XK),kZ k (A.deeper (envOfC qual scope s.heap.objs.size f z))->sp vs H Q E ->
  ∃ t,PSs (cxH CX P w K mg base N qual scope f z A outer s H E) body t/\t { nx:=λ_ H'=>Q .non H',rt:=Q } (eJ N vs) H) :
 FnOkH P w K mg base CX (k+1) f (PySem.W.fnOf name qual params body scope dV kV Y pm an z ct) ps sp:=by
 refine⟨len,λA outer s H args us vs Q E hr e0 hb r aw=>?_⟩;have hl:=len _ _ _ _ aw;have KX:K.In s.heap:=e0.mod.kin.keeps λb o e=>(e0.bs b o e).1;have az:s.heap.NoLimit:=e0.mod.nolimit.keeps λb o e=>(e0.bs b o e).1;have U:∀ y∈ps.zip us,scope.names.lookup y.1=some .local\/(scope.names.lookup y.1=some .cell/\((cellsFrom (s.heap.objs.size+1) scope.names []).lookup y.1).isSome=true):=λ⟨n,v⟩ hy=>by
  rcases S.par n (mx hy).1 with q | q
  .exact .inl q
  .exact .inr ⟨q,lb _ _ _ (.inl q)⟩
 refine ny (show A.depth<_ from hr.depth) (KX _ _ lk) rfl S.co S.gen rfl (qa KX ay) (hb _ _ _ _ ?_);refine ma S.kind U λenv he s1 x=>?_;subst he;refine⟨az.keeps x.toInCall.keep,ut ?_⟩;obtain⟨t,ht,hq⟩:=M A outer s H vs Q E (hr.deeper _) aw;have I:Inv (cxH CX P w K mg base N qual scope f z A outer s H E) [] (eJ N vs) H s1:=V6 S e0 hl r x;refine ew (ht [] s1 (eJ N vs) H _ I hq) (λfl s' hs=>?_) λe s' hs=>hs;have fin:∀ {L:St} {H':Hp} {v:V} {u:Value},Inv (cxH CX P w K mg base N qual scope f z A outer s H E) [] L H' s'->RelV v u->Q v H'->CE outer P w H s Q u s' :=
  λ{L H' v u} J rv q=>⟨v,H',J.os,J.bare,J.base,J.hok,rv,q⟩
 cases fl with
 | ret u =>
  obtain⟨v,L,H',J,rv,q⟩:=hs;exact fin J rv q
 | next =>
  obtain⟨L,H',J,q⟩:=hs;exact fin (v:=V.non) (u:=Value.none) J rfl q
 | brk =>
  obtain⟨_,_,_,q⟩:=hs;exact False.elim q
 | cont =>
  obtain⟨_,_,_,q⟩:=hs;exact False.elim q
section
variable {P:Program} {w:World} {K:PySem.W.Frag} {mg:Str->Option Value} {base:Heap}
def FunD.okH {x qual:Str} {st:Stmt} {f:Addr} {fd:FuncData} {N ps:List Str} {k:Nat} {sp:Sp} (F:FunD K x qual st f fd) (S:FnScope N ps (aG st)) (len:∀ vs H Q E,sp vs H Q E->vs.length=ps.length)
 (J:∀ (z:Value) (A:Around) (outer:List Env) (s:Shared) (H:Hp) (vs:List V) (Q:VK) (E:XK),kZ k (A.deeper (envOfC qual (aG st) s.heap.objs.size f z))->sp vs H Q E ->
  ∃ t,PSs (cxH CX0 P w K mg base N qual (aG st) f z A outer s H E).nox (aZ st) t/\t { nx:=λ_ H'=>Q .non H',rt:=Q } (eJ N vs) H):FnOkH P w K mg base CX0 (k+1) f fd ps sp:=by
 obtain⟨oc,od,dV,kV,U,pm,an,z,ct,Y,rfl,lk,L⟩:=F.ex;refine aCN lk L S len λA outer s H vs Q E hr M=>?_;obtain⟨t,h,q⟩:=J z A outer s H vs Q E hr M;exact⟨t,h.nox,q⟩
def Fun.okH {x qual:Str} {st:Stmt} {f:Addr} {fd:FuncData} {N ps:List Str} {k:Nat} {sp:Sp} (F:Fun K x qual st f fd) (S:FnScope N ps (aG st)) (len:∀ vs H Q E,sp vs H Q E->vs.length=ps.length)
 (J:∀ (z:Value) (A:Around) (outer:List Env) (s:Shared) (H:Hp) (vs:List V) (Q:VK) (E:XK),kZ k (A.deeper (envOfC qual (aG st) s.heap.objs.size f z))->sp vs H Q E ->
  ∃ t,PSs (cxH CX0 P w K mg base N qual (aG st) f z A outer s H E).nox (aZ st) t/\t { nx:=λ_ H'=>Q .non H',rt:=Q } (eJ N vs) H):FnOkH P w K mg base CX0 (k+1) f fd ps sp:=by
 obtain⟨oc,od,kV,U,pm,an,z,ct,Y,rfl,lk,L⟩:=F.ex;refine aCN lk L S len λA outer s H vs Q E hr M=>?_;obtain⟨t,h,q⟩:=J z A outer s H vs Q E hr M;exact⟨t,h.nox,q⟩
end
section
variable {X:Cx} {CX:CXT} {k:Nat} {f:Addr} {fd:FuncData} {ps:List Str} {sp:Sp} {E:XK}
def m6 {pins:List (Addr×Obj)} {σ:St} {H:Hp} {s:Shared} {Q:VK} {us:List Value} {vs:List V} (F:FnOkH X.prog X.w X.K X.mg X.base CX k f fd ps sp) (J:kZ k X.A) (L:Binds X.K fd ps []) (M:dL CX X E)
 (I:Inv X pins σ H s) (r:Vals vs us) (h:sp (vs++[]) H Q E):wpAny (model X.prog X.w) X.A (call (.ref f) us) (EP X pins σ Q) X.xe s:=by
 have r2:Vals (vs++[]) (us++[]):=r.append .nil;have U:(us++[]).length=ps.length:=by rw[<- r2.length];exact F.len _ _ _ _ h
 refine jx (jp (F.run X.A X.stack s H ⟨us,[]⟩ (us++[]) (vs++[]) Q E J I.env0 (L s us I.kIn U) r2 h) λr s' z=>?_);cases r with
 | error e=>exact M pins σ H s e s' I z
 | ok fl =>
  cases fl with
  | ret u=>exact I.after z
  | next=>exact False.elim z
  | brk=>exact False.elim z
  | cont=>exact False.elim z
def aAH {D fB:Addr} {x:Str} {e:Expr} {es:List Expr} {t:TA} {np apos pos:Pos} {pl:Sem Bool} (B:N8 X.K D fB) (F:FnOkH X.prog X.w X.K X.mg X.base CX k fB fd ps sp) (L:kZ k X.A) (M:Binds X.K fd ps []) (U:dL CX X E)
 (Y:Gl X x) (hm:X.mg x=some (.ref D)) (ha:PA X (e :: es) t) (hdb:(x == ("__debug__":Str))=false:=by decide)
 (hst:starEach (e :: es) X.env=(false,eval e X.env) :: starEach es X.env:=by rfl) (hpl:(backTo pos (starEach es X.env)).any (·.1)=false:=by rfl)
 (ht:eval (.Call (.Attribute (.Name x np) "__init__" apos) (e :: es) [] pos) X.env=(do
  let z <- eval (.Name x np) X.env
  standAt apos.atName
  let (f,first) <- holding [z] (getMethod z "__init__" pl)
  callWith pos f first (backTo pos (starEach (e :: es) X.env)) (backToKw pos (keywordEach [] X.env))):=by rfl) :
 PE X (.Call (.Attribute (.Name x np) "__init__" apos) (e :: es) [] pos) (yI sp [] E t):=by
 intro pins s σ H Q I h;refine jz (pl:=pl) (eL I Y hm ?_ hdb) ht;refine PySem.W.method_cls I.kIn B.ga (PySem.W.cls_value I.kIn B.reads B.find rfl ?_);refine iz (h₀:=X.base) I.ok.mod.kin B.keep (thn (ha pos pins { s with toks:=s.toks+1 } σ H _ (I.tok _) h) λus s1 ⟨vs,H1,J,r,q⟩=>⟨J.kIn,?_⟩) hst hpl;exact m6 F L M U J r q
def aCO (P:Program) (w:World) (K:PySem.W.Frag) (mg:Str->Option Value) (base:Heap) (x:Str) (k:Nat) (ps:List Str) (sp:Sp):Prop :=
 ∃ f fd,FnOkH P w K mg base CX0 k f fd ps sp/\mg x=some (.ref f)/\PySem.W.keepIn K (.ref f)=true/\Binds K fd ps []
def aEa {j:Nat} {x:Str} {p pos:Pos} {e:Expr} {es:List Expr} {t:TA} (F:aCO X.prog X.w X.K X.mg X.base x j ps sp) (J:kZ k X.A) (L:Gl X x) (M:PA X (e :: es) t) (U:j<=k:=by decide) (hdb:(x == ("__debug__":Str))=false:=by decide)
 (he:starEach (e :: es) X.env=(false,eval e X.env) :: starEach es X.env:=by rfl) (hpl:(backTo pos (starEach es X.env)).any (·.1)=false:=by rfl) :
 PE X (.Call (.Name x p) (e :: es) [] pos) (yI sp [] E0 t):=by
 obtain⟨f,fd,G,Y,hk,hb⟩:=F;intro pins s σ H Q I h;refine ib (eL I L Y ?_ hdb);refine iz (h₀:=X.base) I.ok.mod.kin hk (thn (M pos pins s σ H _ I h) λus s1 ⟨vs,H1,z,r,q⟩=>⟨z.kIn,?_⟩) he hpl;exact m6 G (J.mono U) hb eA z r q
end
def zI {M:Model} {A:Around} {E:Value->Shared->Prop} {s:Shared} {base:Heap} {l:List Env} {e:Addr} {cls a0 fl:Value} {fr:Option Addr} {Q:Unit->Shared->Prop}
 (a_:base.StaysIn s.heap) (hl:s.heap.FunFrames base l) (ht:s.heap.TracedAtW base e cls a0 fl)
 (h:∀ h',base.StaysIn h'->h'.FunFrames base l->h'.TracedAtW base e cls a0 (fr.elim .none λf=>rawInt f)->s.heap.UpToSlots h'->Q () { s with heap:=h' }) :
 wpAny M A (setFlight (.ref e) fr) Q E s:=by
 obtain⟨oe,vs,T,oT,ts,he,ax,hd,h1,ay,az,hT,U,h3⟩:=ht;have Y:3<ts.size:=(Array.getElem?_eq_some_iff.mp h3).1;have other:∀ b,b≠T->(s.heap.update T (Obj.mapFields (·.setIfInBounds 3 (fr.elim Value.none λf=>rawInt f)))).get? b=s.heap.get? b :=
  λb J=>aG0 _ _ (gi J)
 have z:∀ b o,s.heap.get? b=some o->(∀ vs,o.data≠.fields vs)->b≠T:=λb o J L q=>by
  rw[q,hT]at J;injection J with J;subst J;exact L ts U
 unfold setFlight;refine aGT (jk he hd h1 ?_);rw[eH (show (Value.ref T != Value.none)=true from by simp)];refine qm hT U Y (h _ (λb o aw=>(other b λq=>by rw[q,ay]at aw;cases aw).trans (a_ b o aw))
  (hl.of_keeps λb o J L=>⟨o,(other b (z b o J L)).trans J,rfl⟩) ?_ λb o J L=>⟨o.slots,(other b (z b o J L)).trans J⟩)
 exact⟨oe,vs,T,_,_,(other e (gi az)).trans he,ax,hd,h1,ay,az,aGd _ hT (Obj.isFreed_of_fields (Obj.data_mapFields U _)),Obj.data_mapFields U _,by simp[Y]⟩
section
variable {X:Cx} {pins:List (Addr×Obj)} {σ:St} {H:Hp} {s:Shared} {E:XK}
def aAI (Bd:Body X) (bq:X.A.frames=some (X.env :: X.outer)) (I:Inv X pins σ H s) {A':Around} {e:Addr} {oe:Obj} {vs:Array Value} {a0:Value} {E2:Value->Value->Shared->Prop} (Y:A'.frames=some (X.env :: X.outer)) (he:s.heap.get? e=some oe) (aw:H e=none) (hold:∀ b o,X.s₀.heap.get? b=some o->b≠e) (hd:oe.data=.fields vs) (h1:vs[1]?=some .none) (h0:vs[0]?=some a0) (ba:Ended H s.heap e) (q:E oe.cls oe.dict H) :
 notedBy (model X.prog X.w) A' X.env (λx s2=>cameBackBy (model X.prog X.w) X.A X.env (λU s3=>wpAny (model X.prog X.w) X.A (leaving X.env U) (λ_ J=>CXR X.prog X.w X.outer X.H₀ X.s₀ E U J) (E2 U) s3) x s2) (.ref e) s:=by
 have bb:s.heap.FunFrames X.base (X.env :: X.outer):=by have:=I.stack;rw[Bd.stk]at this;exact this
 have ax:∀ b o,s.heap.get? b=some o->b≠e->b∉frs X.stack->(PySem.W.hideAll s.heap (e :: frs X.stack)).get? b=some o:=λb o L n1 n2=>ml _ L (by simp[n1,n2]);have bc:s.heap.FunFrames (PySem.W.hideAll s.heap (e :: frs X.stack)) (X.env :: X.outer):=by
  refine ro bb λenv hm a ha=>aGY _ ?_;rw[Bd.stk];exact List.mem_filterMap.mpr ⟨env,hm,ha⟩
 have ay:(PySem.W.hideAll s.heap (e :: frs X.stack)).StaysIn s.heap:=λb o L=>lg _ L;have az:(PySem.W.hideAll s.heap (e :: frs X.stack)).get? e=none:=kd _ (by simp);have w1:wpAny (model X.prog X.w) A' (noteFrame (.ref e) X.env) (λ_ J=>∃ h',J={ s with heap:=h' }/\Heap.NotedW (PySem.W.hideAll s.heap (e :: frs X.stack)) (X.env :: X.outer) e oe.cls a0 (rawInt X.env.locals) s.heap h') (λ_ _=>False) s:=by
  unfold noteFrame;simp only[Bd.fr];refine aGT (jk he hd h1 ?_);rw[dt (by decide)];exact wpAny_entryW Y bc Bd.fr he ay az hd (Array.getElem?_eq_some_iff.mp h1).1 h0 λh' z=>⟨h',rfl,z⟩
 refine ew (dS (fL (.ref e) X.env) w1) (λ_ s2 ⟨⟨h',L,k1,k2,k3,k4⟩,bf⟩=>?_) λ_ _ z=>z.1.elim;subst L;have bg:=k3;obtain⟨br,bt,T,oT,ts,bh,bi,a_,bj,_⟩:=bg;unfold cameBackBy;refine aGT (jk bh a_ bj ?_);rw[dt (show ¬ (Value.ref T == Value.none)=true from by simp)];have w2:=zI (M:=model X.prog X.w) (A:=X.A) (E:=λ_ _=>False) (s:={ s with heap:=h' }) (fr:=X.env.frame) (Q:=λ_ J=>∃ h2,J={ s with heap:=h2 }/\(PySem.W.hideAll s.heap (e :: frs X.stack)).StaysIn h2/\h2.FunFrames (PySem.W.hideAll s.heap (e :: frs X.stack)) (X.env :: X.outer)/\h2.TracedAtW (PySem.W.hideAll s.heap (e :: frs X.stack)) e oe.cls a0 (X.env.frame.elim .none λf=>rawInt f)/\h'.UpToSlots h2) k1 k2 k3 λh2 a b c d=>⟨h2,rfl,a,b,c,d⟩;have fin:wpAny (model X.prog X.w) X.A (setFlight (.ref e) X.env.frame) (λ_ J=>wpAny (model X.prog X.w) X.A (leaving X.env (.ref e)) (λ_ J=>CXR X.prog X.w X.outer X.H₀ X.s₀ E (.ref e) J) (E2 (.ref e)) J) (λU s3=>wpAny (model X.prog X.w) X.A (leaving X.env U) (λ_ J=>CXR X.prog X.w X.outer X.H₀ X.s₀ E U J) (E2 U) s3) { s with heap:=h' }:=by
  refine ew (dS (dN (.ref e) X.env.frame) w2) (λ_ s3 ⟨⟨h2,e2,a1,a2,a3,a4⟩,bn⟩=>?_) λ_ _ z=>z.1.elim;subst e2;rw[Bd.fr]at a3;unfold leaving;refine aGT (rp Bd.fr a3 ?_);have w3:=ux (M:=model X.prog X.w) (A:=X.A) (E:=λ_ _=>False) (s:={ s with heap:=h2 }) (Q:=λ_ J=>∃ h3,J={ s with heap:=h3 }/\Heap.FlyingW (PySem.W.hideAll s.heap (e :: frs X.stack)) (X.env :: X.outer) e oe.cls a0 h3/\h2.UpToSlots h3) ⟨a1,az,a2,a3⟩ λh3 a b=>⟨h3,rfl,a,b⟩;refine ew (dS (dN (.ref e) none) w3) (λ_ s4 ⟨⟨h3,e3,fl,u3⟩,bo⟩=>?_) λ_ _ z=>z.1.elim;subst e3;obtain⟨f1,f2,⟨_,_,f3⟩,f4⟩:=fl;refine A5 Bd I he aw ay (λb u L=>?_) (λb o L hb=>?_) ⟨f1,f2,f3,f4⟩ (Heap.UpToSlots.trans k4 (a4.trans u3)) ((bf.trans bn).trans bo) ba q
  .obtain⟨o,e2⟩:=(I.hok b u L).there;refine⟨o,ax b o e2 (λz=>by rw[z,aw]at L;cases L) λz=>?_⟩;rw[I.stkFree b z]at L;cases L
  .obtain⟨o',e2⟩:=I.base.there b o L (by rw[Bd.ex];simp);have lt:=aG1 L;refine⟨o',ax b o' e2 (hold b o L) λz=>?_⟩
   .rcases Bd.mem.mp z with z | z
    .rw[z]at lt;exact absurd (aGc lt I.ok.above) (ie _)
    .exact hb z
 exact fin
end
def tX (X:Cx) (E:XK):Prop:=∀ (pins:List (Addr×Obj)) (σ:St) (H:Hp) (s:Shared) (v:Option Value) (e:Addr) (oe:Obj) (vs:Array Value) (a0:Value),Inv X pins σ H s->s.heap.get? e=some oe->H e=none->(∀ b o,X.s₀.heap.get? b=some o->b≠e)->oe.data=.fields vs->vs[1]?=some .none->vs[0]?=some a0->Ended H s.heap e->E oe.cls oe.dict H ->
 notedBy (model X.prog X.w) (X.A.mark v) X.env (λx z=>cameBackBy (model X.prog X.w) X.A X.env X.xe x z) (.ref e) s
def aDT {P:Program} {w:World} {K:PySem.W.Frag} {mg:Str->Option Value} {base:Heap} {N:List Str} {qual:Str} {scope:Scope} {f:Addr} {cd:Value} {A:Around} {outer:List Env} {s:Shared} {H:Hp} {E:XK} (z:A.frames=some outer) :
 tX (gE (CXR P w) P w K mg base N qual scope f cd A outer s H E) E:=λpins σ H1 M v e oe vs a0 I he J hold hd h1 h0 L q =>
 aAI (X:=gE (CXR P w) P w K mg base N qual scope f cd A outer s H E) ⟨rfl,rfl,rfl⟩ (ja z) I (ja z) he J hold hd h1 h0 L q
section
variable {X:Cx} {pins:List (Addr×Obj)} {σ:St} {H:Hp} {s s':Shared} {e:Addr} {cls a0:Value} {od:Option Addr} {H':Hp} {B:Heap}
def Fly.kept (f:Fly X.prog X.w X.stack H s e cls a0 od H' B s') {h':Heap} (k:∀ b o,s'.heap.get? b=some o->h'.get? b=some o):Fly X.prog X.w X.stack H s e cls a0 od H' B { s' with heap:=h' }:=by
 obtain⟨f1,f2,M,oe,vs,T,U,ts,he,z,hd,h1,J,L,Y,hr⟩:=f.fl;exact f.turn (t':=s'.toks) ⟨λb o q=>k _ _ (f1 b o q),f2,M.of_keeps λb o q _=>⟨o,k _ _ q,rfl⟩,oe,vs,T,U,ts,k _ _ he,z,hd,h1,J,L,k _ _ Y,hr⟩ (Heap.UpToSlots.of_keeps k) (HD.kept k)
def aAJ (I:Inv X pins σ H s) (f:Fly X.prog X.w X.stack H s e cls a0 od H' B s') {A:Around} {x y:Str} {c1 c2:Value} {b:Bool} {np M tp:Pos} {tc} {Q:Bool->Shared->Prop} {E E':Value->Shared->Prop} (Y:Gl X x) (aw:X.mg x=some c1) (ax:Gl X y) (ay:X.mg y=some c2) (hx:PySem.W.exmAny X.K cls [c1,c2]=some b) (q:∀ J,Fly X.prog X.w X.stack H s e cls a0 od H' B J->Q b J) (az:(x == ("__debug__":Str))=false:=by decide) (a_:(y == ("__debug__":Str))=false:=by decide)
 (hs:starEach [.Name x np,.Name y M] X.env=[(false,eval (.Name x np) X.env),(false,eval (.Name y M) X.env)]:=by rfl) :
 wpAny (model X.prog X.w) A (eval (.Tuple [.Name x np,.Name y M] tc tp) X.env) (λc L=>wpAny (model X.prog X.w) A (excMatches (.ref e) c) Q E L) E' s':=by
 have U:=f.inv I;have gl:∀ {z:Str} {p:Pos} {c:Value} {R:Value->Shared->Prop},Gl X z->X.mg z=some c->(z == ("__debug__":Str))=false->R c s'->wpAny (model X.prog X.w) A (eval (.Name z p) X.env) R E' s':=λhg hm hd hR =>
  jv U.ok.kind hg (mw (by rw[U.ok.glob];exact U.mod.glob.keeps U.bk) hm hR) hd
 refine wpAny_Tuple_spliced ?_;rw[hs];show wpAny _ _ (spliced ((false,eval (.Name x np) X.env) :: (false,eval (.Name y M) X.env) :: backTo tp [])) _ _ s';refine iq (gl Y aw az (iq (gl ax ay a_ ?_)));refine ki ⟨(show 2<=sizeLine by decide),?_⟩;have k:∀ b o,s'.heap.get? b=some o->(s'.heap.push { cls:=.type "tuple",data:=.seq [c1,c2].toArray }).get? b=some o:=λb o z=>aGW _ z;have f':=f.kept k;obtain⟨oe,vs,he,ba,_,_⟩:=f'.fl.first
 have LT:PySem.W.Looks (model X.prog X.w) (s'.heap.push { cls:=.type "tuple",data:=.seq [c1,c2].toArray }) (typeOf (.ref e)) cls:=by
  rw[<- ba];exact(rk he).andThen .now
 exact(PySem.W.exm_tup2 (f'.inv I).kIn LT (aG2 _ rfl) hx).here (q _ f')
def Cx.inY (X:Cx) (e:Addr) (z:Value->Shared->Prop):Cx:={ X with A:=X.A.mark (some (.ref e)),calm:=false,xe:=z }
def Inv.inY {J:Value->Shared->Prop} (I:Inv X pins σ H s):Inv (X.inY e J) pins σ H s:=by
 have o:=I.ok;exact⟨⟨o.mod,o.kind,o.glob,o.blt,o.above,o.inj,o.has,o.cab,(λz=>by cases z),o.frames,o.stk,o.exf,o.bs,o.bsz,o.noex,o.exfs,o.funs,o.frf⟩,I.os,I.bare,I.base,I.loc,I.cell,I.free,I.freeC,I.pin,I.hok,I.len⟩
def Inv.outY {z:Value->Shared->Prop} (o:X.Ok) (I:Inv (X.inY e z) pins σ H s):Inv X pins σ H s:=⟨o,I.os,I.bare,I.base,I.loc,I.cell,I.free,I.freeC,I.pin,I.hok,I.len⟩
end
section
variable {X:Cx} {pins:List (Addr×Obj)} {σ:St} {H:Hp} {s:Shared} {h':Heap} {e:Addr} {φ:Heap->Prop}
def Inv.gone (I:Inv X pins σ H s) (he:H e=some (.ext φ)) {oe:Obj} (k:∀ b o,b≠e->s.heap.get? b=some o->h'.get? b=some o) (hx:h'.get? e=some oe):Inv X pins σ (del H e) { s with heap:=h' }:=by
 have ne:∀ b u,H b=some u->(∀ L,u≠.ext L)->b≠e:=λb u q n z=>by rw[z,he]at q;cases q;exact n _ rfl
 have U:∀ b,H b=none->b≠e:=λb q z=>by rw[z,he]at q;cases q
 have un:Un X.fs [] H (del H e) s.heap h':=⟨λb o q n _ _=>k b o (U b n) q,λb o q n _ _=>⟨o.slots,k b o (U b n) q⟩,λb _ _ n _=>by unfold del;split <;> first | rfl | exact n,
  λb o q _=>by
   by_cases J:b=e
   .rw[J];exact⟨_,hx⟩
   .exact⟨o,k b o J q⟩,
  λb xs q=>by rw[gG (ne b _ q λ_ z=>by cases z)];exact q,λb o u q=>by rw[gG (ne b _ q λ_ z=>by cases z)];exact q,λb ps q=>⟨#[],by rw[gG (ne b _ q λ_ z=>by cases z),q];simp⟩⟩
 exact I.un (t':=s.toks) un λb u q=>by
  by_cases J:b=e
  .rw[J,jR]at q;cases q
  .rw[gG J]at q;have Y:∀ c v,H c=some v->(∀ L,v≠.ext L)->del H e c=some v:=λc v q n=>by rw[gG (ne c v q n)];exact q
   refine(I.hok b u q).stay (λc v M z=>k c v (λz'=>?_) z) (λc z=>Y c _ z λ_ z=>by cases z) λc xs z=>Y c _ z λ_ z=>by cases z
   subst z';rcases M with z1 | z1
   .exact J z1.symm
   .rw[he]at z1;cases z1
end
def aCP (C:Addr) (sp:Sp) (E:XK) (i:Nat) (σ:St) (H:Hp):Prop:=∃ v,σ[i]?=some (some v)/\∀ e,H e=none ->
 sp [.ref e,v] (upd H e (XO C e none)) (λu H2=>u=.non/\∃ od,H2 e=some (XO C e od)/\E (.ref C) od (del H2 e)) E0
section
variable {X:Cx} {C fI:Addr} {fd:FuncData} {ps:List Str} {sp:Sp} {k i:Nat} {E:XK} {n y:Str}
def V7 {pins:List (Addr×Obj)} {σ:St} {H H':Hp} {s s':Shared} {e:Addr} {cls a0:Value} {od:Option Addr} {B:Heap} {np vp aa pn pos:Pos} {jn} {Q:Flow->Shared->Prop} (RX:tX X E) (hx:X.ex=[]) (hc:sT X.K C (some (.ref fI))) (hf:PySem.W.isFn X.K (.ref fI)=true)
 (F:FnOkH X.prog X.w X.K X.mg X.base CX0 k fI fd ps sp) (hr:kZ (k+1) X.A) (hb:Binds X.K fd ps []) (hg:Gl X y) (hm:X.mg y=some (.ref C)) (hN:X.N[i]?=some n) (hv:Vis X.env.scope n)
 (I:Inv X pins σ H s) (f:Fly X.prog X.w X.stack H s e cls a0 od H' B s') (q:aCP C sp E i σ H')
 (hdb:(y == ("__debug__":Str))=false:=by decide) (hd:(n == ("__debug__":Str))=false:=by decide) (bg:(n == ("__classdict__":Str))=false:=by decide)
 (hst:starEach [.Name n vp] X.env=[(false,eval (.Name n vp) X.env)]:=by rfl) :
 wpAny (model X.prog X.w) (X.A.mark (some (.ref e))) (exec (.Raise (some (.Call (.Name y np) [.Name n vp] [] aa)) (some (.Constant .none jn pn)) pos) X.env) Q (notedBy (model X.prog X.w) (X.A.mark (some (.ref e))) X.env λx s2=>cameBackBy (model X.prog X.w) X.A X.env X.xe x s2) s':=by
 obtain⟨v,bh,q⟩:=q;have I':=f.inv I;have J:Inv (X.inY e (notedBy (model X.prog X.w) (X.A.mark (some (.ref e))) X.env λx s2=>cameBackBy (model X.prog X.w) X.A X.env X.xe x s2)) pins σ H' s':=I'.inY;obtain⟨bm,N,nm,qn,bs,hdct,sn,sub,ab,col,dd,k0,k1,k2,k3,k5,mN,hC,bi,hi,T⟩:=hc X.base I.mod.kin;obtain⟨oI,bj,bn⟩:=B8 I.mod.kin hf;have Y:(backTo aa (starEach [Expr.Name n vp] X.env)).any (·.1)=false:=by
  rw[hst];rfl
 refine O6 (C:=C) (nm:=nm) (q:=qn) (N:=N) (bs:=bs) (bm:=bm) (hdct:=hdct) (sn:=sn) (sub:=sub) (ab:=ab) (col:=col) (dd:=dd) (k0:=k0) (k1:=k1) (k2:=k2) (k3:=k3) (k5:=k5) (mN:=mN) (fI:=fI) (oI:=oI) (h0:=e) jw (T PySem.F.excBase_ValueError.hasBase) rfl Y hi bn (eL J hg hm ⟨rfl,?_⟩ hdb);refine jb ?_;show wpAny _ _ (spliced ((false,eval (.Name n vp) X.env) :: backTo aa [])) _ _ s';refine iq (T6 J hN hv bh (λu ru=>ki ?_) hd bg);refine⟨rfl,(show 1<=sizeLine by decide),I'.bk _ _ hC,bi.keeps I'.bk,T,I'.bk _ _ bj,λh' L aw=>?_⟩;have I3:=Inv.newX (C:=C) J aw;have bo:=I'.unthere aw.new;have hq:=q L bo;have r2:Vals [V.ref L,v] ([Value.ref L,u]++[]):=.cons rfl (.cons ru .nil);have hl:([Value.ref L,u]++[]).length=ps.length:=by
  rw[<- r2.length];exact F.len _ _ _ _ hq
 have bq:=hb { s' with heap:=h' } [Value.ref L,u] I3.kIn hl;refine jx (jp (F.run _ X.stack _ _ ⟨[Value.ref L,u],[]⟩ [Value.ref L,u] _ _ E0 (hr.mk'.make C [u] []) (I3.env0.make C [u] []) bq r2 hq) λrr s3 M=>?_);cases rr with
 | error ev=>exact M.elim
 | ok fl =>
  cases fl with
  | ret u3 =>
   obtain⟨w3,H3,br,ay,un,az,rv,ev,bt,ax,q3⟩:=M;subst ev;have I4:=I3.call' br un az ay λb z=>absurd z (by simp);obtain⟨⟨t0,bu⟩,_⟩:=I4.hok L _ ax;have a_:∀ b o,s'.heap.get? b=some o->b≠L:=λb o z1 z2=>by rw[z2,aw.new]at z1;cases z1
   have ba:Ended H3 s3.heap e:=f.ended.to λb o v hn hb bb=>by
    have hH:upd H' L (XO C L none) b=none:=by rw[aF (a_ b o hb)];exact hn
    have hh:=aw.keeps b o hb;have nf:b∉frs X.stack:=λz=>by
     obtain⟨_,o2,bc,bv⟩:=I'.stack.mem z;rw[hb]at bc;cases bc;obtain⟨vs,bw,_⟩:=kG bb;exact bv vs bw
    exact⟨un.free b o hh hH (by simp),un.keep b o hh hH nf (by simp)⟩
   refine⟨rv,I4.bk _ _ hC,bt,t0,bu,ba.chn ax,λbx bf U=>?_⟩;refine RX pins σ (del H3 L) _ (some (.ref e)) L _ _ (.ref t0) ((I4.outY I.ok).gone ax bf U) U jR (λb o z1 z2=>?_) rfl rfl rfl (.more jR U rfl (ba.to λb o v hn hb bb=>?_)) q3
   .obtain⟨o',e2⟩:=I'.base.there b o z1 (by rw[hx];simp);exact a_ b o' e2 z2
   .have nb:b≠L:=λz=>by rw[z,ax]at hn;cases hn
    exact⟨by rw[gG nb];exact hn,bf b o nb hb⟩
  | next=>exact False.elim M
  | brk=>exact False.elim M
  | cont=>exact False.elim M
def aDU {z J:Str} {c1 c2:Value} {p1 p2 tp np M aa pn L pos:Pos} {tc jn} {rest:List ExceptHandler} (RX:tX X E) (hx:X.ex=[]) (hc:sT X.K C (some (.ref fI))) (hf:PySem.W.isFn X.K (.ref fI)=true)
 (F:FnOkH X.prog X.w X.K X.mg X.base CX0 k fI fd ps sp) (hr:kZ (k+1) X.A) (hb:Binds X.K fd ps []) (hg:Gl X y) (hm:X.mg y=some (.ref C)) (hN:X.N[i]?=some n) (hv:Vis X.env.scope n)
 (U:Gl X z) (Y:X.mg z=some c1) (aw:Gl X J) (ax:X.mg J=some c2)
 (hdb:(y == ("__debug__":Str))=false:=by decide) (hd:(n == ("__debug__":Str))=false:=by decide) (ay:(n == ("__classdict__":Str))=false:=by decide)
 (az:(z == ("__debug__":Str))=false:=by decide) (a_:(J == ("__debug__":Str))=false:=by decide)
 (hst:starEach [.Name n M] X.env=[(false,eval (.Name n M) X.env)]:=by rfl) (hs:starEach [.Name z p1,.Name J p2] X.env=[(false,eval (.Name z p1) X.env),(false,eval (.Name J p2) X.env)]:=by rfl) :
 PH X (.ExceptHandler (some (.Tuple [.Name z p1,.Name J p2] tc tp)) none [.Raise (some (.Call (.Name y np) [.Name n M] [] aa)) (some (.Constant .none jn pn)) L] pos :: rest) (λcls _ _ _ σ H=>PySem.W.exmAny X.K cls [c1,c2]=some true/\aCP C sp E i σ H):=λpins H0 s0 σ e cls a0 od H' B s' D I f q=>by
 obtain⟨ba,q⟩:=q;refine wpAny_handleBy_cons (sw (aAJ I f U Y aw ax ba (λs1 f1=>?_) az a_ hs)) (by intro q;cases q);refine codeAny_handlers_suite (zH f1 λs2 f2=>?_);exact mh (V7 RX hx hc hf F hr hb hg hm hN hv I f2 q hdb hd ay hst)
end
end L2
namespace CW
open PySem L2
section
variable {P:Program} {w:World} {K:PySem.W.Frag} {mg:Str->Option Value} {base:Heap}
structure nE (P:Program) (w:World) (K:PySem.W.Frag) (mg:Str->Option Value) (base:Heap) (x:Str) (C:Addr) (ps:List Str) (sp:Sp):Prop where
 m:mg x=some (.ref C)
 i:∃ fI fd,sT K C (some (.ref fI))/\PySem.W.isFn K (.ref fI)=true/\FnOkH P w K mg base CX0 2 fI fd ps sp/\Binds K fd ps []
def aCQ {X:Cx} {C:Addr} {ps:List Str} {sp:Sp} {k i:Nat} {E:XK} {n y z J:Str} {c1 c2:Value} {p1 p2 tp np M aa pn L pos:Pos} {tc jn} {rest:List ExceptHandler} (RX:tX X E) (R:nE X.prog X.w X.K X.mg X.base y C ps sp) (hx:X.ex=[])
 (hr:Room k X.A) (hg:Gl X y) (hN:X.N[i]?=some n) (hv:Vis X.env.scope n)
 (U:Gl X z) (Y:X.mg z=some c1) (aw:Gl X J) (ax:X.mg J=some c2) (hk:3<=k:=by decide)
 (hdb:(y == ("__debug__":Str))=false:=by decide) (hd:(n == ("__debug__":Str))=false:=by decide) (ay:(n == ("__classdict__":Str))=false:=by decide)
 (az:(z == ("__debug__":Str))=false:=by decide) (a_:(J == ("__debug__":Str))=false:=by decide)
 (hst:starEach [.Name n M] X.env=[(false,eval (.Name n M) X.env)]:=by rfl) (hs:starEach [.Name z p1,.Name J p2] X.env=[(false,eval (.Name z p1) X.env),(false,eval (.Name J p2) X.env)]:=by rfl) :
 PH X (.ExceptHandler (some (.Tuple [.Name z p1,.Name J p2] tc tp)) none [.Raise (some (.Call (.Name y np) [.Name n M] [] aa)) (some (.Constant .none jn pn)) L] pos :: rest) (λcls _ _ _ σ H=>PySem.W.exmAny X.K cls [c1,c2]=some true/\aCP C sp E i σ H):=by
 obtain⟨m,fI,fd,h1,h2,h3,h4⟩:=R;exact aDU RX hx h1 h2 h3 (hr.mono hk).h h4 hg m hN hv U Y aw ax hdb hd ay az a_ hst hs
structure aEb (X:cL K mg):Prop where
 laid:PySem.W.exmAny K (.ref X.laid) [.ref X.laid,.ref X.stone]=some true
 stone:PySem.W.exmAny K (.ref X.stone) [.ref X.laid,.ref X.stone]=some true
variable (X:cL K mg) (G:Hc K)
end
end CW
namespace L2
open PySem PySem.Spec PyProof.Rows
section
variable {CX:CXT} {P:Program} {w:World} {K:PySem.W.Frag} {mg:Str->Option Value} {base:Heap} {N:List Str} {qual:Str} {scope:Scope} {f:Addr} {cd:Value} {A:Around} {outer:List Env} {s:Shared} {H:Hp} {E:XK}
def bX:(gE CX P w K mg base N qual scope f cd A outer s H E).nox.K=K:=rfl
def bZ:(gE CX P w K mg base N qual scope f cd A outer s H E).K=K:=rfl
end
def CodeX (c:Addr) (qual:Str):HO:=.ext λh=>∃ z vs t,h.get? c=some z/\z.data=.fields vs/\vs[1]?=some (.str qual t)
def CodeX.mk {P:Program} {w:World} {H:Hp} {h:Heap} {c:Addr} {qual:Str} {z:Obj} {vs:Array Value} {t:Tok} (h1:h.get? c=some z) (h2:z.data=.fields vs) (h3:vs[1]?=some (.str qual t)):ObjOk P w H h c (CodeX c qual) :=
 ⟨⟨z,vs,t,h1,h2,h3⟩,⟨_,h1⟩,λJ g2 ⟨z,vs,t,a,b,d⟩ k=>⟨z,vs,t,k _ a,b,d⟩⟩
section
variable {X:Cx} {pins:List (Addr×Obj)} {σ:St} {H:Hp} {s:Shared}
def Inv.trackX {a:Addr} {φ:Heap->Prop} (I:Inv X pins σ H s) (M:H a=none) (U:ObjOk X.prog X.w (upd H a (.ext φ)) s.heap a (.ext φ)) (Y:∀ o,X.s₀.heap.get? a=some o->X.H₀ a=none->a∉X.ex->False)
 (hl:a≠X.env.locals) (hc:∀ x c,X.env.cells.lookup x=some c->c≠a) (hp:∀ p∈X.pn++pins,p.1≠a):Inv X pins σ (upd H a (.ext φ)) s:=by
 have J:∀ b u,H b=some u->upd H a (.ext φ) b=some u:=λb u q=>by rw[aF (λz=>by rw[z,M]at q;cases q)];exact q
 refine⟨I.ok,I.os,I.bare,⟨I.base.keep,I.base.slot,λb o q n x=>?_,I.base.there,λb xs q=>J b _ (I.base.tups b xs q),λb o u q=>J b _ (I.base.frzs b o u q),λb ps q=>?_⟩,I.loc,I.cell,by rw[aF (gi hl)];exact I.free,λx c q=>by rw[aF (hc x c q)];exact I.freeC x c q,λp q=>?_,λb u q=>?_,I.len⟩
 .by_cases L:b=a
  .subst L;exact(Y o q n x).elim
  .rw[aF L];exact I.base.free b o q n x
 .obtain⟨more,e⟩:=I.base.tbls b ps q;exact⟨more,J b _ e⟩
 .obtain⟨e,n,ne,nf,d⟩:=I.pin p q;exact⟨e,by rw[aF (hp p q)];exact n,ne,nf,d⟩
 .by_cases L:b=a
  .subst L;rw[aE]at q;cases q;exact U
  .rw[aF L]at q;exact(I.hok b u q).stay (λ_ _ _ z=>z) (λc z=>J c _ z) λc xs z=>J c _ z
end
open PySem.W
end L2
namespace L2
open PySem PySem.Spec PyProof.Rows
def LamY (f:Addr) (qual:Str) (params:Arguments) (body:Expr) (scope:Scope) (clos:List (Str×Addr)) (c:Addr):HO:=.ext λh=>∃ pm ctv,h.get? f=some (PySem.W.kla_obj "<lambda>" qual params body scope clos pm c ctv)
def LamY.mk {P:Program} {w:World} {H:Hp} {h:Heap} {f c:Addr} {qual:Str} {params:Arguments} {body:Expr} {scope:Scope} {clos:List (Str×Addr)} {pm ctv:Value} (h1:h.get? f=some (PySem.W.kla_obj "<lambda>" qual params body scope clos pm c ctv)):ObjOk P w H h f (LamY f qual params body scope clos c) :=
 ⟨⟨pm,ctv,h1⟩,⟨_,h1⟩,λz g2 ⟨pm,ctv,a⟩ k=>⟨pm,ctv,k _ a⟩⟩
inductive m7 (qual:Str) (P:Addr) (lpos:Pos) (params:Arguments) (body:Expr) (scope:Scope) (clos:List (Str×Addr)) (H:Hp) (Q:VK):Prop
 | mk (ps:_) (h0_:H P=some (.tbl ps)) (h1_:TriplesOk ps.toList) (h2_:((codeAmong lpos ps.toList=none/\∀ c' f,H c'=none->H f=none->f≠c'->Q (.ref f) (upd (upd (upd H P (.tbl (ps++#[rawInt lpos.line,rawInt lpos.col,.ref c']))) c' (CodeX c' qual)) f (LamY f qual params body scope clos c')))\/(∃ c',codeAmong lpos ps.toList=some (.ref c')/\H c'=some (CodeX c' qual)/\∀ f,H f=none->Q (.ref f) (upd H f (LamY f qual params body scope clos c'))))):m7 qual P lpos params body scope clos H Q
def aFa (qual:Str) (P:Addr) (z:Pos) (params:Arguments) (body:Expr) (scope:Scope) (clos:List (Str×Addr)):TE:=fun σ H Q=>m7 qual P z params body scope clos H Q
section
variable {X:Cx}
def aDV {params:Arguments} {body:Expr} {scope:Scope} {clos:List (Str×Addr)} {L:Pos} {c P:Addr} (Bd:Body X) (Y:X.env.code=.ref c) (hC:PySem.W.CodeHd X.base c P) (bq:nR X.mg X.base) (ay:defaultsOf params X.env=([],[])) (a_:closureFor scope X.env=pure clos) :
 PE X (.Lambda params body scope L) (aFa (X.env.qual++"<lambda>") P L params body scope clos):=by
 intro pins s σ H Q I h;obtain⟨ps,aw,ba,h⟩:=h;have hP:s.heap.get? P=some (PySem.W.tabObj ps):=I.hok P _ aw;obtain⟨bm,ob,b1,b2,b3,b4,b5,b6⟩:=bq;have az:=I.mod.glob.keeps I.bk;have br:mainGlobals≠P:=λz=>by
  obtain⟨o,es,ep,e,hd,_⟩:=az;rw[z,hP]at e;cases e;cases hd
 have bb:bm≠P:=λz=>by
  have e:=I.bk _ _ b3;rw[z,hP]at e;cases e;cases b4
 have bc:bm≠mainGlobals:=λz=>by
  obtain⟨o,es,ep,e,hd,_⟩:=I.mod.glob;rw[z,e]at b3;cases b3;rw[hd]at b6;cases b6
 rcases h with ⟨bt,h⟩ | ⟨c',bu,cf,h⟩
 .refine PySem.W.kla_eval ay (PySem.W.kla_makeFunction (mg:=X.mg) a_ I.ok.glob az Y (hC.keeps I.bk) hP ba bt br ⟨bm,ob,b1,b2,bc,bb,I.bk _ _ b3,b4,b5,b6⟩ λc' ctv h' tk ext ax bf bg bv=>?_);obtain⟨cb,oc,vs,t,e2,bw,bh,bi⟩:=bg;cases e2;generalize bx:PySem.W.kla_obj "<lambda>" (X.env.qual++"<lambda>") params body scope clos ((X.mg "__name__").getD .none) c' ctv=fo;have kp:∀ b o,b≠P->s.heap.get? b=some o->(h'.push fo).get? b=some o:=λb o n e=>aGW _ (ext b o n e);have bj:(h'.push fo).get? P=some (PySem.W.tabObj (ps++#[rawInt L.line,rawInt L.col,.ref c'])):=aGW _ bv;have nP:∀ b,H b=none->b≠P:=λb q z=>by rw[z,aw]at q;cases q
  have nT:∀ b u,H b=some u->(∀ qs,u≠.tbl qs)->b≠P:=λb u q n z=>by rw[z,aw]at q;cases q;exact n _ rfl
  have un:Un X.fs [] H (upd H P (.tbl (ps++#[rawInt L.line,rawInt L.col,.ref c']))) s.heap (h'.push fo):=by
   refine⟨λb o q n _ _=>kp b o (nP b n) q,λb o q n _ _=>⟨o.slots,kp b o (nP b n) q⟩,λb o q n _=>by rw[aF (nP b n)];exact n,λb o q _=>?_,λb xs q=>?_,λb o u q=>?_,λb qs q=>?_⟩
   .by_cases M:b=P
    .rw[M];exact⟨_,bj⟩
    .exact⟨o,kp b o M q⟩
   .rw[aF (nT b _ q λ_ z=>by cases z)];exact q
   .rw[aF (nT b _ q λ_ z=>by cases z)];exact q
   .by_cases M:b=P
    .subst M;rw[aw]at q;cases q;exact⟨_,aE⟩
    .exact⟨#[],by rw[aF M,q];simp⟩
  have hok:HOk X.prog X.w (upd H P (.tbl (ps++#[rawInt L.line,rawInt L.col,.ref c']))) (h'.push fo):=λb u q=>by
   by_cases M:b=P
   .subst M;rw[aE]at q;cases q;exact bj
   .rw[aF M]at q;refine(I.hok b u q).stay (λd v bz z=>kp d v (λz'=>?_) z) (λd z=>by rw[aF (nT d _ z λ_ z=>by cases z)];exact z) λd xs z=>by rw[aF (nT d _ z λ_ z=>by cases z)];exact z
    subst z';rcases bz with z1 | z1
    .exact M z1.symm
    .rw[aw]at z1;cases z1
  have I1:=I.un (t':=tk) un hok;have b_:P<s.heap.objs.size:=aG1 hP;have U:s.heap.objs.size<=h'.objs.size:=g0 ax (ji bf);have bn:∀ b,s.heap.objs.size<=b->upd H P (.tbl (ps++#[rawInt L.line,rawInt L.col,.ref c'])) b=none:=λb M=>by
   rw[aF (aGl (aGc b_ M))];exact I.hok.fresh M
  have bo:h'.objs.size≠c':=aGl bf;have tr:∀ {H':Hp} {b:Addr} {φ:Heap->Prop},Inv X pins σ H' { s with heap:=h'.push fo,toks:=tk }->s.heap.objs.size<=b->H' b=none->ObjOk X.prog X.w (upd H' b (.ext φ)) (h'.push fo) b (.ext φ)->Inv X pins σ (upd H' b (.ext φ)) { s with heap:=h'.push fo,toks:=tk }:=λ{H' b φ} J hb hn ho=>by
   have nw:∀ d o,s.heap.get? d=some o->d≠b:=λd o e z=>by rw[z]at e;exact absurd (aG1 e) (Nat.not_lt.mpr hb)
   refine Inv.trackX J hn ho (λo e _ _=>?_) ?_ (λx d e z=>?_) (λp hp z=>?_)
   .obtain⟨o',e'⟩:=I.base.there b o e (by rw[Bd.ex];simp);exact nw _ _ e' rfl
   .obtain⟨m,⟨o,es,ep,ho,_⟩,_⟩:=I.loc;exact gi (nw _ _ ho)
   .obtain⟨u',o,ho,_⟩:=I.cell x d e;exact nw _ _ ho z
   .exact nw _ _ (I.pin p hp).1 z
  have I2:=tr I1 ax (bn _ ax) (CodeX.mk (P:=X.prog) (w:=X.w) (qual:=X.env.qual++"<lambda>") (aGW _ bw) bh bi);have I3:=tr I2 U (by show upd (upd H P _) c' _ _=none;rw[aF bo];exact bn _ U) (LamY.mk (P:=X.prog) (w:=X.w) (params:=params) (body:=body) (scope:=scope) (clos:=clos) (qual:=X.env.qual++"<lambda>") (c:=c') (pm:=(X.mg "__name__").getD .none) (ctv:=ctv) (by rw[<- bx];exact aG2 _ rfl));exact⟨.ref h'.objs.size,_,I3,rfl,h c' _ (I.hok.fresh ax) (I.hok.fresh U) bo⟩
 .refine PySem.W.kla_eval ay (PySem.W.kla_makeFunctionHit (mg:=X.mg) a_ I.ok.glob az Y (hC.keeps I.bk) hP ba bu ⟨bm,ob,b1,b2,bc,bb,I.bk _ _ b3,b4,b5,b6⟩ λctv h' tk ext U=>?_);exact⟨.ref h'.objs.size,_,I.laid (t':=tk) (λb o e=>aGW _ (ext b o e)) U (LamY.mk (aG2 _ rfl)),rfl,h _ (I.hok.fresh U)⟩
end
structure aFb (X:Cx) (k:Nat) (params:Arguments) (body:Expr) (scope:Scope) (clos:List (Str×Addr)) (NL:List Str) (ix:List Nat) (spL:St->Hp->VK->XK->Prop):Prop where
 src:aBy X scope clos NL ix
 bind:∀ pm c' ctv,bindArgs (PySem.W.kla_fn "<lambda>" (X.env.qual++"<lambda>") params body scope clos pm (.ref c') ctv) ⟨[],[]⟩=pure []
 lam:∀ (f' c':Addr) (σ':St) (A:Around) (outer:List Env) (s:Shared) (H:Hp) (Q:VK) (E:XK),A.frames=some outer->Room k (A.deeper (PySem.W.envX (X.env.qual++"<lambda>") scope s.heap.objs.size f' (.ref c') clos))->spL σ' H Q E ->
  ∃ te,PE (vW (CXR X.prog X.w) X.prog X.w X.K X.mg X.base NL (X.env.qual++"<lambda>") scope f' (.ref c') clos A outer s H E) body te/\te σ' H Q
inductive LamK (X:Cx) (k:Nat) (ix:List Nat) (spL:St->Hp->VK->XK->Prop) (H:Hp) (f:Addr):Prop
 | mk (c:_) (params:_) (body:_) (scope:_) (clos:_) (NL:_) (h0_:aFb X k params body scope clos NL ix spL) (h1_:H f=some (LamY f (X.env.qual++"<lambda>") params body scope clos c)) (h2_:H c=some (CodeX c (X.env.qual++"<lambda>"))) (h3_:f≠c):LamK X k ix spL H f
def LamK.keep {X:Cx} {k:Nat} {ix:List Nat} {z:St->Hp->VK->XK->Prop} {H H':Hp} {f:Addr} (g:∀ b φ,H b=some (.ext φ)->H' b=some (.ext φ)) (h:LamK X k ix z H f):LamK X k ix z H' f:=by
 obtain⟨c,params,body,scope,clos,J,h1,h2,h3,h4⟩:=h;exact⟨c,params,body,scope,clos,J,h1,g _ _ h2,g _ _ h3,h4⟩
def aCR {CX:CXT} {P:Program} {w:World} {K:PySem.W.Frag} {mg:Str->Option Value} {base:Heap} {k:Nat} {f c:Addr} {qual:Str} {params:Arguments} {body:Expr} {scope:Scope} {clos:List (Str×Addr)} {D:List (Addr×Obj)} {N:List Str} {σ:St} (S:N6 N scope clos D σ)
 (hb:∀ pm c' ctv,bindArgs (PySem.W.kla_fn "<lambda>" qual params body scope clos pm (.ref c') ctv) ⟨[],[]⟩=pure [])
 {A:Around} {outer:List Env} {s:Shared} {H:Hp} {Q:VK} {E:XK} (hr:Room (k+1) A) (U:Env0 P w K mg base A outer s H) (hf:H f=some (LamY f qual params body scope clos c)) (hc:H c=some (CodeX c qual)) (hD:aF3 D H s.heap (frs outer))
 (aw:∃ te,PE (vW CX P w K mg base N qual scope f (.ref c) clos A outer s H E) body te/\te σ H Q) :
 codeAny (model P w) A (.call (.ref f) ⟨[],[]⟩) (CR CX outer P w H s Q E) s:=by
 have kp:∀ b o,base.get? b=some o->s.heap.get? b=some o:=λb o e=>(U.bs b o e).1;obtain⟨⟨pm,ctv,a_⟩,_⟩:=U.hok f _ hf;obtain⟨⟨oc,vs,t,ba,hd,hv⟩,_⟩:=U.hok c _ hc;refine PySem.W.kla_callFunE hr.depth a_ rfl S.co S.gen rfl ⟨c,oc,vs,t,rfl,ba,hd,hv⟩ ?_;rw[hb];refine aGU (ou S.nocell (λx z=>absurd z (by simp)) (λY bb az=>⟨((U.mod.nolimit).keeps kp).fresh _ az,?_⟩) S.kind);show codeAny _ _ (.expr body (PySem.W.envX qual scope s.heap.objs.size f (.ref c) clos)) _ _;have L:∀ b o,s.heap.get? b=some o->Y.get? b=some o:=λb o e=>az.extBut b o (aGi (aG1 e)) (aGW _ e);obtain⟨te,ht,hq⟩:=aw;have ax:∀ b:Addr,b∉(vW CX P w K mg base N qual scope f (.ref c) clos A outer s H E).ex:=λb z=>absurd (show b∈([]:List Addr) from z) (by simp);have I:Inv (vW CX P w K mg base N qual scope f (.ref c) clos A outer s H E) [] σ H { s with heap:=Y,toks:=s.toks+([]:List (Str×Value)).length }:=by
  refine⟨⟨U.mod,S.kind,rfl,rfl,ah _,S.inj,λy hy=>?_,(λy c z=>by cases z),λ_=>hr.hd,ja U.frames,.inr ⟨rfl,rfl⟩,λb z=>absurd z (ax b),U.bs,U.bsz,λb _ _=>ax b,λb z=>absurd z (ax b),U.funs,U.frf⟩,
   rfl,U.bare,Un.kept L,⟨_,bb,λi y v h1 h2 h3=>?_⟩,λy c h=>?_,U.hok.fresh (ah _),λy c h=>?_,λp hp=>absurd (show p∈([]:List (Addr×Obj)) from hp) (by simp),U.hok.kept L,S.len⟩
  .have hy:scope.names.lookup y=some .cell\/scope.names.lookup y=some .free:=hy;rcases hy with hy | hy
   .exact absurd rfl (S.nocell _ (ip hy))
   .exact S.has y hy
  .obtain⟨ay,c,o,u,bc,ho,M,rv⟩:=S.vals i y v h1 h2;exact⟨u,rv,.inr ⟨.inr ay,c,bc,o,L _ _ (hD _ ho).1,M⟩⟩
  .obtain⟨o,u,ho,M⟩:=S.cells y c h;exact⟨u,o,L _ _ (hD _ ho).1,M⟩
  .obtain⟨o,u,ho,M⟩:=S.cells y c h;exact(hD _ ho).2.1
 refine PySem.W.kla_codeExpr (ew (ht [] _ σ H _ I hq) (λu s' hs=>?_) λ_ _ hs=>hs);obtain⟨v,H',J,rv,q⟩:=hs;exact⟨v,H',J.os,J.bare,J.base,J.hok,rv,q⟩
def aAK {X:Cx} {pins:List (Addr×Obj)} {σ:St} {H:Hp} {s:Shared} {scope:Scope} {clos:List (Str×Addr)} {NL:List Str} {ix:List Nat} (Bd:Body X) (S:aBy X scope clos NL ix) (I:Inv X pins σ H s) :
 ∃ D,N6 NL scope clos D (aDN ix σ)/\aF3 D H s.heap (frs X.stack):=by
 have cellAt:∀ q∈clos,∃ o u,s.heap.get? q.2=some o/\o.data=.cell u/\H q.2=none/\q.2∉frs X.stack:=λq hq=>by
  obtain⟨hl,aw⟩:=S.sub q hq;obtain⟨u,o,M,J⟩:=I.cell q.1 q.2 hl;refine⟨o,u,M,J,I.freeC _ _ hl,λz=>?_⟩;rcases Bd.mem.mp z with z | z
  .exact I.cne _ _ hl z
  .obtain⟨_,o',ax,_⟩:=I.ok.funs.mem z;exact absurd (aG1 ax) (Nat.not_lt.mpr (I.ok.cab _ _ aw hl))
 let Dc:List (Addr×Obj):=clos.filterMap λq=>(s.heap.get? q.2).map λo=>(q.2,o)
 have memC:∀ q∈clos,∀ o,s.heap.get? q.2=some o->(q.2,o)∈Dc:=λq hq o M=>List.mem_filterMap.mpr ⟨q,hq,by rw[M];rfl⟩;refine⟨Dc,⟨S.kind,S.co,S.gen,S.nocell,λx y c h1 h2=>I.ok.inj x y c (S.sub _ (fU h1)).1 (S.sub _ (fU h2)).1,S.has,λx c h1=>?_,λj x v h1 h2=>?_,by unfold aDN;rw[aGV];exact S.len⟩,λp hp=>?_⟩
 .obtain⟨o,u,M,J,_⟩:=cellAt _ (fU h1);exact⟨o,u,memC _ (fU h1) o M,J⟩
 .obtain⟨i,hi,hN,hv,ay,L⟩:=S.ixs j x h1;have az:σ[i]?=some (some v):=by
   unfold aDN at h2;rw[aGj,hi]at h2;have h2:(σ[i]?).join=some v:=gu h2;cases hs:σ[i]? with
   | none=>rw[hs]at h2;cases h2
   | some w'=>rw[hs]at h2;exact congrArg some h2
  obtain⟨m,_,hl⟩:=I.loc;obtain⟨u,ru,lk⟩:=hl i x v hN az hv;rcases lk with ⟨kl,_⟩ | ⟨_,c2,a_,o,M,J⟩
  .exact absurd kl ay
  .obtain⟨c3,Y⟩:=S.has x L;have U:=(S.sub _ (fU Y)).1;rw[a_]at U;obtain rfl:c2=c3:=gu U;exact⟨L,c2,o,u,Y,memC _ (fU Y) o M,J,ru⟩
 .obtain⟨q,hq,hp⟩:=List.mem_filterMap.mp hp;obtain⟨o,u,M,J,hn,ba⟩:=cellAt q hq;rw[M]at hp;cases hp;exact⟨M,hn,ba⟩
inductive m8 (X:Cx) (k:Nat) (E:XK) (i:Nat) (σ:St) (H:Hp) (Q:VK):Prop
 | mk (f:Addr) (ix:List Nat) (spL:St->Hp->VK->XK->Prop) (h0_:σ[i]?=some (some (.ref f))) (h1_:LamK X k ix spL H f) (h2_:spL (aDN ix σ) H Q E):m8 X k E i σ H Q
def aFc (X:Cx) (k:Nat) (E:XK) (i:Nat):TE:=fun σ H Q=>m8 X k E i σ H Q
def aDW {X:Cx} {k j i:Nat} {x:Str} {np pos:Pos} {E:XK} (Bd:Body X) (U:Room j X.A) (hx:dL (CXR X.prog X.w) X E) (hN:X.N[i]?=some x) (hv:Vis X.env.scope x) (Y:k+1<=j:=by decide) (hd:(x == ("__debug__":Str))=false:=by decide) (J:(x == ("__classdict__":Str))=false:=by decide) :
 PE X (.Call (.Name x np) [] [] pos) (aFc X k E i):=by
 intro pins s σ H Q I h;obtain⟨f,ix,aw,e1,⟨c,params,body,scope,clos,NL,L,hf,hc,ax⟩,q⟩:=h;refine ib (T6 I hN hv e1 (λu ru=>?_) hd J);obtain rfl:u=Value.ref f:=ru;obtain⟨⟨pm,ctv,M⟩,_⟩:=I.hok f _ hf;refine PySem.W.callWith_F0 (first:=[]) ⟨_,_,_,_,M⟩ ?_;obtain⟨D,LS,hD⟩:=aAK Bd L.src I;refine jx (jp (aCR (CX:=CXR X.prog X.w) (Q:=Q) (E:=E) LS L.bind (U.mono Y) I.env0 hf hc hD (L.lam _ _ _ X.A X.stack _ _ _ _ I.ok.frames ((U.mono Y).deeper _) q)) λr s' z=>?_);cases r with
 | error ev=>exact hx pins σ _ _ ev s' I z
 | ok fl =>
  cases fl with
  | ret u=>exact I.after z
  | next=>exact z.elim
  | brk=>exact z.elim
  | cont=>exact z.elim
open PySem.Calls PySem.W
section
variable {prog:Program} {w:World} {A:Around} {E:Value->Shared->Prop} {s:Shared} {K:PySem.W.Frag} {x C:Addr} {ox:Obj} {od:Option Obj}
def aAL {Q:Option Value->Shared->Prop} (X:K.In s.heap) (I:PySem.W.InstAt s.heap x ox C od) (hga:PySem.W.findIn K (.ref C) "__getattribute__"=some (some (.builtin "BaseException.__getattribute__"))) (hk:PySem.W.findIn K (.ref C) "__getattr__"=some none)
 (hs:PySem.W.subIn K (.ref C) (.type "BaseException")=some true) (hf:PySem.W.findObj K C od "__class__"=some (.bind (.builtin "getset_descriptor.__get__") (.builtin "object.__class__"))) (hm:mroIn K C (.type "object")=some true) (h:Q (some (.ref C)) { s with toks:=s.toks+1 }):wpAny (model prog w) A (getAttr? (.ref x) "__class__") Q E s:=by
 have FB:=pz;have L0:=I.type (M:=model prog w);have L1:=PySem.W.looks_find (M:=model prog w) X I hf;have ht:PySem.W.Looks (model prog w) s.heap (isInstance (.ref x) (.type "BaseException")) true:=L0.andThen (uk X hs);have hook:PySem.W.Looks (model prog w) s.heap (hookBefore (.ref C)) none:=qe X (by rw[eH (show onTheHeap (Value.ref C)=true from rfl)];exact hk);obtain⟨hh',g,d,t,os⟩:=s;unfold getAttr? getAttrBy? getAttrBy;refine aGT (wpAny_mkText (aGT (uq (fy (aGT (L0.at (aGT ((jm X hga).at ?_))))))));dsimp only;rw[show (onTheHeap (Value.ref C) && Value.builtin "BaseException.__getattribute__" == Value.builtin "object.__getattribute__")=false from by rw[show (Value.builtin "BaseException.__getattribute__" == Value.builtin "object.__getattribute__")=false from by decide +kernel,ub],dt (by decide)];refine aGT (hook.at (aGT (uq (fy ?_))));unfold callGetattribute;rw[show (false && onTheHeap (Value.builtin "BaseException.__getattribute__"))=false from rfl,dt (by decide)];unfold boundAndCalled;rw[FB.ga.bind];refine aGT (aGU ?_);show wpAny _ _ (call (.builtin "BaseException.__getattribute__") [.ref x,.str "__class__" t]) _ _ _;refine jx ?_;refine ke FB.ga.plain sx ?_;refine @PySem.W.check_slot (model prog w) _ _ ⟨hh',g,d,t+1,os⟩ "BaseException.__getattribute__" "BaseException" "__getattribute__" (.ref x) [.str "__class__" t] [] _ (by decide +kernel) (by decide +kernel) ht (tz (.ref x) (.str "__class__" t)) ?_;refine aGT (aGU (aGT (aGU (aGT (L0.at (aGT (L1.at ?_)))))));show wpAny _ _ (holding [Value.builtin "object.__class__"] (call (.builtin "getset_descriptor.__get__") [.builtin "object.__class__",.ref x,.ref C]) >>= ret) _ _ _;refine aGT (fy (jx (class_get (s:=⟨hh',g,d,t+1,os⟩) (ox:=ox) (od:=od) X I hm ?_)));refine aGU ?_;show wpAny _ _ (handedOut (.ref C)) _ _ _;rw[ow rfl];exact aGU (aGU h)
structure aDX (K:PySem.W.Frag) (C:Addr):Prop where
 ga:PySem.W.findIn K (.ref C) "__getattribute__"=some (some (.builtin "BaseException.__getattribute__"))
 hook:PySem.W.findIn K (.ref C) "__getattr__"=some none
 sub:PySem.W.subIn K (.ref C) (.type "BaseException")=some true
 hd:PySem.W.hasDictIn K C=true
 cl:PySem.W.findIn K (.ref C) "__class__"=some (some (.builtin "object.__class__"))
 gt:specialIn K (.builtin "object.__class__") "__get__"=some (some (.builtin "getset_descriptor.__get__"))
 tk:takesIn K (.builtin "object.__class__")=some true
 mo:mroIn K C (.type "object")=some true
def aCS {o':Obj} (G:aDX K C):KitX K (.ref x) (.ref C) (λh=>PySem.W.InstAt h x ox C (some o')) where
 ty:=λ_ _ _ I=>I.type
 it:=λ_ _ X _=>by
  obtain⟨cdD,hcD,_⟩:=any_some G.hd;unfold clsIn at hcD;split at hcD
  .rename_i c' d' cd' sl' ho
   intro A' Q' E' s' k q;unfold isType loadHead;exact aGT (qf (k _ _ (X _ _ ho)) (aGU q))
  .cases hcD
 ne:=λh tp dd its n sl X htp=>by
  obtain⟨cdD,hcD,_⟩:=any_some G.hd;refine Bool.eq_false_iff.mpr λq=>?_;unfold clsIn at hcD;split at hcD
  .rename_i c' d' cd' sl' ho
   have:=X _ _ ho;have e:C=tp:=by
    have:=eq_of_beq q;cases this;rfl
   rw[e,htp]at this;cases this
  .cases hcD
 ca:=λX I h=>aAL X I G.ga G.hook G.sub (findObj_data (by obtain⟨cd,hc,_⟩:=any_some G.hd;rw[hc];rfl) G.cl G.gt G.tk) G.mo h
end
section
variable {X:Cx}
inductive m9 (K:PySem.W.Frag) (xs:List V) (H:Hp) (Q:VK):Prop
 | mk (e D C dx:Addr) (fs:List (Str×V)) (b:Bool) (h0_:xs=[.ref e,.ref C]) (h1_:H e=some (XH e (.ref D) (some dx))) (h1b_:H dx=some (.xd fs)) (h2_:aDX K D) (h3_:PySem.W.kitOne K (.ref D) (.ref C)=some b) (h4_:Q (.bl b) H):m9 K xs H Q
def bQ (K:PySem.W.Frag) (hK:X.K=K):eK X (.builtin "isinstance") (m9 K):=by
 subst hK;intro pins s σ H xs us Q I r h;obtain⟨e,D,C,dx,fs,b,rfl,he,hx,G,k,q⟩:=h;obtain⟨u,v,rfl,r1,r2⟩:=r.two;obtain rfl:v=Value.ref C:=r2;obtain rfl:u=Value.ref e:=r1;obtain⟨⟨o,vs,ho,M,hdct,L⟩,_⟩:=I.hok e _ he;obtain⟨mA,U,aw⟩:=I.hok dx _ hx;obtain⟨od,Y,hl⟩:=qU U;have J:PySem.W.InstAt s.heap e o D (some od):=⟨ho,M,by unfold PySem.W.notCls;rw[L],by rw[hdct];exact Y⟩;exact kia_one (aCS (ox:=o) (o':=od) G) I.kIn J k (λz=>nomatch z) λtk=>⟨.bl b,H,I.tok tk,rfl,q⟩
end
end L2
namespace L2
open PySem PySem.Spec PyProof.Rows
def wC (J:Pos) {l c:Int} {t1 t2:Tok} {u v:Value}:∀ (n:Nat) (vs:List Value),vs.length<=n->TriplesOk vs->codeAmong J (vs++[.int l t1,.int c t2,v])=some u->codeAmong J vs=some u\/u=v:=by
 intro n;have base:codeAmong J [.int l t1,.int c t2,v]=some u->u=v:=λh=>by
  have h':(if (l == (J.line:Int) && c == (J.col:Int))=true then some v else codeAmong J [])=some u:=h;split at h'
  .cases h';rfl
  .cases h'
 induction n with
 | zero =>
  intro vs L _ h;rw[List.length_eq_zero_iff.mp (Nat.le_zero.mp L)]at h;exact .inr (base h)
 | succ n M =>
  intro vs L ht h
  match vs,ht with
  | [],_=>exact .inr (base h)
  | .int i _ :: .int j _ :: z :: rest,ht =>
   have h':(if (i == (J.line:Int) && j == (J.col:Int))=true then some z else codeAmong J (rest++[.int l t1,.int c t2,v]))=some u:=h;show (if (i == (J.line:Int) && j == (J.col:Int))=true then some z else codeAmong J rest)=some u\/_
   by_cases q:(i == (J.line:Int) && j == (J.col:Int))=true
   .rw[eH q]at h' ⊢;exact .inl h'
   .rw[dt q]at h' ⊢;exact M rest (by simp at L;omega) ht h'
def SameT (P:Addr) (H H':Hp):Prop:=∀ b o,b≠P->H b=some o->H' b=some o
def SameT.refl {P:Addr} {H:Hp}:SameT P H H:=λ_ _ _ e=>e
def SameT.trans {P:Addr} {H H1 H2:Hp} (a:SameT P H H1) (b:SameT P H1 H2):SameT P H H2:=λx o n e=>b x o n (a x o n e)
structure TabT (qual:Str) (P:Addr) (H:Hp):Prop where
 ex:∃ ps,H P=some (.tbl ps)/\TriplesOk ps.toList/\∀ lp v,codeAmong lp ps.toList=some v->∃ c,v=.ref c/\H c=some (CodeX c qual)
def TabT.same {qual:Str} {P:Addr} {H H':Hp} (t:TabT qual P H) (g:∀ b o,H b=some o->H' b=some o):TabT qual P H':=by
 obtain⟨ps,h1,h2,h3⟩:=t.ex;exact⟨ps,g _ _ h1,h2,λz v e=>by obtain⟨c,J,L⟩:=h3 z v e;exact⟨c,J,g _ _ L⟩⟩
def TabT.nil {qual:Str} {P:Addr} {H:Hp} (h:H P=some (.tbl #[])):TabT qual P H:=⟨#[],h,True.intro,λ_ _ e=>nomatch e⟩
def TabT.ne {qual:Str} {P:Addr} {H:Hp} (t:TabT qual P H) {b:Addr} {o:HO} (e:H b=some o) (n:∀ J,o≠.tbl J):b≠P:=λz=>by
 obtain⟨ps,h1,_⟩:=t.ex;rw[z,h1]at e;cases e;exact n _ rfl
def O7 (X:Cx) (P:Addr) (k:Nat) (ix:List Nat) (z:St->Hp->VK->XK->Prop):TE:=fun σ H Q=>TabT (X.env.qual++"<lambda>") P H/\∀ f H',H f=none->SameT P H H'->TabT (X.env.qual++"<lambda>") P H'->LamK X k ix z H' f->Q (.ref f) H'
abbrev sM:=List Nat×(St->Hp->VK->XK->Prop)
def AllK (X:Cx) (k:Nat) (H:Hp) (fs:List Addr) (z:List sM):Prop:=∀ (i:Nat) (p:sM),z[i]?=some p->∃ f,fs[i]?=some f/\LamK X k p.1 p.2 H f
section
variable {X:Cx}
def aDY {params:Arguments} {body:Expr} {scope:Scope} {J:Pos} {c P:Addr} {k:Nat} {clos:List (Str×Addr)} {NL:List Str} {ix:List Nat} {aw:St->Hp->VK->XK->Prop} (Bd:Body X) (M:X.env.code=.ref c) (hC:PySem.W.CodeHd X.base c P) (az:nR X.mg X.base) (ax:defaultsOf params X.env=([],[])) (LF:aFb X k params body scope clos NL ix aw) :
 PE X (.Lambda params body scope J) (O7 X P k ix aw):=by
 intro pins s σ H Q I ⟨T,h⟩;obtain⟨ps,hP,U,hc⟩:=T.ex;have hl:∀ c':Addr,(ps++#[rawInt J.line,rawInt J.col,.ref c']).toList=ps.toList++[rawInt J.line,rawInt J.col,.ref c']:=λc'=>by simp
 refine aDV Bd M hC az ax LF.src.cl pins s σ H Q I ⟨ps,hP,U,?_⟩;cases hq:codeAmong J ps.toList with
 | none =>
  refine .inl ⟨rfl,λc' f Y L ay=>?_⟩;have a_:P≠c':=λe=>by rw[<- e,hP]at Y;cases Y
  have ba:P≠f:=λe=>by rw[<- e,hP]at L;cases L
  have sm:SameT P H (upd (upd (upd H P (.tbl (ps++#[rawInt J.line,rawInt J.col,.ref c']))) c' (CodeX c' (X.env.qual++"<lambda>"))) f (LamY f (X.env.qual++"<lambda>") params body scope clos c')):=λb o n e=>by
   rw[aF (λz=>by rw[z,L]at e;cases e),aF (λz=>by rw[z,Y]at e;cases e),aF n];exact e
  have ec:(upd (upd (upd H P (.tbl (ps++#[rawInt J.line,rawInt J.col,.ref c']))) c' (CodeX c' (X.env.qual++"<lambda>"))) f (LamY f (X.env.qual++"<lambda>") params body scope clos c')) c'=some (CodeX c' (X.env.qual++"<lambda>")):=by rw[aF (gi ay)];exact aE
  refine h f _ L sm ⟨_,by rw[aF ba,aF a_,aE],CW.triples_snoc U (hl c'),λlp v e=>?_⟩ ⟨c',params,body,scope,clos,NL,LF,aE,ec,ay⟩;rw[hl]at e;rcases wC lp _ _ (ah _) U e with e | e
  .obtain⟨c2,e1,e2⟩:=hc lp v e;exact⟨c2,e1,sm _ _ (λz=>by rw[z,hP]at e2;cases e2) e2⟩
  .exact⟨c',e,ec⟩
 | some v =>
  obtain⟨c',rfl,e2⟩:=hc _ _ hq;refine .inr ⟨c',rfl,e2,λf L=>?_⟩;have g:∀ b o,H b=some o->upd H f (LamY f (X.env.qual++"<lambda>") params body scope clos c') b=some o:=λb o e=>by rw[aF (λz=>by rw[z,L]at e;cases e)];exact e
  exact h f _ L (λb o _ e=>g b o e) (T.same g) ⟨c',params,body,scope,clos,NL,LF,aE,g _ _ e2,λz=>by rw[z,e2]at L;cases L⟩
def cQ {params:Arguments} {body:Expr} {scope:Scope} {J:Pos} {c P:Addr} {k:Nat} {clos:List (Str×Addr)} (Y:List Str) (ix:List Nat) {L:St->Hp->VK->XK->Prop} (hC:PySem.W.CodeHd X.base c P) (aw:nR X.mg X.base) (z:X.env.code=.ref c) (cl:closureFor scope X.env=pure clos)
 (lam:∀ (f' c':Addr) (M:St) (A:Around) (outer:List Env) (s:Shared) (H:Hp) (Q:VK) (E:XK),A.frames=some outer->Room k (A.deeper (PySem.W.envX (X.env.qual++"<lambda>") scope s.heap.objs.size f' (.ref c') clos))->L M H Q E ->
  ∃ te,PE (vW (CXR X.prog X.w) X.prog X.w X.K X.mg X.base Y (X.env.qual++"<lambda>") scope f' (.ref c') clos A outer s H E) body te/\te M H Q)
 (Bd:Body X:=by exact⟨rfl,rfl,rfl⟩) (U:defaultsOf params X.env=([],[]):=by rfl) (kind:scope.kind=.function:=by rfl) (co:scope.isCoroutine=false:=by rfl) (gen:scope.isGenerator=false:=by rfl) (nocell:∀ x∈scope.names,x.2≠.cell:=by decide +kernel)
 (sub:∀ q∈clos,X.env.cells.lookup q.1=some q.2/\X.fn q.1=true:=by repeat first | exact CW.fm0 | refine CW.fm1 ⟨rfl,rfl⟩ ?_)
 (has:∀ x,scope.names.lookup x=some .free->∃ c,clos.lookup x=some c:=by exact CW.has_of (by repeat first | exact CW.fm0 | refine CW.fm1 (λ_=>rfl) ?_ | refine CW.fm1 (λh=>nomatch h) ?_))
 (ixs:∀ (j:Nat) (x:Str),Y[j]?=some x->∃ i,ix[j]?=some i/\X.N[i]?=some x/\Vis X.env.scope x/\X.env.kindOf x≠some .local/\scope.names.lookup x=some .free:=by repeat first | exact CW.ix_nil | refine CW.ix_cons ⟨_,rfl,rfl,Or.inr (Or.inl rfl),(show some PySem.NameKind.cell≠some PySem.NameKind.local by decide),rfl⟩ ?_)
 (len:ix.length=Y.length:=by rfl) (bind:∀ pm c' ctv,bindArgs (PySem.W.kla_fn "<lambda>" (X.env.qual++"<lambda>") params body scope clos pm (.ref c') ctv) ⟨[],[]⟩=pure []:=by exact λ_ _ _=>rfl) :
 PE X (.Lambda params body scope J) (O7 X P k ix L):=aDY Bd z hC aw U ⟨⟨kind,co,gen,nocell,cl,sub,has,ixs,len⟩,bind,lam⟩
def LamK.same {k:Nat} {ix:List Nat} {J:St->Hp->VK->XK->Prop} {P:Addr} {H H':Hp} {f:Addr} {qual:Str} (t:TabT qual P H) (g:SameT P H H') (h:LamK X k ix J H f):LamK X k ix J H' f:=h.keep λb φ e=>g b _ (t.ne e λ_ z=>by cases z) e
end
end L2
namespace CW
open PySem L2
def nW:∀ {a b:List Int},a.Perm b->a.Pairwise (·<=·)->b.Pairwise (·<=·)->a=b
 | [],b,h,_,_=>by rw[h.symm.eq_nil]
 | x :: a,[],h,_,_=>by have:=h.eq_nil;cases this
 | x :: a,y :: b,h,L,M=>by
  have z:=List.pairwise_cons.mp L;have J:=List.pairwise_cons.mp M;have U:x∈y :: b:=h.mem_iff.mp aGX;have Y:y∈x :: a:=h.mem_iff.mpr aGX;have e:x=y:=by
   rcases aGx.mp U with q | q
   .exact q
   .rcases aGx.mp Y with r | r
    .exact r.symm
    .have h1:=z.1 y r;have h2:=J.1 x q
     lia
  subst e;rw[nW (List.perm_cons x |>.mp h) z.2 J.2]
end CW
namespace L2
open PySem PySem.Spec PyProof.Rows
end L2
namespace CW
open PySem L2
end CW
namespace L2
open PySem PySem.Spec PyProof.Rows
def cB {X:Cx} {x:Str} {C:Addr} {pos:Pos} (z:Gl X x) (J:X.mg x=some (.ref C)) (hd:(x == ("__debug__":Str))=false:=by decide):PE X (.Name x pos) (tC (.ref C)):=cF z J rfl hd
section
variable {P:Program} {w:World} {K:PySem.W.Frag} {mg:Str->Option Value} {base:Heap}
def _root_.CW.FunC.okX {x qual:Str} {st:Stmt} {f c:Addr} {fd:FuncData} {N ps:List Str} {k:Nat} {sp:Sp} (F:CW.FunC K x qual st f fd c) (S:FnScope N ps (aG st)) (len:∀ vs H Q E,sp vs H Q E->vs.length=ps.length)
 (z:∀ (A:Around) (outer:List Env) (s:Shared) (H:Hp) (vs:List V) (Q:VK) (E:XK),A.frames=some outer->Room k (A.deeper (envOfC qual (aG st) s.heap.objs.size f (.ref c)))->sp vs H Q E ->
  ∃ t,PSs (gE (CXR P w) P w K mg base N qual (aG st) f (.ref c) A outer s H E) (aZ st) t/\t { nx:=λ_ H'=>Q .non H',rt:=Q } (eJ N vs) H):FnOk P w K mg base (CXR P w) (k+1) f fd ps sp:=by
 obtain⟨oc,od,kV,U,pm,an,ct,Y,rfl,lk,J⟩:=F.ex;have G:=aBx (CX:=CXR P w) (P:=P) (w:=w) (mg:=mg) (base:=base) (k:=k) (sp:=λ_ _ vs H Q E=>sp vs H Q E) lk J S (λ_ _ vs H Q E h=>len vs H Q E h) λA outer s H vs Q E L hr M=>z A outer s H vs Q E L hr M;exact⟨λvs H Q E h=>len vs H Q E h,λA outer s H args us vs Q E a b c d e=>G.run A outer s H args us vs Q E a b c d e⟩
end
end L2
namespace CW
open PySem L2
def Same.t {P:Addr} {H H':Hp} (g:Same H H'):SameT P H H':=λb o _ e=>g b o e
open PyProof.Rows
section
variable {P:Program} {w:World} {K:PySem.W.Frag} {mg:Str->Option Value} {base h:Heap} {x c q m:Str} {st:Stmt} {f C I D fB T c':Addr} {fd ao:FuncData} {ps:List Str} {sp:Sp}
structure ErrD (K:PySem.W.Frag) (c q:Str) (st:Stmt) (D C I:Addr) (fd:FuncData):Prop where
 a:PySem.W.nsIn K mainGlobals c=some (some (.ref C))
 x:sT K C (some (.ref I))
 s:hX K C "word"
 f:PySem.W.isFn K (.ref I)=true
 F:FunD K "__init__" q st I fd
 b:Binds K fd ["self","why"] []
def errD {U kV J pm z ct Y:Value} {od L ud:Option Addr} {M us:Array (Option Value)} {ta:Tok} {un:Nat}
 (hb:∀ (u v:Value),∃ k,bindArgs (PySem.W.fnOf "__init__" q (bM st) (aZ st) (aG st) (.ref T) kV J pm L z ct) ⟨[u,v],[]⟩=seqItems? (.ref T) >>= k/\k (some #[.str "" ta])=pure [(("self":Str),u),("why",v)])
 (a:PySem.W.nsIn K mainGlobals c=some (some (.ref C))) (ai:PySem.W.findIn K (.ref C) "__init__"=some (some (.ref I)))
 (l:K.lookup I=some ⟨U,od,.func (PySem.W.fnOf "__init__" q (bM st) (aZ st) (aG st) (.ref T) kV J pm L z ct),M⟩)
 (cd:PySem.W.codeIn K z q=true) (k:PySem.W.keepIn K (.ref I)=true) (lt:K.lookup T=some ⟨Y,ud,.seq #[.str "" ta] un,us⟩)
 (i:PySem.W.isFn K (.ref I)=true) (xi:B7 K C (some (.ref I))=true) (xw:aCC K C D "word"=true) :
 ErrD K c q st D C I (PySem.W.fnOf "__init__" q (bM st) (aZ st) (aG st) (.ref T) kV J pm L z ct) :=
 ⟨a,k9 xi,aCD xw,i,l7 l cd k,λs us kin hl=>match us,hl with
  | [u,v],_=>by
   obtain⟨k,h1,h2⟩:=hb u v;exact PySem.W.binds_K (T:=T) kin rfl lt rfl h1 h2⟩
def ErrD.mm (E:ErrD K c q st D C I fd) (X:K.In h) (G:h.Ns mainGlobals mg):mg c=some (.ref C):=ik X G E.a
def ErrD.r (E:ErrD K c q st D C I fd) (X:K.In h) (G:h.Ns mainGlobals mg) (o:FnOk P w K mg base CX0 2 I fd ["self","why"] sp):RaisesAs P w K mg base c C ["self","why"] sp:=⟨E.mm X G,I,fd,E.x,E.f,o,E.b⟩
structure ErrA (K:PySem.W.Frag) (c q:Str) (st:Stmt) (D C I:Addr) (fd:FuncData):Prop where
 a:PySem.W.nsIn K mainGlobals c=some (some (.ref C))
 x:sT K C (some (.ref I))
 s:hX K C "word"
 t:hX K C "at"
 f:PySem.W.isFn K (.ref I)=true
 F:Fun K "__init__" q st I fd
 b:Binds K fd ["self","at"] []
def errA {U kV J pm z ct:Value} {od L:Option Addr} {M:Array (Option Value)}
 (Y:∀ (kV J pm:Value) (L:Option Addr) (z ct u v:Value),bindArgs (PySem.W.fnOf "__init__" q (bM st) (aZ st) (aG st) .none kV J pm L z ct) ⟨[u,v],[]⟩=pure [(("self":Str),u),("at",v)])
 (a:PySem.W.nsIn K mainGlobals c=some (some (.ref C))) (ai:PySem.W.findIn K (.ref C) "__init__"=some (some (.ref I)))
 (l:K.lookup I=some ⟨U,od,.func (PySem.W.fnOf "__init__" q (bM st) (aZ st) (aG st) .none kV J pm L z ct),M⟩)
 (cd:PySem.W.codeIn K z q=true) (k:PySem.W.keepIn K (.ref I)=true)
 (i:PySem.W.isFn K (.ref I)=true) (xi:B7 K C (some (.ref I))=true) (xw:aCC K C D "word"=true) (xa:aCC K C D "at"=true) :
 ErrA K c q st D C I (PySem.W.fnOf "__init__" q (bM st) (aZ st) (aG st) .none kV J pm L z ct) :=
 ⟨a,k9 xi,aCD xw,aCD xa,i,uT l cd k,(uT l cd k).binds2 Y⟩
def ErrA.mm (E:ErrA K c q st D C I fd) (X:K.In h) (G:h.Ns mainGlobals mg):mg c=some (.ref C):=ik X G E.a
def ErrA.r (E:ErrA K c q st D C I fd) (X:K.In h) (G:h.Ns mainGlobals mg) (o:FnOk P w K mg base CX0 2 I fd ["self","at"] sp):RaisesAs P w K mg base c C ["self","at"] sp:=⟨E.mm X G,I,fd,E.x,E.f,o,E.b⟩
def ErrA.rH (E:ErrA K c q st D C I fd) (X:K.In h) (G:h.Ns mainGlobals mg) (o:FnOkH P w K mg base CX0 2 I fd ["self","at"] sp):nE P w K mg base c C ["self","at"] sp:=⟨E.mm X G,I,fd,E.x,E.f,o,E.b⟩
structure aFd (K:PySem.W.Frag) (q:Str) (st:Stmt) (C I:Addr) (fd:FuncData):Prop where
 a:PySem.W.nsIn K mainGlobals "CreelError"=some (some (.ref C))
 o:N8 K C I
 F:FunD K "__init__" q st I fd
 b:Binds K fd ["self","why","word"] []
def errT {U kV J pm z ct Y:Value} {od L ud:Option Addr} {M us:Array (Option Value)} {ta tb:Tok} {un:Nat}
 (hb:∀ (u v w:Value),∃ k,bindArgs (PySem.W.fnOf "__init__" q (bM st) (aZ st) (aG st) (.ref T) kV J pm L z ct) ⟨[u,v,w],[]⟩=seqItems? (.ref T) >>= k/\k (some #[.str "" ta,.str "CreelError" tb])=pure [(("self":Str),u),("why",v),("word",w)])
 (a:PySem.W.nsIn K mainGlobals "CreelError"=some (some (.ref C))) (ai:PySem.W.findIn K (.ref C) "__init__"=some (some (.ref I)))
 (l:K.lookup I=some ⟨U,od,.func (PySem.W.fnOf "__init__" q (bM st) (aZ st) (aG st) (.ref T) kV J pm L z ct),M⟩)
 (cd:PySem.W.codeIn K z q=true) (k:PySem.W.keepIn K (.ref I)=true) (lt:K.lookup T=some ⟨Y,ud,.seq #[.str "" ta,.str "CreelError" tb] un,us⟩)
 (g1:PySem.W.specialIn K (.ref C) "__getattribute__"=some (some (.builtin "type.__getattribute__"))) (g2:PySem.W.readsIn K C (.type "type")=true) (g3:PySem.W.findCls K (.ref C) (.type "type") "__init__"=some (.val (.ref I))) :
 aFd K q st C I (PySem.W.fnOf "__init__" q (bM st) (aZ st) (aG st) (.ref T) kV J pm L z ct) :=
 ⟨a,⟨g1,g2,g3,k⟩,l7 l cd k,λs us kin hl=>match us,hl with
  | [u,v,w],_=>by
   obtain⟨k,h1,h2⟩:=hb u v w;exact PySem.W.binds_K (T:=T) kin rfl lt rfl h1 h2⟩
def _root_.L2.MethIn.atX {ps:List Str} {k:Nat} {sp:Sp} (D:MethIn K C m q st f fd) (b:Binds K fd ps []) (o:FnOk P w K mg base (CXR P w) k f fd ps sp):bN P w K mg base C m k ps sp:=⟨f,fd,o,D.me,b⟩
def _root_.L2.DAt.refX {ps:List Str} {k:Nat} {sp:Sp} (D:DAt P w base K mg x ps f fd) (o:FnOk P w K mg base (CXR P w) k f fd ps sp):oP P w K mg base f k ps sp:=⟨fd,o,D.k,D.b⟩
def _root_.L2.DAt.fh {ps:List Str} {k:Nat} {sp:Sp} (D:DAt P w base K mg x ps f fd) (o:FnOkH P w K mg base CX0 k f fd ps sp):aCO P w K mg base x k ps sp:=⟨f,fd,o,D.m,D.k,D.b⟩
def _root_.L2.DefC.d5 (D:DefC K x st f fd c') (P:Program) (w:World) (base:Heap) (X:K.In h) (G:h.Ns mainGlobals mg) {ps:List Str} (b:Binds K fd ps []):DAt P w base K mg x ps f fd:=D.D.d5 P w base X G b
end
section
variable {K:PySem.W.Frag} {mg:Str->Option Value}
def aCT (K:PySem.W.Frag) (C:Addr):Bool:=PySem.W.findIn K (.ref C) "__getattribute__" == some (some (.builtin "BaseException.__getattribute__")) && PySem.W.findIn K (.ref C) "__getattr__" == some none && PySem.W.subIn K (.ref C) (.type "BaseException") == some true && PySem.W.hasDictIn K C && PySem.W.findIn K (.ref C) "__class__" == some (some (.builtin "object.__class__")) && PySem.W.specialIn K (.builtin "object.__class__") "__get__" == some (some (.builtin "getset_descriptor.__get__")) && PySem.W.takesIn K (.builtin "object.__class__") == some true && PySem.W.mroIn K C (.type "object") == some true
def aEc {C:Addr} (h:aCT K C=true):aDX K C:=by
 simp only[aCT,gf,qy]at h;exact⟨h.1.1.1.1.1.1.1,h.1.1.1.1.1.1.2,h.1.1.1.1.1.2,h.1.1.1.1.2,h.1.1.1.2,h.1.1.2,h.1.2,h.2⟩
def O8 (f:Nat->Addr->Bool):Nat->List Addr->Bool
 | _,[]=>true
 | n,a :: l=>f n a && O8 f (n+1) l
def rJ {f:Nat->Addr->Bool}:∀ {n:Nat} {l:List Addr},O8 f n l=true->∀ (i:Nat) (a:Addr),l[i]?=some a->f (n+i) a=true
 | _,[],_,i,a,e=>by cases i <;> cases e
 | n,b :: l,h,i,a,e=>by
  rw[O8,gf]at h;cases i with
  | zero=>cases e;exact h.1
  | succ i =>
   have:=rJ h.2 i a e
   rwa [show n+1+i=n+(i+1)by lia]at this
def wD (o:Option Bool) (b:Bool):Bool:=match o with | some c=>c == b | none=>false
def lS {o:Option Bool} {b:Bool} (h:wD o b=true):o=some b:=by
 unfold wD at h;split at h
 .rw[beq_iff_eq.mp h]
 .cases h
def aDZ {i j:Nat}:Nat.beq i j=decide (i=j):=by
 cases h:Nat.beq i j with
 | true=>exact(aGh (Nat.eq_of_beq_eq_true h)).symm
 | false=>exact(aGg (Nat.ne_of_beq_eq_false h)).symm
end
end CW
namespace L2
open PySem PySem.Spec PyProof.Rows
open Sem (wp)
section
variable {prog:Program} {w:World} {A:Around} {E:Value->Shared->Prop} {h:Heap} {g:Array GenState} {d:Drawn} {t:Nat} {os:OsState}
variable {nm q:Str} {C N:Addr} {bs bm ag:List Value} {hdct:Bool} {sn:List Str} {sub:List Value} {ab:Bool} {col:Option Bool} {dd:Option Addr} {k0 k1 k2 k3 k5:Option Value} {B newId af:String}
def V8 {s:Shared} {env:Env} (F:ExcBaseFacts B newId af ag) {mN:Str->Option Value} {x:Str} {np aa:Pos} {args:List Expr} {fI:Addr} {oI:Obj} {Q:Value->Shared->Prop}
 (U:(backTo aa (starEach args env)).any (·.1)=false) (hi:mN "__init__"=some (.ref fI)) (aw:oI.cls=.type "function")
 (h:wpAny (model prog w) A (eval (.Name x np) env) (λf Y=>f=.ref C/\wpAny (model prog w) A (evalArgs (.ref C) true (backTo aa (starEach args env)) [])
  (λa J=>a.kw=[]/\a.pos.length<=sizeLine/\J.heap.get? C=some (excClassObj nm q C N bs bm hdct sn sub ab col dd k0 k1 k2 k3 k5 newId)/\J.heap.Ns N mN/\lQ ag bm/\J.heap.get? fI=some oI /\
   ∀ h' e,Heap.MadeExcOf J.heap h' e (.ref C) a.pos->wpAny (model prog w) (A.under (.builtin "type.__call__" ⟨.ref C :: a.pos,[]⟩)) (call (.ref fI) (.ref e :: a.pos)) (λr s'=>r=.none/\Q (.ref e) s') E { J with heap:=h' }) E Y) E s) :
 wpAny (model prog w) A (eval (.Call (.Name x np) args [] aa) env) Q E s:=by
 refine qw (ew h (λf Y L=>?_) λ_ _ x=>x);obtain⟨rfl,L⟩:=L;unfold callWith;refine aGT (fy (ew L (λa J M=>aGT (gw ?_)) λ_ _ x=>x));obtain⟨apos,ax⟩:=a;obtain⟨ay,hlen,hC,hn,T,az,M⟩:=M;obtain rfl:ax=[]:=ay;obtain⟨hp,g,d,tk,os⟩:=J;simp only[U];refine aGT (qd hC ?_);refine aGT (oN (hrest:=hlen) F T hC hn hi az aw λh' e hm=>ew (M h' e hm) (λr s' ⟨hr,z3⟩=>⟨hr,?_⟩) λ_ _ z=>z);exact aGT (fy (wpAny_point (aGU z3)))
end
section
variable {X:Cx}
def aCU (C:Addr) (sp:Sp) (t:TA):TE:=fun σ H Q=>t σ H λvs H1=>vs.length<=sizeLine/\∀ e,H1 e=none ->
 sp (.ref e :: vs) (upd H1 e (XO C e none)) (λv H2=>v=.non/\Q (.ref e) H2) E0
def aCV {C fI:Addr} {fd:FuncData} {ps:List Str} {sp:Sp} {k:Nat} {x:Str} {e:Expr} {es:List Expr} {t:TA} {np aa:Pos} (hc:sT X.K C (some (.ref fI)))
 (hf:PySem.W.isFn X.K (.ref fI)=true) (F:FnOk X.prog X.w X.K X.mg X.base CX0 k fI fd ps sp) (hr:Room (k+1) X.A) (hb:Binds X.K fd ps [])
 (hg:Gl X x) (hm:X.mg x=some (.ref C)) (ha:PA X (e :: es) t) (hdb:(x == ("__debug__":Str))=false:=by decide)
 (he:starEach (e :: es) X.env=(false,eval e X.env) :: starEach es X.env:=by rfl) (hpl:(backTo aa (starEach es X.env)).any (·.1)=false:=by rfl):PE X (.Call (.Name x np) (e :: es) [] aa) (aCU C sp t):=by
 intro pins s σ H Q I h;obtain⟨bm,N,nm,q,bs,hdct,sn,sub,ab,col,dd,k0,k1,k2,k3,k5,mN,hC,hN,hi,T⟩:=hc X.base I.mod.kin;obtain⟨oI,ax,ay⟩:=B8 I.mod.kin hf;have J:(backTo aa (starEach (e :: es) X.env)).any (·.1)=false:=by
  rw[he];show (false || (backTo aa (starEach es X.env)).any (·.1))=false;rw[hpl];rfl
 refine V8 (C:=C) (nm:=nm) (q:=q) (N:=N) (bs:=bs) (bm:=bm) (hdct:=hdct) (sn:=sn) (sub:=sub) (ab:=ab) (col:=col) (dd:=dd) (k0:=k0) (k1:=k1) (k2:=k2) (k3:=k3) (k5:=k5) (mN:=mN) (fI:=fI) (oI:=oI) jw J hi ay (eL I hg hm ⟨rfl,?_⟩ hdb);have M:=ha aa pins s σ H _ I h;rw[he]at M ⊢;refine jb (thn M λus s2 ⟨vs,H2,U,r,hz,q2⟩=>?_);refine⟨rfl,by have:=r.length;show us.length<=_;lia,U.bk _ _ hC,hN.keeps U.bk,T,U.bk _ _ ax,λh' L Y=>?_⟩;have I3:=Inv.newX (C:=C) U Y;have hq:=q2 L (U.unthere Y.new);have r2:Vals (V.ref L :: (vs++[])) (Value.ref L :: (us++[])):=.cons rfl (r.append .nil);rw[gv,gv]at r2;have hl:((Value.ref L :: us)++[]).length=ps.length:=by
  rw[gv,<- r2.length];exact F.len _ _ _ _ hq
 have aw:=hb { s2 with heap:=h' } (Value.ref L :: us) I3.kIn hl;rw[gv]at aw;refine jx (jp (F.run _ X.stack _ _ ⟨Value.ref L :: us,[]⟩ (Value.ref L :: us) _ _ E0 (hr.make C us []) (I3.env0.make C us []) aw r2 hq) λrr s' z=>?_);cases rr with
 | error ev=>exact z.elim
 | ok fl =>
  cases fl with
  | ret u =>
   obtain⟨v,H',I4,rv,ev,q3⟩:=I3.after z;subst ev;exact⟨rv,V.ref L,H',I4,rfl,q3⟩
  | next=>exact False.elim z
  | brk=>exact False.elim z
  | cont=>exact False.elim z
inductive n4 (K:PySem.W.Frag) (f:Str) (Q:VK) (x:V) (H1:Hp):Prop
 | mk (a C dx:Addr) (fs:List (Str×V)) (v:V) (h0_:x=.ref a) (h1_:H1 a=some (XO C a (some dx))) (h2_:H1 dx=some (.xd fs)) (h3_:sL K C f) (h4_:fs.lookup f=some v) (h5_:Q v H1):n4 K f Q x H1
def aDj (K:PySem.W.Frag) (ta:TE) (f:Str):TE:=fun σ H Q=>ta σ H λx H1=>n4 K f Q x H1
def aD0 {X:Cx} {e:Expr} {ta:TE} {f:Str} {pos:Pos} (he:PE X e ta) (hb:attributeBase e f X.env (eval e X.env)=eval e X.env):PE X (.Attribute e f pos) (aDj X.K ta f):=by
 intro pins s σ H Q I h;refine Z1 hb (thn (he pins s σ H _ I h) λu s1 ⟨x,H1,z,rx,a,C,dx,fs,v,ex,ea,ed,G,l,q⟩=>?_);subst ex;obtain rfl:u=Value.ref a:=rx;obtain⟨⟨t0,ho⟩,_⟩:=z.hok a _ ea;obtain⟨mA,L,M⟩:=z.hok dx _ ed;obtain⟨od,U,hl⟩:=qU L;obtain⟨u,hu,Y⟩:=RelO.some_of (v:=v) (o:=mA f) (by rw[<- l];exact M f);have J:PySem.W.InstAt s1.heap a _ C (some od):=⟨ho,rfl,rfl,U⟩;exact aDO z.kIn J G.ga G.hook G.sub (uf G.hd G.free rfl (by rw[hl,hu])) (yG Y) ⟨v,H1,z.tok _,Y,q⟩
def lT (K:PySem.W.Frag) (z:X.K=K) {e:Expr} {ta:TE} {f:Str} {pos:Pos} (he:PE X e ta) (J:attributeBase e f X.env (eval e X.env)=eval e X.env):PE X (.Attribute e f pos) (aDj K ta f):=by
 subst z;exact aD0 he J
def lU {C:Addr} {ps:List Str} {sp:Sp} {k:Nat} {x:Str} {e:Expr} {es:List Expr} {t:TA} {np aa:Pos} (R:CW.RaisesAs X.prog X.w X.K X.mg X.base x C ps sp) (z:Room k X.A) (J:Gl X x) (L:PA X (e :: es) t) (M:3<=k:=by decide) (hdb:(x == ("__debug__":Str))=false:=by decide)
 (he:starEach (e :: es) X.env=(false,eval e X.env) :: starEach es X.env:=by rfl) (hpl:(backTo aa (starEach es X.env)).any (·.1)=false:=by rfl):PE X (.Call (.Name x np) (e :: es) [] aa) (aCU C sp t):=by
 obtain⟨U,fI,fd,Y,hf,F,hb⟩:=R;exact aCV Y hf F (z.mono M) hb J U L hdb he hpl
end
end L2
namespace CW
open PySem L2 PyProof.Rows
section
variable {K:PySem.W.Frag} {mg:Str->Option Value}
structure qB where
 trains:Addr
 sizes:Addr
 number:Addr
 text:Addr
variable (X:cL K mg) (T:qB)
def wE:List Addr:=[X.many,X.row,X.creel,T.trains,T.sizes,T.number,X.near,X.bare,X.name,X.taken,X.full,X.road,X.laid,X.stone,X.entry,X.walk,X.clash,X.left,T.text]
def aFe:List Str:=["TooMany","BadRow","BadCreel","BadTrains","BadSizes","BadNumber","TooNear","Bare","BadName","Taken","Full","NoRoad","Laid","NoStone","NoEntry","NotWalk","Clash","NothingLeft","BadText"]
structure n5:Prop where
 m:∀ (i:Nat) {x:Str} {c:Addr},aFe[i]?=some x->(wE X T)[i]?=some c->mg x=some (.ref c)
 isi:∀ c∈wE X T,aDX K c
 kit:∀ (i j:Nat) (a b:Addr),(wE X T)[i]?=some a->(wE X T)[j]?=some b->PySem.W.kitOne K (.ref a) (.ref b)=some (decide (j=i))
 kv:∀ c∈wE X T,PySem.W.kitOne K (.ref c) (.type "ValueError")=some true
 exe:∀ c∈wE X T,PySem.W.exmOne K (.ref c) (.ref X.err)=some true
def flB (i n j:Nat):List V:=(List.range' i n).map λk=>V.bl (decide (k=j))
def tY (i n m j:Nat):flB i n j++flB (i+n) m j=flB i (n+m) j:=by
 unfold flB;rw[<- aGa,List.range'_append_1]
def aD1 (i n j:Nat):(flB i n j).length=n:=by
 unfold flB;rw[aGV,List.length_range']
inductive C6 (vs:List V) (H:Hp) (Q:VK) (E_:XK):Prop
 | mk (e c dx:Addr) (fs:List (Str×V)) (j:Nat) (h0_:vs=[.ref e]) (h1_:(wE X T)[j]?=some c) (h2_:H e=some (XH e (.ref c) (some dx))) (h3_:H dx=some (.xd fs)) (h4_:∀ l H',Same H H'->H' l=some (.lst (flB 0 19 j))->Q (.ref l) H'):C6 vs H Q E_
abbrev V9:Str:=("_law_call":Str)++".<locals>."++"<lambda>"
inductive C7 (P:Addr) (vs:List V) (H:Hp) (Q:VK) (E:XK):Prop
 | mk (k:Nat) (n:Int) (h0_:vs=[.int k,.int n]) (h1_:k<19) (h2_:0<=n) (h3_:n<9967) (h4_:TabT V9 P H)
  (h5_:∀ c fs H',(wE X T)[k]?=some c->SameT P H H'->TabT V9 P H'->Rf E c fs H'):C7 P vs H Q E
inductive wF (P:Addr) (vs:List V) (H:Hp) (Q:VK) (E_:XK):Prop
 | mk (k:Nat) (n:Int) (h0_:vs=[.int k,.int n]) (h1_:k<19) (h2_:0<=n) (h3_:n<9967) (h4_:TabT V9 P H)
  (h5_:∀ l H',SameT P H H'->TabT V9 P H'->H l=none->H' l=some (.lst (flB 0 19 k++[.bl true]))->Q (.ref l) H'):wF P vs H Q E_
def aD2 {q:Str} {P l:Addr} {H H':Hp} (g:SameT P H H') (t:TabT q P H') (h:H' l=none):H l=none:=by
 cases e:H l with
 | none=>rfl
 | some o =>
  by_cases z:l=P
  .obtain⟨ps,h1,_⟩:=t.ex;rw[z,h1]at h;cases h
  .rw[g _ _ z e]at h;cases h
def C8 {i:Int} (h0:0<=i) (h1:i<9967):vX i:=by
 obtain⟨n,rfl⟩:∃ n:Nat,i=(n:Int):=⟨i.toNat,by lia⟩;refine⟨?_,g0 (PyProof.Rows.toString_length_le (v:=(n:Int)) (by omega) (k:=4) (by decide) (by omega)) (by decide)⟩;show n.log2<1920
 by_cases z:n=0
 .subst z;decide
 .exact aGc ((Nat.log2_lt z).mpr (show n<2 ^ 14 by omega)) (by decide)
def mkI {C:Addr} {nm:Str} {i:Int} {H:Hp} {Q:VK} (hi:vX i) (L:∀ e dx H2,Same H H2->H2 e=some (XO C e (some dx))->H2 dx=some (.xd [("at",.int i),("word",.str nm)])->Q (.ref e) H2) :
 [V.int i].length<=sizeLine/\∀ e,H e=none->V4 nm C (.ref e :: [V.int i]) (upd H e (XO C e none)) (λv H2=>v=.non/\Q (.ref e) H2) E0 :=
 ⟨by show 1<=sizeLine;decide,λe he=>⟨e,i,rfl,hi,aE,λdx h1 h2=>by
  rw[aF h2]at h1;refine⟨rfl,L e dx _ (λb o z=>?_) aE (by rw[aF h2];exact aE)⟩;have J:b≠e:=aP z he;have M:b≠dx:=aP z h1;rw[aF J,aF M,aF J];exact z⟩⟩
def bL (k:Nat):List Bool:=(List.range 19).map (λi=>decide (i=k))++[true]
def Dens.bls {H:Hp}:∀ bs:List Bool,Dens H (bs.map V.bl) (bs.map PyData.bool)
 | []=>.nil
 | b :: r=>.cons (.bl b) (Dens.bls r)
def aEd (k:Nat):flB 0 19 k++[V.bl true]=(bL k).map V.bl:=by
 unfold flB bL;rw[aGa,aGp,List.range_eq_range'];rfl
def W0:∀ k:Nat,k<19->PyData.eqv (.list ((bL k).map PyData.bool)) (.list ((bL k).map PyData.bool))=true/\SeqAt.shaped (.list ((bL k).map PyData.bool))=true:=by decide +kernel
def wG (n:Int):PyData.eqv (.list ([n,n,n,n,n].map PyData.int)) (.list ([n,n,n,n,n].map PyData.int))=true/\SeqAt.shaped (.list ([n,n,n,n,n].map PyData.int))=true:=by
 constructor
 .simp[PyData.eqv,PyData.eqvAll]
 .rfl
end
end CW
namespace L2
open PySem PySem.Spec PyProof.Rows
section
variable {X:Cx} {P:Addr} {k:Nat}
def zJ:∀ {z:List sM} {σ:St} {H:Hp} {Q:List V->Hp->Prop},TabT (X.env.qual++"<lambda>") P H ->
 (∀ (fs:List Addr) (H':Hp),fs.length=z.length->SameT P H H'->TabT (X.env.qual++"<lambda>") P H'->AllK X k H' fs z->Q (fs.map V.ref) H') ->
 (z.foldr (λs t=>yH (O7 X P k s.1 s.2) t) xL) σ H Q
 | [],σ,H,Q,T,h=>h [] H rfl .refl T λi p e=>by cases e
 | s :: z,σ,H,Q,T,h=>⟨T,λf H1 _ M J L=>zJ J λfs H2 U g2 Y A=>h (f :: fs) H2 (by rw[aGo,aGo,U]) (M.trans g2) Y λi p e=>by
  cases i with
  | zero=>cases e;exact⟨f,rfl,L.same J g2⟩
  | succ i=>exact A i p e⟩
def cR {fs:List Addr} {i:Nat} {f:Addr} (h:fs[i]?=some f):atI (fs.map V.ref) (i:Int)=some (.ref f):=pC (by rw[aGj,h];rfl)
end
def lV {h base z:Heap} (k:∀ b,base.get? b=none->z.get? b=none):∀ {l:List Env},h.FunFrames base l->h.FunFrames z l
 | [],f=>f
 | env :: l,f=>by
  simp only[Heap.FunFrames]at f ⊢;obtain⟨f1,⟨L,o,f2,J,M⟩,U⟩:=f;exact⟨f1,⟨L,o,f2,k _ J,M⟩,lV k U⟩
def nX {h h' base:Heap}:∀ {l:List Env},(∀ env∈l,∀ a,env.frame=some a->h'.get? a=h.get? a)->h.FunFrames base l->h'.FunFrames base l
 | [],_,f=>f
 | env :: l,k,f=>by
  simp only[Heap.FunFrames]at f ⊢;obtain⟨f1,⟨L,o,f2,z,J,M⟩,U⟩:=f;exact⟨f1,⟨L,o,f2,z,(k env aGX L f2).trans J,M⟩,nX (λe he=>k e (aGY _ he)) U⟩
def O9 {M:Model} {A:Around} {E:Value->Shared->Prop} {s:Shared} {base:Heap} {env:Env} {outer:List Env} {L e:Addr} {cls a0 fl:Value} {Q:Unit->Shared->Prop} (hf:A.frames=some (env :: outer)) (hl:s.heap.FunFrames base (env :: outer)) (hL:env.frame=some L)
 (ht:s.heap.TracedAtW base e cls a0 fl) (hk:base.StaysIn s.heap) (U:base.get? e=none) (h:∀ h',base.NotedW (env :: outer) e cls a0 (rawInt L) s.heap h'->Q () { s with heap:=h' }):wpAny M A (noteFrame (.ref e) env) Q E s:=by
 by_cases ay:fl=rawInt L
 .subst ay;exact rp hL ht (h s.heap ⟨hk,hl,ht,λb o e _=>⟨o.slots,e⟩⟩)
 .obtain⟨oe,vs,T,oT,ts,he,⟨az,h0⟩,hd,h1,ba,bb,hT,aw,h3⟩:=id ht;have a_:3<ts.size:=(Array.getElem?_eq_some_iff.mp h3).1;have other:∀ b,b≠T->(s.heap.update T (Obj.mapFields (·.setIfInBounds 3 Value.none))).get? b=s.heap.get? b:=λb U=>aG0 _ _ (gi U);have J:∀ b o,s.heap.get? b=some o->(∀ vs,o.data≠.fields vs)->b≠T:=λb o U Y q=>by
   rw[q,hT]at U;injection U with U;subst U;exact Y ts aw
  unfold noteFrame;simp only[hL];refine aGT (jk he hd h1 ?_);rw[eH (show (Value.ref T != Value.none)=true from by simp)];refine aGT (jk hT aw h3 ?_);rw[dt (by simpa using ay)];refine aGT (qm hT aw a_ ?_);subst az;refine wpAny_entryW hf (hl.of_keeps λb o U Y=>⟨o,(other b (J b o U Y)).trans U,rfl⟩) hL ((other e (gi bb)).trans he) (λb o ax=>(other b λq=>by rw[q,ba]at ax;cases ax).trans (hk b o ax)) U hd (Array.getElem?_eq_some_iff.mp h1).1 h0 λh' z=>h h' ⟨z.1,z.2.1,z.2.2.1,λb o U Y=>z.2.2.2 b o ((other b (J b o U Y)).trans U) Y⟩
def Ended.but {H:Hp} {h h':Heap} {C:Addr} (k:∀ b,b≠C->h'.get? b=h.get? b) (J:∀ o,h.get? C=some o->cx2 o=none):∀ {e:Addr},Ended H h e->Ended H h' e
 | _,.one (e:=e) h1 h2 h3=>.one h1 ((k e λz=>by rw[J _ (by rw[<- z];exact h2)]at h3;cases h3).trans h2) h3
 | _,.more (e:=e) h1 h2 h3 h4=>.more h1 ((k e λz=>by rw[J _ (by rw[<- z];exact h2)]at h3;cases h3).trans h2) h3 (Ended.but k J h4)
section
variable {X:Cx} {pins:List (Addr×Obj)} {σ:St} {H:Hp} {s:Shared} {E:XK}
def aCW (Bd:Body X) (I:Inv X pins σ H s) {B:Heap} {e:Addr} {cls a0:Value} {oe:Obj} {h':Heap} (aw:H e=none) (st:B.StaysIn s.heap) (cov:∀ b u,H b=some u->∃ o,B.get? b=some o)
 (olds:∀ b o,X.s₀.heap.get? b=some o->b∉X.fs->∃ o',B.get? b=some o') (fl:Heap.FlyingW B X.outer e cls a0 h') (U:∀ b∈X.fs,∀ o,s.heap.get? b=some o->∃ sl,h'.get? b=some { cls:=o.cls,dict:=o.dict,data:=o.data,slots:=sl }) (he:h'.get? e=some oe) (ax:Ended H h' e) (q:E cls oe.dict H) :
 CXR X.prog X.w X.outer X.H₀ X.s₀ E (.ref e) { s with heap:=h' }:=by
 have Y:B.StaysIn h':=fl.1;have nx:∀ b,b∉X.ex:=λb z=>by rw[Bd.ex]at z;cases z
 have same:∀ b o o',B.get? b=some o->s.heap.get? b=some o'->h'.get? b=some o':=λb o o' J M=>by
  have:=st b o J;rw[M]at this;cases this;exact Y b _ J
 refine⟨e,cls,a0,H,B,oe,rfl,I.os,I.bare,⟨λb o J n L _=>?_,λb o J n L _=>?_,λb o J n _=>I.base.free b o J n (nx b),λb o J _=>?_,I.base.tups,I.base.frzs,I.base.tbls⟩,λb u J=>?_,aw,⟨he,ax⟩,fl,cov,olds,q⟩
 .obtain⟨o',eB⟩:=olds b o J L;exact same b o' o eB (I.base.keep b o J n L (nx b))
 .obtain⟨sl,M⟩:=I.base.slot b o J n L (nx b);obtain⟨ay,e3⟩:=U b L _ M;exact⟨ay,e3⟩
 .by_cases L:b∈X.fs
  .obtain⟨o',M⟩:=I.base.there b o J (nx b);obtain⟨sl,e3⟩:=U b L o' M;exact⟨_,e3⟩
  .obtain⟨o',eB⟩:=olds b o J L;exact⟨o',Y b o' eB⟩
 .refine(I.hok b u J).stay (λc v hc M=>?_) (λ_ z=>z) λ_ _ z=>z;have tr:∃ o,B.get? c=some o:=by
   rcases hc with z | z
   .rw[z];exact cov b u J
   .exact cov c _ z
  obtain⟨o,eB⟩:=tr;exact same c o v eB M
def aCX (Bd:Body X) {E2:Value->Value->Shared->Prop} (cj:X.xe=λev s'=>wpAny (model X.prog X.w) X.A (leaving X.env ev) (λ_ J=>CXR X.prog X.w X.outer X.H₀ X.s₀ E ev J) (E2 ev) s') (bo:X.A.frames=some (X.env :: X.outer))
 {s3 s':Shared} {H2 H':Hp} {C e:Addr} {cls a0:Value} {B:Heap} {oe:Obj} {Q:Value->Shared->Prop} {ck:Value} {m:Str->Option Value} (I':Inv X pins σ H' s') (cm:H' e=none) (he:s'.heap.get? e=some oe) (cn:Ended H' s'.heap e) (fl:Heap.FlyingW B (X.env :: X.outer) e cls a0 s'.heap)
 (cov:∀ b u,H' b=some u->∃ o,B.get? b=some o) (olds:∀ b o,X.s₀.heap.get? b=some o->b∉frs X.stack->∃ o',B.get? b=some o') (q:E cls oe.dict H') (hC:s'.heap.Ns C m) (cp:H' C=none) (cq:X.s₀.heap.objs.size<=C) (bq:C∉frs X.stack) :
 notedBy (model X.prog X.w) X.A X.env (λx s1=>compPost (model X.prog X.w) X.A X.xe none Q ck C (.error x) s1) (.ref e) s':=by
 obtain⟨oc,es,ep,br,Y,cr⟩:=hC;have nC:∀ {o:Obj} {vs:Array Value},o.data=.fields vs->s'.heap.get? C≠some o:=λhd z=>by rw[br]at z;cases z;rw[Y]at hd;cases hd
 obtain⟨f1,f2,f3,f4⟩:=fl;have L:∀ b,B.get? b=none->(PySem.W.hideAll B [C]).get? b=none:=λb z=>by
  cases hq:(PySem.W.hideAll B [C]).get? b with
  | none=>rfl
  | some o=>rw[lg _ hq]at z;cases z
 have bg:∀ b o,b≠C->B.get? b=some o->(PySem.W.hideAll B [C]).get? b=some o:=λb o n z=>ml _ z (by simpa using n);have bh:(PySem.W.hideAll B [C]).StaysIn s'.heap:=λb o z=>f1 b o (lg _ z);have bC:(PySem.W.hideAll B [C]).get? C=none:=kd _ (by simp);have U:=lV L f3;have bt:s'.heap.TracedW (PySem.W.hideAll B [C]) e cls a0:=by
  obtain⟨oe,vs,T,oT,ts,a,b,c,d,z,r⟩:=f4;exact⟨oe,vs,T,oT,ts,a,b,c,d,L _ z,r⟩
 have ba:=L _ f2;have bc:∀ b u,H' b=some u->∃ o,(PySem.W.hideAll B [C]).get? b=some o:=λb u z=>by
  obtain⟨o,h⟩:=cov b u z;exact⟨o,bg b o (λy=>by rw[y,cp]at z;cases z) h⟩
 have aw:∀ b o,X.s₀.heap.get? b=some o->b∉frs X.stack->∃ o',(PySem.W.hideAll B [C]).get? b=some o':=λb o z n=>by
  obtain⟨o',h⟩:=olds b o z n;exact⟨o',bg b o' (aGi (aGc (aG1 z) cq)) h⟩
 clear olds cov bg L f1 f2 f3 f4;generalize PySem.W.hideAll B [C]=B1 at bh ba U bt bC bc aw;have bb:∀ {h:Heap},h.FunFrames B1 (X.env :: X.outer)->∀ b∈frs X.stack,∀ o,h.get? b=some o->∀ vs,o.data≠.fields vs:=λ{h} f b hb o eo vs=>by
  rw[Bd.stk]at hb;obtain⟨_,o',bu,cu⟩:=f.mem hb;rw[eo]at bu;cases bu;exact cu vs
 show wpAny _ _ _ _ _ _;have w1:=O9 (M:=model X.prog X.w) (A:=X.A) (E:=λ_ _=>False) (s:=s') (Q:=λ_ J=>∃ h',J={ s' with heap:=h' }/\Heap.NotedW B1 (X.env :: X.outer) e cls a0 (rawInt X.env.locals) s'.heap h') bo U Bd.fr bt bh ba λh' z=>⟨h',rfl,z⟩;refine ew (dS (fL (.ref e) X.env) w1) (λ_ s2 ⟨⟨h1,e1,k1,k2,k3,k4⟩,bv⟩=>?_) λ_ _ z=>z.1.elim;subst e1;obtain⟨sl,ax⟩:=k4 C oc br λvs z=>by rw[Y]at z;cases z
 refine⟨m,⟨_,es,ep,ax,Y,cr⟩,λh2 sb ay _=>?_⟩;have but:∀ b,b≠C->h2.get? b=h1.get? b:=sb.2;obtain⟨bw,cv,T,oT,ts,bi,bj,az,bx,cw,cx,hT,bz,h3⟩:=k3;have b_:∀ {b:Addr} {o:Obj} {vs:Array Value},h1.get? b=some o->o.data=.fields vs->b≠C:=λhb hd z=>by rw[z,ax]at hb;cases hb;rw[Y]at hd;cases hd
 have bn:=(but e (b_ bi az)).trans bi;have cy:=(but T (b_ hT bz)).trans hT;have j1:B1.StaysIn h2:=λb o z=>(but b λy=>by rw[y,bC]at z;cases z).trans (k1 b o z);have j2:h2.FunFrames B1 (X.env :: X.outer):=nX (λenv hm a ha=>but a λz=>bq (by rw[<- z,Bd.stk];exact List.mem_filterMap.mpr ⟨env,hm,ha⟩)) k2;have cb:Ended H' h2 e:=Ended.but but (λo z=>by rw[ax]at z;cases z;unfold cx2;rw[Y]) (cn.hd bv);unfold PySem.passOn;refine aGT (jk bn az bx ?_);rw[dt (show ¬ (Value.ref T == Value.none)=true from by simp)];have w3:=zI (M:=model X.prog X.w) (A:=X.A) (E:=λ_ _=>False) (s:={ s' with heap:=h2 }) (fr:=ay.frame) (Q:=λ_ J=>∃ h3,J={ s' with heap:=h3 }/\B1.StaysIn h3/\h3.FunFrames B1 (X.env :: X.outer)/\h3.TracedAtW B1 e cls a0 (ay.frame.elim .none λf=>rawInt f)/\h2.UpToSlots h3) j1 j2 ⟨bw,cv,T,oT,ts,bn,bj,az,bx,cw,cx,cy,bz,h3⟩ λh3 a b c d=>⟨h3,rfl,a,b,c,d⟩;refine aGT (ew (dS (dN (.ref e) ay.frame) w3) (λ_ s3 ⟨⟨h3,e3,a1,a2,a3,a4⟩,cf⟩=>wpAny_throw ?_) λ_ _ z=>z.1.elim);subst e3;rw[cj];unfold leaving;have w4:=O9 (M:=model X.prog X.w) (A:=X.A) (E:=λ_ _=>False) (s:={ s' with heap:=h3 }) (Q:=λ_ J=>∃ h',J={ s' with heap:=h' }/\Heap.NotedW B1 (X.env :: X.outer) e cls a0 (rawInt X.env.locals) h3 h') bo a2 Bd.fr a3 a1 ba λh' z=>⟨h',rfl,z⟩;refine aGT (ew (dS (fL (.ref e) X.env) w4) (λ_ s4 ⟨⟨h4,e4,b1,b2,b3,b4⟩,cg⟩=>?_) λ_ _ z=>z.1.elim);subst e4;have w5:=ux (M:=model X.prog X.w) (A:=X.A) (E:=λ_ _=>False) (s:={ s' with heap:=h4 }) (Q:=λ_ J=>∃ h5,J={ s' with heap:=h5 }/\Heap.FlyingW B1 (X.env :: X.outer) e cls a0 h5/\h4.UpToSlots h5) ⟨b1,ba,b2,b3⟩ λh5 a b=>⟨h5,rfl,a,b⟩;refine ew (dS (dN (.ref e) none) w5) (λ_ s5 ⟨⟨h5,e5,fl,u5⟩,ci⟩=>?_) λ_ _ z=>z.1.elim;subst e5;obtain⟨g1,g2,g3,g4⟩:=fl;obtain⟨db,bf,cz,_⟩:=bv e oe he;rw[bi]at bf;cases bf;obtain⟨df,c_,da,_⟩:=((cf.trans cg).trans ci) e bw bn;refine aCW Bd I' cm bh bc (λb o e1 hb=>aw b o e1 λz=>?_) ⟨g1,g2,by simp only[Heap.FunFrames]at g3;exact g3.2.2,g4⟩ (λb hb o eo=>?_) c_ (cb.hd ((cf.trans cg).trans ci)) (by rw[da,cz];exact q)
 .rcases Bd.mem.mp z with z | z
  .exact absurd (aGc (aG1 e1) I'.ok.above) (by rw[z];exact ie _)
  .exact hb z
 .have a_:b∈frs X.stack:=Bd.mem.mpr (.inr hb);obtain⟨s1,x1⟩:=k4 b o eo (bb U b a_ o eo);have x2:=(but b λz=>bq (z ▸ a_)).trans x1;obtain⟨s2,x3⟩:=a4 b _ x2 (bb U b a_ o eo);obtain⟨s3,x4⟩:=b4 b _ x3 (bb U b a_ o eo);obtain⟨s4,x5⟩:=u5 b _ x4 (bb U b a_ o eo);exact⟨s4,x5⟩
end
def XiE (X:Cx) (inn:Scope) (L:List Str) (z:Shared) (J:Hp) (ex:List Addr) (E:XK):Value->Shared->Prop:=λM s'=>∃ pins σ H s,Inv (eR X inn L z J ex) pins σ H s/\CXR X.prog X.w X.stack H s E M s'
def aDk (X:Cx) (inn:Scope) (L:List Str) (z:Shared) (J:Hp) (ex:List Addr) (E:XK):Cx:={ eR X inn L z J ex with xe:=XiE X inn L z J ex E }
def aFf {X:Cx} {inn:Scope} {L:List Str} {z:Shared} {J:Hp} {ex:List Addr} {E:XK}:dL (CXR X.prog X.w) (aDk X inn L z J ex E) E:=λpins σ H s e s' I h=>⟨pins,σ,H,s,I.xeO,h⟩
section
variable {X:Cx} {inn:Scope} {js:List Nat} {cs ts:List Str} {elt tg iter:Expr} {ifs:List Expr} {pos:Pos} {g:TG} {tt:TT} {te:TE} {wi:TI} {EX:XK}
def aCY (Bd:Body X) {E2:Value->Value->Shared->Prop} (aw:X.xe=λev s'=>wpAny (model X.prog X.w) X.A (leaving X.env ev) (λ_ ax=>CXR X.prog X.w X.outer X.H₀ X.s₀ EX ev ax) (E2 ev) s') (ts cs:List Str) (js:List Nat) (U:X.calm=true) (O:CompOk X.env.scope inn X.N js cs) (hi:PI X tg iter wi)
 (hg:∀ L M ex,PG (eR X inn (ts++cs) L M ex) tg g) (hk:GK ts.length g) (ht:∀ L M ex,PIf (eR X inn (ts++cs) L M ex) ifs tt) (he:∀ L M ex,PE (aDk X inn (ts++cs) L M ex EX) elt te)
 (hs:∀ x,foldedSetIterable iter X.env x=pure x:=by intro _;rfl) :
 PE X (.ListComp elt [⟨tg,iter,ifs,0⟩] inn pos) (aAx wi ts.length js g tt te):=by
 intro pins s σ H Q I h;rw[uo];refine km (use:=none) rfl hs (tN λy hy e=>I.ok.has y.1 (O.frees y hy e)) O.kind O.names (thn (hi pins s σ H _ I h) λxv s1 h1=>thn h1 λbi s2 h2=>?_);obtain⟨it,fp,tn,J,H2,e,I2,T,ay,f2,R⟩:=h2;subst e;refine qX (Ξ:=λL M ex=>XiE X inn (ts++cs) L M ex EX) (Q:=Q) (RR:=λaz C=>compPost (model X.prog X.w) X.A X.xe none (EP X pins σ Q) az C) U O rfl hg hk ht he I2 T ay f2 R ?_ ?_
 .intro D C s' H' I' ⟨m,hm⟩ c1 c2 c3 c4 c5 q;refine⟨m,hm,λh' a_=>?_⟩;exact⟨.ref D,H',I'.turned (it:=C) (t':=s'.toks) (λb o hb e=>a_.extBut b o hb e) c1 c2 (.inr c3) c4 c5,rfl,q⟩
 .rintro D C s3 ex env ev s' ba I3 rfl hex ⟨Y,bb,H5,s5,I5,e,cls,a0,H',B,oe,rfl,os,bare,un,hok,bc,⟨bf,bg⟩,fl,cov,olds,q⟩;have I6:Inv (eR X inn (ts++cs) s3 H2 ex) Y bb H' s':=I5.call' os un hok bare λb z=>absurd z (by simp);have I7:Inv X pins σ H' s':=I3.call' I6.os I6.base I6.hok I6.bare hex;have bh:∀ b o,X.s₀.heap.get? b=some o->∃ o',s5.heap.get? b=some o':=λb o z=>by
   obtain⟨o1,e1⟩:=I3.base.there b o z (by rw[Bd.ex];simp);refine I5.base.there b o1 e1 λhb=>?_;rcases (hex b hb).1 with y | y
   .rw[Bd.ex]at y;cases y
   .exact absurd (aGc (aG1 z) y) (ie _)
  obtain⟨m,hm,_⟩:=I6.loc;have hn:noteFrame (.ref e) env=noteFrame (.ref e) X.env:=by unfold noteFrame PySem.frameOf;rw[ba]
  show wpAny _ _ _ _ _ _;rw[hn];exact aCX (s3:=s3) (H2:=H2) (oe:=oe) Bd aw (by have:=I7.ok.frames;rwa [Bd.stk]at this) I7 bc bf bg (by have:=fl;rwa [Bd.stk]at this) cov (λb o z hb=>by
   obtain⟨o5,e5⟩:=bh b o z;exact olds b o5 e5 hb) q hm I6.free I3.sz (λz=>by
   obtain⟨_,o,ho,_⟩:=I3.stack.mem z;exact absurd (aG1 ho) (ie _))
end
end L2
namespace CW
open PySem L2
end CW
namespace L2
open PySem PySem.Spec PyProof.Rows
end L2
namespace CW
open PySem L2
structure Cn2 (mg:Str->Option Value) (tC:Tok):Prop where
 MOST_NICHES:mg "MOST_NICHES"=some (.int 200 tC)
end CW
namespace CW
end CW
namespace CW
open PySem L2
end CW
namespace L2
open PySem PySem.Spec PyProof.Rows
end L2
namespace CW
open PySem L2
end CW
namespace L2
open PySem PySem.Spec PyProof.Rows
def aGR:TE:=λ_ _ _=>False
def aD3 {X:Cx} {es:List Expr} {pos:Pos} {t:TA} (h:PA X es t):PEi X (.List es pos) (aDy t):=PEi.of (bP h)
def aCZ {X:Cx} {e:Expr}:PE X e aGR:=λ_ _ _ _ _ _ h=>h.elim
inductive IsLams (X:Cx) (P:Addr) (k:Nat):TA->List sM->Prop
 | nil:IsLams X P k xL []
 | cons {ix:List Nat} {spL:St->Hp->VK->XK->Prop} {t:TA} {sps:List sM} (h:IsLams X P k t sps):IsLams X P k (yH (O7 X P k ix spL) t) ((ix,spL) :: sps)
def IsLams.eq {X:Cx} {P:Addr} {k:Nat} {t:TA} {z:List sM} (h:IsLams X P k t z):t=z.foldr (λs t=>yH (O7 X P k s.1 s.2) t) xL:=by
 induction h with
 | nil=>rfl
 | cons _ J=>rw[J];rfl
def W1 {X:Cx} {P:Addr} {k:Nat} {t:TA} {z:List sM} (h:IsLams X P k t z) {σ:St} {H:Hp} {Q:List V->Hp->Prop} (T:TabT (X.env.qual++"<lambda>") P H)
 (q:∀ (fs:List Addr) (H':Hp),fs.length=z.length->SameT P H H'->TabT (X.env.qual++"<lambda>") P H'->AllK X k H' fs z->Q (fs.map V.ref) H'):t σ H Q:=by
 rw[h.eq];exact zJ T q
def aC0 {X:Cx} {P:Addr} {k:Nat} {t:TA} {z:List sM} (h:IsLams X P k t z) {σ:St} {H:Hp} {Q:VK} (T:TabT (X.env.qual++"<lambda>") P H) (J:z.length<=sizeLine)
 (q:∀ (fs:List Addr) (H':Hp) (p:Addr),fs.length=z.length->SameT P H H'->TabT (X.env.qual++"<lambda>") P H'->AllK X k H' fs z->H' p=none->Q (.ref p) (upd H' p (.lst (fs.map V.ref)))):aDy t σ H Q :=
 W1 h T λfs H' e g M L=>⟨by rw[aGV,e];exact J,λp U=>q fs H' p e g M L U⟩
def gn {i:Nat} {v:V} {σ:St} {H:Hp} {Q:St->Hp->Prop} (h:Q (σ.set i (some v)) H):rZ i v σ H Q:=h
def aFg {i:Nat} {v:V} {σ:St} {H:Hp} {D:iX} (h:D.nx (σ.set i (some v)) H):rZ i v σ H D.nx:=h
def aEe {a b:TS} {D z:iX} {σ:St} {H:Hp} (h:aCj a b D σ H):({ z with nx:=aCj a b D }:iX).nx σ H:=h
def n6 {te:TE} {g:TG} {b:TS} {D:iX} {σ:St} {H:Hp} (h:te σ H λv H'=>g v σ H' λz H2=>b D z H2):aCj (aCl te g) b D σ H:=h
end L2
namespace CW
open PySem L2
section
variable {K:PySem.W.Frag} {mg:Str->Option Value} (X:cL K mg) (T:qB) (G:Hc K)
abbrev En:=Str×List Int
inductive EnAt (H:Hp) (v:V) (e:En):Prop
 | mk (t:Addr) (h0_:v=.ref t) (h1_:H t=some (.tup (.str e.1 :: e.2.map V.int))):EnAt H v e
def e3:List En:=[("walk",[1,3]),("put",[40])]
def e4:List En:=[("walk",[1,35]),("walk",[1,3]),("put",[40])]
structure RD where
 first:List Int
 ents:List En
 row:List Int
 ws:Trs
abbrev aC1 (H:Hp) (t:Addr) (r:List Int):Prop:=RowA (λ_=>r≠[]) H t r
inductive CrsC (H:Hp) (c:Addr) (row:List Int) (ws:Trs):Prop
 | mk (dx t d:Addr) (h0_:H c=some (.ins G.Cs dx (aF0 t d false))) (h1_:aC1 H t row) (h2_:H d=some (.dK (kvW ws))):CrsC H c row ws
inductive RoadC (H:Hp) (v:V) (D:RD):Prop
 | mk (a dx e r c r0 t0:Addr) (us:List V) (h0_:v=.ref a) (h1_:H a=some (.ins G.Rd dx (aF1 e r c))) (h2_:H e=some (.tup us)) (h3_:Paired (EnAt H) us D.ents) (h4_:H r=some (.tup [.ref r0])) (h5_:H r0=some (.tup [.int 0,.ref t0])) (h6_:aC1 H t0 D.first) (h7_:CrsC G H c D.row D.ws):RoadC H v D
abbrev Sd5:=List (Str×RD)
abbrev SA5 (H:Hp):Key×V->Str×RD->Prop:=λkv s=>kv.1=.inr s.1/\RoadC G H kv.2 s.2
structure Kq (H H':Hp):Prop where
 tup:TupS H H'
 dk:∀ d kvs,H d=some (.dK kvs)->H' d=some (.dK kvs)
 ins:∀ a C dx fs,C≠G.Hs->H a=some (.ins C dx fs)->H' a=some (.ins C dx fs)
 lst:∀ t x r,H t=some (.lst (.int x :: r))->H' t=some (.lst (.int x :: r))
def CO5 (Hb H:Hp) (c:Addr) (row:List Int) (ws:Trs):Prop:=Same Hb H/\Hb c=none/\∃ dx t d,Hb d=none/\H c=some (.ins G.Cs dx (aF0 t d false))/\aC1 H t row/\H d=some (.dK (kvW ws))
def HO5 (Hb H:Hp) (a:Addr) (S:Sd5) (n:Nat):Prop:=Same Hb H/\Hb a=none/\∃ (dx d p q:Addr) (kvs:List (Key×V)) (us:List V),Hb p=none/\H a=some (.ins G.Hs dx (oM d p q))/\H d=some (.dK kvs)/\Paired (SA5 G H) kvs S/\H p=some (.lst us)/\(∀ v∈us,∃ b,v=.ref b)/\us.length=n/\H q=some (.lst [])
variable {G}
def Kq.same {H H':Hp} (g:Same H H'):Kq G H H':=⟨λ_ _ e=>g _ _ e,λ_ _ e=>g _ _ e,λ_ _ _ _ _ e=>g _ _ e,λ_ _ _ e=>g _ _ e⟩
def Kq.updI {H H':Hp} {a dx:Addr} {fs:List (Str×V)} {o:HO} (k:Kq G H H') (J:H a=some (.ins G.Hs dx fs)):Kq G H (upd H' a o) :=
 ⟨λ_ _ e=>by rw[aF (cI e J (by intro z;cases z))];exact k.tup _ _ e,λ_ _ e=>by rw[aF (cI e J (by intro z;cases z))];exact k.dk _ _ e,
  λ_ _ _ _ L e=>by rw[aF (cI e J (by intro z;injection z with z;exact L z))];exact k.ins _ _ _ _ L e,λ_ _ _ e=>by rw[aF (cI e J (by intro z;cases z))];exact k.lst _ _ _ e⟩
def Kq.updP {H H':Hp} {p:Addr} {us:List V} {o:HO} (k:Kq G H H') (J:H p=some (.lst us)) (L:∀ v∈us,∃ b,v=.ref b):Kq G H (upd H' p o) :=
 ⟨λ_ _ e=>by rw[aF (cI e J (by intro z;cases z))];exact k.tup _ _ e,λ_ _ e=>by rw[aF (cI e J (by intro z;cases z))];exact k.dk _ _ e,
  λ_ _ _ _ M e=>by rw[aF (cI e J (by intro z;cases z))];exact k.ins _ _ _ _ M e,λ_ _ _ e=>by
   rw[aF (cI e J (by intro z;cases z;obtain⟨_,w⟩:=L _ aGX;cases w))];exact k.lst _ _ _ e⟩
def Kq.updN {H H':Hp} {a:Addr} {o:HO} (k:Kq G H H') (z:H a=none):Kq G H (upd H' a o) :=
 ⟨λ_ _ e=>by rw[aF (aP e z)];exact k.tup _ _ e,λ_ _ e=>by rw[aF (aP e z)];exact k.dk _ _ e,
  λ_ _ _ _ J e=>by rw[aF (aP e z)];exact k.ins _ _ _ _ J e,λ_ _ _ e=>by rw[aF (aP e z)];exact k.lst _ _ _ e⟩
def EnAt.kq {H H':Hp} (k:Kq G H H') {v:V} {e:En} (h:EnAt H v e):EnAt H' v e:=by
 obtain⟨t,h0,h1⟩:=h;exact⟨t,h0,k.tup _ _ h1⟩
def C9 {H H':Hp} (k:Kq G H H') {t:Addr} {r:List Int} (h:aC1 H t r):aC1 H' t r:=by
 rcases h with ⟨h1,h2⟩ | h
 .cases r with
  | nil=>exact absurd rfl h1
  | cons x r=>exact .inl ⟨h1,k.lst _ _ _ h2⟩
 .exact .inr (k.tup _ _ h)
def CrsC.kq {H H':Hp} (k:Kq G H H') {c:Addr} {row:List Int} {ws:Trs} (h:CrsC G H c row ws):CrsC G H' c row ws:=by
 obtain⟨dx,t,d,h0,h1,h2⟩:=h;exact⟨dx,t,d,k.ins _ _ _ _ G.ne2 h0,C9 k h1,k.dk _ _ h2⟩
def RoadC.kq {H H':Hp} (k:Kq G H H') {v:V} {D:RD} (h:RoadC G H v D):RoadC G H' v D:=by
 obtain⟨a,dx,e,r,c,J,L,us,h0,h1,h2,h3,h4,h5,M,h7⟩:=h;exact⟨a,dx,e,r,c,J,L,us,h0,k.ins _ _ _ _ G.ne1 h1,k.tup _ _ h2,Paired.mapP h3 λ_ _ z=>z.kq k,k.tup _ _ h4,k.tup _ _ h5,C9 k M,h7.kq k⟩
def wH {H H':Hp} (k:Kq G H H') {kvs:List (Key×V)} {S:Sd5} (h:Paired (SA5 G H) kvs S):Paired (SA5 G H') kvs S:=Paired.mapP h λ_ _ z=>⟨z.1,z.2.kq k⟩
def CO5.at {Hb H:Hp} {c:Addr} {row:List Int} {ws:Trs} (h:CO5 G Hb H c row ws):CrsC G H c row ws:=by
 obtain⟨_,_,dx,t,d,_,h1,h2,h3⟩:=h;exact⟨dx,t,d,h1,h2,h3⟩
def CO5.same {Hb H H':Hp} {c:Addr} {row:List Int} {ws:Trs} (g:Same H H') (h:CO5 G Hb H c row ws):CO5 G Hb H' c row ws:=by
 obtain⟨h1,h2,dx,t,d,h3,h4,h5,z⟩:=h;exact⟨h1.trans g,h2,dx,t,d,h3,g _ _ h4,h5.same g,g _ _ z⟩
def HO5.same {Hb H H':Hp} {a:Addr} {S:Sd5} {n:Nat} (g:Same H H') (h:HO5 G Hb H a S n):HO5 G Hb H' a S n:=by
 obtain⟨h1,h2,dx,d,p,q,kvs,us,h3,h4,h5,J,h7,L,M,z⟩:=h;exact⟨h1.trans g,h2,dx,d,p,q,kvs,us,h3,g _ _ h4,g _ _ h5,wH (.same g) J,g _ _ h7,L,M,g _ _ z⟩
def HO5.ins {Hb H:Hp} {a:Addr} {S:Sd5} {n:Nat} (h:HO5 G Hb H a S n):∃ dx d p q,H a=some (.ins G.Hs dx (oM d p q)):=by
 obtain⟨_,_,dx,d,p,q,kvs,us,_,h4,_⟩:=h;exact⟨dx,d,p,q,h4⟩
variable (G)
inductive W2:List Int->Trs->List Int->Prop
 | zero {r:List Int}:W2 r [] r
 | three:W2 [1,2] [(1,3)] [4,5]
 | far:W2 [1,2] [(1,38)] [39,40]
inductive GoS:List Int->Trs->En->(List Int×Trs) ⊕ RefH->Prop
 | w0 {r:List Int} {m:Int}:GoS r [] ("walk",[1,m]) (.inl (r,[(1,m)]))
 | w1 {r:List Int} {k m:Int}:GoS r [(1,k)] ("walk",[1,m]) (.inl (r,[(1,k+m)]))
 | put:GoS [1,2] [(1,3)] ("put",[40]) (.inl ([4,5,40],[]))
 | laid {r:List Int} {ws:Trs} {r':List Int} {p:Int} (h:W2 r ws r') (hp:p∈r'):GoS r ws ("put",[p]) (.inr .laid)
 | stone {r:List Int} {ws:Trs} {r':List Int} {p:Int} (h:W2 r ws r') (hp:p∉r'):GoS r ws ("take",[p]) (.inr .stone)
inductive BlS (S:Sd5) (n:Str) (row:List Int):Sd5 ⊕ RefH->Prop
 | build (hn:sH n L3 8=true) (h0:n∉S.map (·.1)) (hr:Rw row) (h8:S.length<8):BlS S n row (.inl (S++[(n,⟨row,[],row,[]⟩)]))
 | name (hn:sH n L3 8=false):BlS S n row (.inr .name)
 | taken (hn:sH n L3 8=true) (h0:n∈S.map (·.1)):BlS S n row (.inr .taken)
 | full (hn:sH n L3 8=true) (h0:n∉S.map (·.1)) (hr:Rw row) (h8:S.length=8):BlS S n row (.inr .full)
inductive DK where
 | build | ent | late | strike
abbrev RD.plus (D:RD) (e:En) (q:List Int×Trs):RD:=⟨D.first,D.ents++[e],q.1,q.2⟩
inductive DoS (H:Hp):Sd5->DK->Str->List V->Sd5 ⊕ RefH->Prop
 | build {S:Sd5} {n:Str} {t:Addr} {row:List Int} {O:Sd5 ⊕ RefH} (ht:H t=some (.tup (row.map V.int))) (hx:Txs n) (h:BlS S n row O):DoS H S .build "build" [.str n,.ref t] O
 | ent {D:RD} {w:Str} {is:List Int} {q:List Int×Trs} (h:GoS D.row D.ws (w,is) (.inl q)) (hl:D.ents.length<10):DoS H [("road",D)] .ent w (.str "road" :: is.map V.int) (.inl [("road",D.plus (w,is) q)])
 | entx {D:RD} {w:Str} {is:List Int} {r:RefH} (h:GoS D.row D.ws (w,is) (.inr r)) (hl:D.ents.length<10):DoS H [("road",D)] .ent w (.str "road" :: is.map V.int) (.inr r)
 | late {D:RD} (hf:D.first=[1,2]) (he:D.ents=e3):DoS H [("road",D)] .late "late" [.str "road",.int 0,.int 1,.int 35] (.inr (.clash 2))
 | entry {D:RD} {k:Int} (hk:(D.ents.length:Int)<=k):DoS H [("road",D)] .strike "strike" [.str "road",.int k] (.inr .entry)
 | walk {D:RD} (he:D.ents=e3):DoS H [("road",D)] .strike "strike" [.str "road",.int 1] (.inr .walk)
variable {G}
def DoS.same {H H':Hp} (g:Same H H') {S:Sd5} {k:DK} {w:Str} {xs:List V} {O:Sd5 ⊕ RefH} (h:DoS H S k w xs O):DoS H' S k w xs O:=by
 cases h with
 | build ht J h=>exact .build (g _ _ ht) J h
 | ent h z=>exact .ent h z
 | entx h z=>exact .entx h z
 | late L he=>exact .late L he
 | entry M=>exact .entry M
 | walk he=>exact .walk he
def ks5:List (Str×DK):=[("build",.build),("walk",.ent),("put",.ent),("take",.ent),("late",.late),("strike",.strike)]
def GoS.word {r:List Int} {ws:Trs} {e:En} {O:(List Int×Trs) ⊕ RefH} (h:GoS r ws e O):e.1="walk"\/e.1="put"\/e.1="take":=by
 cases h with
 | w0=>exact .inl rfl
 | w1=>exact .inl rfl
 | put=>exact .inr (.inl rfl)
 | laid=>exact .inr (.inl rfl)
 | stone=>exact .inr (.inr rfl)
def GoS.len {r:List Int} {ws:Trs} {e:En} {O:(List Int×Trs) ⊕ RefH} (h:GoS r ws e O):e.2.length<=2:=by
 cases h <;> simp
def DoS.mem {H:Hp} {S:Sd5} {k:DK} {w:Str} {xs:List V} {O:Sd5 ⊕ RefH} (h:DoS H S k w xs O):(w,k)∈ks5:=by
 have g:∀ {r ws is O},GoS r ws (w,is) O->(w,DK.ent)∈ks5:=λh=>by
  have h:=h.word;simp only at h;rcases h with rfl | rfl | rfl <;> simp[ks5]
 cases h with
 | build=>simp[ks5]
 | ent h z=>exact g h
 | entx h z=>exact g h
 | late=>simp[ks5]
 | entry=>simp[ks5]
 | walk=>simp[ks5]
variable (G)
inductive W3 (vs:List V) (H:Hp) (Q:VK) (E_:XK):Prop
 | mk (a b:Addr) (h0_:vs=[.ref a,.ref b]) (h1_:RowA NT H a [1,2]) (h2_:LP H b [(1,38)]) (h3_:S2 H Q [39,40]):W3 vs H Q E_
inductive W4 (vs:List V) (H:Hp) (Q:VK) (E_:XK):Prop
 | mk (t d:Addr) (r:List Int) (ws:Trs) (r':List Int) (h0_:vs=[.ref t,.ref d]) (h1_:RowA NT H t r) (h2_:H d=some (.dK (kvW ws))) (h3_:W2 r ws r') (h4_:S2 H Q r'):W4 vs H Q E_
inductive D0 (vs:List V) (H:Hp) (Q:VK) (E_:XK):Prop
 | mk (c:Addr) (r:List Int) (ws:Trs) (r':List Int) (h0_:vs=[.ref c]) (h1_:CrsC G H c r ws) (h2_:W2 r ws r') (h3_:S2 H Q r'):D0 vs H Q E_
inductive qC (vs:List V) (H:Hp) (Q:VK) (E:XK):Prop
 | good (a:Addr) (h0_:vs=[.ref a,.int 40]) (h1_:H a=some (.lst [.int 4,.int 5])) (h2_:S2 H Q [4,5,40]):qC vs H Q E
 | bad (a:Addr) (row:List Int) (p:Int) (h0_:vs=[.ref a,.int p]) (h1_:H a=some (.lst (row.map V.int))) (h2_:p∈row) (h3_:RefH.laid.go X E H):qC vs H Q E
inductive oQ (vs:List V) (H:Hp) (Q:VK) (E:XK):Prop
 | mk (a:Addr) (row:List Int) (p:Int) (h0_:vs=[.ref a,.int p]) (h1_:H a=some (.lst (row.map V.int))) (h2_:p∉row) (h3_:RefH.stone.go X E H):oQ vs H Q E
inductive qD (vs:List V) (H:Hp) (Q:VK) (E:XK):Prop
 | good (a t:Addr) (h0_:vs=[.ref a,.ref t]) (h1_:H a=some (.lst [.int 4,.int 5])) (h2_:H t=some (.tup [.str "put",.int 40])) (h3_:S2 H Q [4,5,40]):qD vs H Q E
 | laid (a t:Addr) (row:List Int) (p:Int) (h0_:vs=[.ref a,.ref t]) (h1_:H a=some (.lst (row.map V.int))) (h2_:H t=some (.tup [.str "put",.int p])) (h3_:p∈row) (h4_:RefH.laid.go X E H):qD vs H Q E
 | stone (a t:Addr) (row:List Int) (p:Int) (h0_:vs=[.ref a,.ref t]) (h1_:H a=some (.lst (row.map V.int))) (h2_:H t=some (.tup [.str "take",.int p])) (h3_:p∉row) (h4_:RefH.stone.go X E H):qD vs H Q E
inductive D2 (vs:List V) (H:Hp) (Q:VK) (E_:XK):Prop
 | mk (Hb:Hp) (c:Addr) (m k:Int) (r:List Int) (ws:Trs) (h0_:vs=[.ref c,.int 1,.int m]) (h1_:CO5 G Hb H c r ws) (h2_:ws=[]/\k=m\/∃ j,ws=[(1,j)]/\k=j+m) (h3_:∀ H',CO5 G Hb H' c r [(1,k)]->Q .non H'):D2 vs H Q E_
inductive tZ (vs:List V) (H:Hp) (Q:VK) (E:XK):Prop
 | mk (Hb:Hp) (c:Addr) (v:V) (r:List Int) (ws:Trs) (e:En) (O:(List Int×Trs) ⊕ RefH) (h0_:vs=[.ref c,v]) (h1_:CO5 G Hb H c r ws) (h2_:EnAt Hb v e) (h3_:GoS r ws e O) (h4_:∀ q,O=.inl q->∀ H',CO5 G Hb H' c q.1 q.2->Q .non H') (h5_:∀ ref,O=.inr ref->Refs X E H ref):tZ vs H Q E
inductive nF (vs:List V) (H:Hp) (Q:VK) (E_:XK):Prop
 | mk (r t:Addr) (n:Int) (v u:V) (h0_:vs=[.ref r,.int n,v]) (h1_:SqL K H r [.ref t]\/SqT K H r [.ref t]) (h2_:H t=some (.tup [.int 0,u])) (h3_:n<16) (h4_:∀ H',Same H H'->Q (.bl false) H'):nF vs H Q E_
inductive D4 (vs:List V) (H:Hp) (Q:VK) (E_:XK):Prop
 | mk (t:Addr) (row:List Int) (h0_:vs=[.ref t]) (h1_:H t=some (.tup (row.map V.int))) (h2_:∀ v H',Same H H'->RoadC G H' v ⟨row,[],row,[]⟩->Q v H'):D4 vs H Q E_
inductive wI (vs:List V) (H:Hp) (Q:VK) (E:XK):Prop
 | mk (v w:V) (D:RD) (e:En) (O:(List Int×Trs) ⊕ RefH) (h0_:vs=[v,w]) (h1_:RoadC G H v D) (h2_:EnAt H w e) (h3_:GoS D.row D.ws e O) (hl_:D.ents.length<10) (h4_:∀ q,O=.inl q->∀ v' H',Same H H'->RoadC G H' v' (D.plus e q)->Q v' H') (h5_:∀ ref,O=.inr ref->Refs X E H ref):wI vs H Q E
inductive wJ (vs:List V) (H:Hp) (Q:VK) (E:XK):Prop
 | mk (v:V) (w:Addr) (us:List V) (D:RD) (h0_:vs=[v,.int 0,.ref w]) (h1_:RoadC G H v D) (h2_:D.first=[1,2]) (h3_:H w=some (.tup us)) (h4_:Paired (EnAt H) us e4) (h5_:Refs X E H (.clash 2)):wJ vs H Q E
inductive jU (vs:List V) (H:Hp) (Q:VK) (E:XK):Prop
 | mk (d:Addr) (n:Str) (kvs:List (Key×V)) (h0_:vs=[.ref d,.str n]) (h1_:H d=some (.dK kvs)) (h2_:∀ v,dM kvs (Sum.inr n)=some v->Q v H) (h3_:dM kvs (Sum.inr n)=none->RefH.road.go X E H):jU vs H Q E
inductive lW (vs:List V) (H:Hp) (Q:VK) (E_:XK):Prop
 | mk (d:Addr) (n:Str) (v:V) (kvs:List (Key×V)) (h0_:vs=[.ref d,.str n,v]) (h1_:H d=some (.dK kvs)) (h2_:kvs.length<=8) (h3_:∀ d' H',Same H H'->H' d'=some (.dK (iJ kvs (Sum.inr n) v))->Q (.ref d') H'):lW vs H Q E_
inductive fN (k:DK) (vs:List V) (H:Hp) (Q:VK) (E:XK):Prop
 | mk (d a:Addr) (w:Str) (xs:List V) (S:Sd5) (kvs:List (Key×V)) (O:Sd5 ⊕ RefH) (h0_:vs=[.ref d,.ref a]) (h1_:H d=some (.dK kvs)) (h2_:Paired (SA5 G H) kvs S) (h3_:H a=some (.tup (.str w :: xs))) (h4_:DoS H S k w xs O)
  (h5_:∀ S',O=.inl S'->∀ d' kvs' H',Same H H'->H' d'=some (.dK kvs')->Paired (SA5 G H') kvs' S'->Q (.ref d') H') (h6_:∀ r,O=.inr r->Refs X E H r):fN k vs H Q E
inductive wK (vs:List V) (H:Hp) (Q:VK) (E:XK):Prop
 | mk (k:DK) (h_:fN X G k vs H Q E):wK vs H Q E
inductive qE (vs:List V) (H:Hp) (Q:VK) (E:XK):Prop
 | mk (Hb:Hp) (a u:Addr) (w:Str) (xs:List V) (k:DK) (S:Sd5) (n:Nat) (O:Sd5 ⊕ RefH) (h0_:vs=[.ref a,.ref u]) (h1_:HO5 G Hb H a S n) (hn_:n<100) (h2_:H u=some (.tup (.str w :: xs))) (h3_:DoS H S k w xs O) (h4_:∀ S',O=.inl S'->∀ H',HO5 G Hb H' a S' (n+1)->Q .non H') (h5_:∀ r,O=.inr r->Refs X E H r):qE vs H Q E
inductive dC (w:Str) (j:Nat) (vs:List V) (H:Hp) (Q:VK) (E:XK):Prop
 | mk (Hb:Hp) (a:Addr) (xs:List V) (k:DK) (S:Sd5) (n:Nat) (O:Sd5 ⊕ RefH) (h0_:vs=.ref a :: xs) (hx_:xs.length=j) (h1_:HO5 G Hb H a S n) (hn_:n<100) (h3_:DoS H S k w xs O) (h4_:∀ S',O=.inl S'->∀ H',HO5 G Hb H' a S' (n+1)->Q .non H') (h5_:∀ r,O=.inr r->Refs X E H r):dC w j vs H Q E
inductive lX (vs:List V) (H:Hp) (Q:VK) (E:XK):Prop
 | mk (Hb:Hp) (a l:Addr) (nm:Str) (row:List Int) (S:Sd5) (n:Nat) (O:Sd5 ⊕ RefH) (h0_:vs=[.ref a,.str nm,.ref l]) (h1_:HO5 G Hb H a S n) (hn_:n<100) (h2_:H l=some (.lst (row.map V.int))) (hx_:Txs nm) (h3_:BlS S nm row O) (h4_:∀ S',O=.inl S'->∀ H',HO5 G Hb H' a S' (n+1)->Q .non H') (h5_:∀ r,O=.inr r->Refs X E H r):lX vs H Q E
inductive qF (vs:List V) (H:Hp) (Q:VK) (E:XK):Prop
 | mk (Hb:Hp) (a:Addr) (S:Sd5) (n:Nat) (h0_:vs=[.ref a]) (h1_:HO5 G Hb H a S n) (h2_:RefH.left.go X E H):qF vs H Q E
inductive D5 (vs:List V) (H:Hp) (Q:VK) (E:XK):Prop
 | mk (Hb:Hp) (a:Addr) (nm:Str) (S:Sd5) (n:Nat) (h0_:vs=[.ref a,.str nm]) (h1_:HO5 G Hb H a S n) (h2_:nm∉S.map (·.1)) (h3_:RefH.road.go X E H):D5 vs H Q E
def D3:RD:=⟨[1,2],e3,[4,5,40],[]⟩
inductive rK (vs:List V) (H:Hp) (Q:VK) (E_:XK):Prop
 | mk (h0_:vs=[.str "road"]) (h1_:∀ a H',HO5 G H H' a [("road",D3)] 3->Q (.ref a) H'):rK vs H Q E_
inductive TrS (ps:Trs):Option Nat->Prop
 | many (h1:∀ q∈ps,1<=q.1) (h2:60<(ps.map (·.1)).sum):TrS ps none
 | bad (i:Nat) (q:Int×Int) (h0:ps[i]?=some q) (h1:∀ q∈ps.take i,1<=q.1) (h2:q.1<1):TrS ps (some i)
def aGS (E:XK) (H:Hp):Option Nat->Prop
 | none=>Rf0 E X.many "TooMany" H
 | some i=>RfI E T.trains "BadTrains" i H
inductive P0 (vs:List V) (H:Hp) (Q:VK) (E:XK):Prop
 | mk (a:Addr) (ps:Trs) (o:Option Nat) (h0_:vs=[.ref a]) (h1_:LP H a ps) (h2_:ps.length<=9) (h3_:TrS ps o) (h4_:∀ H',Same H H'->aGS X T E H' o):P0 vs H Q E
inductive D6 (vs:List V) (H:Hp) (Q:VK) (E:XK):Prop
 | mk (a:Addr) (n c:Int) (h0_:vs=[.ref a,.int c]) (h1_:H a=some (.lst [.int n])) (h2_:c<1) (h3_:RefH.creel.go X E H):D6 vs H Q E
inductive D7 (vs:List V) (H:Hp) (Q:VK) (E:XK):Prop
 | mk (m:Int) (h0_:vs=[.int m]) (h1_:0<=m) (h2_:m<=200->Q .non H) (h3_:200<m->Rf0 E T.number "BadNumber" H):D7 vs H Q E
inductive D8 (vs:List V) (H:Hp) (Q:VK) (E:XK):Prop
 | mk (a:Addr) (k:Int) (h0_:vs=[.ref a]) (h1_:H a=some (.lst [.int 1,.int k])) (h2_:k<1) (h3_:∀ H',Same H H'->RfI E T.sizes "BadSizes" 1 H'):D8 vs H Q E
inductive D9 (vs:List V) (H:Hp) (Q:VK) (E:XK):Prop
 | number (m:Int) (a:Addr) (h0_:vs=[.int m,.ref a]) (h1_:200<m) (h2_:Rf0 E T.number "BadNumber" H):D9 vs H Q E
 | sizes (m k:Int) (a:Addr) (h0_:vs=[.int m,.ref a]) (h1_:0<=m) (h2_:m<=200) (h3_:H a=some (.lst [.int 1,.int k])) (h4_:k<1) (h5_:∀ H',Same H H'->RfI E T.sizes "BadSizes" 1 H'):D9 vs H Q E
inductive E1 (vs:List V) (H:Hp) (Q:VK) (E:XK):Prop
 | bare (a b:Addr) (n g:Int) (h0_:vs=[.ref a,.ref b,.int g]) (h1_:H a=some (.lst [])) (h2_:H b=some (.lst [.int n])) (h3_:RefH.bare.go X E H):E1 vs H Q E
 | near (a b:Addr) (n:Int) (h0_:vs=[.ref a,.ref b,.int 1]) (h1_:H a=some (.lst [.int 1])) (h2_:H b=some (.lst [.int 2,.int n])) (h3_:2<n) (h4_:RefH.near.go X E H):E1 vs H Q E
inductive E3 (vs:List V) (H:Hp) (Q:VK) (E:XK):Prop
 | mk (t:Str) (h0_:vs=[.str t]) (h1_:Txs t) (h2_:t≠"") (h3_:(10:Nat)∉dG t) (h4_:∀ H',Same H H'->RfI E T.text "BadText" 0 H'):E3 vs H Q E
end
def aFh:Lst [1,2] [(2,-2)]:=by
 have h1:Lst [1] [(1,-1)]:=.snoc (r:=[]) (ps:=[]) .nil (λ_ h=>(nomatch h)) ⟨0,[],by decide,.inl ⟨rfl,.refl _⟩,λ_ h=>(nomatch h),.of_eq (by decide +kernel)⟩;exact .snoc (r:=[1]) (ps:=[(1,-1)]) h1 (by decide) ⟨1,[],by decide,.inr ⟨by decide,.of_eq (by decide +kernel)⟩,by decide,.of_eq (by decide +kernel)⟩
def aDl:Lst [39,40] [(2,36)]:=by
 have h1:Lst [39] [(1,37)]:=.snoc (r:=[]) (ps:=[]) .nil (λ_ h=>(nomatch h)) ⟨0,[],by decide,.inl ⟨rfl,.refl _⟩,λ_ h=>(nomatch h),.of_eq (by decide +kernel)⟩;exact .snoc (r:=[39]) (ps:=[(1,37)]) h1 (by decide) ⟨1,[],by decide,.inr ⟨by decide,.of_eq (by decide +kernel)⟩,by decide,.of_eq (by decide +kernel)⟩
section
variable {K:PySem.W.Frag} {G:Hc K} {H:Hp}
def lY {n:Str}:∀ {kvs:List (Key×V)} {S:Sd5},Paired (SA5 G H) kvs S->n∉S.map (·.1)->dM kvs (Sum.inr n)=none
 | _,_,.nil,_=>rfl
 | _,s :: _,.cons r t,h=>by
  rw[aGk,aGx,not_or]at h;rw[dA (λz=>h.1 (uc (z.symm.trans r.1)))];exact lY t h.2
def P1 {n:Str}:∀ {kvs:List (Key×V)} {S:Sd5},Paired (SA5 G H) kvs S->n∈S.map (·.1)->∃ v,dM kvs (Sum.inr n)=some v
 | _,_,.nil,h=>(nomatch h)
 | kv :: _,s :: _,.cons r t,h=>by
  by_cases c:kv.1=Sum.inr n
  .exact⟨_,bS c⟩
  .rw[dA c];exact P1 t ((aGx.mp h).resolve_left λz=>c (by rw[r.1,z]))
def uA {n:Str} {kvs:List (Key×V)} {D:RD} (h:Paired (SA5 G H) kvs [(n,D)]):∃ v,kvs=[(Sum.inr n,v)]/\RoadC G H v D:=by
 cases h with
 | cons r t=>cases t;exact⟨_,by rw[<- r.1],r.2⟩
def aC2 {n:Str} {v z:V}:iJ [((Sum.inr n:Key),v)] (Sum.inr n) z=[(Sum.inr n,z)]:=by
 unfold iJ;rw[eH (by simp)];simp
def aC3 {x dx:Addr} {R:Hp->Prop} {E:XK} (z:H x=none) (hd:H dx=none) (L:dx≠x) (k:∀ H',HO5 G H H' x [] 0->R H') :
 jT G [.ref x] (upd (upd H dx (.own x)) x (.ins G.Hs dx [])) (λv H2=>v=.non/\R H2) E:=by
 refine⟨x,dx,rfl,aE,λd p q h1 h2 h3 M U Y=>⟨rfl,k _ ?_⟩⟩;have nx:∀ {y:Addr},(upd (upd H dx (.own x)) x (.ins G.Hs dx [])) y=none->y≠x:=λ{y} h e=>by rw[e,aE]at h;cases h
 have e1:=nx h1;have e2:=nx h2;have e3:=nx h3;have f2:=dB (dB h2);have f3:=dB (dB h3);have f1:=dB (dB h1);refine⟨?_,z,dx,d,p,q,[],[],f2,aE,?_,.nil,?_,(λ_ h=>(nomatch h)),rfl,?_⟩
 .intro b o e;have J:b≠x:=aP e z;rw[aF J,aF (aP e f3),aF (aP e f2),aF (aP e f1),aF J,aF (aP e hd)];exact e
 .rw[aF e1,aF U,aF M,aE]
 .rw[aF e2,aF Y,aE]
 .rw[aF e3,aE]
def wsL:Nat->Trs
 | 0=>[]
 | 1=>[(1,35)]
 | _=>[(1,38)]
def aFi {i:Nat} (h:i<=2):∃ e O,e4[i]?=some e/\GoS [1,2] (wsL i) e O/\(i<2/\O=.inl ([1,2],wsL (i+1))\/i=2/\O=.inr .laid):=by
 obtain rfl | rfl | rfl:i=0\/i=1\/i=2:=by lia
 .exact⟨_,_,rfl,.w0,.inl ⟨by decide,rfl⟩⟩
 .exact⟨_,_,rfl,.w1,.inl ⟨by decide,rfl⟩⟩
 .exact⟨_,_,rfl,.laid .far (by decide),.inr ⟨rfl,rfl⟩⟩
def P2 {t:Str} (h:(10:Nat)∉dG t):Txt.split t "\n"=[t]:=by
 have e:=StrLaws.join_split t "\n";cases hs:Txt.split t "\n" with
 | nil=>exact absurd hs (aB6 _ _)
 | cons z r =>
  rw[hs]at e;cases r with
  | nil=>rw[show z=t from e]
  | cons y ys =>
   exfalso
   apply h
   rw[<- e];show 10∈dG (z++"\n"++Str.join "\n" (y :: ys));rw[gO,gO];exact aGe _ (aGZ _ (show 10∈[10]by decide))
def zK {n:Int} (h0:0<=n) (h1:n<9967):Txs ("build a "++nT n)/\(10:Nat)∉dG ("build a "++nT n):=by
 obtain⟨m,rfl⟩:∃ m:Nat,n=(m:Int):=⟨n.toNat,by lia⟩;have hs:dG ("build a "++nT (m:Int))=[98,117,105,108,100,32,97,32]++dg m:=by
  rw[gO,aEU]
  congr 1
 have hd:∀ c∈dg m,48<=c/\c<=57:=λc J=>aEV m c J;refine⟨⟨aB5 λc J=>?_,?_⟩,λJ=>?_⟩
 .rw[hs]at J;rcases aGy.mp J with z | z
  .exact(show ∀ c∈[98,117,105,108,100,32,97,32],c<128 by decide) c z
  .have:=hd c z;lia
 .rw[<- zA,hs,aG4];have:=(aB4 3 m (by lia)).2;show 8+_<=5000
  lia
 .rw[hs]at J;rcases aGy.mp J with z | z
  .revert z;decide
  .have:=hd _ z;lia
def aD4 (n:Int):("build a "++nT n:Str)≠"":=λz=>by
 have h:=congrArg List.length (congrArg dG z);rw[gO,aG4]at h;have J:(dG ("build a ":Str)).length=8:=rfl;have h0:(dG ("":Str)).length=0:=rfl
 lia
def Kq.tab {P:Addr} {H':Hp} {ps:Array Value} (J:H P=some (.tbl ps)) (g:SameT P H H'):Kq G H H' :=
 ⟨λ_ _ e=>g _ _ (cI e J λz=>by cases z) e,λ_ _ e=>g _ _ (cI e J λz=>by cases z) e,λ_ _ _ _ _ e=>g _ _ (cI e J λz=>by cases z) e,λ_ _ _ e=>g _ _ (cI e J λz=>by cases z) e⟩
def HO5.tab {P a:Addr} {Hb H':Hp} {S:Sd5} {n:Nat} {q:Str} (h:HO5 G Hb H a S n) (T:TabT q P H) (g:SameT P H H') (T':TabT q P H') :
 ∃ J,HO5 G J H' a S n/\TabT q P J/\∀ L,Same J L->SameT P Hb L:=by
 obtain⟨ps,hP,_⟩:=T.ex;have kq:Kq G H H':=.tab hP g;obtain⟨h1,h2,dx,d,p,q,kvs,us,h3,h4,h5,h6,h7,h8,h9,M⟩:=h;have na:a≠P:=cI h4 hP λz=>by cases z
 have np:p≠P:=cI h7 hP λz=>by cases z
 have U:=g _ _ na h4;have Y:=g _ _ np h7;have out:∀ {b o},H' b=some o->(∀ C dx fs,o≠.ins C dx fs)->(∀ xs,o≠.lst xs)->wo [a,p] H' b=some o:=λ{b o} e n1 n2=>by
  rw[C4]
  .exact e
  .intro z;rcases aGx.mp z with z | z
   .rw[z,U]at e;cases e;exact n1 _ _ _ rfl
   .rw[aGr.mp z,Y]at e;cases e;exact n2 _ rfl
 refine⟨wo [a,p] H',⟨m5,O1 (by simp),dx,d,p,q,kvs,us,O1 (by simp),U,kq.dk _ _ h5,wH kq h6,Y,h8,h9,g _ _ (cI M hP λz=>by cases z) M⟩,?_,λL s b o n e=>?_⟩
 .obtain⟨aw,ax,t1,t2⟩:=T'.ex;exact⟨aw,out ax (λ_ _ _ z=>by cases z) (λ_ z=>by cases z),t1,λlp v e=>by
   obtain⟨c,e1,e2⟩:=t2 lp v e;exact⟨c,e1,out e2 (λ_ _ _ z=>by cases z) (λ_ z=>by cases z)⟩⟩
 .refine s b o ?_;rw[C4]
  .exact g _ _ n (h1 _ _ e)
  .intro z;rcases aGx.mp z with z | z
   .rw[z,h2]at e;cases e
   .rw[aGr.mp z,h3]at e;cases e
def aC4 (n:Int):eU [n,n]=.row 1:=by
 have b:lR [n,n] 1:=⟨by decide,show 1<2 by decide,nr n,λj h1 h2=>by lia⟩;unfold eU;have z:∃ i,lR [n,n] i:=⟨1,b⟩;rw[dt (show ¬ 60<[n,n].length from (show ¬ 60<2 by decide)),dif_pos z,vZ (oh z) b];rfl
def nm5 (i:Nat):Str:=⟨#[97+i]⟩
def S5 (i:Nat):Sd5:=("road",D3) :: (List.range i).map λj=>(nm5 j,⟨[],[],[],[]⟩)
def aC5 (i:Nat):(S5 i).length=i+1:=by simp[S5]
def aD5 (i:Nat):S5 (i+1)=S5 i++[(nm5 i,⟨[],[],[],[]⟩)]:=by
 unfold S5;rw[tj,aGa];rfl
def aEf:∀ i:Nat,i<8->atI ("abcdefghi":Str).cps.toList (i:Int)=some (97+i)/\sH (nm5 i) L3 8=true/\nm5 i∉(S5 i).map (·.1):=by decide +kernel
def n8 {i:Nat} (h:i<8):Txs (nm5 i):=⟨aB5 λc z=>by
 have:c=97+i:=by simpa[dG,nm5]using z
 lia,show 1<=5000 by decide⟩
end
end CW
namespace L2
open PySem PySem.Spec PyProof.Rows
def FnScope.of {N ps:List Str} {z:Scope} (a:z.kind=.function:=by rfl) (b:z.isCoroutine=false:=by rfl) (c:z.isGenerator=false:=by rfl) (d:N.Nodup:=by decide +kernel) (e:N.take ps.length=ps:=by rfl)
 (f:∀ x∈ps,z.names.lookup x=some .local\/z.names.lookup x=some .cell:=by decide +kernel) (g:∀ y∈z.names,y.2≠.free:=by decide +kernel):FnScope N ps z:=⟨a,b,c,d,e,f,g⟩
section
variable {P:Program} {w:World} {K:PySem.W.Frag} {mg:Str->Option Value} {base:Heap} {x qual:Str} {st:Stmt} {f:Addr} {fd:FuncData} {N ps:List Str} {k:Nat} {sp:Sp}
def Fun.g (F:Fun K x qual st f fd) (S:FnScope N ps (aG st)) (run:∀ z A outer s H vs Q E,Room k (A.deeper (PyProof.Rows.envOfC qual (aG st) s.heap.objs.size f z))->sp vs H Q E->∃ t,PSs (gE CX0 P w K mg base N qual (aG st) f z A outer s H E).nox (aZ st) t/\t { nx:=λ_ H'=>Q .non H',rt:=Q } (eJ N vs) H)
 (len:∀ vs H Q E,sp vs H Q E->vs.length=ps.length:=by intro vs H Q E h;cases h <;> subst_vars <;> rfl):FnOk P w K mg base CX0 (k+1) f fd ps sp:=F.ok S len run
def Fun.gX (F:Fun K x qual st f fd) (S:FnScope N ps (aG st)) (run:∀ z A outer s H vs Q E,A.frames=some outer->Room k (A.deeper (PyProof.Rows.envOfC qual (aG st) s.heap.objs.size f z))->sp vs H Q E->∃ t,PSs (gE (CXR P w) P w K mg base N qual (aG st) f z A outer s H E) (aZ st) t/\t { nx:=λ_ H'=>Q .non H',rt:=Q } (eJ N vs) H)
 (len:∀ vs H Q E,sp vs H Q E->vs.length=ps.length:=by intro vs H Q E h;cases h <;> subst_vars <;> rfl):FnOk P w K mg base (CXR P w) (k+1) f fd ps sp:=F.okX S len run
end
end L2
namespace CW
open PySem L2
section
variable {K:PySem.W.Frag} {mg:Str->Option Value}
def oS (K:PySem.W.Frag) (L A:List Addr) (err laid stone:Addr):Bool :=
 O8 (λi a=>aCT K a && O8 (λj b=>wD (PySem.W.kitOne K (.ref a) (.ref b)) (Nat.beq j i)) 0 L && wD (PySem.W.kitOne K (.ref a) (.type "ValueError")) true && wD (PySem.W.exmOne K (.ref a) (.ref err)) true) 0 L
  && A.all (λa=>aE6 K a "at") && wD (PySem.W.exmAny K (.ref laid) [.ref laid,.ref stone]) true && wD (PySem.W.exmAny K (.ref stone) [.ref laid,.ref stone]) true
def aEg {X:cL K mg} {L A:List Addr} {a:Addr} (h:oS K L A a X.laid X.stone=true):aEb X:=by
 simp only[oS,gf]at h;exact⟨lS h.1.2,lS h.2⟩
def qG {L A:List Addr} {a b c d:Addr} (h:oS K L A a b c=true) (hd:d∈A):sL K d "at":=by
 simp only[oS,gf,om]at h;exact aF7 (h.1.1.2 d hd)
def aEh {X:cL K mg} {T:qB} {A:List Addr} {b c:Addr} (h:oS K (wE X T) A X.err b c=true) (m:Paired (λ(x:Str) c=>mg x=some (.ref c)) aFe (wE X T)):n5 X T:=by
 simp only[oS,gf]at h;obtain⟨⟨⟨L,_⟩,_⟩,_⟩:=h;have g:=λi a e=>by
  have:=rJ L i a e;simp only[gf,sr]at this;exact this
 refine⟨λi x c M z=>?_,λc z=>?_,λi j a b U Y=>?_,λc z=>?_,λc z=>?_⟩
 .obtain⟨y,J,q⟩:=iT m z;rw[M]at J;cases J;exact q
 .obtain⟨i,e⟩:=List.mem_iff_getElem?.mp z;exact aEc (g i c e).1.1.1
 .have:=rJ (g i a U).1.1.2 j b Y;simp only[sr]at this;rw[lS this,aDZ]
 .obtain⟨i,e⟩:=List.mem_iff_getElem?.mp z;exact lS (g i c e).1.2
 .obtain⟨i,e⟩:=List.mem_iff_getElem?.mp z;exact lS (g i c e).2
def jV {R:Str×DK->Prop} {y:Str×DK} {ks:List (Str×DK)} (h:R y) (t:∀ x∈ks,R x):∀ x∈y :: ks,R x:=λx hx=>by
 rcases aGx.mp hx with e | hx
 .rw[e];exact h
 .exact t x hx
section
variable {P:Program} {w:World} {base h:Heap} {nm q:Str} {st:Stmt} {C I D fB:Addr} {fd ao:FuncData} {p1 p2 p3 p4 p5 p6 p7 p8 p9 pa pb pc pd pe pf:Pos}
abbrev RA0 (P:Program) (w:World) (K:PySem.W.Frag) (mg:Str->Option Value) (base:Heap) (nm:Str) (C:Addr):Prop:=RaisesAs P w K mg base nm C ["self","why"] (aF6 nm C)
abbrev RAI (P:Program) (w:World) (K:PySem.W.Frag) (mg:Str->Option Value) (base:Heap) (nm:Str) (C:Addr):Prop:=RaisesAs P w K mg base nm C ["self","at"] (V4 nm C)
end
end
def top (i:Nat):Stmt:=PySem.Challenge.pw_creelway_k55_refusals_apart.main.body.getD i (.Pass ⟨0,0,0,0⟩)
section
variable {P:Program} {w:World} {K:PySem.W.Frag} {mg:Str->Option Value} {base:Heap} {f:Addr} {fd:FuncData} {tC t1 t2 t3:Tok}
abbrev kH:Stmt:=top 24
def iU:FnScope ["row","at"] ["row"] (aG kH):=.of
def P3 (F:Fun K "look_row" "look_row" kH f fd) (B:Bt mg) (C:Cn mg tC):FnOk P w K mg base CX0 1 f fd ["row"] kF:=by
 refine F.g iU λcdv A outer s H vs Q E hr h=>?_;obtain⟨a,row,rfl,ha,⟨hrow,hlen⟩,k⟩:=h;refine⟨_,(aI (bT (aV iL (aL bD (by rfl) B.len gj (aA (pv 0) aB)) (cF (v:=.int 60) rfl C.MOST_STONES ⟨_,rfl⟩) (bE _)) (aJ bG) aY) (aJ (dZ ia rfl (qR rfl B.range (aA aK (aA (aL bD (by rfl) B.len gj (aA (pv 0) aB)) aB))) (aM (i:=1) iU.nd rfl (Or.inl rfl)) (aJ (bT (aV Y7 (dQ uQ (pv 0) (pv 1) (λ_ _=>rfl)) (dQ uQ (pv 0) (bA iY (pv 1) aK) (λ_ _=>rfl)) (bE _)) (aJ bG) aY))))),?_⟩
 try dsimp only[bX,bZ]
 refine⟨_,rfl,a,_,rfl,ha.sq,_,_,rfl,rfl,_,rfl,dR (by rw[aGV];lia) ?_⟩;refine⟨_,rfl,a,_,rfl,ha.sq,_,_,rfl,⟨by decide,by decide,by lia,by rw[aGV];lia⟩,gW (lo:=1) (λi σ H2=>∃ v,σ=[some (.ref a),v]/\H2=H) ⟨none,rfl,rfl⟩ ?_ ?_⟩
 .rintro i σ H2 hi ⟨v,rfl,rfl⟩;rw[aGV]at hi;obtain⟨x,_,hx,ex⟩:=vB (ns:=row) (i:=1+(i:Int)) (by lia) (by lia);obtain⟨y,_,hy,ey⟩:=vB (ns:=row) (i:=1+(i:Int) - 1) (by lia) (by lia);refine⟨_,rfl,_,rfl,ha.ix ex ⟨_,rfl,_,rfl,_,_,rfl,rfl,ha.ix ey ⟨_,_,rfl,rfl,_,rfl,dR ?_ ⟨_,rfl,rfl⟩⟩⟩⟩;have:=hrow.lt (show (1+(i:Int) - 1).toNat<(1+(i:Int)).toNat by lia) hy hx
  lia
 .rintro σ H2 ⟨v,rfl,rfl⟩;exact k
def aC6 (F:Fun K "look_row" "look_row" kH f fd) (B:Bt mg) (C:Cn mg tC) (X:cL K mg) (R_TooMany:RA0 P w K mg base "TooMany" X.many) (R_BadRow:RAI P w K mg base "BadRow" X.row):FnOk P w K mg base (CXR P w) 4 f fd ["row"] (C5 X):=by
 refine F.gX iU λcdv A outer s H vs Q E hfr hr h=>?_;obtain⟨a,row,rfl,ha,hlen,k2,k⟩:=h;obtain⟨k1,k3⟩:=aAF k;refine⟨_,(aI (bT (aV iL (aL bD (by rfl) B.len gj (aA (pv 0) aB)) (cF (v:=.int 60) rfl C.MOST_STONES ⟨_,rfl⟩) (bE _)) (aJ (bI (cW hfr) R_TooMany rfl rfl hr rfl (aA (eO (aX (cV (by decide)) (aX (gF (cF (v:=.int 60) rfl C.MOST_STONES ⟨_,rfl⟩)) (aX (cV (by decide)) eN)))) aB))) aY) (aJ (dZ N7 rfl (qR rfl B.range (aA aK (aA (aL bD (by rfl) B.len gj (aA (pv 0) aB)) aB))) (aM (i:=1) iU.nd rfl (Or.inl rfl)) (aJ (bT (aV Y7 (dQ uQ (pv 0) (pv 1) (λ_ _=>rfl)) (dQ uQ (pv 0) (bA iY (pv 1) aK) (λ_ _=>rfl)) (bE _)) (aJ (bI (cW hfr) R_BadRow rfl rfl hr rfl (aA (pv 1) aB))) aY))))),?_⟩
 try dsimp only[bX,bZ]
 by_cases h60:60<row.length
 .refine⟨_,rfl,a,_,rfl,ha.sq,_,_,rfl,rfl,_,rfl,?_⟩;exact iO (by rw[aGV];lia) ⟨60,rfl,by decide,by decide,λz=>rd0 (k1 h60)⟩
 .have k3:=k3 (by lia);refine⟨_,rfl,a,_,rfl,ha.sq,_,_,rfl,rfl,_,rfl,dR (by rw[aGV];lia) ?_⟩;refine⟨_,rfl,a,_,rfl,ha.sq,_,_,rfl,⟨by decide,by decide,by lia,by rw[aGV];lia⟩,gW (lo:=1) (λi σ H2=>(∃ v,σ=[some (.ref a),v]/\H2=H)/\∀ j,1<=j->j<1+i->row.getD (j - 1) 0<row.getD j 0) ⟨⟨none,rfl,rfl⟩,λj h1 h2=>by lia⟩ ?_ ?_⟩
  .rintro i σ H2 hi ⟨⟨v,rfl,rfl⟩,hg⟩;rw[aGV]at hi;obtain⟨x,_,hx,ex⟩:=vB (ns:=row) (i:=1+(i:Int)) (by lia) (by lia);obtain⟨y,_,hy,ey⟩:=vB (ns:=row) (i:=1+(i:Int) - 1) (by lia) (by lia);refine⟨_,rfl,_,rfl,ha.ix ex ⟨_,rfl,_,rfl,_,_,rfl,rfl,ha.ix ey ⟨_,_,rfl,rfl,_,rfl,?_⟩⟩⟩;have gx:row.getD (1+i) 0=x:=by rw[ic,show 1+i=(1+(i:Int)).toNat from by lia,hx];rfl
   have gy:row.getD (1+i - 1) 0=y:=by rw[ic,show 1+i - 1=(1+(i:Int) - 1).toNat from by lia,hy];rfl
   by_cases hb:x<=y
   .have:=k3 (1+i) ⟨by lia,by lia,by rw[gx,gy];exact hb,λj h1 h2=>hg j h1 h2⟩;rw[show ((1+i:Nat):Int)=1+(i:Int) from by lia]at this;exact iO hb ⟨_,rfl,rdI (vY (by lia) (by lia)) this⟩
   .refine dR hb ⟨⟨_,rfl,rfl⟩,λj h1 h2=>?_⟩
    by_cases hj:j<1+i
    .exact hg j h1 hj
    .obtain rfl:j=1+i:=by lia
     rw[gx,gy]
     lia
  .rintro σ H2 ⟨⟨v,rfl,rfl⟩,hg⟩;rw[aGV]at hg;exact k2 (aAE.mpr ⟨by lia,λj h1 h2=>hg j h1 (by lia)⟩)
abbrev gQ:Stmt:=top 28
def nY:FnScope ["creel"] ["creel"] (aG gQ):=.of
def xQ (F:Fun K "look_creel" "look_creel" gQ f fd) (B:Bt mg):FnOk P w K mg base CX0 1 f fd ["creel"] fA:=by
 refine F.g nY λcdv A outer s H vs Q E hr h=>?_;obtain⟨c,rfl,hc,k⟩:=h;refine⟨_,(aJ (bT (aV jM (pv 0) aK (bE _)) (aJ bG) aY)),?_⟩
 try dsimp only[bX,bZ]
 exact⟨_,rfl,_,_,rfl,rfl,_,rfl,dR (by lia) k⟩
def wL (F:Fun K "look_creel" "look_creel" gQ f fd) (B:Bt mg) (X:cL K mg) (R_BadCreel:RA0 P w K mg base "BadCreel" X.creel):FnOk P w K mg base (CXR P w) 4 f fd ["creel"] (wB X):=by
 refine F.gX nY λcdv A outer s H vs Q E hfr hr h=>?_;obtain⟨c,rfl,k1,k2⟩:=h;refine⟨_,(aJ (bT (aV jM (pv 0) aK (bE _)) (aJ (bI (cW hfr) R_BadCreel rfl rfl hr rfl (aA aU aB))) aY)),?_⟩
 try dsimp only[bX,bZ]
 exact⟨_,rfl,_,_,rfl,rfl,_,rfl,pH (λz=>rd0 (k2 z)) λz=>k1 (by lia)⟩
abbrev kI:Stmt:=top 29
def jB:FnScope ["walks","creel","count"] ["walks"] (aG kI):=.of
def xR (F:Fun K "look_walks" "look_walks" kI f fd) (B:Bt mg) (F_look_creel:cZ P w K mg base "look_creel" 1 ["creel"] fA):FnOk P w K mg base CX0 2 f fd ["walks"] B3:=by
 refine F.g jB λcdv A outer s H vs Q E hr h=>?_;obtain⟨a,ws,rfl,⟨us,ha,pr⟩,hc,k⟩:=h;refine⟨_,(aJ (dZ ia rfl (eM (pv 0)) (eP (n:=2) rfl (aO (aM (i:=1) jB.nd rfl (Or.inl rfl)) (aO (aM (i:=2) jB.nd rfl (Or.inl rfl)) cA))) (aJ (aN (bU F_look_creel hr rfl (aA (pv 1) aB)))))),?_⟩
 try dsimp only[bX,bZ]
 refine⟨_,rfl,a,rfl,⟨_,SqL.of ha⟩,jL (K:=K) (a:=a) (xs:=us) (λi σ H2=>∃ v1 v2,σ=[some (.ref a),v1,v2]/\H2=H) ⟨none,none,rfl,rfl⟩ (λi σ H2 _ ⟨_,_,_,e⟩=>by rw[e];exact SqL.of ha) ?_ ?_⟩
 .rintro i x σ H2 hi ⟨v1,v2,rfl,rfl⟩;obtain⟨p,t',hp,rfl,et⟩:=eF pr hi;exact⟨t',_,rfl,SqT.of et,rfl,_,_,rfl,_,_,rfl,rfl,_,rfl,_,rfl,hc p (aG6 hp),_,_,rfl,rfl⟩
 .rintro σ H2 ⟨v1,v2,rfl,rfl⟩;exact k
abbrev lZ:Stmt:=top 30
def dW:FnScope ["row","creel","behind","held","niche","place"] ["row","creel"] (aG lZ):=.of
inductive zL (H:Hp) (a:Addr) (l:Addr) (c:Int) (row:List Int) (i:Nat) (σ:St) (H2:Hp):Prop
 | mk (bs:List Int) (h:Nat) (n:Int) (v:Option V) (k0_:σ=[some (.ref a),some (.int c),some (.ref l),some (.int h),some (.int n),v]) (k1_:Same H H2) (k2_:H2 l=some (.lst (bs.map V.int))) (k3_:bs++goM c (row.drop i) h n=yR row c) (k4_:bs.length+h=i):zL H a l c row i σ H2
inductive zM (H:Hp) (a:Addr) (l:Addr) (c:Int) (row:List Int) (i:Nat) (p:Int) (σ:St) (H3:Hp):Prop
 | mk (bs:List Int) (h:Nat) (n:Int) (k0_:σ=[some (.ref a),some (.int c),some (.ref l),some (.int h),some (.int n),some (.int p)]) (k1_:Same H H3) (k2_:H3 l=some (.lst (bs.map V.int))) (k3_:bs++goM c (p :: row.drop (i+1)) h n=yR row c) (k4_:bs.length+h=i):zM H a l c row i p σ H3
inductive zN (H:Hp) (a:Addr) (l:Addr) (c:Int) (row:List Int) (i:Nat) (p:Int) (n:Int) (σ:St) (H4:Hp):Prop
 | mk (bs:List Int) (h:Nat) (k0_:σ=[some (.ref a),some (.int c),some (.ref l),some (.int h),some (.int n),some (.int p)]) (k1_:Same H H4) (k2_:H4 l=some (.lst (bs.map V.int))) (k3_:bs++goM c (row.drop (i+1)) h (p+1)=yR row c) (k4_:bs.length+h=i+1):zN H a l c row i p n σ H4
inductive zO (H:Hp) (a:Addr) (l:Addr) (c:Int) (row:List Int) (i:Nat) (p:Int) (n:Int) (σ:St) (H4:Hp):Prop
 | mk (bs:List Int) (h:Nat) (k0_:σ=[some (.ref a),some (.int c),some (.ref l),some (.int h),some (.int n),some (.int p)]) (k1_:Same H H4) (k2_:H4 l=some (.lst (bs.map V.int))) (k3_:bs++goM c (row.drop (i+1)) h (p+1)=yR row c) (k4_:bs.length+h=i+1):zO H a l c row i p n σ H4
def aAM (F:Fun K "walked" "walked" lZ f fd) (B:Bt mg) (F_look_row:cZ P w K mg base "look_row" 1 ["row"] zW) (F_look_creel:cZ P w K mg base "look_creel" 1 ["creel"] fA):FnOk P w K mg base CX0 2 f fd ["row","creel"] vC:=by
 refine F.g dW λcdv A outer s H vs Q E hr h=>?_;obtain⟨a,row,c,rfl,ha,hrow,hlen,hc,k⟩:=h;refine⟨_,(aI (aN (bU F_look_row hr rfl (aA (pv 0) aB))) (aI (aN (bU F_look_creel hr rfl (aA (pv 1) aB))) (aI (aW (i:=2) dW.nd rfl (Or.inl rfl) (bP aB)) (aI (aW (i:=3) dW.nd rfl (Or.inl rfl) aK) (aI (aW (i:=4) dW.nd rfl (Or.inr rfl) aK) (aI (dZ ia rfl (eM (pv 0)) (aM (i:=5) dW.nd rfl (Or.inl rfl)) (aI (uK ia (PW.pt (aDs (aV iL (pv 3) aK (bE _)) (aCi (aV jM (pv 4) (pv 5) (bE _))))) (aI (aN (lE aGs aGt aGu dU (pv 2) (aA (pv 4) aB))) (aI (uJ (i:=3) dW.nd rfl (Or.inl rfl) aK aA8) (aJ (uJ (i:=4) dW.nd rfl (Or.inr rfl) aK Q5))))) (tQ (bT (aV jM (pv 3) (pv 1) (bE _)) (aJ (uJ (i:=3) dW.nd rfl (Or.inl rfl) aK Q5)) (aJ (aN (lE aGs aGt aGu dU (pv 2) (aA (pv 5) aB))))) (aJ (aW (i:=4) dW.nd rfl (Or.inr rfl) (bA dJ (pv 5) aK)))))) (aJ (bO (bA lF (pv 2) (fK ["more"] ["niche"] [4] rfl (.of (show eC (aG lZ) _ ["row","creel","behind","held","niche","place"] [4] ["niche"]=true by decide +kernel)) (gU rfl B.range (aA (pv 3) aB)) (λ_ _ _=>(aM (i:=0) (show (["more","niche"]:List Str).Nodup by decide +kernel) rfl (Or.inl rfl))) (kA (by decide)) (λ_ _ _=>dY) (λ_ _ _=>(bA dJ (pv 1) (pv 0))))))))))))),?_⟩
 try dsimp only[bX,bZ]
 refine⟨_,rfl,a,row,rfl,ha,hrow,hlen,_,rfl,c,rfl,hc,by decide,λl hl=>?_⟩;refine⟨_,rfl,a,rfl,⟨_,SqL.of (Same.upd hl _ _ ha)⟩,jL (K:=K) (a:=a) (xs:=row.map V.int) (zL H a l c row)
  ⟨[],0,0,none,rfl,Same.upd hl,aE,rfl,rfl⟩ (λi σ H2 _ z_=>by obtain⟨bs,h,n,v,_,sm,_⟩:=z_;exact SqL.of (sm _ _ ha)) ?_ ?_⟩
 .rintro i x σ H2 hi ⟨bs,h,n,v,rfl,sm,el,eq,hb⟩;have hil:i<row.length:=by
   have:=(aGw.mp hi).1;simpa using this
  obtain⟨p,rfl,hz⟩:=zX hi;have hd:row.drop i=p :: row.drop (i+1):=by
   obtain⟨h1,rfl⟩:=aGw.mp hz;exact mf h1
  rw[hd]at eq;refine G7 (zM H a l c row i p)
   (fun σ _=>match σ with | [_,_,_,some (.int h),_,_]=>h.toNat | _=>0) ⟨bs,h,n,rfl,sm,el,eq,hb⟩ ?_ ?_
  .rintro σ H3 ⟨bs,h,n,rfl,sm3,el3,eq3,hb3⟩;refine⟨_,rfl,_,_,rfl,rfl,_,rfl,pH (λh0=>?_) (λh0=>?_)⟩
   .refine⟨_,rfl,_,rfl,_,_,rfl,rfl,_,rfl,pH (λh1=>?_) (λh1=>?_)⟩
    .obtain⟨h',rfl⟩:∃ h',h=h'+1:=⟨h - 1,by lia⟩;refine⟨_,rfl,.inl ⟨rfl,_,SqL.of el3⟩,_,rfl,l,_,_,rfl,rfl,el3,(by rw[aGV];exact bH (by lia)),?_⟩;refine⟨_,rfl,_,_,rfl,rfl,_,rfl,_,_,rfl,rfl,?_⟩;rw[aDA h1]at eq3;refine⟨⟨bs++[n],h',n+1,?_,Same.upd' hl sm3,by rw[aE,aGa];rfl,by rw[jh];exact eq3,by simp;lia⟩,?_⟩
     .have e1:((h'+1:Nat):Int) - 1=(h':Int):=by lia
      show [some (V.ref a),some (V.int c),some (V.ref l),some (V.int (((h'+1:Nat):Int) - 1)),some (V.int (n+1)),some (V.int p)]=_;rw[e1]
     .show (((h'+1:Nat):Int) - 1).toNat<((h'+1:Nat):Int).toNat
      lia
    .rw[b0 (.inr (by lia))]at eq3;refine⟨zN H a l c row i p n,?_,?_⟩
     .refine⟨_,rfl,_,rfl,_,_,rfl,rfl,_,rfl,pH (λh2=>?_) (λh2=>?_)⟩
      .rw[eH h2]at eq3;exact⟨_,rfl,_,_,rfl,rfl,bs,h+1,rfl,sm3,el3,eq3,by lia⟩
      .rw[dt h2]at eq3;refine⟨_,rfl,.inl ⟨rfl,_,SqL.of el3⟩,_,rfl,l,_,_,rfl,rfl,el3,(by rw[aGV];exact bH (by lia)),?_⟩;exact⟨bs++[p],h,rfl,Same.upd' hl sm3,by rw[aE,aGa];rfl,by rw[jh];exact eq3,by simp;lia⟩
     .rintro σ H4 ⟨bs,h,rfl,sm4,el4,eq4,hb4⟩;exact⟨_,rfl,_,_,rfl,rfl,bs,h,p+1,_,rfl,sm4,el4,eq4,hb4⟩
   .have h00:h=0:=by lia
    rw[b0 (.inl h00)]at eq3;refine⟨zO H a l c row i p n,?_,?_⟩
    .refine⟨_,rfl,_,rfl,_,_,rfl,rfl,_,rfl,pH (λh2=>?_) (λh2=>?_)⟩
     .rw[eH h2]at eq3;exact⟨_,rfl,_,_,rfl,rfl,bs,h+1,rfl,sm3,el3,eq3,by lia⟩
     .rw[dt h2]at eq3;refine⟨_,rfl,.inl ⟨rfl,_,SqL.of el3⟩,_,rfl,l,_,_,rfl,rfl,el3,(by rw[aGV];exact bH (by lia)),?_⟩;exact⟨bs++[p],h,rfl,Same.upd' hl sm3,by rw[aE,aGa];rfl,by rw[jh];exact eq3,by simp;lia⟩
    .rintro σ H4 ⟨bs,h,rfl,sm4,el4,eq4,hb4⟩;exact⟨_,rfl,_,_,rfl,rfl,bs,h,p+1,_,rfl,sm4,el4,eq4,hb4⟩
  .intro σ H3 Q1 Q2 hq h;obtain⟨x,e,i1,j1,e1,e2,b1,e3,h⟩:=h;refine⟨x,e,i1,j1,e1,e2,b1,e3,?_⟩;cases b1 with
   | false=>exact hq _ _ h
   | true =>
    obtain⟨x,e,y,e',i2,j2,e4,e5,b2,e6,h⟩:=h;exact⟨x,e,y,e',i2,j2,e4,e5,b2,e6,hq _ _ h⟩
 .rintro σ H2 ⟨bs,h,n,v,rfl,sm,el,eq,hb⟩;rw[aGV]at eq hb;rw[List.drop_length]at eq;refine⟨_,rfl,_,rfl,_,rfl,by lia,by lia,oG (lo:=0) (n:=h) (λi ys H3=>H3=H2/\ys=((List.range i).map (λ(k:Nat)=>n+(k:Int))).map V.int) ⟨rfl,rfl⟩ ?_ ?_ ?_⟩
  .rintro i ys H3 hi ⟨rfl,rfl⟩;simp only[aGV,ko];exact bH (by lia)
  .rintro i ys H3 hi ⟨rfl,rfl⟩;refine⟨_,rfl,_,rfl,_,_,rfl,rfl,rfl,?_⟩;rw[tj,aGa,aGa];simp
  .rintro ys H3 ⟨rfl,rfl⟩ D hD;have smD:=Same.upd (o:=.lst (((List.range h).map (λ(k:Nat)=>n+(k:Int))).map V.int)) hD;refine⟨l,D,_,_,rfl,rfl,smD _ _ el,aE,?_,λq hq=>?_⟩
   .simp only[aGV,ko];exact dE (by lia)
   .rw[<- aGa];have smH:=sm.trans smD;refine k q _ (smH.free hq) (Same.upd' (smH.free hq) smH) ?_;rw[aE,<- eq];rfl
def W5 (F:Fun K "walked" "walked" lZ f fd) (B:Bt mg) (X:cL K mg) (F_look_row:cZ P w K mg base "look_row" 1 ["row"] kF) (F_look_creel:dI P w K mg base "look_creel" 4 ["creel"] (wB X)):FnOk P w K mg base (CXR P w) 5 f fd ["row","creel"] (D6 X):=by
 refine F.gX dW λcdv A outer s H vs Q E hfr hr h=>?_;obtain⟨a,n,c,rfl,ha,hc,k⟩:=h;refine⟨_,(aI (aN (bU F_look_row hr rfl (aA (pv 0) aB))) (aI (aN (cN F_look_creel hr rfl (dF hfr) (aA (pv 1) aB))) (aI bG (aI bG (aI bG (aI bG (aJ bG))))))),?_⟩
 try dsimp only[bX,bZ]
 exact⟨_,rfl,a,[n],rfl,.inl ⟨trivial,ha⟩,⟨ij _ _,(show 1<=60 by decide)⟩,_,rfl,c,rfl,λz=>by lia,λ_=>k⟩
abbrev dX:Stmt:=top 33
def cK:FnScope ["trains","at","size","offset"] ["trains"] (aG dX):=.of
def wM (F:Fun K "look_trains" "look_trains" dX f fd) (B:Bt mg) (C:Cn mg tC):FnOk P w K mg base CX0 1 f fd ["trains"] tT:=by
 refine F.g cK λcdv A outer s H vs Q E hr h=>?_;obtain⟨a,ps,rfl,⟨us,ha,pr⟩,ht,k⟩:=h;have hul:us.length<=60:=by rw[pr.len];exact ht.len
 refine⟨_,(aI (dZ ia rfl (tR rfl B.enumerate (aA (pv 0) aB)) (eP (n:=2) rfl (aO (aM (i:=1) cK.nd rfl (Or.inl rfl)) (aO (eP (n:=2) rfl (aO (aM (i:=2) cK.nd rfl (Or.inl rfl)) (aO (aM (i:=3) cK.nd rfl (Or.inl rfl)) cA))) cA))) (aJ (bT (aV jM (pv 2) aK (bE _)) (aJ bG) aY))) (aJ (bT (aV iL (aL (hV rfl) (by rfl) B.sum hU (aA (fK ["size","offset"] [] [] rfl (.of (show eC (aG dX) _ ["trains","at","size","offset"] [] []=true by decide +kernel)) (eM (pv 0)) (λ_ _ _=>(iP (n:=2) K rfl rfl (aO (aM (i:=0) (show (["size","offset"]:List Str).Nodup by decide +kernel) rfl (Or.inl rfl)) (aO (aM (i:=1) (show (["size","offset"]:List Str).Nodup by decide +kernel) rfl (Or.inl rfl)) cA)))) (lI (cO (by decide) (cO (by decide) iM))) (λ_ _ _=>dY) (λ_ _ _=>(pv 0))) aB)) (cF (v:=.int 60) rfl C.MOST_STONES ⟨_,rfl⟩) (bE _)) (aJ bG) aY))),?_⟩
 try dsimp only[bX,bZ]
 refine⟨_,rfl,a,_,rfl,SqL.of ha,pI (K:=K) (a:=a) (xs:=us) (λi σ H2=>∃ v1 v2 v3,σ=[some (.ref a),v1,v2,v3]/\Same H H2) ⟨none,none,none,rfl,Same.refl _⟩ (λi σ H2 _ ⟨_,_,_,_,sm⟩=>SqL.of (sm _ _ ha)) ?_ ?_⟩
 .rintro i x σ H2 t hi ⟨v1,v2,v3,rfl,sm⟩ hn;obtain⟨p,t',hp,rfl,et⟩:=eF pr hi;have sm2:Same H (upd H2 t (.tup [.int i,.ref t'])):=sm.trans (Same.upd hn);have e1:=sm2 _ _ et;refine⟨t,_,rfl,SqT.of aE,rfl,_,_,rfl,_,_,rfl,⟨t',_,rfl,SqT.of e1,rfl,_,_,rfl,_,_,rfl,rfl,rfl,?_⟩⟩;have:=ht.pos p (aG6 hp);exact⟨_,rfl,_,_,rfl,rfl,_,rfl,dR (by lia) ⟨_,_,_,rfl,sm2⟩⟩
 .rintro σ H2 ⟨v1,v2,v3,rfl,sm⟩;refine⟨_,rfl,a,rfl,⟨_,SqL.of (sm _ _ ha)⟩,mX (K:=K) (a:=a) (xs:=us) (λi ys H3=>H3=H2/\ys=((ps.take i).map (·.1)).map V.int) ⟨rfl,rfl⟩ ?_ ?_ ?_⟩
  .rintro i ys H3 hi ⟨rfl,rfl⟩;exact⟨SqL.of (sm _ _ ha),aBN _ _ (by lia) _⟩
  .rintro i x ys H3 hi ⟨rfl,rfl⟩;obtain⟨p,t',hp,rfl,et⟩:=eF pr hi;exact⟨t',_,rfl,SqT.of (sm _ _ et),rfl,_,_,rfl,_,_,rfl,rfl,_,rfl,rfl,oH (·.1) hp⟩
  .rintro ys H3 ⟨rfl,rfl⟩ D hD;have e:us.length=ps.length:=pr.len;refine⟨D,szs ps,rfl,by rw[aE,e,aG9];rfl,_,_,rfl,rfl,_,rfl,dR ?_ (k _ (sm.trans (Same.upd hD)))⟩;have:=ht.few
   lia
def sV (F:Fun K "look_trains" "look_trains" dX f fd) (B:Bt mg) (C:Cn mg tC) (X:cL K mg) (T:qB) (R_TooMany:RA0 P w K mg base "TooMany" X.many) (R_BadTrains:RAI P w K mg base "BadTrains" T.trains):FnOk P w K mg base (CXR P w) 4 f fd ["trains"] (P0 X T):=by
 refine F.gX cK λcdv A outer s H vs Q E hfr hr h=>?_;obtain⟨a,ps,o,rfl,⟨us,ha,pr⟩,hl,hT,k⟩:=h;have hul:us.length<=9:=by rw[pr.len];exact hl
 refine⟨_,(aI (dZ N7 rfl (tR rfl B.enumerate (aA (pv 0) aB)) (eP (n:=2) rfl (aO (aM (i:=1) cK.nd rfl (Or.inl rfl)) (aO (eP (n:=2) rfl (aO (aM (i:=2) cK.nd rfl (Or.inl rfl)) (aO (aM (i:=3) cK.nd rfl (Or.inl rfl)) cA))) cA))) (aJ (bT (aV jM (pv 2) aK (bE _)) (aJ (bI (cW hfr) R_BadTrains rfl rfl hr rfl (aA (pv 1) aB))) aY))) (aJ (bT (aV iL (aL (hV rfl) (by rfl) B.sum hU (aA (fK ["size","offset"] [] [] rfl (.of (show eC (aG dX) _ ["trains","at","size","offset"] [] []=true by decide +kernel)) (eM (pv 0)) (λ_ _ _=>(iP (n:=2) K rfl rfl (aO (aM (i:=0) (show (["size","offset"]:List Str).Nodup by decide +kernel) rfl (Or.inl rfl)) (aO (aM (i:=1) (show (["size","offset"]:List Str).Nodup by decide +kernel) rfl (Or.inl rfl)) cA)))) (lI (cO (by decide) (cO (by decide) iM))) (λ_ _ _=>dY) (λ_ _ _=>(pv 0))) aB)) (cF (v:=.int 60) rfl C.MOST_STONES ⟨_,rfl⟩) (bE _)) (aJ (bI (cW hfr) R_TooMany rfl rfl hr rfl (aA (eO (aX (cV (by decide)) (aX (gF (cF (v:=.int 60) rfl C.MOST_STONES ⟨_,rfl⟩)) (aX (cV (by decide)) eN)))) aB))) aY))),?_⟩
 try dsimp only[bX,bZ]
 refine⟨_,rfl,a,_,rfl,SqL.of ha,pI (K:=K) (a:=a) (xs:=us) (λi σ H2=>∃ v1 v2 v3,σ=[some (.ref a),v1,v2,v3]/\Same H H2/\∀ q∈ps.take i,1<=q.1) ⟨none,none,none,rfl,Same.refl _,λq hq=>by simp at hq⟩ (λi σ H2 _ ⟨_,_,_,_,sm,_⟩=>SqL.of (sm _ _ ha)) ?_ ?_⟩
 .rintro i x σ H2 t hi ⟨v1,v2,v3,rfl,sm,hg⟩ hn;have hil:i<us.length:=(aGw.mp hi).1;obtain⟨p,t',hp,rfl,et⟩:=eF pr hi;have sm2:Same H (upd H2 t (.tup [.int i,.ref t'])):=sm.trans (Same.upd hn);have e1:=sm2 _ _ et;refine⟨t,_,rfl,SqT.of aE,rfl,_,_,rfl,_,_,rfl,⟨t',_,rfl,SqT.of e1,rfl,_,_,rfl,_,_,rfl,rfl,rfl,?_⟩⟩;refine⟨_,rfl,_,_,rfl,rfl,_,rfl,pH (λhb=>?_) (λhb=>?_)⟩
  .have hk:=k _ sm2;cases hT with
   | many h1 h2=>exact absurd (h1 p (aG6 hp)) (by lia)
   | bad j q h0 h1 h2 =>
    have e:j=i:=by
     rcases Nat.lt_trichotomy i j with z | z | z
     .exact absurd (h1 p (aG6 (i:=i) (by rw[List.getElem?_take,eH z];exact hp))) (by lia)
     .exact z.symm
     .exact absurd (hg q (aG6 (i:=j) (by rw[List.getElem?_take,eH z];exact h0))) (by lia)
    subst e;exact⟨_,rfl,rdI (vY (by lia) (by lia)) hk⟩
  .refine⟨_,_,_,rfl,sm2,λq hq=>?_⟩;rw[aGq,hp]at hq;rcases aGy.mp hq with h | h
   .exact hg q h
   .have:q=p:=by simpa using h
    rw[this];lia
 .rintro σ H2 ⟨v1,v2,v3,rfl,sm,hg⟩;have e:us.length=ps.length:=pr.len;rw[e,aG9]at hg;refine⟨_,rfl,a,rfl,⟨_,SqL.of (sm _ _ ha)⟩,mX (K:=K) (a:=a) (xs:=us) (λi ys H3=>H3=H2/\ys=((ps.take i).map (·.1)).map V.int) ⟨rfl,rfl⟩ ?_ ?_ ?_⟩
  .rintro i ys H3 hi ⟨rfl,rfl⟩;exact⟨SqL.of (sm _ _ ha),by simp only[aGV,aGb];exact bH (by lia)⟩
  .rintro i x ys H3 hi ⟨rfl,rfl⟩;obtain⟨p,t',hp,rfl,et⟩:=eF pr hi;exact⟨t',_,rfl,SqT.of (sm _ _ et),rfl,_,_,rfl,_,_,rfl,rfl,_,rfl,rfl,oH (·.1) hp⟩
  .rintro ys H3 ⟨rfl,rfl⟩ D hD;cases hT with
   | bad j q h0 h1 h2=>exact absurd (hg q (aG6 h0)) (by lia)
   | many h1 h60=>exact⟨D,szs ps,rfl,by rw[aE,e,aG9];rfl,_,_,rfl,rfl,_,rfl,iO h60 ⟨60,rfl,by decide,by decide,λ_=>rd0 (k _ (sm.trans (Same.upd hD)))⟩⟩
abbrev rL:Stmt:=top 34
def kJ:FnScope ["trains","offsets","size","offset"] ["trains"] (aG rL):=.of
inductive wN (H:Hp) (a:Addr) (d:Addr) (l:Addr) (us':List V) (qs:Trs) (i:Nat) (σ:St) (H3:Hp):Prop
 | mk (gs:List Grp) (v1 v2:Option V) (k0_:σ=[some (.ref a),some (.ref d),v1,v2]) (k1_:Same H H3) (k2_:H3 l=some (.lst us')) (k3_:Prs H3 us' qs) (k4_:DG H3 d gs) (k5_:(∀ g∈gs,H g.2.1=none/\g.2.1≠l/\g.2.1≠d)) (k6_:((bK gs).Perm (qs.take i)/\Asc gs)) (k7_:gs.length<=i) (k8_:∀ g∈gs,g.2.2.length<=i/\g.2.2≠[]):wN H a d l us' qs i σ H3
def W6 (F:Fun K "by_size" "by_size" rL f fd) (B:Bt mg):FnOk P w K mg base CX0 1 f fd ["trains"] rF:=by
 refine F.g kJ λcv A outer s H vs Q E hr h=>?_;obtain⟨a,ps,rfl,⟨us,ha,pr⟩,hpl,k⟩:=h;refine⟨_,(aI (aW (i:=1) kJ.nd rfl (Or.inl rfl) hW) (aI (dZ ia rfl (eM (aL pK (by rfl) B.sorted eZ (aA (pv 0) aB))) (eP (n:=2) rfl (aO (aM (i:=2) kJ.nd rfl (Or.inl rfl)) (aO (aM (i:=3) kJ.nd rfl (Or.inl rfl)) cA))) (aJ (aN (lE aGs aGt aGu dU (c9 (pv 1) (pv 2) (bP aB) ⟨rfl,rfl,rfl,rfl⟩) (aA (pv 3) aB))))) (aJ (bO (pv 1))))),?_⟩
 try dsimp only[bX,bZ]
 refine λd hd=>?_;have g1:=Same.upd (o:=.dK []) hd;have ed:(upd H d (.dK [])) d=some (.dK (kvG [])):=aE;generalize upd H d (.dK [])=H1 at g1 ed ⊢;refine⟨_,rfl,a,us,ps,rfl,g1 _ _ ha,pr.mono (TupS.same g1),by lia,λl M qs hl cm ax bh=>?_⟩;have g2:=Same.upd (o:=.lst M) hl;have el:(upd H1 l (.lst M)) l=some (.lst M):=aE;have bi:=cm.mono (TupS.same g2);have bj:=g2 _ _ ed;generalize upd H1 l (.lst M)=H2 at g2 el bi bj ⊢;have eu:M.length=ps.length:=by rw[bi.len,ax.length_eq]
 have cn:l≠d:=cI el bj (by intro z;cases z);have cp:=g1.trans g2;have cw:H l=none:=g1.free hl;refine⟨l,rfl,⟨_,SqL.of el⟩,jL (K:=K) (a:=l) (xs:=M) (wN H a d l M qs)
  ⟨[],none,none,rfl,cp,el,bi,⟨bj,λg J=>(nomatch J),List.Pairwise.nil,List.Pairwise.nil⟩,λg J=>(nomatch J),⟨.refl _,λg J=>(nomatch J)⟩,ah _,λg J=>(nomatch J)⟩ (λi σ H3 _ z_=>by obtain⟨_,_,_,_,_,e,_⟩:=z_;exact SqL.of e) ?_ ?_⟩
 .rintro i x σ H3 hi ⟨gs,v1,v2,rfl,sm,bn,bc,dg,Y,⟨hw,bf⟩,cq,ay⟩;obtain⟨p,t',hp,rfl,et⟩:=eF bc hi;have bg:∀ q∈bK gs,q.1=p.1->q.2<=p.2:=λq hq e=>by
   obtain⟨k',bv,bw⟩:=List.mem_iff_getElem.mp (hw.mem_iff.mp hq);have cr:k'<i:=by rw[aGb]at bv;lia
   have cu:k'<qs.length:=by rw[aGb]at bv;lia
   have bx:=(aGw.mp hp);have h3:=List.pairwise_iff_getElem.mp bh k' i cu bx.1 cr;rw[bx.2]at h3;rw[List.getElem_take]at bw;rw[bw]at h3;unfold ple at h3
   lia
  have bz:∀ l:Trs,l.Perm (p :: bK gs)->l.Perm (qs.take (i+1)):=λl hl=>by
   rw[aGq,hp];refine hl.trans ((hw.cons p).trans ?_);exact(su (l₁:=qs.take i) (l₂:=[p])).symm
  have cx:i<M.length:=(aGw.mp hi).1;refine⟨t',_,rfl,SqT.of et,rfl,_,_,rfl,_,_,rfl,rfl,_,rfl,d,rfl,.inl ⟨_,.inl dg.at_⟩,_,rfl,by decide,λz hz=>?_⟩;have g4:=Same.upd (o:=.lst []) hz;have ez:(upd H3 z (.lst [])) z=some (.lst []):=aE;have b_:H z=none:=sm.free hz;have cb:z≠l:=λe=>by rw[e,bn]at hz;cases hz
  have bo:z≠d:=λe=>by rw[e,dg.at_]at hz;cases hz
  generalize upd H3 z (.lst [])=H4 at g4 ez ⊢;have cf:=sm.trans g4;have cg:=g4 _ _ bn;have ci:=bc.mono (TupS.same g4);have az:∀ g∈gs,H4 g.2.1=some (.lst (g.2.2.map V.int)):=λg J=>g4 _ _ (dg.lst g J);have nz:∀ g∈gs,g.2.1≠z:=λg J e=>by have:=dg.lst g J;rw[e,hz]at this;cases this
  refine⟨kvG gs,Sum.inl p.1,g4 _ _ dg.at_,rfl,by simp only[kvG,aGV];exact bH (by lia),λv hv=>?_,λhv=>?_⟩
  .-- the size is there
   rw[fM]at hv;obtain⟨g,J,rfl⟩:=aGv.mp hv;have aw:=kc J;have bq:g.1=p.1:=by simpa using ss J
   have eg:=az g aw;have br:=Y g aw;refine⟨.inl ⟨rfl,_,SqL.of eg⟩,_,rfl,g.2.1,_,_,rfl,rfl,eg,(by rw[aGV];exact bH (by have:=(ay g aw).1;lia)),?_⟩;have a_:∀ g'∈fG p.1 p.2 gs,∃ L∈gs,g'.2.1=L.2.1/\g'.1=L.1/\(g'.2.2=if L.1=p.1 then L.2.2++[p.2]else L.2.2):=λg' U=>by
    obtain⟨L,h0,rfl⟩:=aGz.mp U;refine⟨L,h0,?_⟩
    by_cases hk:L.1=p.1
    .rw[eH hk,eH hk];exact⟨rfl,rfl,rfl⟩
    .rw[dt hk,dt hk];exact⟨rfl,rfl,rfl⟩
   have ba:vR H4 p.1 p.2 gs (fG p.1 p.2 gs):=.inl ⟨⟨g,aw,bq⟩,rfl⟩;have uniq:∀ L∈gs,L.2.1=g.2.1->L=g:=λL h0 e=>cT (f:=λg:Grp=>g.2.1) dg.adr h0 aw e;refine⟨fG p.1 p.2 gs,_,_,rfl,Same.upd' br.1 cf,by rw[aF (gi br.2.1)];exact cg,ci.mono (TupS.lst eg),⟨by rw[L7,aF (gi br.2.2)];exact g4 _ _ dg.at_,λg' U=>?_,by rw[L8];exact dg.adr,by rw[L9];exact dg.key⟩,λg' U=>?_,⟨bz _ (gZ dg.key ba),bf.puts ba bg⟩,by rw[aBd];lia,λg' U=>?_⟩
   .obtain⟨L,h0,e1,e2,e3⟩:=a_ g' U;rw[e1]
    by_cases bb:L.2.1=g.2.1
    .have:=uniq L h0 bb;subst this;rw[aE,e3,eH bq,aGa];rfl
    .have hk:L.1≠p.1:=λe=>bb (by rw[cT (f:=λg:Grp=>g.1) dg.key h0 aw (e.trans bq.symm)]);rw[aF bb,e3,dt hk];exact az L h0
   .obtain⟨L,h0,e1,_,_⟩:=a_ g' U;rw[e1];exact Y L h0
   .obtain⟨L,h0,_,_,e3⟩:=a_ g' U;have:=ay L h0;rw[e3];split
    .exact⟨by rw[aG4,gm];lia,by simp⟩
    .exact⟨by lia,this.2⟩
  .-- the size is new
   rw[fM]at hv;have cj:∀ g∈gs,g.1≠p.1:=λg J e=>by
    have:=List.find?_eq_none.mp (Option.map_eq_none_iff.mp hv) g J;exact this (by simpa using e)
   have ba:vR H3 p.1 p.2 gs (gs++[(p.1,z,[p.2])]):=.inr ⟨cj,z,hz,rfl⟩;rw[vH (V.ref z) (by rw[fM];exact hv)];have ck:(upd H4 d (.dK (kvG gs++[((Sum.inl p.1:Key),V.ref z)]))) z=some (.lst []):=by rw[aF bo];exact ez
   refine⟨.inl ⟨rfl,_,SqL.of ck⟩,_,rfl,z,_,_,rfl,rfl,ck,(show 0<sizeLine by decide),?_⟩;have bt:∀ b o,b≠d->b≠z->H4 b=some o->(upd (upd H4 d (.dK (kvG gs++[((Sum.inl p.1:Key),V.ref z)]))) z (.lst ([]++[V.int p.2]))) b=some o:=λb o n1 n2 e=>by rw[aF n2,aF n1];exact e
   refine⟨gs++[(p.1,z,[p.2])],_,_,rfl,Same.upd' b_ (Same.upd' hd cf),bt _ _ cn (gi cb) cg,ci.mono (λt xs e=>bt _ _ (cI e (g4 _ _ dg.at_) (by intro z;cases z)) (cI e ez (by intro z;cases z)) e),⟨?_,λg J=>?_,?_,?_⟩,λg J=>?_,⟨bz _ (gZ dg.key ba),bf.puts ba bg⟩,by rw[aG4,gm];lia,λg J=>?_⟩
   .rw[aF (gi bo),aE];unfold kvG;rw[aGa];rfl
   .rcases aGy.mp J with h | h
    .exact bt _ _ (Y g h).2.2 (nz g h) (az g h)
    .rw[aGr.mp h];exact aE
   .rw[aGa,nu];refine⟨dg.adr,by simp,λx hx y hy=>?_⟩;obtain⟨g,J,rfl⟩:=aGz.mp hx;have bu:y=z:=by simpa using hy
    rw[bu];exact nz g J
   .rw[aGa,nu];refine⟨dg.key,by simp,λx hx y hy=>?_⟩;obtain⟨g,J,rfl⟩:=aGz.mp hx;have bu:y=p.1:=by simpa using hy
    rw[bu];exact cj g J
   .rcases aGy.mp J with h | h
    .exact Y g h
    .rw[aGr.mp h];exact⟨b_,cb,bo⟩
   .rcases aGy.mp J with h | h
    .have:=ay g h;exact⟨by lia,this.2⟩
    .rw[aGr.mp h];exact⟨by show 1<=i+1;lia,by simp⟩
 .rintro σ H3 ⟨gs,v1,v2,rfl,sm,bn,bc,dg,Y,⟨hw,bf⟩,cq,ay⟩;refine⟨_,rfl,k d gs H3 hd sm dg ?_ bf λg J=>⟨(ay g J).2,(Y g J).1⟩⟩;rw[show M.length=qs.length from bc.len,aG9]at hw;exact hw.trans ax
abbrev uB:Stmt:=top 35
def aC7:FnScope ["offsets","size"] ["offsets","size"] (aG uB):=.of
def aC8 (F:Fun K "crowd" "crowd" uB f fd) (B:Bt mg):FnOk P w K mg base CX0 1 f fd ["offsets","size"] vP:=by
 refine F.g aC7 λay A outer s H vs Q E hr h=>?_;obtain⟨d,gs,j,rfl,dg,hl,M,k⟩:=h;refine⟨_,(aJ (bO (bA iZ aK (aL (hV rfl) (by rfl) B.sum hU (aA (tV (fK ["other","some"] ["size"] [1] rfl (.of (show eC (aG uB) _ ["offsets","size"] [1] ["size"]=true by decide +kernel)) (pP (pv 0)) (λ_ _ _=>(iP (n:=2) K rfl rfl (aO (aM (i:=0) (show (["other","some","size"]:List Str).Nodup by decide +kernel) rfl (Or.inl rfl)) (aO (aM (i:=1) (show (["other","some","size"]:List Str).Nodup by decide +kernel) rfl (Or.inl rfl)) cA)))) (lI (cO (by decide) (cO (by decide) iM))) (λ_ _ _=>dY) (λ_ _ _=>(bA iZ (aL (qT rfl) (by rfl) B.min uV (aA (pv 2) (aA (pv 0) aB))) (aL (nO K rfl) (by rfl) B.len gj (aA (pv 1) aB)))))) aB))))),?_⟩
 try dsimp only[bX,bZ]
 refine⟨d,kvG gs,dg.at_,_,rfl,d,kvG gs,rfl,dg.at_,λod=>?_⟩;have gd:SameD d H (upd H d (.frz od (.dK (kvG gs)))):=λb o n e=>by rw[aF n];exact e
 have ed:(upd H d (.frz od (.dK (kvG gs)))) d=some (.frz od (.dK (kvG gs))):=aE;have J:∀ g∈gs,(upd H d (.frz od (.dK (kvG gs)))) g.2.1=some (.lst (g.2.2.map V.int)):=λg U=>gd _ _ (cI (dg.lst g U) dg.at_ (by intro z;cases z)) (dg.lst g U);generalize upd H d (.frz od (.dK (kvG gs)))=H1 at gd ed J ⊢;have aw:(kvG gs).length=gs.length:=by simp[kvG]
 refine oJ (d:=d) (od:=od) (kvs:=kvG gs) (λi ys H2=>Same H1 H2/\ys=((gs.take i).map (λg:Grp=>gP j g.1 * (g.2.2.length:Int))).map V.int) ⟨Same.refl _,rfl⟩ ?_ ?_ ?_
 .rintro i ys H2 hi ⟨g2,rfl⟩;exact⟨g2 _ _ ed,by simp only[aGV,aGb];exact bH (by lia)⟩
 .rintro i ky x ys H2 t hx ⟨g2,rfl⟩ ht;obtain⟨g,U,ax⟩:∃ g,gs[i]?=some g/\((Sum.inl g.1:Key),V.ref g.2.1)=(ky,x):=by
   unfold kvG at hx;rw[aGj]at hx;obtain⟨g,h1,h2⟩:=aGv.mp hx;exact⟨g,h1,h2⟩
  cases ax;have L:=aG6 U;have g3:=g2.trans (Same.upd (o:=.tup [kV (Sum.inl g.1),V.ref g.2.1]) ht);refine⟨t,_,rfl,SqT.of aE,rfl,_,_,rfl,_,_,rfl,rfl,_,rfl,_,rfl,_,_,rfl,_,rfl,g.2.1,_,rfl,.inl (SqL.of (g3 _ _ (J g L))),_,_,rfl,rfl,.inr ⟨?_,?_⟩,g3,?_⟩
  .have:=M g L;rw[aGV];lia
  .have:=M g L;rw[aGV];lia
  .rw[aGq,U];simp[gP]
 .rintro ys H2 ⟨g2,rfl⟩ D hD;have Y:D≠d:=λz=>by rw[z,g2 _ _ ed]at hD;cases hD
  refine⟨od,by rw[aF (gi Y)];exact g2 _ _ ed,D,gs.map (λg:Grp=>gP j g.1 * (g.2.2.length:Int)),rfl,by rw[aF Y,aE,aw,aG9],_,_,rfl,rfl,.inl ⟨by decide,by decide⟩,k _ λb o e=>?_⟩
  by_cases hb:b=d
  .subst hb;rw[aE,<- dg.at_];exact e
  .rw[aF hb];exact(g2.trans (Same.upd hD)) _ _ (gd b o hb e)
abbrev qH:Stmt:=top 36
def eG:FnScope ["offsets","found","longer","total","below","size"] ["offsets"] (aG qH):=.of
inductive zP (H:Hp) (d:Addr) (e:Addr) (l:Addr) (gs:List Grp) (ms:List Int) (i:Nat) (σ:St) (H6:Hp):Prop
 | mk (kvs:List (Key×V)) (b:Int) (v:Option V) (k0_:σ=[some (.ref d),some (.ref e),some (.int (lng b gs)),some (.int (2 * wgt (gP b) gs)),some (.int b),v]) (k1_:Same H H6) (k2_:H6 l=some (.lst (ms.map V.int))) (k3_:H6 e=some (.dK kvs)) (k4_:kvs.length<=i) (k5_:(∀ g∈gs,b<g.1->g.1∈ms.drop i)) (k6_:(∀ m∈ms.drop i,b<m)) (k7_:∀ m∈ms.take i,dM kvs (Sum.inl m:Key)=some (.int (2 * wgt (gP m) gs))):zP H d e l gs ms i σ H6
def aAN (F:Fun K "crowds" "crowds" qH f fd) (B:Bt mg):FnOk P w K mg base CX0 1 f fd ["offsets"] nA:=by
 refine F.g eG λcp A outer s H vs Q E hr h=>?_;obtain⟨d,gs,rfl,dg,bf,hl,bx,k⟩:=h;have bh:=pF hr;refine⟨_,(aI (aW (i:=1) eG.nd rfl (Or.inl rfl) hW) (aI (aW (i:=2) eG.nd rfl (Or.inl rfl) (aL (hV rfl) (by rfl) B.sum hU (aA (tV (fK ["some"] [] [] rfl (.of (show eC (aG qH) _ ["offsets","found","longer","total","below","size"] [] []=true by decide +kernel)) (yW (pv 0)) (λ_ _ _=>(aM (i:=0) (show (["some"]:List Str).Nodup by decide +kernel) rfl (Or.inl rfl))) (kA (by decide)) (λ_ _ _=>dY) (λ_ _ _=>(aL (nO K rfl) (by rfl) B.len gj (aA (pv 0) aB))))) aB))) (aI (aW (i:=3) eG.nd rfl (Or.inl rfl) aK) (aI (aW (i:=4) eG.nd rfl (Or.inl rfl) aK) (aI (dZ ia rfl (eM (aL (pQ rfl) (by rfl) B.sorted eZ (aA (pv 0) aB))) (aM (i:=5) eG.nd rfl (Or.inl rfl)) (aI (uJ (i:=3) eG.nd rfl (Or.inl rfl) (bA iZ (bA iZ aK (pv 2)) (bA iY (pv 5) (pv 4))) Q5) (aI (A0 bh (pv 1) (pv 5) (pv 3) rfl) (aI (uJ (i:=2) eG.nd rfl (Or.inl rfl) (aL bD (by rfl) B.len gj (aA (kD bh (pv 0) (pv 5) (λ_ _=>rfl)) aB)) aA8) (aJ (aW (i:=4) eG.nd rfl (Or.inl rfl) (pv 5))))))) (aJ (bO (pv 1)))))))),?_⟩
 try dsimp only[bX,bZ]
 refine λe he=>?_;have g1:=Same.upd (o:=.dK []) he;have ee:(upd H e (.dK [])) e=some (.dK []):=aE;have bz:e≠d:=λz=>by rw[z,dg.at_]at he;cases he
 generalize upd H e (.dK [])=H1 at g1 ee ⊢;have L:DG H1 d gs:=⟨g1 _ _ dg.at_,λg J=>g1 _ _ (dg.lst g J),dg.adr,dg.key⟩;refine⟨d,kvG gs,L.at_,_,rfl,d,kvG gs,rfl,L.at_,λod=>?_⟩;have gd:SameD d H1 (upd H1 d (.frz od (.dK (kvG gs)))):=λb o n e=>by rw[aF n];exact e
 have ed:(upd H1 d (.frz od (.dK (kvG gs)))) d=some (.frz od (.dK (kvG gs))):=aE;have bb:∀ g∈gs,(upd H1 d (.frz od (.dK (kvG gs)))) g.2.1=some (.lst (g.2.2.map V.int)):=λg J=>gd _ _ (cI (L.lst g J) L.at_ (by intro z;cases z)) (L.lst g J);generalize upd H1 d (.frz od (.dK (kvG gs)))=H2 at gd ed bb ⊢;have b_:(kvG gs).length=gs.length:=by simp[kvG]
 refine sG (d:=d) (od:=od) (kvs:=kvG gs) (λi ys H3=>H3=H2/\ys=((gs.take i).map (λg:Grp=>(g.2.2.length:Int))).map V.int) ⟨rfl,rfl⟩ ?_ ?_ ?_
 .rintro i ys H3 hi ⟨rfl,rfl⟩;exact⟨ed,by simp only[aGV,aGb];exact bH (by lia)⟩
 .rintro i ky x ys H3 hx ⟨rfl,rfl⟩;obtain⟨g,J,cb⟩:∃ g,gs[i]?=some g/\((Sum.inl g.1:Key),V.ref g.2.1)=(ky,x):=by
   unfold kvG at hx;rw[aGj]at hx;obtain⟨g,h1,h2⟩:=aGv.mp hx;exact⟨g,h1,h2⟩
  cases cb;have U:=aG6 J;refine⟨_,rfl,g.2.1,_,rfl,.inl (SqL.of (bb g U)),rfl,?_⟩;rw[aGq,J];simp
 .rintro ys H3 ⟨rfl,rfl⟩ D hD;have bi:D≠d:=λz=>by rw[z,ed]at hD;cases hD
  refine⟨od,by rw[aF (gi bi)];exact ed,D,gs.map (λg:Grp=>(g.2.2.length:Int)),rfl,by rw[aF bi,aE,b_,aG9],?_⟩;have g4:Same H1 (upd (upd H3 D (.lst (((gs.take (kvG gs).length).map (λg:Grp=>(g.2.2.length:Int))).map V.int))) d (.dK (kvG gs))):=λb o q=>by
   by_cases hb:b=d
   .subst hb;rw[aE,<- L.at_];exact q
   .rw[aF hb];exact(Same.upd hD) _ _ (gd b o hb q)
  generalize upd (upd H3 D (.lst (((gs.take (kvG gs).length).map (λg:Grp=>(g.2.2.length:Int))).map V.int))) d (.dK (kvG gs))=H4 at g4 ⊢;have cf:K2 (kvG gs) (gs.map (·.1)):=by unfold K2 kvG;simp[Function.comp]
  have cg:DG H4 d gs:=⟨g4 _ _ L.at_,λg J=>g4 _ _ (L.lst g J),dg.adr,dg.key⟩;have bj:=g4 _ _ ee;have bn:=g1.trans g4;have ci:=aBk bf;rw[<- ci];refine⟨_,rfl,d,kvG gs,gs.map (·.1),rfl,cg.at_,cf,by rw[aGV];lia,λl Y ax hp hs=>?_⟩;have g5:=Same.upd (o:=.lst (Y.map V.int)) ax;have el:(upd H4 l (.lst (Y.map V.int))) l=some (.lst (Y.map V.int)):=aE;have cq:H l=none:=bn.free ax;have cj:l≠e:=λz=>by rw[z,bj]at ax;cases ax
  generalize upd H4 l (.lst (Y.map V.int))=H5 at g5 el ⊢;have ck:=bn.trans g5;have cm:=g5 _ _ bj;have cr:Y.length=gs.length:=by rw[hp.length_eq,aGV]
  have hst:=zG hp hs dg.key;refine⟨l,rfl,⟨_,SqL.of el⟩,jL (K:=K) (a:=l) (xs:=Y.map V.int) (zP H d e l gs Y)
   ⟨[],0,none,by rw[aBl bf];rfl,ck,el,cm,ah _,λg J _=>hp.mem_iff.mpr (aGz.mpr ⟨g,J,rfl⟩),λm hm=>by
    obtain⟨g,J,e⟩:=aGz.mp (hp.mem_iff.mp hm);have:=(bf g J).1;have e':g.1=m:=e
    lia,λm hm=>by simp at hm⟩ (λi σ H6 _ z_=>by obtain⟨_,_,_,_,_,q,_⟩:=z_;exact SqL.of q) ?_ ?_⟩
  .rintro i x σ H6 hi ⟨kvs,b,v,rfl,aw,bo,ay,bq,br,cn,M⟩;rw[aGj]at hi;obtain⟨m,hm,rfl⟩:=aGv.mp hi;have bt:i<Y.length:=(aGw.mp hm).1;obtain⟨g,J,U⟩:=aGz.mp (hp.mem_iff.mp (aG6 hm));have U:g.1=m:=U;subst U;have az:Y.drop i=g.1 :: Y.drop (i+1):=by
    rw[mf bt];rw[aG5 bt]at hm;rw[gu hm]
   have bu:b<g.1:=cn g.1 (by rw[az];exact aGX);have bc:(g.1 :: Y.drop (i+1)).Pairwise (·<·):=by rw[<- az];exact hst.sublist (List.drop_sublist _ _)
   have bv:∀ x∈gs,b<x.1->g.1<=x.1:=λx hx hb=>by
    have:=br x hx hb;rw[az]at this;rcases aGx.mp this with e | e
    .lia
    .have:=(List.pairwise_cons.mp bc).1 _ e;lia
   have e1:=U0 (Int.le_of_lt bu) bv;have e2:=aBj bu bv dg.key J rfl;obtain⟨cu,cv⟩:=aBo (b:=b) bx;have bg:DG H6 d gs:=⟨aw _ _ dg.at_,λg J=>aw _ _ (dg.lst g J),dg.adr,dg.key⟩;have e3:2 * wgt (gP b) gs+2 * lng b gs * (g.1 - b)=2 * wgt (gP g.1) gs:=by
    rw[e1,uh,Int.mul_assoc,Int.mul_comm (lng b gs)]
   refine⟨_,rfl,_,rfl,_,_,rfl,rfl,.inl ⟨by decide,by decide⟩,_,rfl,_,rfl,_,_,rfl,rfl,_,_,rfl,rfl,.inl ⟨by lia,by lia⟩,?_⟩;refine⟨_,_,rfl,rfl,?_⟩;refine⟨_,rfl,_,rfl,_,rfl,e,_,rfl,DPut.k (k:=Sum.inl g.1) ay (bH (by lia)),?_⟩;have bw:DG (upd H6 e (.dK (iJ kvs (Sum.inl g.1:Key) (V.int (2 * wgt (gP b) gs+2 * lng b gs * (g.1 - b)))))) d gs:=⟨by rw[aF (gi bz)];exact bg.at_,λx hx=>by rw[aF (cI (bg.lst x hx) ay (by intro z;cases z))];exact bg.lst x hx,dg.adr,dg.key⟩;refine⟨_,rfl,_,rfl,_,rfl,d,_,rfl,bw.get J,g.2.1,_,rfl,.inl (SqL.of (bw.lst g J)),?_⟩;refine⟨_,_,rfl,rfl,?_⟩;refine⟨_,rfl,?_⟩;refine⟨iJ kvs (Sum.inl g.1:Key) (V.int (2 * wgt (gP b) gs+2 * lng b gs * (g.1 - b))),g.1,_,by rw[e2,<- e3,<- aGV (as:=g.2.2) V.int];rfl,Same.upd' he aw,by rw[aF cj];exact bo,aE,g0 (iQ ..) (by lia),λx hx cw=>?_,λm' a_=>(List.pairwise_cons.mp bc).1 m' a_,λm' a_=>?_⟩
   .have:=br x hx (by lia);rw[az]at this;rcases aGx.mp this with e | e
    .lia
    .exact e
   rw[aBR]
   by_cases ba:(Sum.inl m':Key)=Sum.inl g.1
   .rw[eH ba,e3];rw[uz ba]
   .rw[dt ba];rw[aGq,hm]at a_;rcases aGy.mp a_ with h | h
    .exact M m' h
    .exact absurd (by have:m'=g.1:=by simpa using h
                      rw[this]) ba
  .rintro σ H6 ⟨kvs,b,v,rfl,aw,bo,ay,bq,_,_,M⟩;refine⟨_,rfl,k e kvs H6 he aw ay λg J=>?_⟩;rw[aGV,aG9]at M;rw[M g.1 (hp.mem_iff.mpr (aGz.mpr ⟨g,J,rfl⟩)),A8]
abbrev mB:Stmt:=top 39
def E4:FnScope ["offsets","size"] ["offsets","size"] (aG mB):=.of
def E5 (F:Fun K "drop_last" "drop_last" mB f fd) (B:Bt mg):FnOk P w K mg base CX0 1 f fd ["offsets","size"] kE:=by
 refine F.g E4 λba A outer s H vs Q E hr h=>?_;obtain⟨d,gs,g,rfl,dg,Y,az,k⟩:=h;have aw:=pF hr;refine⟨_,(aI (aN (aEF aGs PySem.F.slot_list_pop PySem.F.type_list_pop aEG (kD aw (pv 0) (pv 1) (λ_ _=>rfl)))) (aJ (bT (uH (fH (kD aw (pv 0) (pv 1) (λ_ _=>rfl)) (λ_=>rfl))) (aJ (aDF (pv 0) (pv 1))) aY))),?_⟩
 try dsimp only[bX,bZ]
 have ax:g.2.2.map V.int≠[]:=by simpa using az
 have M:(g.2.2.map V.int)[(g.2.2.map V.int).length - 1]?=some ((g.2.2.map V.int).getLast ax):=by rw[<- List.getLast?_eq_getElem?];exact List.getLast?_eq_getLast ax
 refine⟨_,rfl,_,rfl,d,_,rfl,dg.get Y,.inl ⟨rfl,_,SqL.of (dg.lst g Y)⟩,g.2.1,_,_,rfl,rfl,dg.lst g Y,M,?_⟩;rw[<- List.map_dropLast];have z:=dg.pops Y;have U:StayG d gs H (upd H g.2.1 (.lst (g.2.2.dropLast.map V.int))):=λb o _ n e=>by rw[aF (n g Y)];exact e
 generalize upd H g.2.1 (.lst (g.2.2.dropLast.map V.int))=H2 at z U ⊢;have J:(g.1,g.2.1,g.2.2.dropLast)∈pops g.1 gs:=aGz.mpr ⟨g,Y,eH rfl⟩;have ay:DGet H2 d (.int g.1) (some (.ref g.2.1)):=z.get (g:=(g.1,g.2.1,g.2.2.dropLast)) J;have a_:H2 g.2.1=some (.lst (g.2.2.dropLast.map V.int)):=z.lst (g.1,g.2.1,g.2.2.dropLast) J;refine⟨_,rfl,_,rfl,d,_,rfl,ay,_,.inl ⟨_,SqL.of a_,rfl⟩,?_⟩;have L:((pops g.1 gs).any (λx=>decide (x.1=g.1) && x.2.2.isEmpty))=g.2.2.dropLast.isEmpty:=by
  cases hE:g.2.2.dropLast.isEmpty with
  | true=>exact List.any_eq_true.mpr ⟨_,J,by simp[hE]⟩
  | false =>
   rw[List.any_eq_false];intro x hx;simp only[gf,nn,not_and];intro e;have:x=(g.1,g.2.1,g.2.2.dropLast):=cT (f:=λg:Grp=>g.1) z.key hx J e;rw[this];simp[hE]
 have hm:(g.2.2.dropLast.map V.int).isEmpty=g.2.2.dropLast.isEmpty:=by rw[List.isEmpty_map]
 simp only[hm];cases hE:g.2.2.dropLast.isEmpty with
 | true =>
  refine⟨_,rfl,_,rfl,d,_,Sum.inl g.1,rfl,z.at_,rfl,?_,k _ (λb o n1 n2 e=>by rw[aF n1];exact U b o n1 n2 e) ?_⟩
  .rw[fM,pV z.key J];rfl
  .unfold shr;rw[L,hE,eH rfl];exact z.outs g.1
 | false =>
  refine k _ U ?_;unfold shr;rw[L,hE,dt aG8];exact z
abbrev mC:Stmt:=top 40
def qI:FnScope ["offsets","size","place","offset"] ["offsets","size","place"] (aG mC):=.of
def E6 (F:Fun K "add_train" "add_train" mC f fd) (B:Bt mg) (Y:cZ P w K mg base "crowd" 1 ["offsets","size"] vP):FnOk P w K mg base CX0 2 f fd ["offsets","size","place"] iR:=by
 refine F.g qI λbo A outer s H vs Q E hr h=>?_;obtain⟨d,gs,k,p,rfl,dg,hl,ba,kk⟩:=h;refine⟨_,(aI (aW (i:=3) qI.nd rfl (Or.inl rfl) (bA iY (bA iY (pv 2) (bU Y hr rfl (aA (pv 0) (aA (pv 1) aB)))) (bA iZ aK (pv 1)))) (aJ (aN (lE aGs aGt aGu dU (c9 (pv 0) (pv 1) (bP aB) ⟨rfl,rfl,rfl,rfl⟩) (aA (pv 3) aB))))),?_⟩
 try dsimp only[bX,bZ]
 refine⟨_,rfl,_,rfl,_,rfl,d,gs,k,rfl,dg,hl,ba,λH3 sm=>?_⟩;refine⟨_,_,rfl,rfl,_,rfl,_,_,rfl,rfl,.inl ⟨by decide,by decide⟩,_,_,rfl,rfl,?_⟩;have L:DG H3 d gs:=⟨sm _ _ dg.at_,λg J=>sm _ _ (dg.lst g J),dg.adr,dg.key⟩;refine⟨_,rfl,d,rfl,.inl ⟨_,.inl L.at_⟩,_,rfl,by decide,λz hz=>?_⟩;have g4:=Same.upd (o:=.lst []) hz;have ez:(upd H3 z (.lst [])) z=some (.lst []):=aE;have bb:H z=none:=sm.free hz;have bc:z≠d:=λe=>by rw[e,L.at_]at hz;cases hz
 generalize upd H3 z (.lst [])=H4 at g4 ez ⊢;have bf:=sm.trans g4;have aw:∀ g∈gs,H4 g.2.1=some (.lst (g.2.2.map V.int)):=λg J=>g4 _ _ (L.lst g J);have nz:∀ g∈gs,g.2.1≠z:=λg J e=>by have:=L.lst g J;rw[e,hz]at this;cases this
 have bg:∀ g∈gs,g.2.1≠d:=λg J=>cI (L.lst g J) L.at_ (by intro z;cases z);refine⟨kvG gs,Sum.inl k,g4 _ _ L.at_,rfl,by simp only[kvG,aGV];exact bH (by lia),λv hv=>?_,λhv=>?_⟩
 .rw[fM]at hv;obtain⟨g,J,rfl⟩:=aGv.mp hv;have U:=kc J;have ay:g.1=k:=by simpa using ss J
  have eg:=aw g U;refine⟨.inl ⟨rfl,_,SqL.of eg⟩,_,rfl,g.2.1,_,_,rfl,rfl,eg,(by rw[aGV];exact bH (by have:=ba g U;lia)),?_⟩;have bh:∀ g'∈fG k (p - 2 * wgt (gP k) gs - 2 * k) gs,∃ M∈gs,g'.2.1=M.2.1/\g'.1=M.1/\(g'.2.2=if M.1=k then M.2.2++[(p - 2 * wgt (gP k) gs - 2 * k)]else M.2.2):=λg' az=>by
   obtain⟨M,h0,rfl⟩:=aGz.mp az;refine⟨M,h0,?_⟩
   by_cases hk:M.1=k
   .rw[eH hk,eH hk];exact⟨rfl,rfl,rfl⟩
   .rw[dt hk,dt hk];exact⟨rfl,rfl,rfl⟩
  have uniq:∀ M∈gs,M.2.1=g.2.1->M=g:=λM h0 e=>cT (f:=λg:Grp=>g.2.1) dg.adr h0 U e;refine kk (fG k (p - 2 * wgt (gP k) gs - 2 * k) gs) _ (λb u n1 n2 e=>by rw[aF (n2 g U)];exact bf b u e) ⟨by rw[L7,aF (gi (bg g U))];exact g4 _ _ L.at_,λg' az=>?_,by rw[L8];exact dg.adr,by rw[L9];exact dg.key⟩ (.inl ⟨⟨g,U,ay⟩,rfl⟩);obtain⟨M,h0,e1,e2,e3⟩:=bh g' az;rw[e1]
  by_cases ax:M.2.1=g.2.1
  .have:=uniq M h0 ax;subst this;rw[aE,e3,eH ay,aGa];rfl
  .have hk:M.1≠k:=λe=>ax (by rw[cT (f:=λg:Grp=>g.1) dg.key h0 U (e.trans ay.symm)]);rw[aF ax,e3,dt hk];exact aw M h0
 .rw[fM]at hv;have bi:∀ g∈gs,g.1≠k:=λg J e=>by
   have:=List.find?_eq_none.mp (Option.map_eq_none_iff.mp hv) g J;exact this (by simpa using e)
  rw[vH (V.ref z) (by rw[fM];exact hv)];have bj:(upd H4 d (.dK (kvG gs++[((Sum.inl k:Key),V.ref z)]))) z=some (.lst []):=by rw[aF bc];exact ez
  refine⟨.inl ⟨rfl,_,SqL.of bj⟩,_,rfl,z,_,_,rfl,rfl,bj,(show 0<sizeLine by decide),?_⟩;have bn:∀ b u,b≠d->b≠z->H4 b=some u->(upd (upd H4 d (.dK (kvG gs++[((Sum.inl k:Key),V.ref z)]))) z (.lst ([]++[V.int (p - 2 * wgt (gP k) gs - 2 * k)]))) b=some u:=λb u n1 n2 e=>by rw[aF n2,aF n1];exact e
  refine kk (gs++[(k,z,[(p - 2 * wgt (gP k) gs - 2 * k)])]) _ (λb u n1 n2 e=>bn b u n1 (λe'=>by rw[e',bb]at e;cases e) (bf b u e)) ⟨?_,λg J=>?_,?_,?_⟩ (.inr ⟨bi,z,bb,rfl⟩)
  .rw[aF (gi bc),aE];unfold kvG;rw[aGa];rfl
  .rcases aGy.mp J with h | h
   .exact bn _ _ (bg g h) (nz g h) (aw g h)
   .rw[aGr.mp h];exact aE
  .rw[aGa,nu];refine⟨dg.adr,by simp,λx hx y hy=>?_⟩;obtain⟨g,J,rfl⟩:=aGz.mp hx;have a_:y=z:=by simpa using hy
   rw[a_];exact nz g J
  .rw[aGa,nu];refine⟨dg.key,by simp,λx hx y hy=>?_⟩;obtain⟨g,J,rfl⟩:=aGz.mp hx;have a_:y=k:=by simpa using hy
   rw[a_];exact bi g J
abbrev iV:Stmt:=top 38
def gR:FnScope ["offsets","place","crowded","ready","size"] ["offsets","place"] (aG iV):=.of
def E7 (F:Fun K "add_stone" "add_stone" iV f fd) (B:Bt mg) (ay:cZ P w K mg base "crowds" 1 ["offsets"] nA)
 (M:cZ P w K mg base "drop_last" 1 ["offsets","size"] kE) (U:cZ P w K mg base "add_train" 2 ["offsets","size","place"] iR):FnOk P w K mg base CX0 3 f fd ["offsets","place"] oK:=by
 refine F.g gR λdi A outer s H vs Q E hr h=>?_;obtain⟨d,gs,p,H0,rfl,dg,gd,ac,br,bd,cr,bt,bn,k⟩:=h;have cu:=pF hr;obtain⟨dj,cv⟩:=GoodG.bound gd;refine⟨_,(aI (aW (i:=2) gR.nd rfl (Or.inr rfl) (bU ay hr rfl (aA (pv 0) aB))) (aI (j7 (a7 (i:=3) ["size","some"] ["place","crowded"] [1,2] rfl gR.nd rfl rfl (.of (show eC (aG iV) _ ["offsets","place","crowded","ready","size"] [1,2] ["place","crowded"]=true by decide +kernel)) (pP (pv 0)) (λ_ _ _=>(iP (n:=2) K rfl rfl (aO (aM (i:=0) (show (["size","some","place","crowded"]:List Str).Nodup by decide +kernel) rfl (Or.inl rfl)) (aO (aM (i:=1) (show (["size","some","place","crowded"]:List Str).Nodup by decide +kernel) rfl (Or.inl rfl)) cA)))) (lI (cO (by decide) (cO (by decide) iM))) (λ_ _ _=>a6 (aV aBG (dQ (J6 K rfl) (pv 1) (nL jA aK) (λ_ _=>rfl)) (bA iY (bA iY (pv 2) aK) (kD cu (pv 3) (pv 0) (λ_ _=>rfl))) (bE _))) (λ_ _ _=>(pv 0)) (by first | rfl | decide +kernel))) (aI (aW (i:=4) gR.nd rfl (Or.inl rfl) (u9 rfl rfl B.max (pv 3) aK)) (tQ (bT (aV iL (pv 4) aK (bE _)) (aJ (aN (bU M hr rfl (aA (pv 0) (aA (pv 4) aB))))) aY) (aJ (aN (bU U hr rfl (aA (pv 0) (aA (bA dJ (pv 4) aK) (aA (pv 1) aB)))))))))),?_⟩
 try dsimp only[bX,bZ]
 refine⟨_,rfl,d,gs,rfl,dg,gd,by lia,λg Y=>by have:=cv g Y;lia,λe kvs H5 he bo ee bu=>?_⟩;have aw:DG H5 d gs:=⟨bo _ _ dg.at_,λg Y=>bo _ _ (dg.lst g Y),dg.adr,dg.key⟩;have cw:e≠d:=λz=>by rw[z,dg.at_]at he;cases he
 refine⟨d,kvG gs,aw.at_,_,rfl,d,kvG gs,rfl,aw.at_,λod=>?_⟩;have sd:SameD d H5 (upd H5 d (.frz od (.dK (kvG gs)))):=λb o n e=>by rw[aF n];exact e
 have ed:(upd H5 d (.frz od (.dK (kvG gs)))) d=some (.frz od (.dK (kvG gs))):=aE;have bh:∀ g∈gs,(upd H5 d (.frz od (.dK (kvG gs)))) g.2.1=some (.lst (g.2.2.map V.int)):=λg Y=>sd _ _ (cI (aw.lst g Y) aw.at_ (by intro z;cases z)) (aw.lst g Y);have bv:(upd H5 d (.frz od (.dK (kvG gs)))) e=some (.dK kvs):=sd _ _ cw ee;generalize upd H5 d (.frz od (.dK (kvG gs)))=H6 at sd ed bh bv ⊢;have cx:(kvG gs).length=gs.length:=by simp[kvG]
 refine oJ (d:=d) (od:=od) (kvs:=kvG gs) (λi ys H7=>Same H6 H7/\ys.length<=i/\∃ ns:List Int,ys=ns.map V.int/\(∀ n∈ns,∃ g∈gs,∃ J:g.2.2≠[],n=g.1/\g.2.2.getLast J=p - 1 - 2 * les (bK gs) g.1)/\(∀ g∈gs.take i,∀ J:g.2.2≠[],g.2.2.getLast J=p - 1 - 2 * les (bK gs) g.1->g.1∈ns)) ⟨Same.refl _,ah _,[],rfl,λn hn=>(nomatch hn),λg Y=>by simp at Y⟩ ?_ ?_ ?_
 .rintro i ys H7 hi ⟨g7,bw,_⟩;exact⟨g7 _ _ ed,bH (by lia)⟩
 .rintro i ky x ys H7 t L ⟨g7,bw,ns,rfl,bc,az⟩ cy;obtain⟨g,Y,cz⟩:∃ g,gs[i]?=some g/\((Sum.inl g.1:Key),V.ref g.2.1)=(ky,x):=by
   unfold kvG at L;rw[aGj]at L;obtain⟨g,h1,h2⟩:=aGv.mp L;exact⟨g,h1,h2⟩
  cases cz;have bf:=aG6 Y;have g8:=g7.trans (Same.upd (o:=.tup [kV (Sum.inl g.1),V.ref g.2.1]) cy);have bx:(upd H7 t (.tup [kV (Sum.inl g.1),V.ref g.2.1])) t=some (.tup [kV (Sum.inl g.1),V.ref g.2.1]):=aE;generalize upd H7 t (.tup [kV (Sum.inl g.1),V.ref g.2.1])=H8 at g8 bx ⊢;refine⟨t,_,rfl,SqT.of bx,rfl,_,_,rfl,_,_,rfl,rfl,?_⟩;have a_:g.2.2≠[]:=(gd g bf).2;have hv:atI (g.2.2.map V.int) (-1)=some (V.int (g.2.2.getLast a_)):=j8 a_;have bz:DGet H8 e (.int g.1) (some (.int (2 * les (bK gs) g.1))):=by rw[<- bu g bf];exact DGet.k (k:=(Sum.inl g.1:Key)) (g8 _ _ bv)
  refine⟨_,rfl,_,rfl,g.2.1,_,_,_,rfl,rfl,SqL.of (g8 _ _ (bh g bf)),hv,_,rfl,_,_,rfl,rfl,_,rfl,_,rfl,e,_,rfl,bz,_,_,rfl,rfl,_,_,rfl,rfl,_,rfl,?_⟩;have b_:∀ x∈gs.take (i+1),x∈gs.take i\/x=g:=λx L=>by
   rw[aGq,Y]at L;rcases aGy.mp L with h | h
   .exact .inl h
   .exact .inr (by simpa using h)
  refine pH (λhc=>?_) (λhc=>?_)
  .refine⟨_,rfl,g8,by rw[aG4,gm];lia,ns++[g.1],by rw[aGa];rfl,λn hn=>?_,λx L J hl=>?_⟩
   .rcases aGy.mp hn with h | h
    .exact bc n h
    .exact⟨g,bf,a_,by simpa using h,by lia⟩
   .rcases b_ x L with h | h
    .exact aGe _ (az x h J hl)
    .rw[h];exact aGZ _ (by simp)
  .refine⟨g8,by lia,ns,rfl,bc,λx L J hl=>?_⟩;rcases b_ x L with h | h
   .exact az x h J hl
   .subst h;exact absurd (by lia) hc
 .rintro ys H7 ⟨g7,bw,ns,rfl,bc,az⟩ D hD;have cb:D≠d:=λz=>by rw[z,g7 _ _ ed]at hD;cases hD
  have c_:(upd H7 D (.lst (ns.map V.int))) d=some (.frz od (.dK (kvG gs))):=by rw[aF (gi cb)];exact g7 _ _ ed
  have eD:(upd (upd H7 D (.lst (ns.map V.int))) d (.dK (kvG gs))) D=some (.lst (ns.map V.int)):=by rw[aF cb,aE]
  have bg:Same H5 (upd (upd H7 D (.lst (ns.map V.int))) d (.dK (kvG gs))):=λb o q=>by
   by_cases hb:b=d
   .subst hb;rw[aE,<- aw.at_];exact q
   .rw[aF hb];exact(g7.trans (Same.upd hD)) _ _ (sd b o hb q)
  refine⟨od,c_,?_⟩;generalize upd (upd H7 D (.lst (ns.map V.int))) d (.dK (kvG gs))=H9 at eD bg ⊢;have cf:DG H9 d gs:=⟨bg _ _ aw.at_,λg Y=>bg _ _ (aw.lst g Y),dg.adr,dg.key⟩;have bi:=(cr.trans bo).trans bg;rw[cx,aG9]at az;obtain⟨s0,es,dm,ba,cg⟩:=z6 gd bc az;refine⟨_,rfl,D,ns,rfl,SqL.of eD,?_⟩;rw[es];refine⟨λci H'=>∃ ax,ci=[some (.ref d),some (.int p),some (.ref e),some (.ref D),some (.int s0)]/\Same H0 H'/\DG H' d ax/\GoodG ax/\sto ax<=59/\(∀ g∈ax,H0 g.2.1=none)/\(s0=0/\ax=gs\/1<=s0/\∃ g∈gs,∃ J:g.2.2≠[],g.1=s0/\g.2.2.getLast J=p - 1 - 2 * les (bK gs) s0/\ax=shr s0 gs),?_,?_⟩
  .refine⟨_,rfl,_,_,rfl,rfl,_,rfl,?_⟩;refine pH (λhc=>?_) (λhc=>?_)
   .rcases ba with hz | ⟨hz,g,Y,J,e1,e2⟩
    .lia
    .subst e1;refine⟨_,rfl,_,rfl,d,gs,g,rfl,cf,Y,J,λdn cj ck=>⟨shr g.1 gs,rfl,λb o q=>cj b o (λz=>by rw[z,bt]at q;cases q) (λx L z=>by rw[z,bn x L]at q;cases q) (bi b o q),ck,gd.shr _,?_,λx L=>?_,.inr ⟨hz,g,Y,J,rfl,e2,rfl⟩⟩⟩
     .have:sto (shr g.1 gs)=sto gs - g.1:=j4 _ dg.key Y J
      lia
     .obtain⟨y,hy,ez⟩:=j5 L;rw[ez];exact bn y hy
   .rcases ba with hz | ⟨hz,_⟩
    .exact⟨gs,rfl,bi,cf,gd,br,bn,.inl ⟨hz,rfl⟩⟩
    .lia
  .rintro ci dq ⟨ax,rfl,bj,cm,cn,da,bb,hs⟩;obtain⟨dr,db⟩:=GoodG.bound cn;refine⟨_,rfl,_,rfl,_,_,rfl,rfl,_,rfl,d,ax,s0+1,p,rfl,cm,by lia,λx L=>by have:=db x L;lia,λdf dh cp cq bq=>?_⟩;rw[A8]at bq;obtain⟨ha,hA,hG⟩:=T9 dg.key gd ac bd hs cg bq;refine k df dh (λb o q=>cp b o (λz=>by rw[z,bt]at q;cases q) (λx L z=>by rw[z,bb x L]at q;cases q) (bj b o q)) cq hG hA ha λx L=>?_;rcases M4 bq L with ⟨y,hy,ez⟩ | hz
   .rw[ez];exact bb y hy
   .exact bj.free hz
abbrev nG:Stmt:=top 37
def oU:FnScope ["row","offsets","place"] ["row"] (aG nG):=.of
inductive wO (H:Hp) (a:Addr) (d:Addr) (row:List Int) (i:Nat) (σ:St) (H3:Hp):Prop
 | mk (gs:List Grp) (v:Option V) (k0_:σ=[some (.ref a),some (.ref d),v]) (k1_:Same H H3) (k2_:DG H3 d gs) (k3_:GoodG gs) (k4_:Asc gs) (k5_:Lst (row.take i) (bK gs)) (k6_:(∀ g∈gs,H g.2.1=none)):wO H a d row i σ H3
def W7 (F:Fun K "list_of" "list_of" nG f fd) (B:Bt mg) (F_look_row:cZ P w K mg base "look_row" 1 ["row"] kF) (F_add_stone:cZ P w K mg base "add_stone" 3 ["offsets","place"] oK):FnOk P w K mg base CX0 4 f fd ["row"] rG:=by
 refine F.g oU λcdv A outer s H vs Q E hr h=>?_;obtain⟨a,row,rfl,ha,hrw,k⟩:=h;obtain⟨hrow,hrl⟩:=id hrw;have hu1:=pF hr;refine⟨_,(aI (aN (bU F_look_row hr rfl (aA (pv 0) aB))) (aI (aW (i:=1) oU.nd rfl (Or.inr rfl) hW) (aI (dZ ia rfl (aE7 (pv 0)) (aM (i:=2) oU.nd rfl (Or.inl rfl)) (aJ (aN (bU F_add_stone hr rfl (aA (pv 1) (aA (pv 2) aB)))))) (aJ (bO (aBm ["size"] ["offset"] ["offsets"] [1] rfl (.of (show eC (aG nG) _ ["row","offsets","place"] [1] ["offsets"]=true by decide +kernel)) (eM (aL (pQ rfl) (by rfl) B.sorted eZ (aA (pv 1) aB))) (λ_ _ _=>(aM (i:=0) (show (["size","offset","offsets"]:List Str).Nodup by decide +kernel) rfl (Or.inl rfl))) (kA (by decide)) (λ_ _ _=>dY) (λ_ _ _=>(aBn K rfl (kD hu1 (pv 2) (pv 0) (λ_ _=>rfl)))) (λ_ _ _=>(aM (i:=1) (show (["size","offset","offsets"]:List Str).Nodup by decide +kernel) rfl (Or.inl rfl))) (aDM (by decide) (by decide)) (λ_ _ _=>dY) (λ_ _ _=>(cM (aA (pv 0) (aA (pv 1) aB)))))))))),?_⟩
 try dsimp only[bX,bZ]
 refine⟨_,rfl,a,row,rfl,ha,hrw,?_⟩;refine λd hd=>?_;have g1:=Same.upd (o:=.dK []) hd;have ed:(upd H d (.dK [])) d=some (.dK (kvG [])):=aE;generalize upd H d (.dK [])=H1 at g1 ed ⊢;refine aDR (K:=K) (a:=a) (r:=row) (j:=0) (Hb:=H) (wO H a d row) ha rfl
  ⟨[],none,rfl,g1,⟨ed,λg hg=>(nomatch hg),List.Pairwise.nil,List.Pairwise.nil⟩,λg hg=>(nomatch hg),λg hg=>(nomatch hg),.nil,λg hg=>(nomatch hg)⟩ (λi σ H3 h=>by obtain⟨_,_,_,sm,_⟩:=h;exact sm) ?_ ?_
 .rintro i z σ H3 hz ⟨gs,v,rfl,sm,dg,gd,ac,hl,hfr⟩;have hil:i<row.length:=(aGw.mp hz).1;have htk:row.take (i+1)=row.take i++[z]:=by rw[aGq,hz];rfl
  have hlt:∀ x∈row.take i,x<z:=λx hx=>by
   have hp:(row.take i++[z]).Pairwise (·<·):=by rw[<- htk];exact List.Pairwise.sublist (List.take_sublist _ _) hrow
   exact(List.pairwise_append.mp hp).2.2 x hx z (by simp)
  have hsz:sto gs=(i:Int):=by
   rw[tW,hl.sizx,aGb]
   lia
  refine⟨_,rfl,_,rfl,d,gs,z,H,rfl,dg,gd,ac,by lia,hl.bd λx hx=>by have:=hlt x hx;lia,sm,hd,hfr,λgs' H' sm' dg' gd' ac' hadd hfr'=>?_⟩;exact⟨gs',_,rfl,sm',dg',gd',ac',by rw[htk];exact .snoc hl hlt hadd,hfr'⟩
 .rintro σ H3 ⟨gs,v,rfl,sm,dg,gd,ac,hl,hfr⟩;rw[aG9]at hl;obtain⟨hb1,hb2⟩:=GoodG.bound gd;have hsz:sto gs=(row.length:Int):=by rw[tW,hl.sizx]
  have hks:K2 (kvG gs) (gs.map (·.1)):=by unfold K2 kvG;simp[Function.comp]
  refine⟨_,rfl,d,kvG gs,gs.map (·.1),rfl,dg.at_,hks,by rw[aGV];lia,λl ms hnl hp hs=>?_⟩;have g5:=Same.upd (o:=.lst (ms.map V.int)) hnl;have el:(upd H3 l (.lst (ms.map V.int))) l=some (.lst (ms.map V.int)):=aE;generalize upd H3 l (.lst (ms.map V.int))=H5 at g5 el ⊢;have hst:=zG hp hs dg.key;have dg5:DG H5 d gs:=⟨g5 _ _ dg.at_,λg hg=>g5 _ _ (dg.lst g hg),dg.adr,dg.key⟩;have hsize:∀ i,(laid (ms.take i) gs).length<=60:=λi=>by
   have h1:(laid (ms.take i) gs).length<=(laid ms gs).length:=by
    conv=>rhs;rw[<- List.take_append_drop i ms,sJ,aG4]
    lia
   have h2:=(zE gs hp).length_eq;rw[zF dg.key]at h2;have h3:=kC hl.pos;have h4:(szs (bK gs)).sum=siz (bK gs):=rfl;have h5:=tW gs
   lia
  refine⟨l,rfl,⟨_,SqL.of el⟩,U3 (K:=K) (a:=l) (xs:=ms.map V.int) (λi ys H6=>Same H5 H6/\Prs H6 ys (laid (ms.take i) gs)) ⟨Same.refl _,.nil⟩ ?_ ?_ ?_⟩
  .rintro i ys H6 hi ⟨sm6,pr6⟩;exact⟨SqL.of (sm6 _ _ el),by rw[pr6.len];exact bH (by have:=hsize i;lia)⟩
  .rintro i x ys H6 hi ⟨sm6,pr6⟩;obtain⟨m,rfl,hm⟩:=zX hi;obtain⟨g,hg,hgm⟩:=aGz.mp (hp.mem_iff.mp (aG6 hm));have hgm:g.1=m:=hgm;subst hgm;have dg6:DG H6 d gs:=⟨sm6 _ _ dg5.at_,λg hg=>sm6 _ _ (dg5.lst g hg),dg.adr,dg.key⟩;have htk:laid (ms.take (i+1)) gs=laid (ms.take i) gs++g.2.2.map λo=>(g.1,o):=by
    rw[aGq,hm,sJ]
    congr 1
    exact aBp dg.key hg
   have hgl:=hsize (i+1);rw[htk,aG4,aGV]at hgl;refine⟨_,rfl,_,rfl,d,_,rfl,dg6.get hg,g.2.1,rfl,⟨_,SqL.of (dg6.lst g hg)⟩,U4 (K:=K) (a:=g.2.1) (xs:=g.2.2.map V.int) (λj ys H7=>Same H6 H7/\Prs H7 ys (laid (ms.take i) gs++(g.2.2.take j).map λo=>(g.1,o))) ⟨Same.refl _,by rw[List.take_zero,lr,gv];exact pr6⟩ ?_ ?_ ?_⟩
   .rintro j ys H7 hj ⟨sm7,pr7⟩;refine⟨SqL.of (sm7 _ _ (dg6.lst g hg)),?_⟩;rw[pr7.len,aG4,aGV,aGb];exact bH (by lia)
   .rintro j x ys H7 hj ⟨sm7,pr7⟩;obtain⟨o,rfl,ho⟩:=zX hj;refine⟨_,rfl,_,rfl,(show 2<=sizeLine by decide),λt ht=>⟨sm7.trans (Same.upd ht),?_⟩⟩;rw[aGq,ho,aGa,<- jh];exact Paired.append' (pr7.mono (TupS.new ht)) (.cons ⟨t,rfl,aE⟩ .nil)
   .rintro ys H7 ⟨sm7,pr7⟩;rw[aGV,aG9]at pr7;rw[htk];exact⟨sm6.trans sm7,pr7⟩
  .rintro ys H6 ⟨sm6,pr6⟩ D hD;rw[aGV,aG9]at pr6;have hpm:(laid ms gs).Perm (bK gs):=by rw[<- zF dg.key];exact zE gs hp
   have sm36:=(sm.trans g5).trans sm6;exact k (laid ms gs) (hl.perm hpm.symm) (sK ac hst) D ys _ (sm36.free hD) (sm36.trans (Same.upd hD)) aE (pr6.mono (TupS.new hD))
abbrev mF:Stmt:=top 41
def fE:FnScope ["trains","offsets","row","crowded","place","shortest","size"] ["trains"] (aG mF):=.of
def aAO (F:Fun K "row_of" "row_of" mF f fd) (B:Bt mg) (F_look_trains:cZ P w K mg base "look_trains" 1 ["trains"] tT) (F_by_size:cZ P w K mg base "by_size" 1 ["trains"] rF) (F_crowds:cZ P w K mg base "crowds" 1 ["offsets"] nA)
 (F_drop_last:cZ P w K mg base "drop_last" 1 ["offsets","size"] kE) (F_add_train:cZ P w K mg base "add_train" 2 ["offsets","size","place"] iR):FnOk P w K mg base CX0 3 f fd ["trains"] vV:=by
 refine F.g fE λcdv A outer s H vs Q E hr h=>?_;obtain⟨a,ps,rfl,hps,ht,k⟩:=h;have hu1:=pF hr;have hu:=hr.units;refine⟨_,(aI (aN (bU F_look_trains hr rfl (aA (pv 0) aB))) (aI (aW (i:=1) fE.nd rfl (Or.inl rfl) (bU F_by_size hr rfl (aA (pv 0) aB))) (aI (aW (i:=2) fE.nd rfl (Or.inl rfl) (bP aB)) (aI (uK ia (y3 (pv 1) (λ_=>rfl)) (aI (aW (i:=3) fE.nd rfl (Or.inr rfl) (bU F_crowds hr rfl (aA (pv 1) aB))) (aI (oA (aL (y2 rfl hu) (by rfl) B.max J0 (aA (tV (fK ["size","some"] ["crowded"] [3] rfl (.of (show eC (aG mF) _ ["trains","offsets","row","crowded","place","shortest","size"] [3] ["crowded"]=true by decide +kernel)) (pP (pv 1)) (λ_ _ _=>(iP (n:=2) K rfl rfl (aO (aM (i:=0) (show (["size","some","crowded"]:List Str).Nodup by decide +kernel) rfl (Or.inl rfl)) (aO (aM (i:=1) (show (["size","some","crowded"]:List Str).Nodup by decide +kernel) rfl (Or.inl rfl)) cA)))) (lI (cO (by decide) (cO (by decide) iM))) (λ_ _ _=>dY) (λ_ _ _=>(cM (aA (bA dJ (dQ (J6 K rfl) (pv 1) (nL jA aK) (λ_ _=>rfl)) (kD hu1 (pv 2) (pv 0) (λ_ _=>rfl))) (aA (nL jA (pv 0)) aB)))))) aB)) (eP (n:=2) rfl (aO (aM (i:=4) fE.nd rfl (Or.inl rfl)) (aO (aM (i:=5) fE.nd rfl (Or.inl rfl)) cA)))) (aI (aW (i:=6) fE.nd rfl (Or.inl rfl) (nL jA (pv 5))) (aI (aN (lE aGs aGt aGu dU (pv 2) (aA (pv 4) aB))) (aI (aN (bU F_drop_last hr rfl (aA (pv 1) (aA (pv 6) aB)))) (aJ (bT (aV iL (pv 6) aK (bE _)) (aJ (aN (bU F_add_train hr rfl (aA (pv 1) (aA (bA iY (pv 6) aK) (aA (bA iY (pv 4) aK) aB)))))) aY)))))))) (aJ (bO (aL pL (by rfl) B.sorted eZ (aA (pv 2) aB)))))))),?_⟩
 try dsimp only[bX,bZ]
 refine⟨_,rfl,a,ps,rfl,hps,ht,λH1 g1=>?_⟩;refine⟨_,rfl,a,ps,rfl,hps.mono g1,ht.len,λd gs H2 hd sm2 dg hfp hac hne=>?_⟩;refine⟨by decide,λr hrn=>?_⟩;have g3:=Same.upd (o:=.lst []) hrn;have er:(upd H2 r (.lst [])) r=some (.lst []):=aE;have sm3:=(g1.trans sm2).trans g3;have hHr:H r=none:=(g1.trans sm2).free hrn;have hHd:H d=none:=g1.free hd;generalize upd H2 r (.lst [])=H3 at g3 er sm3 ⊢;have dg3:DG H3 d gs:=⟨g3 _ _ dg.at_,λg hg=>g3 _ _ (dg.lst g hg),dg.adr,dg.key⟩;have gd:GoodG gs:=λg hg=>⟨by
  have hm:=List.getLast_mem (hne g hg).1;exact ht.pos (g.1,g.2.2.getLast (hne g hg).1) (hfp.mem_iff.mp (gC.mpr ⟨g,hg,rfl,hm⟩)),(hne g hg).1⟩
 have hst:sto gs=(szs ps).sum:=by rw[tW,pW hfp];rfl
 have hlo:0<=sto gs:=by have:=(GoodG.bound gd).1;lia
 refine⟨aEZ H ps a d r,⟨(sto gs).toNat,gs,[],_,_,_,_,rfl,sm3,dg3,gd,hac,er,λg hg=>⟨g1.free (hne g hg).2,λe=>?_⟩,by lia,by have:=ht.few;simp only[sk];lia,λr' hr'=>by simpa using hr'.perm hfp⟩,?_⟩
 .have:=dg.lst g hg;rw[e,hrn]at this;cases this
 clear hst hlo gd dg3 sm3 er g3 hne hfp hac dg sm2 g1;rintro m σ H4 ⟨gs,row,v3,v4,v5,v6,rfl,sm,dg,gd,ac,er,hfr,hm,hcount,fin⟩;obtain⟨hb1,hb2⟩:=GoodG.bound gd;have hpos:∀ q∈bK gs,1<=q.1:=λq hq=>by
  obtain⟨x,hx,e1,_⟩:=gC.mp hq;rw[<- e1];exact(gd x hx).1
 refine⟨_,rfl,d,kvG gs,rfl,dg.at_,?_⟩
 by_cases hgs:gs=[]
 .subst hgs;have hfin:Lst row.reverse ps:=by simpa using fin [] .nil
  refine⟨_,rfl,r,row,rfl,er,by lia,λl ms hl hpm hsm=>?_⟩;have em:=U5 hpm hsm hfin.rowp;subst em;exact k row.reverse hfin l _ (sm.free hl) (sm.trans (Same.upd hl)) aE
 have hne:(!(kvG gs).isEmpty)=true:=by
  cases gs with
  | nil=>exact absurd rfl hgs
  | cons _ _=>rfl
 rw[hne];show (if true=true then _ else _);rw[eH rfl];refine⟨fun σ' H'=>∃ m',m'<m/\aEZ H ps a d r m' σ' H',λ_ _ h=>h,?_⟩;refine⟨_,rfl,d,gs,rfl,dg,gd,by lia,λg hg=>by have:=hb2 g hg;lia,λe kvs H5 he sm5 ee hall=>?_⟩;have dg5:DG H5 d gs:=⟨sm5 _ _ dg.at_,λg hg=>sm5 _ _ (dg.lst g hg),dg.adr,dg.key⟩;refine⟨d,kvG gs,dg5.at_,_,rfl,d,kvG gs,rfl,dg5.at_,λod=>?_⟩;have hed:e≠d:=λz=>by rw[z,dg.at_]at he;cases he
 have sd:SameD d H5 (upd H5 d (.frz od (.dK (kvG gs)))):=λb o n e=>by rw[aF n];exact e
 have ed:(upd H5 d (.frz od (.dK (kvG gs)))) d=some (.frz od (.dK (kvG gs))):=aE;have hlst:∀ g∈gs,(upd H5 d (.frz od (.dK (kvG gs)))) g.2.1=some (.lst (g.2.2.map V.int)):=λg hg=>sd _ _ (cI (dg5.lst g hg) dg5.at_ (by intro z;cases z)) (dg5.lst g hg);have ee6:(upd H5 d (.frz od (.dK (kvG gs)))) e=some (.dK kvs):=sd _ _ hed ee;generalize upd H5 d (.frz od (.dK (kvG gs)))=H6 at sd ed hlst ee6 ⊢;have hkl:(kvG gs).length=gs.length:=by simp[kvG]
 refine oJ (d:=d) (od:=od) (kvs:=kvG gs) (λi ys H7=>Same H6 H7/\ys.length=i/\∃ qs:List (Int×Int),Prs H7 ys qs/\(∀ q∈qs,∃ g∈gs,∃ hne:g.2.2≠[],q=(g.2.2.getLast hne+2 * les (bK gs) g.1,-g.1))/\∀ g∈gs.take i,∀ hne:g.2.2≠[],(g.2.2.getLast hne+2 * les (bK gs) g.1,-g.1)∈qs) ⟨Same.refl _,rfl,[],.nil,λq hq=>(nomatch hq),λg hg=>by simp at hg⟩ ?_ ?_ ?_
 .rintro i ys H7 hi ⟨g7,hyl,_⟩;exact⟨g7 _ _ ed,bH (by lia)⟩
 .rintro i ky x ys H7 t hx ⟨g7,hyl,qs,pr,hq,hq2⟩ htn;obtain⟨g,hg,hgx⟩:∃ g,gs[i]?=some g/\((Sum.inl g.1:Key),V.ref g.2.1)=(ky,x):=by
   unfold kvG at hx;rw[aGj]at hx;obtain⟨g,h1,h2⟩:=aGv.mp hx;exact⟨g,h1,h2⟩
  cases hgx;have hgm:=aG6 hg;have g8:=g7.trans (Same.upd (o:=.tup [kV (Sum.inl g.1),V.ref g.2.1]) htn);have pr8:=pr.mono (TupS.same (Same.upd (o:=.tup [kV (Sum.inl g.1),V.ref g.2.1]) htn));have et8:(upd H7 t (.tup [kV (Sum.inl g.1),V.ref g.2.1])) t=some (.tup [kV (Sum.inl g.1),V.ref g.2.1]):=aE;generalize upd H7 t (.tup [kV (Sum.inl g.1),V.ref g.2.1])=H8 at g8 pr8 et8 ⊢;refine⟨t,_,rfl,SqT.of et8,rfl,_,_,rfl,_,_,rfl,rfl,?_⟩;have hne2:g.2.2≠[]:=(gd g hgm).2;have hv:atI (g.2.2.map V.int) (-1)=some (V.int (g.2.2.getLast hne2)):=j8 hne2;have hget:DGet H8 e (.int g.1) (some (.int (2 * les (bK gs) g.1))):=by rw[<- hall g hgm];exact DGet.k (k:=(Sum.inl g.1:Key)) (g8 _ _ ee6)
  refine⟨_,rfl,_,rfl,g.2.1,_,_,_,rfl,rfl,SqL.of (g8 _ _ (hlst g hgm)),hv,_,rfl,_,rfl,e,_,rfl,hget,_,_,rfl,rfl,_,rfl,_,rfl,by show 2<=sizeLine;decide,λt2 ht2=>?_⟩;refine⟨g8.trans (Same.upd ht2),by rw[aG4,hyl];rfl,qs++[(g.2.2.getLast hne2+2 * les (bK gs) g.1,-g.1)],Paired.snoc (pr8.mono (TupS.same (Same.upd ht2))) ⟨t2,rfl,aE⟩,λq hq'=>?_,λx hx hnx=>?_⟩
  .rcases aGy.mp hq' with h | h
   .exact hq q h
   .rw[aGr.mp h];exact⟨g,hgm,hne2,rfl⟩
  .rw[aGq,hg]at hx;rcases aGy.mp hx with h | h
   .exact aGe _ (hq2 x h hnx)
   .have:x=g:=by simpa using h
    subst this;exact aGZ _ (by simp)
 .rintro ys H7 ⟨g7,hyl,qs,pr,hq,hq2⟩ D hD;rw[hkl,aG9]at hq2;have hnD:D≠d:=λz=>by rw[z,g7 _ _ ed]at hD;cases hD
  have edD:(upd H7 D (.lst ys)) d=some (.frz od (.dK (kvG gs))):=by rw[aF (gi hnD)];exact g7 _ _ ed
  have eD:(upd (upd H7 D (.lst ys)) d (.dK (kvG gs))) D=some (.lst ys):=by rw[aF hnD,aE]
  have pr9:Prs (upd (upd H7 D (.lst ys)) d (.dK (kvG gs))) ys qs:=(pr.mono (TupS.same (Same.upd hD))).mono λt xs q=>by
   rw[aF (cI q edD (by intro z;cases z))];exact q
  have sm9:Same H5 (upd (upd H7 D (.lst ys)) d (.dK (kvG gs))):=λb o q=>by
   by_cases hb:b=d
   .subst hb;rw[aE,<- dg5.at_];exact q
   .rw[aF hb];exact(g7.trans (Same.upd hD)) _ _ (sd b o hb q)
  refine⟨od,edD,D,ys,qs,rfl,eD,pr9,λz=>?_,λj x htop hx=>?_⟩
  .rw[z]at hyl;rw[hkl]at hyl;exact hgs (List.length_eq_zero_iff.mp hyl.symm)
  generalize upd (upd H7 D (.lst ys)) d (.dK (kvG gs))=H9 at pr9 sm9 ⊢;obtain⟨p,t',hp,rfl,et⟩:=eF pr9 hx;obtain⟨g,hg,hgne,hpg,hplace,hbest⟩:=U6 gd htop hp hq hq2;have dg9:DG H9 d gs:=⟨sm9 _ _ dg5.at_,λg hg=>sm9 _ _ (dg5.lst g hg),dg.adr,dg.key⟩;have er9:=sm9 _ _ (sm5 _ _ er);have smH:=(sm.trans sm5).trans sm9;refine⟨t',_,rfl,SqT.of et,rfl,_,_,rfl,_,_,rfl,rfl,?_⟩;refine⟨_,rfl,_,rfl,?_⟩;refine⟨_,rfl,.inl ⟨rfl,_,SqL.of er9⟩,_,rfl,r,_,_,rfl,rfl,er9,by rw[aGV];exact bH (by lia),?_⟩;have hrd:r≠d:=cI er9 dg9.at_ (by intro z;cases z);have dg10:DG (upd H9 r (.lst (row.map V.int++[V.int p.1]))) d gs:=⟨by rw[aF (gi hrd)];exact dg9.at_,λg hg=>by rw[aF (hfr g hg).2];exact dg9.lst g hg,dg.adr,dg.key⟩;have er10:(upd H9 r (.lst (row.map V.int++[V.int p.1]))) r=some (.lst ((row++[p.1]).map V.int)):=by rw[aE,aGa];rfl
  have sm10:Same H (upd H9 r (.lst (row.map V.int++[V.int p.1]))):=Same.upd' hHr smH;generalize upd H9 r (.lst (row.map V.int++[V.int p.1]))=H10 at dg10 er10 sm10 ⊢;have hg1:=(gd g hg).1;have hnn:-p.2=g.1:=by lia
  refine⟨_,rfl,_,rfl,d,gs,g,by show [V.ref d,V.int (-p.2)]=_;rw[hnn],dg10,hg,hgne,λH11 st11 dg11=>?_⟩;have sm11:Same H H11:=st11.same sm10 hHd hfr;have er11:=st11 _ _ hrd (λx hx z=>(hfr x hx).2 z.symm) er10;have gd11:GoodG (shr g.1 gs):=gd.shr g.1;have hw11:sto (shr g.1 gs)=sto gs - g.1:=j4 _ dg.key hg hgne;have hfr11:∀ x∈shr g.1 gs,H x.2.1=none/\x.2.1≠r:=λx hx=>by
   obtain⟨y,hy,e⟩:=j5 hx;rw[e];exact hfr y hy
  obtain⟨hc1,hc2⟩:=GoodG.bound gd11;refine⟨_,rfl,_,_,rfl,rfl,_,rfl,?_⟩
  by_cases h1:1<g.1
  .have hd1:decide ((1:Int) < -p.2)=true:=by rw[hnn];exact aGh h1
   show (if decide ((1:Int) < -p.2)=true then _ else _);rw[hd1,eH rfl];refine⟨_,rfl,_,rfl,_,_,rfl,rfl,_,rfl,_,_,rfl,rfl,d,shr g.1 gs,-p.2 - 1,p.1 - 1,rfl,dg11,by lia,λx hx=>by have:=hc2 x hx;lia,λgs' H12 st12 dg12 hputs=>?_⟩;rw[A8,hnn]at hputs;have hpu:vR H11 (g.1 - 1) (p.1 - 1 - 2 * les (bK (shr g.1 gs)) (g.1 - 1) - 2 * (g.1 - 1)) (shr g.1 gs) gs':=hputs;obtain⟨hTak,hAsc,hGood⟩:=vT dg.key gd ac hg hgne hplace hbest (.inr ⟨by lia,hpu⟩);have hw12:sto gs'=sto (shr g.1 gs)+(g.1 - 1):=aBh _ dg11.key hpu;have er12:=st12 _ _ hrd (λx hx z=>(hfr11 x hx).2 z.symm) er11;refine⟨m - 1,by lia,gs',row++[p.1],_,_,_,_,rfl,st12.same sm11 hHd hfr11,dg12,hGood,hAsc,er12,λx hx=>?_,by lia,by rw[aG4,gm];lia,by rw[ul];exact N0 hTak hpos fin⟩;rcases M4 hpu hx with ⟨y,hy,e⟩ | hz
   .rw[e];exact hfr11 y hy
   .exact⟨sm11.free hz,λe=>by rw[e,er11]at hz;cases hz⟩
  .have hd1:decide ((1:Int) < -p.2)=false:=by rw[hnn];exact aGg h1
   show (if decide ((1:Int) < -p.2)=true then _ else _);rw[hd1,dt aG8];obtain⟨hTak,hAsc,hGood⟩:=vT (H:=H11) dg.key gd ac hg hgne hplace hbest (.inl ⟨by lia,rfl⟩);exact⟨m - 1,by lia,shr g.1 gs,row++[p.1],_,_,_,_,rfl,sm11,dg11,gd11,hAsc,er11,hfr11,by lia,by rw[aG4,gm];lia,by rw[ul];exact N0 hTak hpos fin⟩
def W8 (F:Fun K "row_of" "row_of" mF f fd) (B:Bt mg) (X:cL K mg) (T:qB) (F_look_trains:dI P w K mg base "look_trains" 4 ["trains"] (P0 X T)):FnOk P w K mg base (CXR P w) 5 f fd ["trains"] (P0 X T):=by
 refine F.gX fE λcdv A outer s H vs Q E hfr hr h=>?_;obtain⟨a,ps,o,rfl,hps,hl,hT,k⟩:=h;refine⟨_,(aI (aN (cN F_look_trains hr rfl (dF hfr) (aA (pv 0) aB))) (aI bG (aI bG (aI bG (aJ bG))))),?_⟩
 try dsimp only[bX,bZ]
 exact⟨_,rfl,a,ps,o,rfl,hps,hl,hT,k⟩
abbrev E8:Stmt:=top 51
def aD6:FnScope ["walks","size"] ["walks","size"] (aG E8):=.of
def aD7 (F:Fun K "gain" "gain" E8 f fd) (B:Bt mg):FnOk P w K mg base CX0 1 f fd ["walks","size"] U7:=by
 refine F.g aD6 λU A outer s H vs Q E hr h=>?_;obtain⟨a,ws,j,rfl,⟨us,J,L⟩,hl,Y,aw,ax,k⟩:=h;have e:us.length=ws.length:=L.len;refine⟨_,(aJ (bO (aL (hV rfl) (by rfl) B.sum hU (aA (fK ["creel","count"] ["size"] [1] rfl (.of (show eC (aG E8) _ ["walks","size"] [1] ["size"]=true by decide +kernel)) (eM (pv 0)) (λ_ _ _=>(iP (n:=2) K rfl rfl (aO (aM (i:=0) (show (["creel","count","size"]:List Str).Nodup by decide +kernel) rfl (Or.inl rfl)) (aO (aM (i:=1) (show (["creel","count","size"]:List Str).Nodup by decide +kernel) rfl (Or.inl rfl)) cA)))) (lI (cO (by decide) (cO (by decide) iM))) (λ_ _ _=>dY) (λ_ _ _=>(bA iZ (pv 1) (aL (qT rfl) (by rfl) B.min uV (aA (pv 0) (aA (pv 2) aB)))))) aB)))),?_⟩
 try dsimp only[bX,bZ]
 refine⟨_,rfl,a,rfl,⟨_,SqL.of J⟩,mX (K:=K) (a:=a) (xs:=us) (λi ys z=>z=H/\ys=((ws.take i).map (j9 j)).map V.int) ⟨rfl,rfl⟩ ?_ ?_ ?_⟩
 .rintro i ys z hi ⟨rfl,rfl⟩;exact⟨SqL.of J,by simp only[aGV,aGb];exact bH (by lia)⟩
 .rintro i x ys z hi ⟨rfl,rfl⟩;obtain⟨p,t',M,rfl,et⟩:=eF L hi;have h1:=Y p (aG6 M);refine⟨t',_,rfl,SqT.of et,rfl,_,_,rfl,_,_,rfl,rfl,_,rfl,_,rfl,_,rfl,_,_,rfl,_,_,rfl,rfl,.inr ⟨?_,?_⟩,rfl,oH (j9 j) M⟩
  .split <;> lia
  .split <;> lia
 .rintro ys z ⟨rfl,rfl⟩ D hD;exact⟨D,ws.map (j9 j),rfl,by rw[aE,e,aG9],k _ (Same.upd hD)⟩
abbrev uC:Stmt:=top 50
def aC9:FnScope ["trains","walks"] ["trains","walks"] (aG uC):=.of
def aCa (F:Fun K "added" "added" uC f fd) (B:Bt mg) (F_look_trains:cZ P w K mg base "look_trains" 1 ["trains"] tT) (F_look_walks:cZ P w K mg base "look_walks" 2 ["walks"] B3) (F_gain:cZ P w K mg base "gain" 1 ["walks","size"] U7):FnOk P w K mg base CX0 3 f fd ["trains","walks"] B4:=by
 refine F.g aC9 λcdv A outer s H vs Q E hr h=>?_;obtain⟨a,b,ps,ws,rfl,hps,ht,hws,hwl,hc,k⟩:=h;refine⟨_,(aI (aN (bU F_look_trains hr rfl (aA (pv 0) aB))) (aI (aN (bU F_look_walks hr rfl (aA (pv 1) aB))) (aJ (bO (aL pK (by rfl) B.sorted eZ (aA (fK ["size","offset"] ["walks"] [1] rfl (.of (show eC (aG uC) _ ["trains","walks"] [1] ["walks"]=true by decide +kernel)) (eM (pv 0)) (λ_ _ _=>(iP (n:=2) K rfl rfl (aO (aM (i:=0) (show (["size","offset","walks"]:List Str).Nodup by decide +kernel) rfl (Or.inl rfl)) (aO (aM (i:=1) (show (["size","offset","walks"]:List Str).Nodup by decide +kernel) rfl (Or.inl rfl)) cA)))) (lI (cO (by decide) (cO (by decide) iM))) (λ_ _ _=>dY) (λ_ _ _=>(cM (aA (pv 0) (aA (bA dJ (pv 1) (bU F_gain hr rfl (aA (pv 2) (aA (pv 0) aB)))) aB))))) aB)))))),?_⟩
 try dsimp only[bX,bZ]
 refine⟨_,rfl,a,ps,rfl,hps,ht,λH1 g1=>?_⟩;have hws1:=hws.mono g1;refine⟨_,rfl,b,ws,rfl,hws1,hc,?_⟩;obtain⟨us,ha,pr⟩:=hps.mono g1;have e:us.length=ps.length:=pr.len;have hpl:=ht.len;refine⟨_,rfl,a,rfl,⟨_,SqL.of ha⟩,mX (K:=K) (a:=a) (xs:=us) (λi ys H3=>Same H1 H3/\Prs H3 ys ((nQ ps ws).take i)) ⟨Same.refl _,.nil⟩ ?_ ?_ ?_⟩
 .rintro i ys H3 hi ⟨g3,pr3⟩;refine⟨SqL.of (g3 _ _ ha),bH ?_⟩;rw[pr3.len];simp only[aGb,nQ,aGV]
  lia
 .rintro i x ys H3 hi ⟨g3,pr3⟩;obtain⟨p,t',hp,rfl,et⟩:=eF pr hi;have hpm:=aG6 hp;have h1:=ht.pos p hpm;have h2:=aE0 ht hpm;refine⟨t',_,rfl,SqT.of (g3 _ _ et),rfl,_,_,rfl,_,_,rfl,rfl,_,rfl,_,rfl,_,rfl,_,rfl,b,ws,p.1,rfl,hws1.mono g3,hwl,hc,by lia,by lia,λH4 g4=>?_⟩;refine⟨_,_,rfl,rfl,(show 2<=sizeLine by decide),λt ht'=>⟨g3.trans (g4.trans (Same.upd ht')),?_⟩⟩;have ei:(nQ ps ws).take (i+1)=(nQ ps ws).take i++[(p.1,p.2+aBr ws p.1)]:=by
   rw[aGq];unfold nQ;rw[aGj,hp];rfl
  rw[ei];exact Paired.append' (Prs.mono (TupS.same (g4.trans (Same.upd ht'))) pr3) (.cons ⟨t,rfl,aE⟩ .nil)
 .rintro ys H3 ⟨g3,pr3⟩ D hD;rw[e,show ps.length=(nQ ps ws).length by simp[nQ],aG9]at pr3;have gD:=Same.upd (o:=.lst ys) hD;refine⟨D,ys,nQ ps ws,rfl,aE,Prs.mono (TupS.same gD) pr3,by simp[nQ];lia,λl us' qs hl pr' hperm hs=>?_⟩;have gA:=(g1.trans g3).trans gD;exact k qs hperm hs l us' _ (gA.free hl) (Same.upd' (gA.free hl) gA) aE (Prs.mono (TupS.new hl) pr')
abbrev aCb:Stmt:=top 52
def aEi:FnScope ["row","walks"] ["row","walks"] (aG aCb):=.of
def aD8 (F:Fun K "far" "far" aCb f fd) (B:Bt mg) (z:cZ P w K mg base "list_of" 4 ["row"] rG) (L:cZ P w K mg base "added" 3 ["trains","walks"] B4) (J:cZ P w K mg base "row_of" 3 ["trains"] vV):FnOk P w K mg base CX0 5 f fd ["row","walks"] W3:=by
 refine F.g aEi λbg A outer s H vs Q E M h=>?_;obtain⟨a,b,rfl,ha,hb,k⟩:=h;have U:Rw [1,2]:=⟨.cons (by decide) (ij _ _),(show 2<=60 by decide)⟩;refine⟨_,(aJ (bO (bU J M rfl (aA (bU L M rfl (aA (bU z M rfl (aA (pv 0) aB)) (aA (pv 1) aB))) aB)))),?_⟩
 try dsimp only[bX,bZ]
 refine⟨_,rfl,a,_,rfl,ha,U,λqs Y bh l1 aw H1 bi g1 ax ay=>?_⟩;obtain rfl:qs=[(2,-2)]:=(List.perm_singleton.mp (Y.uniq aFh));have ht:Trn [(2,-2)]:=Y.trn U.len;refine⟨_,rfl,l1,b,_,_,rfl,⟨aw,ax,ay⟩,ht,hb.mono g1,(show 1<=200 by decide),(λq hq=>by rw[aGr.mp hq];decide),λrs az bj l2 a_ H2 bn g2 ba bb=>?_⟩;obtain rfl:rs=[(2,36)]:=List.perm_singleton.mp (az.trans (.of_eq (by decide +kernel)));refine⟨l2,_,rfl,⟨a_,ba,bb⟩,aDl.trn (by decide),λr M l3 H3 bc g3 bf=>?_⟩;obtain rfl:r=[39,40]:=M.row aDl (.refl _);exact k l3 H3 ((g1.trans g2).free bc) ((g1.trans g2).trans g3) bf
abbrev jC:Stmt:=top 44
def wP:FnScope ["niches"] ["niches"] (aG jC):=.of
def sW (F:Fun K "look_niches" "look_niches" jC f fd) (B:Bt mg) (C2:Cn2 mg tC) (T:qB) (R_BadNumber:RA0 P w K mg base "BadNumber" T.number):FnOk P w K mg base (CXR P w) 4 f fd ["niches"] (D7 T):=by
 refine F.gX wP λcdv A outer s H vs Q E hfr hr h=>?_;obtain⟨n,rfl,h0,k1,k2⟩:=h;refine⟨_,(aJ (bT (PW.pt (X8 (aV jM (pv 0) aK (bE _)) (zQ (aV iL (pv 0) (cF (v:=.int 200) rfl C2.MOST_NICHES ⟨_,rfl⟩) (bE _))))) (aJ (bI (cW hfr) R_BadNumber rfl rfl hr rfl (aA (eO (aX (cV (by decide)) (aX (gF (cF (v:=.int 200) rfl C2.MOST_NICHES ⟨_,rfl⟩)) eN))) aB))) aY)),?_⟩
 try dsimp only[bX,bZ]
 exact⟨_,rfl,_,_,rfl,rfl,_,rfl,dR (by lia) ⟨_,rfl,_,_,rfl,rfl,_,rfl,pH (λy=>⟨200,rfl,by decide,by decide,λ_=>rd0 (k2 y)⟩) (λy=>k1 (by lia))⟩⟩
abbrev kK:Stmt:=top 45
def jD:FnScope ["sizes","at","size"] ["sizes"] (aG kK):=.of
def wQ (F:Fun K "look_sizes" "look_sizes" kK f fd) (B:Bt mg) (C:Cn mg tC) (X:cL K mg) (T:qB) (R_TooMany:RA0 P w K mg base "TooMany" X.many) (R_BadSizes:RAI P w K mg base "BadSizes" T.sizes):FnOk P w K mg base (CXR P w) 4 f fd ["sizes"] (D8 T):=by
 refine F.gX jD λcdv A outer s H vs Q E hfr hr h=>?_;obtain⟨a,m,rfl,ha,hm,k⟩:=h;refine⟨_,(aI (dZ N7 rfl (tR rfl B.enumerate (aA (pv 0) aB)) (eP (n:=2) rfl (aO (aM (i:=1) jD.nd rfl (Or.inl rfl)) (aO (aM (i:=2) jD.nd rfl (Or.inl rfl)) cA))) (aJ (bT (aV jM (pv 2) aK (bE _)) (aJ (bI (cW hfr) R_BadSizes rfl rfl hr rfl (aA (pv 1) aB))) aY))) (aJ (bT (aV iL (aL (hV rfl) (by rfl) B.sum hU (aA (pv 0) aB)) (cF (v:=.int 60) rfl C.MOST_STONES ⟨_,rfl⟩) (bE _)) (aJ (bI (cW hfr) R_TooMany rfl rfl hr rfl (aA (eO (aX (cV (by decide)) (aX (gF (cF (v:=.int 60) rfl C.MOST_STONES ⟨_,rfl⟩)) (aX (cV (by decide)) eN)))) aB))) aY))),?_⟩
 try dsimp only[bX,bZ]
 refine⟨_,rfl,a,_,rfl,SqL.of ha,pI (K:=K) (a:=a) (xs:=[.int 1,.int m]) (λi σ H2=>∃ v1 v2,σ=[some (.ref a),v1,v2]/\Same H H2/\i<=1) ⟨none,none,rfl,Same.refl _,gr _⟩ (λi σ H2 _ ⟨_,_,_,sm,_⟩=>SqL.of (sm _ _ ha)) ?_ ?_⟩
 .rintro i x σ H2 t hi ⟨v1,v2,rfl,sm,hg⟩ hn;obtain rfl | rfl:i=0\/i=1:=by lia
  .cases hi;exact⟨t,_,rfl,SqT.of aE,rfl,_,_,rfl,_,_,rfl,rfl,_,rfl,_,_,rfl,rfl,_,rfl,dR (by lia) ⟨_,_,rfl,sm.trans (Same.upd hn),ah _⟩⟩
  .cases hi;exact⟨t,_,rfl,SqT.of aE,rfl,_,_,rfl,_,_,rfl,rfl,_,rfl,_,_,rfl,rfl,_,rfl,iO hm ⟨_,rfl,rdI (vY (by lia) (by lia)) (k _ (sm.trans (Same.upd hn)))⟩⟩
 .rintro σ H2 ⟨v1,v2,rfl,sm,hg⟩;exact absurd hg (show ¬ 2<=1 by decide)
abbrev oV:Stmt:=top 46
def P4:FnScope ["niches","sizes","many","size","room"] ["niches","sizes"] (aG oV):=.of
def E9 (F:Fun K "how_many" "how_many" oV f fd) (B:Bt mg) (T:qB) (F_look_niches:dI P w K mg base "look_niches" 4 ["niches"] (D7 T)) (F_look_sizes:dI P w K mg base "look_sizes" 4 ["sizes"] (D8 T)):FnOk P w K mg base (CXR P w) 5 f fd ["niches","sizes"] (D9 T):=by
 refine F.gX P4 λcdv A outer s H vs Q E hfr hr h=>?_;refine⟨_,(aI (aN (cN F_look_niches hr rfl (dF hfr) (aA (pv 0) aB))) (aI (aN (cN F_look_sizes hr rfl (dF hfr) (aA (pv 1) aB))) (aI bG (aI bG (aJ bG))))),?_⟩;rcases h with ⟨m,a,rfl,hm,k⟩ | ⟨m,j,a,rfl,h0,h2,ha,hj,k⟩
 .exact⟨_,rfl,m,rfl,by lia,λz=>by lia,λ_=>k⟩
 .exact⟨_,rfl,m,rfl,h0,λ_=>⟨_,rfl,a,j,rfl,ha,hj,k⟩,λz=>by lia⟩
abbrev wR:Stmt:=top 54
def aAP:FnScope ["one","other","gap"] ["one","other","gap"] (aG wR):=.of
def W9 (F:Fun K "behind" "behind" wR f fd) (B:Bt mg) (C:Cn mg tC) (X:cL K mg) (F_look_row:cZ P w K mg base "look_row" 1 ["row"] kF)
 (R_Bare:RA0 P w K mg base "Bare" X.bare) (R_TooMany:RA0 P w K mg base "TooMany" X.many) (R_TooNear:RA0 P w K mg base "TooNear" X.near):FnOk P w K mg base (CXR P w) 5 f fd ["one","other","gap"] (E1 X):=by
 refine F.gX aAP λcdv A outer s H vs Q E hfr hr h=>?_;refine⟨_,(aI (aN (bU F_look_row hr rfl (aA (pv 0) aB))) (aI (aN (bU F_look_row hr rfl (aA (pv 1) aB))) (aI (bT (PW.pt (X8 (uH (fH (pv 0) (λ_=>rfl))) (zQ (uH (fH (pv 1) (λ_=>rfl)))))) (aJ (bI (cW hfr) R_Bare rfl rfl hr rfl (aA aU aB))) aY) (aI (bT (aV iL (bA dJ (aL bD (by rfl) B.len gj (aA (pv 0) aB)) (aL bD (by rfl) B.len gj (aA (pv 1) aB))) (cF (v:=.int 60) rfl C.MOST_STONES ⟨_,rfl⟩) (bE _)) (aJ (bI (cW hfr) R_TooMany rfl rfl hr rfl (aA (eO (aX (cV (by decide)) (aX (gF (cF (v:=.int 60) rfl C.MOST_STONES ⟨_,rfl⟩)) (aX (cV (by decide)) eN)))) aB))) aY) (aI (bT (aV jM (pv 2) (aL bD (by rfl) B.len gj (aA (pv 1) aB)) (bE _)) (aJ (bI (cW hfr) R_TooNear rfl rfl hr rfl (aA aU aB))) aY) (aJ bG)))))),?_⟩;rcases h with ⟨a,b,n,gp,rfl,ha,hb,k⟩ | ⟨a,b,n,rfl,ha,hb,hn,k⟩
 .exact⟨_,rfl,a,[],rfl,.inl ⟨trivial,ha⟩,⟨.nil,(show 0<=60 by decide)⟩,_,rfl,b,[n],rfl,.inl ⟨trivial,hb⟩,⟨ij _ _,(show 1<=60 by decide)⟩,_,rfl,false,.inl ⟨_,SqL.of ha,rfl⟩,rd0 k⟩
 .refine⟨_,rfl,a,[1],rfl,.inl ⟨trivial,ha⟩,⟨ij _ _,(show 1<=60 by decide)⟩,_,rfl,b,[2,n],rfl,.inl ⟨trivial,hb⟩,⟨.cons (λx hx=>by rw[aGr.mp hx];exact hn) (ij _ _),(show 2<=60 by decide)⟩,?_⟩;refine⟨_,rfl,true,.inl ⟨_,SqL.of ha,rfl⟩,_,rfl,true,.inl ⟨_,SqL.of hb,rfl⟩,?_⟩;exact⟨_,rfl,a,_,rfl,.inl (SqL.of ha),_,rfl,b,_,rfl,.inl (SqL.of hb),_,_,rfl,rfl,_,_,rfl,rfl,_,rfl,dR (show ¬ (60:Int)<((1:Nat):Int)+((2:Nat):Int)by decide) ⟨_,rfl,_,rfl,b,_,rfl,.inl (SqL.of hb),_,_,rfl,rfl,_,rfl,iO (show (1:Int)<((2:Nat):Int)by decide) (rd0 k)⟩⟩
abbrev dP:Stmt:=top 67
def cE:FnScope ["rested","walks","row","creel","count","walk"] ["rested","walks"] (aG dP):=.of
def aD9 (F:Fun K "row_behind_walks" "row_behind_walks" dP f fd) (B:Bt mg) (C3:Cn3 mg t1 t2 t3) (ay:cZ P w K mg base "far" 5 ["row","walks"] W3) (L:cZ P w K mg base "walked" 2 ["row","creel"] vC):FnOk P w K mg base CX0 6 f fd ["rested","walks"] W4:=by
 refine F.g cE λbw A outer s H vs Q E hr h=>?_;obtain⟨t,d,r,ws,r',rfl,ht,hd,hw,k⟩:=h;have bb:ws=[]\/∃ m:Nat,ws=[(1,(m:Int))]/\r=[1,2]:=by
  cases hw with
  | zero=>exact .inl rfl
  | three=>exact .inr ⟨3,rfl,rfl⟩
  | far=>exact .inr ⟨38,rfl,rfl⟩
 have bc:∀ q∈ws,q.1=1/\0<=q.2:=λq hq=>by
  rcases bb with rfl | ⟨m,rfl,_⟩
  .cases hq
  .rw[aGr.mp hq];exact⟨rfl,Int.natCast_nonneg m⟩
 have bx:ws.length<=1:=by
  rcases bb with rfl | ⟨m,rfl,_⟩
  .exact gr _
  .exact ah _
 have bi:∀ {i:Nat} {ky:Key} {x:V},(kvW ws)[i]?=some (ky,x)->∃ q,ws[i]?=some q/\ky=.inl q.1/\x=.int q.2:=λ{i ky x} e=>by
  rw[aGj]at e;obtain⟨q,h1,h2⟩:=aGv.mp e;cases h2;exact⟨q,h1,rfl,rfl⟩
 refine⟨_,(aI (bT (aV iL (aL (hV rfl) (by rfl) B.sum hU (aA (tV (fK ["count"] [] [] rfl (.of (show eC (aG dP) _ ["rested","walks","row","creel","count","walk"] [] []=true by decide +kernel)) (yW (pv 1)) (λ_ _ _=>(aM (i:=0) (show (["count"]:List Str).Nodup by decide +kernel) rfl (Or.inl rfl))) (kA (by decide)) (λ_ _ _=>dY) (λ_ _ _=>(aL yY (by rfl) B.abs yX (aA (pv 0) aB))))) aB)) (cF (v:=.int 10) rfl C3.FEW_WALKS ⟨_,rfl⟩) (bE _)) (aJ (bO (bU ay hr rfl (aA (pv 0) (aA (A7 rfl (by rfl) B.list (pv 1)) aB))))) aY) (aI (aW (i:=2) cE.nd rfl (Or.inl rfl) (eY zV (by rfl) B.list yQ (aA (pv 0) aB))) (aI (j7 (dZ ia rfl (pP (pv 1)) (eP (n:=2) rfl (aO (aM (i:=3) cE.nd rfl (Or.inl rfl)) (aO (aM (i:=4) cE.nd rfl (Or.inl rfl)) cA))) (aJ (dZ ia rfl (gU rfl B.range (aA (aL yY (by rfl) B.abs yX (aA (pv 4) aB)) aB)) (aM (i:=5) cE.nd rfl (Or.inl rfl)) (aJ (aW (i:=2) cE.nd rfl (Or.inl rfl) (R9 (uI (aV iL (pv 4) aK (bE _)) (bU L hr rfl (aA (pv 2) (aA (pv 3) aB))) aCZ)))))))) (aJ (bO (pv 2)))))),?_⟩
 try dsimp only[bX,bZ]
 refine⟨d,kvW ws,hd,_,rfl,d,kvW ws,rfl,hd,λod=>?_⟩;have gd:SameD d H (upd H d (.frz od (.dK (kvW ws)))):=SameD.frz;have ed:(upd H d (.frz od (.dK (kvW ws)))) d=some (.frz od (.dK (kvW ws))):=aE;generalize upd H d (.frz od (.dK (kvW ws)))=H1 at gd ed ⊢;refine sG (d:=d) (od:=od) (kvs:=kvW ws) (λi ys J=>J=H1/\ys=((ws.take i).map (·.2)).map V.int) ⟨rfl,rfl⟩ ?_ ?_ ?_
 .rintro i ys J hi ⟨rfl,rfl⟩;exact⟨ed,by simp only[aGV,aGb];exact bH (by lia)⟩
 .rintro i ky x ys J hx ⟨rfl,rfl⟩;obtain⟨q,hq,rfl,rfl⟩:=bi hx;have bz:=(bc q (aG6 hq)).2;refine⟨_,rfl,q.2,rfl,rfl,?_⟩;rw[aGq,hq,dt (by lia)];simp
 .rintro ys J ⟨rfl,rfl⟩ D hD;have az:D≠d:=λz=>by rw[z,ed]at hD;cases hD
  refine⟨od,by rw[aF (gi az)];exact ed,D,ws.map (·.2),rfl,by rw[aF az,aE,aGV,aG9],?_⟩;have g4:Same H (upd (upd J D (.lst (((ws.take (kvW ws).length).map (·.2)).map V.int))) d (.dK (kvW ws))):=SameD.thaw hd (gd.then (Same.upd hD));generalize upd (upd J D (.lst (((ws.take (kvW ws).length).map (·.2)).map V.int))) d (.dK (kvW ws))=H4 at g4 ⊢;clear gd ed az hD;refine⟨_,_,rfl,rfl,_,rfl,pH (λY=>?_) (λY=>?_)⟩
  .cases hw with
   | zero=>exact absurd Y (show ¬ (10:Int)<0 by decide)
   | three=>exact absurd Y (show ¬ (10:Int)<3 by decide)
   | far =>
    refine⟨_,rfl,_,rfl,d,_,rfl,g4 _ _ hd,λS Ts H5 hS g5 eS bj hT=>?_⟩;have t5:=g4.trans g5
    match Ts,bj,hT,eS with
    | [T1],_,hT,eS =>
     obtain⟨ky,y,h4,h5⟩:=hT 0 T1 rfl;cases h4;exact⟨t,S,rfl,ht.same t5,⟨_,eS,.cons ⟨T1,rfl,h5⟩ .nil⟩,λl H6 hl g6 el=>k l H6 (t5.free hl) (t5.trans g6) el⟩
  .refine⟨_,rfl,t,_,rfl,(ht.same g4).sq,λl0 a_=>?_⟩;have g5:=Same.upd (o:=.lst (r.map V.int)) a_;have bf:(upd H4 l0 (.lst (r.map V.int))) l0=some (.lst (r.map V.int)):=aE;generalize upd H4 l0 (.lst (r.map V.int))=H5 at g5 bf ⊢;have t5:=g4.trans g5;have M:H l0=none:=g4.free a_;clear g4 g5 a_;refine⟨d,kvW ws,t5 _ _ hd,_,rfl,d,kvW ws,rfl,t5 _ _ hd,λod=>?_⟩;have gd:SameD d H (upd H5 d (.frz od (.dK (kvW ws)))):=λb o n e=>by rw[aF n];exact t5 _ _ e
   have ed:(upd H5 d (.frz od (.dK (kvW ws)))) d=some (.frz od (.dK (kvW ws))):=aE;have bn:l0≠d:=λe=>by rw[e,hd]at M;cases M
   have bg:(upd H5 d (.frz od (.dK (kvW ws)))) l0=some (.lst (r.map V.int)):=by rw[aF bn];exact bf
   generalize upd H5 d (.frz od (.dK (kvW ws)))=H6 at gd ed bg ⊢;refine y8 (d:=d) (od:=od) (kvs:=kvW ws) (λi σ J=>∃ (l:Addr) (v3 v4 v5:Option V),σ=[some (.ref t),some (.ref d),some (.ref l),v3,v4,v5]/\SameD d H J/\J d=some (.frz od (.dK (kvW ws)))/\H l=none/\J l=some (.lst ((if i=0 then r else r').map V.int)))
    ⟨l0,none,none,none,rfl,gd,ed,M,bg⟩ (λi σ J _ ⟨_,_,_,_,_,_,e,_⟩=>e) ?_ ?_
   .rintro i ky x σ J t' hx ⟨l,v3,v4,v5,rfl,sm,e3,U,el⟩ bo;cases hw with
    | zero=>simp at hx
    | far=>exact absurd (show (10:Int)<38 by decide) Y
    | three =>
     obtain rfl:i=0:=by
      have:=(aGw.mp hx).1;have:i<1:=this
      lia
     cases hx;have g7:=Same.upd (o:=.tup [V.int 1,V.int 3]) bo;have et:(upd J t' (.tup [V.int 1,V.int 3])) t'=some (.tup [V.int 1,V.int 3]):=aE;show aCk _ _ _ _ _ (upd J t' (.tup [V.int 1,V.int 3])) _;generalize upd J t' (.tup [V.int 1,V.int 3])=H7 at g7 et ⊢;have bq:=sm.then g7;have e7:=g7 _ _ e3;have br:=g7 _ _ el;refine⟨t',_,rfl,SqT.of et,rfl,_,_,rfl,_,_,rfl,rfl,?_⟩;refine⟨_,rfl,3,rfl,_,rfl,by decide,by decide,gW (lo:=0) (n:=3) (λj σ H4=>∃ (l:Addr) (v5:Option V),σ=[some (.ref t),some (.ref d),some (.ref l),some (.int 1),some (.int 3),v5]/\SameD d H H4/\H4 d=some (.frz od (.dK (kvW [(1,3)])))/\H l=none/\H4 l=some (.lst [.int (1+j),.int (2+j)])) ⟨l,v5,rfl,bq,e7,U,br⟩ ?_ ?_⟩
     .rintro j σ H4 hj ⟨l4,w5,rfl,aw,e4,ax,ba⟩;refine⟨λv H'=>∃ l5,v=V.ref l5/\SameD d H H'/\H' d=some (.frz od (.dK (kvW [(1,3)])))/\H l5=none/\H' l5=some (.lst [.int (1+(j+1:Nat)),.int (2+(j+1:Nat))]),⟨_,rfl,_,_,rfl,rfl,_,rfl,iO (by decide) ?_⟩,?_⟩
      .refine⟨_,rfl,_,rfl,l4,[1+j,2+j],1,rfl,ba,.cons (λx hx=>by rw[aGr.mp hx];lia) (ij _ _),(show 2<=60 by decide),by decide,λl5 H5 bt g5 e5=>⟨l5,rfl,aw.then g5,g5 _ _ e4,aw.free e4 bt,?_⟩⟩;have hm:yR [1+(j:Int),2+(j:Int)] 1=([1+((j+1:Nat):Int),2+((j+1:Nat):Int)]:List Int):=by
        obtain rfl | rfl | rfl:j=0\/j=1\/j=2:=by lia
        all_goals decide +kernel
       rw[hm]at e5;exact e5
      .rintro v H5 ⟨l5,rfl,bu,e5,bh,bv⟩;exact⟨l5,_,rfl,bu,e5,bh,bv⟩
     .rintro σ H4 ⟨l4,w5,rfl,aw,e4,ax,ba⟩;exact⟨l4,_,_,_,rfl,aw,e4,ax,ba⟩
   .rintro σ J ⟨l,v3,v4,v5,rfl,sm,e3,U,el⟩;have nl:l≠d:=λe=>by rw[e,hd]at U;cases U
    refine⟨od,e3,_,rfl,k l _ U (SameD.thaw hd sm) (by rw[aF nl,el];congr 3;cases hw <;> rfl)⟩
abbrev gH:Stmt:=bJ (top 58) 0
def rM:FnScope ["self","entries","rests","course"] ["self","entries","rests","course"] (aG gH):=.of
def F0 (G:Hc K) (F:Fun K "__init__" "Road.__init__" gH f fd):FnOk P w K mg base CX0 1 f fd ["self","entries","rests","course"] (nD G):=by
 refine F.g rM λz A outer s H vs Q E L h=>?_;obtain⟨x,dx,M,U,Y,rfl,J,k⟩:=h;refine⟨_,(aI (eQ (pv 0) (pv 1) rfl) (aI (eQ (pv 0) (pv 2) rfl) (aJ (eQ (pv 0) (pv 3) rfl)))),?_⟩
 try dsimp only[bX,bZ]
 refine⟨_,rfl,_,rfl,x,_,dx,_,rfl,J,G.rd,G.rEn,(show 0<1000 by decide),?_⟩;refine⟨_,rfl,_,rfl,x,_,dx,_,rfl,aE,G.rd,G.rRe,(show 1<1000 by decide),?_⟩;refine⟨_,rfl,_,rfl,x,_,dx,_,rfl,aE,G.rd,G.rCo,(show 2<1000 by decide),?_⟩;rw[iK,iK];exact k
abbrev fO:Stmt:=bJ (top 59) 0
def oW:FnScope ["self","rested","walks","turned"] ["self","rested","walks","turned"] (aG fO):=.of
def wS (G:Hc K) (F:Fun K "__init__" "Course.__init__" fO f fd):FnOk P w K mg base CX0 1 f fd ["self","rested","walks","turned"] (oO G):=by
 refine F.g oW λz A outer s H vs Q E L h=>?_;obtain⟨x,dx,M,U,Y,rfl,J,k⟩:=h;refine⟨_,(aI (eQ (pv 0) (pv 1) rfl) (aI (eQ (pv 0) (pv 2) rfl) (aJ (eQ (pv 0) (pv 3) rfl)))),?_⟩
 try dsimp only[bX,bZ]
 refine⟨_,rfl,_,rfl,x,_,dx,_,rfl,J,G.cs,G.cRe,(show 0<1000 by decide),?_⟩;refine⟨_,rfl,_,rfl,x,_,dx,_,rfl,aE,G.cs,G.cWa,(show 1<1000 by decide),?_⟩;refine⟨_,rfl,_,rfl,x,_,dx,_,rfl,aE,G.cs,G.cTu,(show 2<1000 by decide),?_⟩;rw[iK,iK];exact k
abbrev fV:Stmt:=bJ (top 93) 0
def qJ:FnScope ["self"] ["self"] (aG fV):=.of
def xS (G:Hc K) (F:Fun K "__init__" "House.__init__" fV f fd):FnOk P w K mg base CX0 1 f fd ["self"] (jT G):=by
 refine F.g qJ λaw A outer s H vs Q E hr h=>?_;obtain⟨x,dx,rfl,hx,k⟩:=h;refine⟨_,(aI (eQ (pv 0) hW rfl) (aI (eQ (pv 0) (bP aB) rfl) (aJ (eQ (pv 0) (bP aB) rfl)))),?_⟩
 try dsimp only[bX,bZ]
 refine λd hd=>?_;have nd:x≠d:=aP hx hd;have e1:(upd H d (.dK [])) x=some (.ins G.Hs dx []):=by rw[aF nd];exact hx
 refine⟨_,rfl,x,_,dx,_,rfl,e1,G.hs,G.hSt,(show 0<1000 by decide),?_⟩;refine⟨(show 0<=sizeLine by decide),λp hp=>?_⟩;have np:x≠p:=aP aE hp;have z:=dB hp;have M:d≠p:=aP aE z;refine⟨_,rfl,x,_,dx,_,rfl,(aF np).trans aE,G.hs,G.hPa,(show 1<1000 by decide),?_⟩;refine⟨(show 0<=sizeLine by decide),λq hq=>?_⟩;have nq:x≠q:=aP aE hq;have J:=dB hq;have U:p≠q:=aP aE J;have L:=dB (dB J);have Y:d≠q:=aP aE L;refine⟨_,rfl,x,_,dx,_,rfl,(aF nq).trans aE,G.hs,G.hAh,(show 2<1000 by decide),?_⟩;have:=k d p q hd (dB z) (dB L) M Y U;rw[aAD nd np nq];exact this
abbrev rN:Stmt:=top 66
def wT:FnScope ["course","row"] ["course"] (aG rN):=.of
def P5 (G:Hc K) (F:Fun K "row_now" "row_now" rN f fd) (B:Bt mg) (z:cZ P w K mg base "row_behind_walks" 6 ["rested","walks"] W4):FnOk P w K mg base CX0 7 f fd ["course"] (D0 G):=by
 refine F.g wT λL A outer s H vs Q E M h=>?_;obtain⟨a,r,ws,U,rfl,⟨dx,t,d,h1,h2,h3⟩,hw,k⟩:=h;refine⟨_,(aI (aW (i:=1) wT.nd rfl (Or.inl rfl) (bU z M rfl (aA (bW (pv 0) rfl) (aA (bW (pv 0) rfl) aB)))) (aJ (bO (R9 (uI (fH (bW (pv 0) rfl) (λ_=>rfl)) aCZ (pv 1)))))),?_⟩
 try dsimp only[bX,bZ]
 refine⟨_,rfl,a,_,dx,_,_,rfl,h1,G.cs,G.cRe,rfl,_,rfl,a,_,dx,_,_,rfl,h1,G.cs,G.cWa,rfl,t,d,r,ws,U,rfl,h2.nt,h3,hw,λl H1 Y J el=>?_⟩;refine⟨λv H'=>v=.ref l/\H'=H1,⟨_,rfl,a,_,dx,_,_,rfl,J _ _ h1,G.cs,G.cTu,rfl,false,by first | rfl | exact .inl rfl | exact .inr rfl,uU ⟨_,rfl,rfl,rfl⟩⟩,?_⟩;rintro v H2 ⟨rfl,rfl⟩;exact k l H2 Y J el
abbrev kL:Stmt:=top 69
def xT:FnScope ["row","place"] ["row","place"] (aG kL):=.of
def wU (F:Fun K "with_stone" "with_stone" kL f fd) (B:Bt mg) (C:Cn mg tC) (X:cL K mg) (J:RA0 P w K mg base "Laid" X.laid) (z:RA0 P w K mg base "TooMany" X.many):FnOk P w K mg base (CXR P w) 4 f fd ["row","place"] (qC X):=by
 refine F.gX xT λay A outer s H vs Q E L hr h=>?_;refine⟨_,(aI (bT (aV r9 (pv 1) (pv 0) (by with_unfolding_all rfl)) (aJ (bI (cW L) J rfl rfl hr rfl (aA aU aB))) aY) (aI (bT (aV Y8 (aL bD (by rfl) B.len gj (aA (pv 0) aB)) (cF (v:=.int 60) rfl C.MOST_STONES ⟨_,rfl⟩) (bE _)) (aJ (bI (cW L) z rfl rfl hr rfl (aA (eO (aX (cV (by decide)) (aX (gF (cF (v:=.int 60) rfl C.MOST_STONES ⟨_,rfl⟩)) (aX (cV (by decide)) eN)))) aB))) aY) (aJ (bO (aL pL (by rfl) B.sorted eZ (aA (bA lF (pv 0) (bP (aA (pv 1) aB))) aB)))))),?_⟩;rcases h with ⟨a,rfl,M,k⟩ | ⟨a,row,p,rfl,M,hp,k⟩
 .refine⟨_,rfl,_,rfl,a,_,rfl,.inl (SqL.of M),rfl,rfl,_,rfl,?_⟩;rw[show (if false=true then !inV (V.int 40) [V.int 4,V.int 5]else inV (V.int 40) [V.int 4,V.int 5])=decide ((40:Int)∈([4,5]:List Int)) from vE 40 [4,5]];refine dR (by decide) ?_;refine⟨_,rfl,a,_,rfl,.inl (SqL.of M),_,_,rfl,rfl,_,rfl,dR (show ¬ ((2:Nat):Int)≥60 by decide) ?_⟩;refine⟨_,rfl,_,rfl,(show 1<=sizeLine by decide),λx hx=>?_⟩;have Y:=Same.upd (o:=.lst [V.int 40]) hx;have ex:(upd H x (.lst [V.int 40])) x=some (.lst [V.int 40]):=aE;generalize upd H x (.lst [V.int 40])=H1 at Y ex ⊢;refine⟨a,x,_,_,rfl,rfl,Y _ _ M,ex,dE (show 3<=10000 by decide),λy hy=>?_⟩;have g2:=Same.upd (o:=.lst ([4,5,40].map V.int)) hy;have ey:(upd H1 y (.lst ([4,5,40].map V.int))) y=some (.lst ([4,5,40].map V.int)):=aE;refine⟨y,[4,5,40],rfl,ey,by decide,λl ms U aw ax=>?_⟩;obtain rfl:ms=[4,5,40]:=nW aw ax (by decide);exact k l _ ((Y.trans g2).free U) ((Y.trans g2).trans (Same.upd U)) aE
 .refine⟨_,rfl,_,rfl,a,_,rfl,.inl (SqL.of M),rfl,by simp[nM],_,rfl,?_⟩;rw[show (if false=true then !inV (V.int p) (row.map V.int)else inV (V.int p) (row.map V.int))=decide (p∈row) from vE _ _];exact iO hp (rd0 k)
abbrev gI:Stmt:=top 70
def rO:FnScope ["row","place"] ["row","place"] (aG gI):=.of
def qK (F:Fun K "without_stone" "without_stone" gI f fd) (B:Bt mg) (X:cL K mg) (z:RA0 P w K mg base "NoStone" X.stone):FnOk P w K mg base (CXR P w) 4 f fd ["row","place"] (oQ X):=by
 refine F.gX rO λL A outer s H vs Q E J M h=>?_;obtain⟨a,row,p,rfl,U,Y,k⟩:=h;refine⟨_,(aI (bT (aV pE (pv 1) (pv 0) (by with_unfolding_all rfl)) (aJ (bI (cW J) z rfl rfl M rfl (aA aU aB))) aY) (aJ bG)),?_⟩
 try dsimp only[bX,bZ]
 refine⟨_,rfl,_,rfl,a,_,rfl,.inl (SqL.of U),rfl,by simp[nM],_,rfl,?_⟩;rw[show (if true=true then !inV (V.int p) (row.map V.int)else inV (V.int p) (row.map V.int))=!decide (p∈row)by rw[eH rfl,vE]];rw[aGg Y];exact aAw (rd0 k)
abbrev kM:Stmt:=top 68
def nZ:FnScope ["row","entry","word"] ["row","entry"] (aG kM):=.of
def wV (F:Fun K "row_behind" "row_behind" kM f fd) (B:Bt mg) (X:cL K mg) (J:dI P w K mg base "with_stone" 4 ["row","place"] (qC X)) (z:dI P w K mg base "without_stone" 4 ["row","place"] (oQ X)):FnOk P w K mg base (CXR P w) 5 f fd ["row","entry"] (qD X):=by
 refine F.gX nZ λaw A outer s H vs Q E L Y h=>?_;refine⟨_,(aI (aW (i:=2) nZ.nd rfl (Or.inl rfl) (dQ fJ (pv 1) aK (λ_ _=>rfl))) (aI (bT (aV Y6 (pv 2) aU (bE _)) (aJ (bO (cN J Y rfl (dF L) (aA (pv 0) (aA (dQ fJ (pv 1) aK (λ_ _=>rfl)) aB))))) aY) (aI (bT (aV Y6 (pv 2) aU (bE _)) (aJ (bO (cN z Y rfl (dF L) (aA (pv 0) (aA (dQ fJ (pv 1) aK (λ_ _=>rfl)) aB))))) aY) (aJ bG)))),?_⟩;rcases h with ⟨a,t,rfl,M,ht,k⟩ | ⟨a,t,row,p,rfl,M,ht,U,k⟩ | ⟨a,t,row,p,rfl,M,ht,U,k⟩
 .exact⟨_,rfl,t,_,_,_,rfl,rfl,SqT.of ht,rfl,_,rfl,rfl,_,rfl,iO rfl ⟨_,rfl,_,rfl,t,_,_,_,rfl,rfl,SqT.of ht,rfl,.good a rfl M k⟩⟩
 .exact⟨_,rfl,t,_,_,_,rfl,rfl,SqT.of ht,rfl,_,rfl,rfl,_,rfl,iO rfl ⟨_,rfl,_,rfl,t,_,_,_,rfl,rfl,SqT.of ht,rfl,.bad a row p rfl M U k⟩⟩
 .exact⟨_,rfl,t,_,_,_,rfl,rfl,SqT.of ht,rfl,_,rfl,rfl,_,rfl,dR (by decide +kernel) ⟨_,rfl,rfl,_,rfl,iO rfl ⟨_,rfl,_,rfl,t,_,_,_,rfl,rfl,SqT.of ht,rfl,a,row,p,rfl,M,U,k⟩⟩⟩
abbrev oX:Stmt:=top 65
def sN:FnScope ["course","creel","count","useful"] ["course","creel","count"] (aG oX):=.of
def F1 (G:Hc K) (F:Fun K "add_walk" "add_walk" oX f fd) (B:Bt mg) (C:Cn mg tC) (F_look_creel:cZ P w K mg base "look_creel" 1 ["creel"] fA):FnOk P w K mg base CX0 2 f fd ["course","creel","count"] (D2 G):=by
 refine F.g sN λcdv A outer s H vs Q E hr h=>?_;obtain⟨Hb,a,m,j,r,ws,rfl,⟨sm,hba,dx,t,d,hbd,h1,h2,h3⟩,hw,k⟩:=h;have hu1:=pF hr;refine⟨_,(aI (aN (bU F_look_creel hr rfl (aA (pv 1) aB))) (aI (aW (i:=3) sN.nd rfl (Or.inl rfl) (aL (qT rfl) (by rfl) B.min uV (aA (pv 1) (aA (cF (v:=.int 60) rfl C.MOST_STONES ⟨_,rfl⟩) aB)))) (aJ (A0 hu1 (bW (pv 0) rfl) (pv 3) (bA dJ (aBV hu1 (bW (pv 0) rfl) (pv 3) aK ⟨rfl,rfl,rfl,rfl⟩) (R9 (uI (fH (bW (pv 0) rfl) (λ_=>rfl)) (nL jA (pv 2)) (pv 2)))) rfl)))),?_⟩
 try dsimp only[bX,bZ]
 refine⟨_,rfl,1,rfl,by decide,?_⟩;refine⟨_,rfl,_,_,rfl,?_⟩;rw[dt (show ¬ (60:Int)<1 by decide)];refine⟨_,rfl,a,_,dx,_,_,rfl,h1,G.cs,G.cWa,rfl,d,rfl,.inl ⟨_,.inl h3⟩,_,rfl,_,DGet.k (k:=Sum.inl 1) h3,?_⟩;refine⟨λv H'=>v=.int m/\H'=H,⟨_,rfl,a,_,dx,_,_,rfl,h1,G.cs,G.cTu,rfl,false,by first | rfl | exact .inl rfl | exact .inr rfl,uU ⟨_,rfl,rfl,rfl⟩⟩,?_⟩;rintro v H' ⟨rfl,rfl⟩;have fin:∀ ws':List (Key×V),ws'=kvW [(1,j)]->iJ (kvW ws) (Sum.inl 1) (.int j)=ws'->CO5 G Hb (upd H' d (.dK ws')) a r [(1,j)]:=λws' e _=>by
  have nad:a≠d:=cI h1 h3 (by intro z;cases z);refine⟨sm.upd' hbd,hba,dx,t,d,hbd,by rw[aF nad];exact h1,?_,by rw[e];exact aE⟩;rcases h2 with ⟨n1,h2⟩ | h2
  .exact .inl ⟨n1,by rw[aF (cI h2 h3 (by intro z;cases z))];exact h2⟩
  .exact .inr (by rw[aF (cI h2 h3 (by intro z;cases z))];exact h2)
 rcases hw with ⟨rfl,rfl⟩ | ⟨i,rfl,rfl⟩
 .refine⟨0,_,rfl,rfl,_,rfl,a,_,dx,_,_,rfl,h1,G.cs,G.cWa,rfl,_,rfl,d,_,rfl,DPut.k (k:=Sum.inl 1) h3 (bH (show 0<=10000 by decide)),?_⟩;rw[uy];exact k _ (fin _ rfl rfl)
 .refine⟨i,_,rfl,rfl,_,rfl,a,_,dx,_,_,rfl,h1,G.cs,G.cWa,rfl,_,rfl,d,_,rfl,DPut.k (k:=Sum.inl 1) h3 (bH (show 1<=10000 by decide)),?_⟩;exact k _ (fin _ rfl rfl)
abbrev F2:Stmt:=top 64
def P6:FnScope ["course","entry","word"] ["course","entry"] (aG F2):=.of
def aAQ (X:cL K mg) (G:Hc K) (F:Fun K "go_on" "go_on" F2 f fd) (B:Bt mg) (L:cZ P w K mg base "add_walk" 2 ["course","creel","count"] (D2 G)) (J:dI P w K mg base "row_behind" 5 ["row","entry"] (qD X)) (M:cZ P w K mg base "row_now" 7 ["course"] (D0 G)):FnOk P w K mg base (CXR P w) 8 f fd ["course","entry"] (tZ X G):=by
 refine F.gX P6 λbg A outer s H vs Q E bc hr h=>?_;obtain⟨Hb,a,v,r,ws,e,O,rfl,hO,hv,hg,kg,kb⟩:=h;have sm:Same Hb H:=hO.1;obtain⟨t,rfl,ht⟩:=hv.kq (.same (G:=G) sm);refine⟨_,(aI (aW (i:=2) P6.nd rfl (Or.inl rfl) (dQ fJ (pv 1) aK (λ_ _=>rfl))) (aJ (bT (aV Y6 (pv 2) aU (bE _)) (aJ (aN (bU L hr rfl (aA (pv 0) (aA (dQ fJ (pv 1) aK (λ_ _=>rfl)) (aA (dQ fJ (pv 1) aK (λ_ _=>rfl)) aB)))))) (aJ (bT (aV Y6 (pv 2) aU (bE _)) (aJ (eQ (pv 0) (aDt (bW (pv 0) rfl)) rfl)) (aI (eQ (pv 0) (cN J hr rfl (dF bc) (aA (bU M hr rfl (aA (pv 0) aB)) (aA (pv 1) aB))) rfl) (aI (eQ (pv 0) hW rfl) (aJ (eQ (pv 0) G4 rfl))))))))),?_⟩
 try dsimp only[bX,bZ]
 cases hg with
 | w0=>exact⟨_,rfl,t,_,_,_,rfl,rfl,SqT.of ht,rfl,_,rfl,rfl,_,rfl,iO rfl ⟨_,rfl,_,rfl,t,_,_,_,rfl,rfl,SqT.of ht,rfl,_,rfl,t,_,_,_,rfl,rfl,SqT.of ht,rfl,Hb,a,_,_,_,_,rfl,hO,.inl ⟨rfl,rfl⟩,kg _ rfl⟩⟩
 | w1=>exact⟨_,rfl,t,_,_,_,rfl,rfl,SqT.of ht,rfl,_,rfl,rfl,_,rfl,iO rfl ⟨_,rfl,_,rfl,t,_,_,_,rfl,rfl,SqT.of ht,rfl,_,rfl,t,_,_,_,rfl,rfl,SqT.of ht,rfl,Hb,a,_,_,_,_,rfl,hO,.inr ⟨_,rfl,rfl⟩,kg _ rfl⟩⟩
 | put =>
  obtain⟨_,ax,dx,tr,d,bh,h1,h2,h3⟩:=id hO;refine⟨_,rfl,t,_,_,_,rfl,rfl,SqT.of ht,rfl,_,rfl,rfl,_,rfl,dR (by decide +kernel) ⟨_,rfl,rfl,_,rfl,dR (by decide +kernel) ?_⟩⟩;refine⟨_,rfl,a,_,_,_,rfl,hO.at,.three,λl H1 hl Y el=>?_⟩;refine⟨_,rfl,.good l t rfl el (Y _ _ ht) λl2 H2 a_ g2 ay=>?_⟩;have ba:=Y.trans g2;have bb:l2≠a:=λz=>by rw[z,Y _ _ h1]at a_;cases a_
  refine⟨_,rfl,a,_,dx,_,rfl,ba _ _ h1,G.cs,G.cRe,(show 3<1000 by decide),?_⟩;refine λd2 aw=>?_;have az:d2≠a:=λz=>by rw[z,aE]at aw;cases aw
  have U:H2 d2=none:=by rw[aF az]at aw;exact aw
  refine⟨_,rfl,a,_,dx,_,rfl,(aF (gi az)).trans aE,G.cs,G.cWa,(show 3<1000 by decide),?_⟩;refine⟨_,rfl,a,_,dx,_,rfl,aE,G.cs,G.cTu,(show 3<1000 by decide),?_⟩;have bf:l2≠d2:=λz=>by rw[z,U]at ay;cases ay
  have s2:=sm.trans ba;rw[iK];exact kg _ rfl _ ⟨((s2.upd' ax).upd' (s2.free U)).upd' ax,ax,dx,l2,d2,s2.free U,aE,.inl ⟨List.cons_ne_nil _ _,by rw[aF bb,aF bf,aF bb];exact ay⟩,by rw[aF az,aE];rfl⟩
 | laid hn hp =>
  refine⟨_,rfl,t,_,_,_,rfl,rfl,SqT.of ht,rfl,_,rfl,rfl,_,rfl,dR (show ¬ V.str "put"=V.str "walk" by decide +kernel) ⟨_,rfl,rfl,_,rfl,dR (show ¬ V.str "put"=V.str "mirror" by decide +kernel) ?_⟩⟩;exact⟨_,rfl,a,_,_,_,rfl,hO.at,hn,λl H1 hl Y el=>⟨_,rfl,.laid l t _ _ rfl el (Y _ _ ht) hp (kb _ rfl H1 Y)⟩⟩
 | stone hn hp =>
  refine⟨_,rfl,t,_,_,_,rfl,rfl,SqT.of ht,rfl,_,rfl,rfl,_,rfl,dR (show ¬ V.str "take"=V.str "walk" by decide +kernel) ⟨_,rfl,rfl,_,rfl,dR (show ¬ V.str "take"=V.str "mirror" by decide +kernel) ?_⟩⟩;exact⟨_,rfl,a,_,_,_,rfl,hO.at,hn,λl H1 hl Y el=>⟨_,rfl,.stone l t _ _ rfl el (Y _ _ ht) hp (kb _ rfl H1 Y)⟩⟩
abbrev rP:Stmt:=top 63
def X0:FnScope ["rests","number","entry"] ["rests","number","entry"] (aG rP):=.of
def P7 (F:Fun K "is_rest" "is_rest" rP f fd) (B:Bt mg) (L:Cn3 mg t1 t2 t3):FnOk P w K mg base CX0 1 f fd ["rests","number","entry"] (nF (K:=K)):=by
 refine F.g X0 λM A outer s H vs Q E U h=>?_;obtain⟨r,t,n,v,u,rfl,hq,ht,Y,k⟩:=h;refine⟨_,(aJ (bO (Q4 (jY Y8 (pv 1) (bA dJ (dQ fJ (dQ uQ (pv 0) (nL jA aK) (λ_ _=>rfl)) aK (λ_ _=>rfl)) (cF (v:=.int 16) rfl L.REST_APART ⟨_,rfl⟩)) (bE _)) (aA4 (jY pE (dQ fJ (pv 2) aK (λ_ _=>rfl)) (cM (aA aU (aA aU aB))) (by with_unfolding_all rfl)))))),?_⟩
 try dsimp only[bX,bZ]
 have z:∀ J,J (V.ref t) H->rIx K (.ref r) (.int (-1)) H J:=λJ q=>by
  rcases hq with hq | hq
  .exact .inl ⟨r,_,-1,_,rfl,rfl,hq,rfl,q⟩
  .exact .inr (.inl ⟨r,_,-1,_,rfl,rfl,hq,rfl,q⟩)
 exact⟨_,rfl,_,rfl,_,rfl,z _ ⟨t,_,_,_,rfl,rfl,SqT.of ht,rfl,_,_,rfl,rfl,_,_,rfl,rfl,_,rfl,dR (by lia) (k H (Same.refl _))⟩⟩
abbrev oY:Stmt:=top 60
def P8:FnScope ["row"] ["row"] (aG oY):=.of
def F3 (G:Hc K) (F:Fun K "new_road" "new_road" oY f fd) (B:Bt mg) (J:jP P w K mg base "Road" G.Rd 1 ["self","entries","rests","course"] (nD G)) (z:jP P w K mg base "Course" G.Cs 1 ["self","rested","walks","turned"] (oO G)):FnOk P w K mg base CX0 3 f fd ["row"] (D4 G):=by
 refine F.g P8 λaz A outer s H vs Q E hr h=>?_;obtain⟨t,row,rfl,ht,k⟩:=h;refine⟨_,(aJ (bO (rA J hr rfl (aA (cM aB) (aA (cM (aA (cM (aA aK (aA (eY fY (by rfl) B.tuple kB (aA (pv 0) aB)) aB))) aB)) (aA (rA z hr rfl (aA (eY fY (by rfl) B.tuple kB (aA (pv 0) aB)) (aA hW (aA G4 aB)))) aB)))))),?_⟩
 try dsimp only[bX,bZ]
 refine⟨(show 0<=sizeLine by decide),λe he=>aS he λH1 g1 ee=>?_⟩;refine⟨_,rfl,t,_,rfl,.inr ⟨SqT.of (g1 _ _ ht),(show 2<=sizeLine by decide),λx hx=>aS hx λH2 g2 ex=>?_⟩⟩;refine⟨(show 1<=sizeLine by decide),λr Y=>aS Y λH3 g3 er=>?_⟩;have t3:=(g1.trans g2).trans g3;refine⟨_,rfl,t,_,rfl,.inr ⟨SqT.of (t3 _ _ ht),λd hd=>aS hd λH4 g4 ed=>?_⟩⟩;refine λc dc hc aw ax=>aCG G hc aw ax λH5 U ec=>?_;refine λa dx ha ay L=>aDi G ha ay L λH6 M ea=>?_;have t6:=((t3.trans g4).trans U).trans M;have s2:=((g3.trans g4).trans U).trans M;exact k _ H6 t6 ⟨a,dx,e,r,c,x,t,[],rfl,ea,(g2.trans s2) _ _ ee,.nil,((g4.trans U).trans M) _ _ er,s2 _ _ ex,.inr (t6 _ _ ht),⟨dc,t,d,M _ _ ec,.inr (t6 _ _ ht),(U.trans M) _ _ ed⟩⟩
abbrev kN:Stmt:=top 61
def jE:FnScope ["road","entry","course","entries"] ["road","entry"] (aG kN):=.of
def wW (X:cL K mg) (G:Hc K) (F:Fun K "with_entry" "with_entry" kN f fd) (B:Bt mg) (B6:Bt6 mg) (L:jP P w K mg base "Road" G.Rd 1 ["self","entries","rests","course"] (nD G)) (M:jP P w K mg base "Course" G.Cs 1 ["self","rested","walks","turned"] (oO G))
 (U:dI P w K mg base "go_on" 8 ["course","entry"] (tZ X G)) (J:cZ P w K mg base "is_rest" 1 ["rests","number","entry"] (nF (K:=K))):FnOk P w K mg base (CXR P w) 9 f fd ["road","entry"] (wI X G):=by
 refine F.gX jE λbw A outer s H vs Q E bi Y h=>?_;obtain⟨v,x,D,e,O,rfl,⟨a,dx,en,re,c,r0,t0,us,rfl,ha,bj,ax,ay,az,hf,⟨dc,tr,d,h1,h2,h3⟩⟩,hx,hg,hl,kg,kb⟩:=h;have bx:=ax.length;refine⟨_,(aI (aW (i:=2) jE.nd rfl (Or.inl rfl) (rA M Y rfl (aA (bW (bW (pv 0) rfl) rfl) (aA (eY vO (by rfl) B6.dict rq (aA (bW (bW (pv 0) rfl) rfl) aB)) (aA (bW (bW (pv 0) rfl) rfl) aB))))) (aI (aN (cN U Y rfl (dF bi) (aA (pv 2) (aA (pv 1) aB)))) (aI (aW (i:=3) jE.nd rfl (Or.inl rfl) (bA pT (bW (pv 0) rfl) (cM (aA (pv 1) aB)))) (aI (bT (fH (bU J Y rfl (aA (bW (pv 0) rfl) (aA (aL bD (by rfl) B.len gj (aA (pv 3) aB)) (aA (pv 1) aB)))) (λ_=>rfl)) (aJ (bO (rA L Y rfl (aA (pv 3) (aA (bA pT (bW (pv 0) rfl) (cM (aA (cM (aA (aL bD (by rfl) B.len gj (aA (pv 3) aB)) (aA (bW (pv 2) rfl) aB))) aB))) (aA (pv 2) aB)))))) aY) (aJ (bO (rA L Y rfl (aA (pv 3) (aA (bW (pv 0) rfl) (aA (pv 2) aB)))))))))),?_⟩
 try dsimp only[bX,bZ]
 refine⟨_,rfl,a,_,dx,_,_,rfl,ha,G.rd,G.rCo,rfl,c,_,dc,_,_,rfl,h1,G.cs,G.cRe,rfl,_,rfl,a,_,dx,_,_,rfl,ha,G.rd,G.rCo,rfl,c,_,dc,_,_,rfl,h1,G.cs,G.cWa,rfl,d,_,rfl,h3,λd2 a_=>aS a_ λH1 g1 bn=>?_⟩;refine⟨_,rfl,a,_,dx,_,_,rfl,g1 _ _ ha,G.rd,G.rCo,rfl,c,_,dc,_,_,rfl,g1 _ _ h1,G.cs,G.cTu,rfl,λc2 bo ba bb bc=>aCG G ba bb bc λH2 g2 bq=>?_⟩;have aw:=g1.trans g2;refine⟨_,rfl,_,rfl,H,c2,x,D.row,D.ws,e,O,rfl,⟨aw,g1.free ba,bo,tr,d2,a_,bq,h2.same aw,g2 _ _ bn⟩,hx,hg,λq hq H3 hO=>?_,λref Y=>(kb ref Y).mono aw⟩;have g3:Same H H3:=hO.1;refine⟨_,rfl,a,_,dx,_,_,rfl,g3 _ _ ha,G.rd,G.rEn,rfl,_,rfl,(show 1<=sizeLine by decide),λp hp=>aS hp λH4 g4 ep=>?_⟩;have t4:=g3.trans g4;refine⟨en,p,us,[x],rfl,rfl,t4 _ _ bj,ep,dE (by rw[gm];lia),λbf H5 g5 bg=>?_⟩;have t5:=t4.trans g5;refine⟨_,rfl,a,_,dx,_,_,rfl,t5 _ _ ha,G.rd,G.rRe,rfl,_,rfl,bf,_,rfl,.inr (SqT.of bg),_,rfl,re,r0,_,x,_,rfl,.inr (SqT.of (t5 _ _ ay)),t5 _ _ az,by rw[aG4,gm];lia,λH6 g6=>?_⟩;have t6:=t5.trans g6;have q6:=(g4.trans g5).trans g6;refine⟨false,by first | rfl | exact .inl rfl | exact .inr rfl,uU ?_⟩;refine⟨_,rfl,_,rfl,a,_,dx,_,_,rfl,t6 _ _ ha,G.rd,G.rRe,rfl,_,rfl,λx2 br bt bh bu=>aDi G bt bh bu λH7 g7 bv=>?_⟩;have t7:=t6.trans g7;have k7:Kq G H H7:=.same t7;exact kg q hq _ H7 t7 ⟨x2,br,bf,re,c2,r0,t0,_,rfl,bv,(g6.trans g7) _ _ bg,Paired.append' (Paired.mapP ax λ_ _ z=>z.kq k7) (.cons (hx.kq k7) .nil),t7 _ _ ay,t7 _ _ az,C9 k7 hf,(hO.same (q6.trans g7)).at⟩
abbrev kO:Stmt:=top 62
def fF:FnScope ["road","at","entries","rests","start","rested","course","number"] ["road","at","entries"] (aG kO):=.of
def F4 (X:cL K mg) (XC:aEb X) (G:Hc K) (F:Fun K "with_log" "with_log" kO f fd) (B:Bt mg) (L:jP P w K mg base "Course" G.Cs 1 ["self","rested","walks","turned"] (oO G))
 (M:nE P w K mg base "Clash" X.clash ["self","at"] (V4 "Clash" X.clash)) (U:dI P w K mg base "go_on" 8 ["course","entry"] (tZ X G)) (J:cZ P w K mg base "is_rest" 1 ["rests","number","entry"] (nF (K:=K))):FnOk P w K mg base (CXR P w) 9 f fd ["road","at","entries"] (wJ X G):=by
 refine F.gX fF λcb A outer s H vs Q E bn hr h=>?_;obtain⟨v,x,us,⟨f0,ents,row,ws⟩,rfl,⟨a,dx,en,re,c,r0,t0,cf,rfl,ha,cg,b_,a_,bo,hf,ci⟩,ax,hx,ba,kb⟩:=h;have ax:f0=[1,2]:=ax;subst ax;have bb:us.length=3:=ba.length;refine⟨_,(aI (a7 (i:=3) ["number","row"] ["at"] [1] rfl fF.nd rfl rfl (.of (show eC (aG kO) _ ["road","at","entries","rests","start","rested","course","number"] [1] ["at"]=true by decide +kernel)) (aAb (bW (pv 0) rfl)) (λ_ _ _=>(iP (n:=2) K rfl rfl (aO (aM (i:=0) (show (["number","row","at"]:List Str).Nodup by decide +kernel) rfl (Or.inl rfl)) (aO (aM (i:=1) (show (["number","row","at"]:List Str).Nodup by decide +kernel) rfl (Or.inl rfl)) cA)))) (lI (cO (by decide) (cO (by decide) iM))) (λ_ _ _=>a6 (aV Y7 (pv 0) (pv 2) (bE _))) (λ_ _ _=>(cM (aA (pv 0) (aA (pv 1) aB)))) (by first | rfl | decide +kernel)) (aI (oA (dQ mU (pv 3) (nL jA aK) (λ_ _=>rfl)) (eP (n:=2) rfl (aO (aM (i:=4) fF.nd rfl (Or.inl rfl)) (aO (aM (i:=5) fF.nd rfl (Or.inl rfl)) cA)))) (aI (aW (i:=6) fF.nd rfl (Or.inl rfl) (rA L hr rfl (aA (pv 5) (aA hW (aA G4 aB))))) (aI (dZ N7 rfl (qR rfl B.range (aA (pv 4) (aA (aL bD (by rfl) B.len gj (aA (pv 2) aB)) aB))) (aM (i:=7) fF.nd rfl (Or.inl rfl)) (aI (l9 ⟨rfl,rfl,rfl⟩ (O0 (aCE U hr rfl (λ_=>(aA (pv 6) (aA (dQ (aCx (K:=K) rfl) (pv 2) (pv 7) (λ_ _=>rfl)) aB))))) (aCQ (i:=7) (aDT bn) M rfl hr rfl rfl (Or.inl rfl) rfl X.m_laid rfl X.m_stone)) (aJ (bT (fH (bU J hr rfl (aA (pv 3) (aA (bA dJ (pv 7) aK) (aA (dQ fJ (pv 2) (pv 7) (λ_ _=>rfl)) aB)))) (λ_=>rfl)) (aJ (aN (lE aGs aGt aGu dU (pv 3) (aA (cM (aA (bA dJ (pv 7) aK) (aA (bW (pv 6) rfl) aB))) aB)))) aY)))) (aJ bG))))),?_⟩
 try dsimp only[bX,bZ]
 refine⟨_,rfl,a,_,dx,_,_,rfl,ha,G.rd,G.rRe,rfl,re,rfl,⟨_,SqT.of a_⟩,aCF (K:=K) (a:=re) (xs:=[.ref r0]) (λi ys H2=>Same H H2/\(i=0/\ys=[]\/i=1/\∃ p,ys=[.ref p]/\H2 p=some (.tup [.int 0,.ref t0]))) ⟨Same.refl _,.inl ⟨rfl,rfl⟩⟩ ?_ ?_ ?_⟩
 .rintro i ys H2 hi ⟨g,h⟩;refine⟨SqT.of (g _ _ a_),?_⟩;rcases h with ⟨_,rfl⟩ | ⟨_,p,rfl,_⟩
  .exact bH (show 0<=10000 by decide)
  .exact bH (show 1<=10000 by decide)
 .rintro i y ys H2 hi ⟨g,h⟩;have bq:i<1:=(aGw.mp hi).1;rcases h with ⟨rfl,rfl⟩ | ⟨rfl,_⟩
  case inr=>exact absurd bq (by decide)
  cases hi;refine⟨r0,_,rfl,SqT.of (g _ _ bo),rfl,_,_,rfl,_,_,rfl,rfl,_,rfl,_,rfl,_,_,rfl,rfl,_,rfl,?_⟩;rw[eH (by decide)];exact⟨_,rfl,_,rfl,(show 2<=sizeLine by decide),λp hp=>⟨g.trans (Same.upd hp),.inr ⟨rfl,p,rfl,aE⟩⟩⟩
 .rintro ys H2 ⟨g2,h⟩ D hD;rcases h with ⟨z,_⟩ | ⟨_,lt,rfl,elt⟩
  .cases z
  refine aS hD λH3 g3 eD=>?_;refine⟨_,rfl,_,rfl,D,_,_,_,rfl,rfl,SqL.of eD,rfl,lt,_,rfl,SqT.of (g3 _ _ elt),rfl,_,_,rfl,_,_,rfl,rfl,?_⟩;refine⟨_,rfl,λd hd=>aS hd λH4 g4 ed=>?_⟩;refine λc2 br bc bf bg=>aCG G bc bf bg λH5 g5 bt=>?_;have bu:=(g3.trans g4).trans g5;have t5:=g2.trans bu;have bh:Same H3 (wo [c2,d] H5):=aF9 (g4.trans g5) λy hy=>by
   rcases aGx.mp hy with e | hy
   .rw[e];exact g4.free bc
   .rw[aGr.mp hy];exact hd
  have ay:=(g2.trans g3).trans bh;refine⟨_,rfl,_,rfl,x,_,rfl,.inr (SqT.of (t5 _ _ hx)),_,_,rfl,⟨by decide,by decide,by lia,by rw[bb];decide⟩,gW (lo:=0) (λi σ H'=>∃ v7,σ=[some (.ref a),some (.int 0),some (.ref x),some (.ref D),some (.int 0),some (.ref t0),some (.ref c2),v7]/\i<=2/\CO5 G (wo [c2,d] H5) H' c2 [1,2] (wsL i))
   ⟨none,rfl,gr _,m5,O1 (by simp),br,t0,d,O1 (by simp),bt,hf.same t5,g5 _ _ ed⟩ ?_ ?_⟩
  .rintro i σ H' hi ⟨v7,rfl,Y,hO⟩;obtain⟨e,O,he,hg,bi⟩:=aFi Y;obtain⟨v,hv,bv⟩:=iT ba he;have aw:atI us ((0:Int)+(i:Int))=some v:=by rw[uy];exact pC hv
   have tH:=ay.trans hO.1;refine⟨_,rfl,_,rfl,_,rfl,x,_,_,_,rfl,rfl,SqT.of (tH _ _ hx),aw,?_⟩;refine⟨wo [c2,d] H5,c2,v,[1,2],wsL i,e,O,rfl,hO,bv.kq (.same (G:=G) ay),hg,λq hq H6 az=>?_,λref bj=>?_⟩
   .rcases bi with ⟨bw,rfl⟩ | ⟨_,rfl⟩
    case inr=>cases hq
    cases hq;have t6:=bh.trans az.1;have h6:=ay.trans az.1;refine⟨_,rfl,_,rfl,_,_,rfl,rfl,_,rfl,_,rfl,x,_,_,_,rfl,rfl,SqT.of (h6 _ _ hx),aw,D,lt,_,v,_,rfl,.inl (SqL.of (t6 _ _ eD)),(g3.trans t6) _ _ elt,by lia,λH7 g7=>?_⟩;exact⟨false,by first | rfl | exact .inl rfl | exact .inr rfl,uU ⟨_,rfl,bw,az.same g7⟩⟩
   .rcases bi with ⟨_,rfl⟩ | ⟨rfl,rfl⟩
    .cases bj
    cases bj;exact λH2 g2 dx bx e0 cj=>⟨XC.laid,_,rfl,λe1 bz=>(rdI (i:=2) (vY (by decide) (by decide)) (kb _ ((tH.trans g2).trans (Same.upd bx)))).2 e1 bz⟩
  .rintro σ H' ⟨v7,rfl,Y,hO⟩;rw[bb]at Y;exact absurd Y (show ¬ 3<=2 by decide)
abbrev gT:Stmt:=top 78
def xU:FnScope ["text","signs","most"] ["text","signs","most"] (aG gT):=.of
def aDa (F:Fun K "is_made_of" "is_made_of" gT f fd) (B:Bt mg):FnOk P w K mg base CX0 1 f fd ["text","signs","most"] U8:=by
 refine F.g xU λax A outer s H vs Q E hr h=>?_;obtain⟨t,J,m,rfl,ht,k⟩:=h;have hu:=hr.units;refine⟨_,(aJ (bO (Q4 (jY (aBB hu) (pv 0) aU (bE _)) (Q4 (jY Y7 (aL zU (by rfl) B.len gj (aA (pv 0) aB)) (pv 2) (bE _)) (aA4 (aL (aBD rfl) (by rfl) B.all aBF (aA (fK ["sign"] ["signs"] [1] rfl (.of (show eC (aG gT) _ ["text","signs","most"] [1] ["signs"]=true by decide +kernel)) (aET (pv 0)) (λ_ _ _=>(aM (i:=0) (show (["sign","signs"]:List Str).Nodup by decide +kernel) rfl (Or.inl rfl))) (kA (by decide)) (λ_ _ _=>dY) (λ_ _ _=>(jY p0 (pv 0) (pv 1) (by with_unfolding_all rfl)))) aB))))))),?_⟩
 try dsimp only[bX,bZ]
 have Y:=aBs ht.asc;refine⟨_,rfl,_,_,Den.str _,Den.str _,Y,(by decide +kernel),?_⟩;rw[aFZ];have L:sH t J m=(decide (t≠"") && (decide ((t.length:Int)<=m) && (dG t).all λc=>decide (c∈dG J))):=rfl;refine⟨_,rfl,?_⟩
 by_cases M:t=""
 .rw[dt (by simp[M])];have:=k H (Same.refl _);rw[L,aGg (λz=>z M),ua]at this;exact this
 rw[eH (by simp[M])];rw[aGh M,Bool.true_and]at L;have h5:=ht.len;refine⟨_,rfl,t,rfl,dE (by lia),_,rfl,_,_,rfl,rfl,_,rfl,?_⟩
 by_cases c1:(t.length:Int)<=m
 .rw[eH (by simpa using c1)];rw[aGh c1,Bool.true_and]at L;refine⟨_,rfl,t,rfl,ht.asc,aB2 (z:=t) (λi ys U=>U=H/\ys=(((dG t).take i).map λc=>decide (c∈dG J)).map V.bl) ⟨rfl,rfl⟩ ?_ ?_ ?_⟩
  .rintro i ys U hi ⟨rfl,rfl⟩;rw[aGV,aGV,aGb];exact bH (by have:t.cps.size=t.length:=rfl;lia)
  .rintro i c ys U hi ⟨rfl,rfl⟩;refine⟨_,rfl,_,rfl,_,_,rfl,rfl,rfl,?_⟩;have aw:(dG t)[i]?=some c:=by rw[oa];exact hi
   rw[StrLaws.found_one,List.take_add_one,aw];simp
  .rintro ys U ⟨rfl,rfl⟩ D hD;refine⟨D,(dG t).map λc=>decide (c∈dG J),rfl,?_,?_⟩
   .rw[aE,jc (by rw[zA];exact ah _)]
   .have:=k _ (Same.upd (o:=.lst ((((dG t).take t.cps.size).map λc=>decide (c∈dG J)).map V.bl)) hD);rw[L]at this;rw[List.all_map];exact this
 .rw[dt (by simpa using c1)];have:=k H (Same.refl _);rw[L,aGg c1,ua]at this;exact this
abbrev rQ:Stmt:=top 76
def X1:FnScope ["text"] ["text"] (aG rQ):=.of
def X2 (F:Fun K "is_name" "is_name" rQ f fd) (B:Bt mg) (G:Wl mg) (z:cZ P w K mg base "is_made_of" 1 ["text","signs","most"] U8):FnOk P w K mg base CX0 2 f fd ["text"] B5:=by
 refine F.g X1 λJ A outer s H vs Q E L h=>?_;obtain⟨t,rfl,ht,k⟩:=h;refine⟨_,(aJ (bO (bU z L rfl (aA (pv 0) (aA (aB7 rfl G.LETTERS) (aA (aB8 rfl G.MOST_LETTERS) aB)))))),?_⟩
 try dsimp only[bX,bZ]
 exact⟨_,rfl,t,L3,8,rfl,ht,k⟩
abbrev kP:Stmt:=top 82
def xV:FnScope ["roads","name"] ["roads","name"] (aG kP):=.of
def wX (X:cL K mg) (F:Fun K "road_named" "road_named" kP f fd) (B:Bt mg) (z:RA0 P w K mg base "NoRoad" X.road):FnOk P w K mg base (CXR P w) 4 f fd ["roads","name"] (jU X):=by
 refine F.gX xV λY A outer s H vs Q E L U h=>?_;obtain⟨d,n,kvs,rfl,hd,kg,kb⟩:=h;have J:=pF U;refine⟨_,(aI (bT (aA3 (x9 J (pv 1) (pv 0))) (aJ (bI (cW L) z rfl rfl U rfl (aA aU aB))) aY) (aJ (bO (kD J (pv 0) (pv 1) (λ_ _=>rfl))))),?_⟩
 try dsimp only[bX,bZ]
 refine⟨_,rfl,_,rfl,d,_,rfl,DGet.k (k:=Sum.inr n) hd,_,rfl,?_⟩;cases M:dM kvs (Sum.inr n)with
 | none=>exact aAw (rd0 (kb M))
 | some v =>
  refine uU ⟨_,rfl,_,rfl,d,v,rfl,?_,kg v M⟩;rw[<- M];exact DGet.k (k:=Sum.inr n) hd
abbrev mG:Stmt:=top 83
def qL:FnScope ["roads","name","road","changed"] ["roads","name","road"] (aG mG):=.of
def xW (F:Fun K "with_road" "with_road" mG f fd) (B:Bt mg) (M:Bt6 mg):FnOk P w K mg base CX0 1 f fd ["roads","name","road"] lW:=by
 refine F.g qL λU A outer s H vs Q E Y h=>?_;obtain⟨d,n,v,kvs,rfl,hd,hl,k⟩:=h;have z:=pF Y;refine⟨_,(aI (aW (i:=3) qL.nd rfl (Or.inl rfl) (eY vO (by rfl) M.dict rq (aA (pv 0) aB))) (aI (A0 z (pv 3) (pv 1) (pv 2) rfl) (aJ (bO (pv 3))))),?_⟩
 try dsimp only[bX,bZ]
 refine⟨_,rfl,d,kvs,rfl,hd,λL J=>?_⟩;refine⟨_,rfl,_,rfl,_,rfl,L,_,rfl,DPut.k (k:=Sum.inr n) aE (bH (by lia)),?_⟩;rw[iK];exact⟨_,rfl,k L _ (Same.upd J) aE⟩
abbrev F5:Stmt:=top 84
def qM:FnScope ["roads","deed","word","name","row"] ["roads","deed"] (aG F5):=.of
def aAR (X:cL K mg) (G:Hc K) (F:Fun K "built" "built" F5 f fd) (B:Bt mg) (C3:Cn3 mg t1 t2 t3) (F_is_name:cZ P w K mg base "is_name" 2 ["text"] B5) (F_look_row:cZ P w K mg base "look_row" 1 ["row"] kF) (F_new_road:cZ P w K mg base "new_road" 3 ["row"] (D4 G)) (F_with_road:cZ P w K mg base "with_road" 1 ["roads","name","road"] lW)
 (R_BadName:RA0 P w K mg base "BadName" X.name) (R_Taken:RA0 P w K mg base "Taken" X.taken) (R_Full:RA0 P w K mg base "Full" X.full):FnOk P w K mg base (CXR P w) 10 f fd ["roads","deed"] (fN X G .build):=by
 refine F.gX qM λcdv A outer s H vs Q E hfr hr h=>?_;obtain⟨d,a,w,xs,S,kvs,O,rfl,hd,pr,ha,hD,kg,kb⟩:=h;have hu1:=pF hr;cases hD with
 | @build _ n t row _ hta ht hB =>
 refine⟨_,(aI (oA (pv 1) (eP (n:=3) rfl (aO (aM (i:=2) qM.nd rfl (Or.inl rfl)) (aO (aM (i:=3) qM.nd rfl (Or.inl rfl)) (aO (aM (i:=4) qM.nd rfl (Or.inl rfl)) cA))))) (aI (bT (uH (fH (bU F_is_name hr rfl (aA (pv 3) aB)) (λ_=>rfl))) (aJ (bI (cW hfr) R_BadName rfl rfl hr rfl (aA aU aB))) aY) (aI (bT (aA3 (aEL hu1 (pv 3) (pv 0))) (aJ (bI (cW hfr) R_Taken rfl rfl hr rfl (aA aU aB))) aY) (aI (aN (bU F_look_row hr rfl (aA (pv 4) aB))) (aI (bT (aV Y8 (aL y6 (by rfl) B.len gj (aA (pv 0) aB)) (cF (v:=.int 8) rfl C3.MOST_ROADS ⟨_,rfl⟩) (bE _)) (aJ (bI (cW hfr) R_Full rfl rfl hr rfl (aA (eO (aX (cV (by decide)) (aX (gF (cF (v:=.int 8) rfl C3.MOST_ROADS ⟨_,rfl⟩)) (aX (cV (by decide)) eN)))) aB))) aY) (aJ (bO (bU F_with_road hr rfl (aA (pv 0) (aA (pv 3) (aA (bU F_new_road hr rfl (aA (pv 4) aB)) aB))))))))))),?_⟩
 try dsimp only[bX,bZ]
 refine⟨_,rfl,a,_,rfl,SqT.of ha,rfl,_,_,rfl,_,_,rfl,_,_,rfl,rfl,?_⟩;refine⟨_,rfl,n,rfl,ht,λH1 g1=>?_⟩;refine⟨_,by first | rfl | exact .inl rfl | exact .inr rfl,?_⟩;have kl:=pr.length;cases hB with
 | name hn =>
  rw[hn];exact aAw (rd0 (kb _ rfl H1 g1))
 | taken hn h0 =>
  obtain⟨v,hv⟩:=P1 pr h0;rw[hn];refine uU ⟨_,rfl,_,rfl,d,_,rfl,DGet.k (k:=Sum.inr n) (g1 _ _ hd),_,rfl,?_⟩;rw[hv];exact aAw (rd0 (kb _ rfl H1 g1))
 | full hn h0 hrw h8 =>
  rw[hn];refine uU ⟨_,rfl,_,rfl,d,_,rfl,DGet.k (k:=Sum.inr n) (g1 _ _ hd),_,rfl,?_⟩;rw[lY pr h0];refine uU ⟨_,rfl,t,row,rfl,.inr (g1 _ _ hta),hrw,?_⟩;exact⟨_,rfl,d,_,rfl,g1 _ _ hd,_,_,rfl,rfl,_,rfl,iO (by lia) ⟨8,rfl,by decide,by decide,λ_=>rd0 (kb _ rfl H1 g1)⟩⟩
 | build hn h0 hrw h8 =>
  rw[hn];refine uU ⟨_,rfl,_,rfl,d,_,rfl,DGet.k (k:=Sum.inr n) (g1 _ _ hd),_,rfl,?_⟩;rw[lY pr h0];refine uU ⟨_,rfl,t,row,rfl,.inr (g1 _ _ hta),hrw,?_⟩;refine⟨_,rfl,d,_,rfl,g1 _ _ hd,_,_,rfl,rfl,_,rfl,dR (by lia) ?_⟩;refine⟨_,rfl,_,rfl,_,rfl,t,row,rfl,g1 _ _ hta,λv2 H2 g2 hR=>?_⟩;have g12:=g1.trans g2;refine⟨d,n,v2,kvs,rfl,g12 _ _ hd,by lia,λd' H3 g3 hd3=>?_⟩;rw[vH _ (lY pr h0)]at hd3;exact kg _ rfl d' _ H3 (g12.trans g3) hd3 (Paired.append' (wH (.same (g12.trans g3)) pr) (.cons ⟨rfl,hR.kq (.same g3)⟩ .nil))
abbrev rR:Stmt:=top 86
def kQ:FnScope ["roads","deed","word","name","rest"] ["roads","deed"] (aG rR):=.of
def P9 (X:cL K mg) (G:Hc K) (F:Fun K "entered" "entered" rR f fd) (B:Bt mg) (J:dI P w K mg base "road_named" 4 ["roads","name"] (jU X)) (M:cZ P w K mg base "with_road" 1 ["roads","name","road"] lW) (L:dI P w K mg base "with_entry" 9 ["road","entry"] (wI X G)):FnOk P w K mg base (CXR P w) 10 f fd ["roads","deed"] (fN X G .ent):=by
 refine F.gX kQ λbf A outer s H vs Q E aw Y h=>?_;obtain⟨d,a,wd,xs,S,kvs,O,rfl,hd,pr,ha,hD,kg,kb⟩:=h;obtain⟨D,is,Og,rfl,rfl,hg,hl,ax⟩:∃ (D:RD) (is:List Int) (Og:(List Int×Trs) ⊕ RefH),S=[(("road":Str),D)]/\xs=.str "road" :: is.map V.int/\GoS D.row D.ws (wd,is) Og/\D.ents.length<10/\((∃ q,Og=.inl q/\O=.inl [(("road":Str),D.plus (wd,is) q)])\/∃ r,Og=.inr r/\O=.inr r):=by
  cases hD with
  | ent h hl=>exact⟨_,_,_,rfl,rfl,h,hl,.inl ⟨_,rfl,rfl⟩⟩
  | entx h hl=>exact⟨_,_,_,rfl,rfl,h,hl,.inr ⟨_,rfl,rfl⟩⟩
 have bg:is.length<=2:=hg.len;obtain⟨v,rfl,hR⟩:=uA pr;refine⟨_,(aI (oA (pv 1) (aBc (n:=3) (i:=2) rfl (aO (aM (i:=2) kQ.nd rfl (Or.inl rfl)) (aO (aM (i:=3) kQ.nd rfl (Or.inl rfl)) (K9 (aM (i:=4) kQ.nd rfl (Or.inl rfl)) cA))))) (aJ (bO (bU M Y rfl (aA (pv 0) (aA (pv 3) (aA (cN L Y rfl (dF aw) (aA (cN J Y rfl (dF aw) (aA (pv 0) (aA (pv 3) aB))) (aA (bA pT (cM (aA (pv 2) aB)) (eY fY (by rfl) B.tuple kB (aA (pv 4) aB))) aB))) aB))))))),?_⟩
 try dsimp only[bX,bZ]
 refine⟨_,rfl,a,_,rfl,SqT.of ha,by decide,by show 3<=((is.map V.int).length+1+1)+1;rw[aGV];lia,by show ((is.map V.int).length+1+1)<=16384;rw[aGV];lia,λy hy=>?_⟩;have ey:((V.str wd :: V.str "road" :: is.map V.int).drop 2).take ((V.str wd :: V.str "road" :: is.map V.int).length+1 - 3)=is.map V.int:=by simp;exact jc (by simp)
 have a_:(V.str wd :: V.str "road" :: is.map V.int).take 2++[V.ref y]++((V.str wd :: V.str "road" :: is.map V.int).drop 2).drop ((V.str wd :: V.str "road" :: is.map V.int).length+1 - 3)=[V.str wd,V.str "road",V.ref y]:=by simp
 rw[ey,a_];refine aS hy λH1 g1 ba=>?_;refine⟨_,_,rfl,_,_,rfl,_,_,rfl,rfl,?_⟩;refine⟨_,rfl,_,rfl,_,rfl,_,rfl,d,"road",_,rfl,g1 _ _ hd,λv2 ay=>?_,λz=>by rw[bS rfl]at z;cases z⟩;rw[bS rfl]at ay;cases ay;refine⟨_,rfl,(show 1<=sizeLine by decide),λp bb=>aS bb λH2 g2 ep=>?_⟩;refine⟨_,rfl,y,_,rfl,.inl ⟨SqL.of (g2 _ _ ba),λz hz=>aS hz λH3 g3 ez=>?_⟩⟩;refine⟨p,z,_,_,rfl,rfl,g3 _ _ ep,ez,dE (by rw[aGV,gm];lia),λq H4 g4 eq=>?_⟩;have t4:=((g1.trans g2).trans g3).trans g4;refine⟨v,.ref q,D,(wd,is),Og,rfl,hR.kq (.same t4),⟨q,rfl,eq⟩,hg,hl,λr Y v3 H5 g5 bc=>?_,λref Y=>?_⟩
 .have t5:=t4.trans g5;rcases ax with ⟨q',U,rfl⟩ | ⟨_,U,_⟩
  case inr=>rw[Y]at U;cases U
  rw[Y]at U;cases U;refine⟨d,"road",v3,_,rfl,t5 _ _ hd,(show 1<=8 by decide),λd' H6 g6 az=>?_⟩;rw[aC2]at az;exact kg _ rfl d' _ H6 (t5.trans g6) az (.cons ⟨rfl,bc.kq (.same g6)⟩ .nil)
 .rcases ax with ⟨q',U,rfl⟩ | ⟨_,U,rfl⟩
  .rw[Y]at U;cases U
  rw[Y]at U;cases U;exact(kb _ rfl).mono t4
abbrev kR:Stmt:=top 88
def cS:FnScope ["roads","deed","word","name","at","creel","count","road","entries"] ["roads","deed"] (aG kR):=.of
def wY (X:cL K mg) (G:Hc K) (F:Fun K "found_late" "found_late" kR f fd) (B:Bt mg) (F_road_named:dI P w K mg base "road_named" 4 ["roads","name"] (jU X)) (F_look_creel:cZ P w K mg base "look_creel" 1 ["creel"] fA) (F_with_road:cZ P w K mg base "with_road" 1 ["roads","name","road"] lW) (F_with_log:dI P w K mg base "with_log" 9 ["road","at","entries"] (wJ X G))
 (R_NoEntry:RA0 P w K mg base "NoEntry" X.entry):FnOk P w K mg base (CXR P w) 10 f fd ["roads","deed"] (fN X G .late):=by
 refine F.gX cS λcdv A outer s H vs Q E hfr hr h=>?_;obtain⟨d,a,wd,xs,S,kvs,O,rfl,hd,pr,ha,hD,kg,kb⟩:=h;cases hD with
 | @late D hf he =>
 obtain⟨f0,ents,row,ws⟩:=D;have he:ents=e3:=he;subst he;obtain⟨v,rfl,hR⟩:=uA pr;obtain⟨b,dx,en,re,cc,r0,t0,us,rfl,hb,hen,hus,hR'⟩:=id hR;have hul:us.length=2:=hus.length;refine⟨_,(aI (oA (pv 1) (eP (n:=5) rfl (aO (aM (i:=2) cS.nd rfl (Or.inl rfl)) (aO (aM (i:=3) cS.nd rfl (Or.inl rfl)) (aO (aM (i:=4) cS.nd rfl (Or.inl rfl)) (aO (aM (i:=5) cS.nd rfl (Or.inl rfl)) (aO (aM (i:=6) cS.nd rfl (Or.inl rfl)) cA))))))) (aI (aW (i:=7) cS.nd rfl (Or.inl rfl) (cN F_road_named hr rfl (dF hfr) (aA (pv 0) (aA (pv 3) aB)))) (aI (bT (PW.pt (X8 (aV jM (pv 4) aK (bE _)) (zQ (aV iL (pv 4) (aL bD (by rfl) B.len gj (aA (bW (pv 7) rfl) aB)) (bE _))))) (aJ (bI (cW hfr) R_NoEntry rfl rfl hr rfl (aA aU aB))) aY) (aI (aN (bU F_look_creel hr rfl (aA (pv 5) aB))) (aI (aW (i:=8) cS.nd rfl (Or.inl rfl) (bA pT (bA pT (pB j0 (bW (pv 7) rfl) tL (tM (pv 4))) (cM (aA (cM (aA aU (aA (pv 5) (aA (pv 6) aB)))) aB))) (pB j0 (bW (pv 7) rfl) (tM (pv 4)) tL))) (aJ (bO (bU F_with_road hr rfl (aA (pv 0) (aA (pv 3) (aA (cN F_with_log hr rfl (dF hfr) (aA (pv 7) (aA (pv 4) (aA (pv 8) aB)))) aB))))))))))),?_⟩
 try dsimp only[bX,bZ]
 refine⟨_,rfl,a,_,rfl,SqT.of ha,rfl,_,_,rfl,_,_,rfl,_,_,rfl,_,_,rfl,_,_,rfl,rfl,?_⟩;refine⟨_,rfl,_,rfl,d,"road",_,rfl,hd,λv2 hv2=>?_,λz=>by rw[bS rfl]at z;cases z⟩;rw[bS rfl]at hv2;cases hv2;refine⟨_,rfl,_,_,rfl,rfl,_,rfl,dR (by decide) ?_⟩;refine⟨_,rfl,_,rfl,b,_,dx,_,_,rfl,hb,G.rd,G.rEn,rfl,en,_,rfl,.inr (SqT.of hen),_,_,rfl,rfl,_,rfl,dR (by lia) ?_⟩;refine⟨_,rfl,1,rfl,by decide,?_⟩;refine⟨_,rfl,b,_,dx,_,_,rfl,hb,G.rd,G.rEn,rfl,_,rfl,_,rfl,en,_,rfl,hen,λp1 H1 g1 e1=>?_⟩;refine⟨_,rfl,_,rfl,(show 3<=sizeLine by decide),λp2 hp2=>aS hp2 λH2 g2 e2=>?_⟩;refine⟨(show 1<=sizeLine by decide),λp3 hp3=>aS hp3 λH3 g3 e3'=>?_⟩;refine⟨p1,p3,_,_,rfl,rfl,(g2.trans g3) _ _ e1,e3',dE (by rw[show jZ us none (some 0)=[] from b7 us 0];exact(show 1<=10000 by decide)),λp4 H4 g4 e4'=>?_⟩;have t4:=((g1.trans g2).trans g3).trans g4;refine⟨_,rfl,b,_,dx,_,_,rfl,t4 _ _ hb,G.rd,G.rEn,rfl,_,rfl,_,rfl,en,_,rfl,t4 _ _ hen,λp5 H5 g5 e5=>?_⟩;have c0:jZ us none (some 0)=[]:=b7 us 0;have c1:jZ us (some 0) none=us:=v9 us 0;rw[c0]at e4';rw[c1]at e5;refine⟨p4,p5,_,_,rfl,rfl,g5 _ _ e4',e5,dE (by show 1+us.length<=10000;lia),λp6 H6 g6 e6=>?_⟩;have t6:=(t4.trans g5).trans g6;have q2:=((g3.trans g4).trans g5).trans g6;exact⟨_,rfl,_,rfl,_,rfl,_,rfl,_,rfl,.ref b,p6,_,⟨f0,e3,row,ws⟩,rfl,hR.kq (.same t6),hf,e6,.cons ⟨p2,rfl,q2 _ _ e2⟩ (Paired.mapP hus λ_ _ z=>z.kq (.same (G:=G) t6)),(kb _ rfl).mono t6⟩
abbrev wZ:Stmt:=top 89
def jW:FnScope ["roads","deed","word","name","at","road","entries"] ["roads","deed"] (aG wZ):=.of
def X3 (X:cL K mg) (G:Hc K) (F:Fun K "struck" "struck" wZ f fd) (B:Bt mg) (J:dI P w K mg base "road_named" 4 ["roads","name"] (jU X))
 (L:RA0 P w K mg base "NoEntry" X.entry) (M:RA0 P w K mg base "NotWalk" X.walk):FnOk P w K mg base (CXR P w) 10 f fd ["roads","deed"] (fN X G .strike):=by
 refine F.gX jW λa_ A outer s H vs Q E ax hr h=>?_;obtain⟨d,a,wd,xs,S,kvs,O,rfl,hd,pr,ha,hD,kg,kb⟩:=h;refine⟨_,(aI (oA (pv 1) (eP (n:=3) rfl (aO (aM (i:=2) jW.nd rfl (Or.inl rfl)) (aO (aM (i:=3) jW.nd rfl (Or.inl rfl)) (aO (aM (i:=4) jW.nd rfl (Or.inl rfl)) cA))))) (aI (aW (i:=5) jW.nd rfl (Or.inl rfl) (cN J hr rfl (dF ax) (aA (pv 0) (aA (pv 3) aB)))) (aI (bT (PW.pt (X8 (aV jM (pv 4) aK (bE _)) (zQ (aV Y8 (pv 4) (aL bD (by rfl) B.len gj (aA (bW (pv 5) rfl) aB)) (bE _))))) (aJ (bI (cW ax) L rfl rfl hr rfl (aA aU aB))) aY) (aI (bT (aV aDe (dQ fJ (dQ fJ (bW (pv 5) rfl) (pv 4) (λ_ _=>rfl)) aK (λ_ _=>rfl)) aU (bE _)) (aJ (bI (cW ax) M rfl rfl hr rfl (aA aU aB))) aY) (aI bG (aJ bG)))))),?_⟩
 try dsimp only[bX,bZ]
 cases hD with
 | @entry D k hk =>
  obtain⟨v,rfl,hR⟩:=uA pr;obtain⟨b,dx,en,re,cc,r0,t0,us,rfl,hb,Y,aw,ay⟩:=id hR;have az:=aw.length;refine⟨_,rfl,a,_,rfl,SqT.of ha,rfl,_,_,rfl,_,_,rfl,_,_,rfl,rfl,?_⟩;refine⟨_,rfl,_,rfl,d,"road",_,rfl,hd,λv2 U=>?_,λz=>by rw[bS rfl]at z;cases z⟩;rw[bS rfl]at U;cases U;exact⟨_,rfl,_,_,rfl,rfl,_,rfl,pH (λz=>rd0 ((kb _ rfl).now)) (λz=>⟨_,rfl,_,rfl,b,_,dx,_,_,rfl,hb,G.rd,G.rEn,rfl,en,_,rfl,.inr (SqT.of Y),_,_,rfl,rfl,_,rfl,iO (by lia) (rd0 ((kb _ rfl).now))⟩)⟩
 | @walk D he =>
  obtain⟨v,rfl,hR⟩:=uA pr;obtain⟨f0,ents,row,ws⟩:=D;have he:ents=e3:=he;subst he;obtain⟨b,dx,en,re,cc,r0,t0,us,rfl,hb,Y,aw,ay⟩:=id hR;have az:us.length=2:=aw.length;obtain⟨u,hu,t,rfl,ht⟩:=iT (j:=1) aw rfl;refine⟨_,rfl,a,_,rfl,SqT.of ha,rfl,_,_,rfl,_,_,rfl,_,_,rfl,rfl,?_⟩;refine⟨_,rfl,_,rfl,d,"road",_,rfl,hd,λv2 U=>?_,λz=>by rw[bS rfl]at z;cases z⟩;rw[bS rfl]at U;cases U;refine⟨_,rfl,_,_,rfl,rfl,_,rfl,dR (by decide) ?_⟩;refine⟨_,rfl,_,rfl,b,_,dx,_,_,rfl,hb,G.rd,G.rEn,rfl,en,_,rfl,.inr (SqT.of Y),_,_,rfl,rfl,_,rfl,dR (by lia) ?_⟩;refine⟨_,rfl,b,_,dx,_,_,rfl,hb,G.rd,G.rEn,rfl,_,rfl,en,_,_,_,rfl,rfl,SqT.of Y,pC (j:=1) hu,t,_,_,_,rfl,rfl,SqT.of ht,at0,rfl,_,rfl,?_⟩;rw[eH (by decide +kernel)];exact rd0 ((kb _ rfl).now)
abbrev hZ:Stmt:=top 91
def lA:FnScope ["roads","deed","act"] ["roads","deed"] (aG hZ):=.of
def rS {L:Addr} {z:List (Key×Value)} (X:cL K mg) (G:Hc K) (F:Fun K "roads_behind" "roads_behind" hZ f fd) (B:Bt mg) (Y:GDict P w K L z) (mD:mg "DEEDS"=some (.ref L))
 (FD:∀ x∈ks5,∃ g,valueAt z (Sum.inr x.1)=some (.ref g)/\oP P w K mg base g 10 ["roads","deed"] (fN X G x.2)):FnOk P w K mg base (CXR P w) 11 f fd ["roads","deed"] (wK X G):=by
 refine F.okX lA (λvs H Q E h=>?_) (λaw A outer s H vs Q E J hr h=>?_)
 .obtain⟨k,d,a,w,xs,S,kvs,O,rfl,_⟩:=h;rfl
 .obtain⟨k,d,a,x,xs,S,kvs,O,rfl,hd,pr,M,U,kg,kb⟩:=h;obtain⟨g,hg,hF⟩:=FD _ U.mem;refine⟨_,(aI (aW (i:=2) lA.nd rfl (Or.inl rfl) (aDK Y rfl mD (dQ fJ (pv 1) aK (λ_ _=>rfl)) (λ_ _=>rfl))) (aJ (bO (aAG 2 hr (dF J) (aA (pv 0) (aA (pv 1) aB)))))),?_⟩
  try dsimp only[bX,bZ]
  refine⟨_,rfl,a,_,_,_,rfl,rfl,SqT.of M,at0,x,g,rfl,hg,?_⟩;exact⟨g,_,_,rfl,hF,_,rfl,_,rfl,d,a,x,xs,S,kvs,O,rfl,hd,pr,M,U,kg,kb⟩
abbrev oZ:Stmt:=bJ (top 93) 10
def sO:FnScope ["self","deed","changed"] ["self","deed"] (aG oZ):=.of
def F6 (X:cL K mg) (G:Hc K) (F:Fun K "do" "House.do" oZ f fd) (B:Bt mg) (J:dI P w K mg base "roads_behind" 11 ["roads","deed"] (wK X G)):FnOk P w K mg base (CXR P w) 12 f fd ["self","deed"] (qE X G):=by
 refine F.gX sO λbq A outer s H vs Q E bg hr h=>?_;obtain⟨Hb,a,u,wd,xs,j,S,n,O,rfl,⟨sm,aw,dx,d,p,q,kvs,us,az,ha,hd,pr,hp,a_,bh,hq⟩,hn,hu,hD,kg,kb⟩:=h;refine⟨_,(aI (aW (i:=2) sO.nd rfl (Or.inl rfl) (cN J hr rfl (dF bg) (aA (bW (pv 0) rfl) (aA (pv 1) aB)))) (aI (aN (lE aGs aGt aGu dU (bW (pv 0) rfl) (aA (cM (aA (pv 1) (aA (bW (pv 0) rfl) aB))) aB))) (aI (eQ (pv 0) (pv 2) rfl) (aJ (eQ (pv 0) (bP aB) rfl))))),?_⟩
 try dsimp only[bX,bZ]
 refine⟨_,rfl,a,_,dx,_,_,rfl,ha,G.hs,G.hSt,rfl,_,rfl,j,d,u,wd,xs,S,kvs,O,rfl,hd,pr,hu,hD,λS' hS d' ba H1 g1 bi bj=>?_,kb⟩;refine⟨_,rfl,a,_,dx,_,_,rfl,g1 _ _ ha,G.hs,G.hPa,rfl,.inl ⟨rfl,_,SqL.of (g1 _ _ hp)⟩,_,rfl,_,rfl,a,_,dx,_,_,rfl,g1 _ _ ha,G.hs,G.hSt,rfl,(show 2<=sizeLine by decide),λt ht=>aS ht λH2 g2 et=>?_⟩;have M:=g1.trans g2;have L:=M _ _ ha;have U:=M _ _ hp;have Y:=g2 _ _ bi;refine⟨p,_,_,rfl,rfl,U,bH (by lia),?_⟩;have ax:a≠p:=cI L U (by intro z;cases z);have br:d'≠p:=cI Y U (by intro z;cases z);have bt:d'≠a:=cI Y L (by intro z;cases z);refine⟨_,rfl,_,rfl,a,_,dx,_,rfl,(aF ax).trans L,G.hs,G.hSt,(show 3<1000 by decide),?_⟩;refine⟨(show 0<=sizeLine by decide),λq' bb=>?_⟩;have bc:a≠q':=aP aE bb;have bf:=dB bb;have bn:p≠q':=aP aE bf;have ay:=dB bf;have bu:d'≠q':=aP Y ay;refine⟨_,rfl,a,_,dx,_,rfl,(aF bc).trans aE,G.hs,G.hAh,(show 3<1000 by decide),?_⟩;have kq:Kq G H2 (upd (upd (upd (upd H2 p (.lst (us++[V.ref t]))) a (.ins G.Hs dx (oM d' p q))) q' (.lst [])) a (.ins G.Hs dx (oM d' p q'))) :=
  ((((Kq.same (Same.refl _)).updP U a_).updI L).updN ay).updI L
 have bo:Same Hb (upd (upd (upd (upd H2 p (.lst (us++[V.ref t]))) a (.ins G.Hs dx (oM d' p q))) q' (.lst [])) a (.ins G.Hs dx (oM d' p q'))) :=
  ((((sm.trans M).upd' az).upd' aw).upd' ((sm.trans M).free ay)).upd' aw
 refine kg S' hS _ ⟨bo,aw,dx,d',p,q',ba,us++[V.ref t],az,aE,kq.dk _ _ Y,wH kq (wH (.same g2) bj),?_,λv hv=>?_,by rw[aG4,bh];rfl,?_⟩
 .rw[aF (gi ax),aF bn,aF (gi ax),aE]
 .rcases aGy.mp hv with h | h
  .exact a_ v h
  .rw[aGr.mp h];exact⟨t,rfl⟩
 .rw[aF (gi bc),aE]
abbrev jF:Stmt:=bJ (top 93) 1
def xB:FnScope ["self","name","row"] ["self","name","row"] (aG jF):=.of
def sX (X:cL K mg) (G:Hc K) (F:Fun K "build" "House.build" jF f fd) (B:Bt mg) (z:bN P w K mg base G.Hs "do" 12 ["self","deed"] (qE X G)):FnOk P w K mg base (CXR P w) 13 f fd ["self","name","row"] (lX X G):=by
 refine F.gX xB λaw A outer s H vs Q E J L h=>?_;obtain⟨Hb,a,l,nm,row,S,n,O,rfl,U,hn,hl,hx,hB,kg,kb⟩:=h;obtain⟨dx,d,p,q,ha⟩:=U.ins;refine⟨_,(aJ (aN (cX z G.hs L (dF J) (pv 0) (aA (cM (aA aU (aA (pv 1) (aA (eY fY (by rfl) B.tuple kB (aA (pv 2) aB)) aB)))) aB)))),?_⟩
 try dsimp only[bX,bZ]
 refine⟨_,rfl,a,dx,_,rfl,ha,rfl,_,rfl,_,rfl,l,_,rfl,.inl ⟨SqL.of hl,λt M=>aS M λH1 Y et=>?_⟩⟩;refine⟨(show 3<=sizeLine by decide),λu hu=>?_⟩;have g2:=Same.upd (o:=.tup [V.str "build",V.str nm,V.ref t]) hu;exact⟨Hb,a,u,"build",_,.build,S,n,O,rfl,U.same (Y.trans g2),hn,aE,.build (g2 _ _ et) hx hB,kg,λr L=>(kb r L).mono (Y.trans g2)⟩
abbrev kS:Stmt:=bJ (top 93) 3
def xX:FnScope ["self","name","creel","count"] ["self","name","creel","count"] (aG kS):=.of
def xC (X:cL K mg) (G:Hc K) (F:Fun K "walk" "House.walk" kS f fd) (B:Bt mg) (z:bN P w K mg base G.Hs "do" 12 ["self","deed"] (qE X G)):FnOk P w K mg base (CXR P w) 13 f fd ["self","name","creel","count"] (dC X G "walk" 3):=by
 refine F.okX xX (λvs H Q E h=>?_) (λaw A outer s H vs Q E J L h=>?_)
 .obtain⟨Hb,a,xs,k,S,n,O,rfl,M,_⟩:=h;exact congrArg Nat.succ M
 .obtain⟨Hb,a,xs,k,S,n,O,rfl,M,Y,hn,hD,kg,kb⟩:=h;obtain⟨dx,d,p,q,ha⟩:=Y.ins;obtain⟨x1,x2,x3,rfl⟩:=aGP M;refine⟨_,(aJ (aN (cX z G.hs L (dF J) (pv 0) (aA (cM (aA aU (aA (pv 1) (aA (pv 2) (aA (pv 3) aB))))) aB)))),?_⟩
  try dsimp only[bX,bZ]
  refine⟨_,rfl,a,dx,_,rfl,ha,rfl,_,rfl,_,rfl,_,rfl,(show 4<=sizeLine by decide),λu hu=>?_⟩;have U:=Same.upd (o:=.tup [V.str "walk",x1,x2,x3]) hu;exact⟨Hb,a,u,"walk",_,k,S,n,O,rfl,Y.same U,hn,aE,hD.same U,kg,λr L=>(kb r L).mono U⟩
abbrev mH:Stmt:=bJ (top 93) 4
def F7:FnScope ["self","name","place"] ["self","name","place"] (aG mH):=.of
def xY (X:cL K mg) (G:Hc K) (F:Fun K "put" "House.put" mH f fd) (B:Bt mg) (z:bN P w K mg base G.Hs "do" 12 ["self","deed"] (qE X G)):FnOk P w K mg base (CXR P w) 13 f fd ["self","name","place"] (dC X G "put" 2):=by
 refine F.okX F7 (λvs H Q E h=>?_) (λaw A outer s H vs Q E J L h=>?_)
 .obtain⟨Hb,a,xs,k,S,n,O,rfl,M,_⟩:=h;exact congrArg Nat.succ M
 .obtain⟨Hb,a,xs,k,S,n,O,rfl,M,Y,hn,hD,kg,kb⟩:=h;obtain⟨dx,d,p,q,ha⟩:=Y.ins;obtain⟨x1,x2,rfl⟩:=aE9 M;refine⟨_,(aJ (aN (cX z G.hs L (dF J) (pv 0) (aA (cM (aA aU (aA (pv 1) (aA (pv 2) aB)))) aB)))),?_⟩
  try dsimp only[bX,bZ]
  refine⟨_,rfl,a,dx,_,rfl,ha,rfl,_,rfl,_,rfl,(show 3<=sizeLine by decide),λu hu=>?_⟩;have U:=Same.upd (o:=.tup [V.str "put",x1,x2]) hu;exact⟨Hb,a,u,"put",_,k,S,n,O,rfl,Y.same U,hn,aE,hD.same U,kg,λr L=>(kb r L).mono U⟩
abbrev kT:Stmt:=bJ (top 93) 5
def xZ:FnScope ["self","name","place"] ["self","name","place"] (aG kT):=.of
def xD (X:cL K mg) (G:Hc K) (F:Fun K "take" "House.take" kT f fd) (B:Bt mg) (z:bN P w K mg base G.Hs "do" 12 ["self","deed"] (qE X G)):FnOk P w K mg base (CXR P w) 13 f fd ["self","name","place"] (dC X G "take" 2):=by
 refine F.okX xZ (λvs H Q E h=>?_) (λaw A outer s H vs Q E J L h=>?_)
 .obtain⟨Hb,a,xs,k,S,n,O,rfl,M,_⟩:=h;exact congrArg Nat.succ M
 .obtain⟨Hb,a,xs,k,S,n,O,rfl,M,Y,hn,hD,kg,kb⟩:=h;obtain⟨dx,d,p,q,ha⟩:=Y.ins;obtain⟨x1,x2,rfl⟩:=aE9 M;refine⟨_,(aJ (aN (cX z G.hs L (dF J) (pv 0) (aA (cM (aA aU (aA (pv 1) (aA (pv 2) aB)))) aB)))),?_⟩
  try dsimp only[bX,bZ]
  refine⟨_,rfl,a,dx,_,rfl,ha,rfl,_,rfl,_,rfl,(show 3<=sizeLine by decide),λu hu=>?_⟩;have U:=Same.upd (o:=.tup [V.str "take",x1,x2]) hu;exact⟨Hb,a,u,"take",_,k,S,n,O,rfl,Y.same U,hn,aE,hD.same U,kg,λr L=>(kb r L).mono U⟩
abbrev kU:Stmt:=bJ (top 93) 8
def yA:FnScope ["self","name","at","creel","count"] ["self","name","at","creel","count"] (aG kU):=.of
def xE (X:cL K mg) (G:Hc K) (F:Fun K "late" "House.late" kU f fd) (B:Bt mg) (z:bN P w K mg base G.Hs "do" 12 ["self","deed"] (qE X G)):FnOk P w K mg base (CXR P w) 13 f fd ["self","name","at","creel","count"] (dC X G "late" 4):=by
 refine F.okX yA (λvs H Q E h=>?_) (λaw A outer s H vs Q E J L h=>?_)
 .obtain⟨Hb,a,xs,k,S,n,O,rfl,M,_⟩:=h;exact congrArg Nat.succ M
 .obtain⟨Hb,a,xs,k,S,n,O,rfl,M,Y,hn,hD,kg,kb⟩:=h;obtain⟨dx,d,p,q,ha⟩:=Y.ins;obtain⟨x1,x2,x3,x4,rfl⟩:=aGQ M;refine⟨_,(aJ (aN (cX z G.hs L (dF J) (pv 0) (aA (cM (aA aU (aA (pv 1) (aA (pv 2) (aA (pv 3) (aA (pv 4) aB)))))) aB)))),?_⟩
  try dsimp only[bX,bZ]
  refine⟨_,rfl,a,dx,_,rfl,ha,rfl,_,rfl,_,rfl,_,rfl,_,rfl,(show 5<=sizeLine by decide),λu hu=>?_⟩;have U:=Same.upd (o:=.tup [V.str "late",x1,x2,x3,x4]) hu;exact⟨Hb,a,u,"late",_,k,S,n,O,rfl,Y.same U,hn,aE,hD.same U,kg,λr L=>(kb r L).mono U⟩
abbrev iA:Stmt:=bJ (top 93) 9
def sY:FnScope ["self","name","at"] ["self","name","at"] (aG iA):=.of
def rT (X:cL K mg) (G:Hc K) (F:Fun K "strike" "House.strike" iA f fd) (B:Bt mg) (z:bN P w K mg base G.Hs "do" 12 ["self","deed"] (qE X G)):FnOk P w K mg base (CXR P w) 13 f fd ["self","name","at"] (dC X G "strike" 2):=by
 refine F.okX sY (λvs H Q E h=>?_) (λaw A outer s H vs Q E J L h=>?_)
 .obtain⟨Hb,a,xs,k,S,n,O,rfl,M,_⟩:=h;exact congrArg Nat.succ M
 .obtain⟨Hb,a,xs,k,S,n,O,rfl,M,Y,hn,hD,kg,kb⟩:=h;obtain⟨dx,d,p,q,ha⟩:=Y.ins;obtain⟨x1,x2,rfl⟩:=aE9 M;refine⟨_,(aJ (aN (cX z G.hs L (dF J) (pv 0) (aA (cM (aA aU (aA (pv 1) (aA (pv 2) aB)))) aB)))),?_⟩
  try dsimp only[bX,bZ]
  refine⟨_,rfl,a,dx,_,rfl,ha,rfl,_,rfl,_,rfl,(show 3<=sizeLine by decide),λu hu=>?_⟩;have U:=Same.upd (o:=.tup [V.str "strike",x1,x2]) hu;exact⟨Hb,a,u,"strike",_,k,S,n,O,rfl,Y.same U,hn,aE,hD.same U,kg,λr L=>(kb r L).mono U⟩
abbrev jG:Stmt:=bJ (top 93) 12
def xF:FnScope ["self","deed","later"] ["self"] (aG jG):=.of
def sZ (X:cL K mg) (G:Hc K) (F:Fun K "again" "House.again" jG f fd) (B:Bt mg) (z:RA0 P w K mg base "NothingLeft" X.left):FnOk P w K mg base (CXR P w) 4 f fd ["self"] (qF X G):=by
 refine F.gX xF λL A outer s H vs Q E J M h=>?_;obtain⟨Hb,a,S,n,rfl,⟨sm,U,dx,d,p,q,kvs,us,Y,ha,hd,pr,hp,aw,ax,hq⟩,k⟩:=h;refine⟨_,(aI (bT (uH (fH (bW (pv 0) rfl) (λ_=>rfl))) (aJ (bI (cW J) z rfl rfl M rfl (aA aU aB))) aY) (aI bG (aI bG (aI bG (aJ bG))))),?_⟩
 try dsimp only[bX,bZ]
 exact⟨_,rfl,a,_,dx,_,_,rfl,ha,G.hs,G.hAh,rfl,false,.inl ⟨_,SqL.of hq,rfl⟩,rd0 k⟩
abbrev mI:Stmt:=bJ (top 93) 15
def F8:FnScope ["self","name"] ["self","name"] (aG mI):=.of
def yB (X:cL K mg) (G:Hc K) (F:Fun K "row" "House.row" mI f fd) (B:Bt mg) (z:dI P w K mg base "road_named" 4 ["roads","name"] (jU X)) (J:cZ P w K mg base "row_now" 7 ["course"] (D0 G)):FnOk P w K mg base (CXR P w) 8 f fd ["self","name"] (D5 X G):=by
 refine F.gX F8 λY A outer s H vs Q E L M h=>?_;obtain⟨Hb,a,nm,S,n,rfl,⟨sm,aw,dx,d,p,q,kvs,us,ax,ha,hd,pr,hp,ay,az,hq⟩,h0,k⟩:=h;refine⟨_,(aJ (bO (bU J M rfl (aA (bW (cN z M rfl (dF L) (aA (bW (pv 0) rfl) (aA (pv 1) aB))) rfl) aB)))),?_⟩
 try dsimp only[bX,bZ]
 exact⟨_,rfl,a,_,dx,_,_,rfl,ha,G.hs,G.hSt,rfl,_,rfl,d,nm,kvs,rfl,hd,(λv U=>by rw[lY pr h0]at U;cases U),λ_=>k⟩
abbrev mJ:Stmt:=top 98
def eI:FnScope ["text","house","lines","rest","at","line"] ["text"] (aG mJ):=.of
def yC (G:Hc K) (T:qB) (F:Fun K "read_page" "read_page" mJ f fd) (B:Bt mg) (L:jP P w K mg base "House" G.Hs 1 ["self"] (jT G)) (J:RAI P w K mg base "BadText" T.text):FnOk P w K mg base (CXR P w) 5 f fd ["text"] (E3 T):=by
 refine F.gX eI λay A outer s H vs Q E U hr h=>?_;obtain⟨t,rfl,ht,h0,M,k⟩:=h;refine⟨_,(aI (aW (i:=1) eI.nd rfl (Or.inl rfl) (j3 L hr rfl)) (aI (oA (lE PySem.F.plainAttrs_str PySem.F.slot_str_split PySem.F.type_str_split aB0 (pv 0) (aA aU aB)) (aDJ (n:=2) (i:=0) rfl (K9 (aM (i:=2) eI.nd rfl (Or.inl rfl)) (aO (aM (i:=3) eI.nd rfl (Or.inl rfl)) cA)))) (aI (dZ N7 rfl (tR rfl B.enumerate (aA (pv 2) aB)) (eP (n:=2) rfl (aO (aM (i:=4) eI.nd rfl (Or.inl rfl)) (aO (aM (i:=5) eI.nd rfl (Or.inl rfl)) cA))) (aJ bG)) (aI (bT (aV aDe (pv 3) aU (bE _)) (aJ (bI (cW U) J rfl rfl hr rfl (aA (aL bD (by rfl) B.len gj (aA (pv 2) aB)) aB))) aY) (aJ bG))))),?_⟩
 try dsimp only[bX,bZ]
 refine λx dx hx Y aw=>aC3 hx Y aw λH1 ax=>?_;have hl:=ht.len;refine⟨_,rfl,rfl,t,"\n",rfl,rfl,by decide,dE (by lia),by rw[P2 M];exact dE (show 1<=10000 by decide),λl hl=>?_⟩;rw[P2 M];refine aS hl λH2 g2 el=>?_;refine⟨l,_,rfl,SqL.of el,by decide,(show 2<=2 by decide),(show 1<=16384 by decide),λD hD=>aS hD λH3 g3 eD=>?_⟩;refine⟨_,_,rfl,_,_,rfl,rfl,?_⟩;refine⟨_,rfl,D,_,rfl,SqL.of eD,pI (K:=K) (a:=D) (xs:=[]) (λi σ H2=>σ=[some (.str t),some (.ref x),some (.ref D),some (.str t),none,none]/\H2=H3) ⟨rfl,rfl⟩ (λi σ H2 _ e=>by rw[e.2];exact SqL.of eD) (λi y σ H2 _ z=>by simp at z) ?_⟩;rintro σ H4 ⟨rfl,rfl⟩;refine⟨_,rfl,rfl,_,rfl,?_⟩;rw[eH (by simpa using h0)];exact⟨_,rfl,D,_,rfl,.inl (SqL.of eD),rdI (vY (show (0:Int)<=((0:Nat):Int)by decide) (show ((0:Nat):Int)<256 by decide)) (k _ ((ax.1.trans g2).trans g3))⟩
abbrev fP:Stmt:=bJ (top 2) 0
def pA:FnScope ["self","why","word"] ["self","why","word"] (aG fP):=.of
def nJ (F:FunD K "__init__" "CreelError.__init__" fP f fd) (z:mg "ValueError"=none):FnOkH P w K mg base CX0 1 f fd ["self","why","word"] (aE5 K):=by
 refine F.okH pA (λvs H Q E h=>?_) (λJ A outer s H vs Q E U h=>?_)
 .obtain⟨e,C,i,a,b,rfl,_⟩:=h;rfl
 .obtain⟨e,C,i,a,b,rfl,he,L,M,k⟩:=h;refine⟨_,(aI (aN (aBz rfl z (aA (pv 0) (aA (pv 1) aB)))) (aJ (aE2 (pv 0) (pv 2) rfl))),?_⟩
  try dsimp only[bX,bZ]
  exact⟨_,rfl,_,rfl,e,C,i,none,_,rfl,by show 1<=sizeLine;decide,he,L,_,rfl,_,rfl,e,C,rfl,he,M,λdx h1 h2=>k dx h1 h2⟩
abbrev kW:Stmt:=bJ (top 19) 0
def yD:FnScope ["self","at"] ["self","at"] (aG kW):=.of
def xG {f C D fB:Addr} {i:Option Value} {fd ao:FuncData} (F:Fun K "__init__" "Clash.__init__" kW f fd) (OI:N8 K D fB) (FB:FnOkH P w K mg base CX0 1 fB ao ["self","why","word"] (aE5 K)) (bB:Binds K ao ["self","why","word"] []) (mD:mg "CreelError"=some (.ref D)) (J:sT K C i) (L:hX K C "word") (M:hX K C "at"):FnOkH P w K mg base CX0 2 f fd ["self","at"] (V4 "Clash" C):=by
 refine F.okH yD (λvs H Q E h=>?_) (λU A outer s H vs Q E Y h=>?_)
 .obtain⟨e,i,rfl,_⟩:=h;rfl
 .obtain⟨e,n,rfl,hi,he,k⟩:=h;refine⟨_,(aI (aN (aAH OI FB Y bB eA rfl mD (aA (pv 0) (aA (eO (aX (cV (by decide)) (aX (gF (pv 1)) (aX (cV (by decide)) eN)))) (aA aU aB)))))
   (aJ (pY (pv 0) (pv 1) rfl))),?_⟩
  try dsimp only[bX,bZ]
  refine⟨_,rfl,_,rfl,n,rfl,hi.1,hi.2,λz=>⟨e,C,i,_,_,rfl,he,J,L,λdx h1 h2=>⟨_,rfl,_,rfl,e,C,dx,_,rfl,aE,(by rw[aF h2];exact aE),by show 1<=1000;decide,M,?_⟩⟩⟩;show Q .non _;rw[jS h2];exact k dx h1 h2
abbrev iB:Stmt:=bJ (top 3) 0
def tD:FnScope ["self","why"] ["self","why"] (aG iB):=.of
abbrev jH:Stmt:=bJ (top 4) 0
def xH:FnScope ["self","at"] ["self","at"] (aG jH):=.of
abbrev gJ:Stmt:=bJ (top 5) 0
def rV:FnScope ["self","why"] ["self","why"] (aG gJ):=.of
abbrev fW:Stmt:=bJ (top 6) 0
def qN:FnScope ["self","at"] ["self","at"] (aG fW):=.of
abbrev gK:Stmt:=bJ (top 7) 0
def rX:FnScope ["self","at"] ["self","at"] (aG gK):=.of
abbrev fX:Stmt:=bJ (top 8) 0
def qO:FnScope ["self","why"] ["self","why"] (aG fX):=.of
abbrev iC:Stmt:=bJ (top 9) 0
def tE:FnScope ["self","why"] ["self","why"] (aG iC):=.of
abbrev mK:Stmt:=bJ (top 10) 0
def F9:FnScope ["self","why"] ["self","why"] (aG mK):=.of
abbrev iD:Stmt:=bJ (top 11) 0
def tF:FnScope ["self","why"] ["self","why"] (aG iD):=.of
abbrev kX:Stmt:=bJ (top 12) 0
def yE:FnScope ["self","why"] ["self","why"] (aG kX):=.of
abbrev mL:Stmt:=bJ (top 13) 0
def G0:FnScope ["self","why"] ["self","why"] (aG mL):=.of
abbrev jI:Stmt:=bJ (top 14) 0
def xI:FnScope ["self","why"] ["self","why"] (aG jI):=.of
abbrev mM:Stmt:=bJ (top 15) 0
def G1:FnScope ["self","why"] ["self","why"] (aG mM):=.of
abbrev iE:Stmt:=bJ (top 16) 0
def tG:FnScope ["self","why"] ["self","why"] (aG iE):=.of
abbrev iG:Stmt:=bJ (top 17) 0
def tI:FnScope ["self","why"] ["self","why"] (aG iG):=.of
abbrev iH:Stmt:=bJ (top 18) 0
def tJ:FnScope ["self","why"] ["self","why"] (aG iH):=.of
abbrev eW:Stmt:=bJ (top 20) 0
def nK:FnScope ["self","why"] ["self","why"] (aG eW):=.of
abbrev iI:Stmt:=bJ (top 21) 0
def tK:FnScope ["self","at"] ["self","at"] (aG iI):=.of
section
variable {C D I fB:Addr} {h:Heap} {ao:FuncData} (X:K.In h) (G:h.Ns mainGlobals mg) (OI:N8 K D fB) (FB:FnOk P w K mg base CX0 1 fB ao ["self","why","word"] (aE5 K)) (bB:Binds K ao ["self","why","word"] []) (mD:mg "CreelError"=some (.ref D))
include X G OI FB bB mD
def aAS (E:ErrD K "TooMany" "TooMany.__init__" iB D C I fd):RA0 P w K mg base "TooMany" C:=E.r X G (E.F.ok tD (λvs H Q E h=>by obtain⟨e,a,rfl,_⟩:=h;rfl) λz A outer s H vs Q e J h=>by
 obtain⟨e,a,rfl,he,k⟩:=h;refine⟨_,(aJ (aN (cG OI FB J bB eA rfl mD (aA (pv 0) (aA (pv 1) (aA aU aB)))))),?_⟩;exact⟨_,rfl,_,rfl,e,C,_,a,_,rfl,he,E.x,E.s,k⟩)
def aCc (E:ErrA K "BadRow" "BadRow.__init__" jH D C I fd):RAI P w K mg base "BadRow" C:=E.r X G (E.F.ok xH (λvs H Q E h=>by obtain⟨e,a,rfl,_⟩:=h;rfl) λJ A outer s H vs Q e L h=>by
 obtain⟨e,n,rfl,hi,he,k⟩:=h;refine⟨_,(aI (aN (cG OI FB L bB eA rfl mD (aA (pv 0) (aA (eO (aX (cV (by decide)) (aX (gF (pv 1)) (aX (cV (by decide)) eN)))) (aA aU aB)))))
  (aJ (pY (pv 0) (pv 1) rfl))),?_⟩
 refine⟨_,rfl,_,rfl,n,rfl,hi.1,hi.2,λz=>⟨e,C,_,_,_,rfl,he,E.x,E.s,λdx h1 h2=>⟨_,rfl,_,rfl,e,C,dx,_,rfl,aE,(by rw[aF h2];exact aE),by show 1<=1000;decide,E.t,?_⟩⟩⟩;show Q .non _;rw[jS h2];exact k dx h1 h2)
def X4 (E:ErrD K "BadCreel" "BadCreel.__init__" gJ D C I fd):RA0 P w K mg base "BadCreel" C:=E.r X G (E.F.ok rV (λvs H Q E h=>by obtain⟨e,a,rfl,_⟩:=h;rfl) λz A outer s H vs Q e J h=>by
 obtain⟨e,a,rfl,he,k⟩:=h;refine⟨_,(aJ (aN (cG OI FB J bB eA rfl mD (aA (pv 0) (aA (pv 1) (aA aU aB)))))),?_⟩;exact⟨_,rfl,_,rfl,e,C,_,a,_,rfl,he,E.x,E.s,k⟩)
def Q0 (E:ErrA K "BadTrains" "BadTrains.__init__" fW D C I fd):RAI P w K mg base "BadTrains" C:=E.r X G (E.F.ok qN (λvs H Q E h=>by obtain⟨e,a,rfl,_⟩:=h;rfl) λJ A outer s H vs Q e L h=>by
 obtain⟨e,n,rfl,hi,he,k⟩:=h;refine⟨_,(aI (aN (cG OI FB L bB eA rfl mD (aA (pv 0) (aA (eO (aX (cV (by decide)) (aX (gF (pv 1)) (aX (cV (by decide)) eN)))) (aA aU aB)))))
  (aJ (pY (pv 0) (pv 1) rfl))),?_⟩
 refine⟨_,rfl,_,rfl,n,rfl,hi.1,hi.2,λz=>⟨e,C,_,_,_,rfl,he,E.x,E.s,λdx h1 h2=>⟨_,rfl,_,rfl,e,C,dx,_,rfl,aE,(by rw[aF h2];exact aE),by show 1<=1000;decide,E.t,?_⟩⟩⟩;show Q .non _;rw[jS h2];exact k dx h1 h2)
def X5 (E:ErrA K "BadSizes" "BadSizes.__init__" gK D C I fd):RAI P w K mg base "BadSizes" C:=E.r X G (E.F.ok rX (λvs H Q E h=>by obtain⟨e,a,rfl,_⟩:=h;rfl) λJ A outer s H vs Q e L h=>by
 obtain⟨e,n,rfl,hi,he,k⟩:=h;refine⟨_,(aI (aN (cG OI FB L bB eA rfl mD (aA (pv 0) (aA (eO (aX (cV (by decide)) (aX (gF (pv 1)) (aX (cV (by decide)) eN)))) (aA aU aB)))))
  (aJ (pY (pv 0) (pv 1) rfl))),?_⟩
 refine⟨_,rfl,_,rfl,n,rfl,hi.1,hi.2,λz=>⟨e,C,_,_,_,rfl,he,E.x,E.s,λdx h1 h2=>⟨_,rfl,_,rfl,e,C,dx,_,rfl,aE,(by rw[aF h2];exact aE),by show 1<=1000;decide,E.t,?_⟩⟩⟩;show Q .non _;rw[jS h2];exact k dx h1 h2)
def Q3 (E:ErrD K "BadNumber" "BadNumber.__init__" fX D C I fd):RA0 P w K mg base "BadNumber" C:=E.r X G (E.F.ok qO (λvs H Q E h=>by obtain⟨e,a,rfl,_⟩:=h;rfl) λz A outer s H vs Q e J h=>by
 obtain⟨e,a,rfl,he,k⟩:=h;refine⟨_,(aJ (aN (cG OI FB J bB eA rfl mD (aA (pv 0) (aA (pv 1) (aA aU aB)))))),?_⟩;exact⟨_,rfl,_,rfl,e,C,_,a,_,rfl,he,E.x,E.s,k⟩)
def aAT (E:ErrD K "TooNear" "TooNear.__init__" iC D C I fd):RA0 P w K mg base "TooNear" C:=E.r X G (E.F.ok tE (λvs H Q E h=>by obtain⟨e,a,rfl,_⟩:=h;rfl) λz A outer s H vs Q e J h=>by
 obtain⟨e,a,rfl,he,k⟩:=h;refine⟨_,(aJ (aN (cG OI FB J bB eA rfl mD (aA (pv 0) (aA (pv 1) (aA aU aB)))))),?_⟩;exact⟨_,rfl,_,rfl,e,C,_,a,_,rfl,he,E.x,E.s,k⟩)
def aEj (E:ErrD K "Bare" "Bare.__init__" mK D C I fd):RA0 P w K mg base "Bare" C:=E.r X G (E.F.ok F9 (λvs H Q E h=>by obtain⟨e,a,rfl,_⟩:=h;rfl) λz A outer s H vs Q e J h=>by
 obtain⟨e,a,rfl,he,k⟩:=h;refine⟨_,(aJ (aN (cG OI FB J bB eA rfl mD (aA (pv 0) (aA (pv 1) (aA aU aB)))))),?_⟩;exact⟨_,rfl,_,rfl,e,C,_,a,_,rfl,he,E.x,E.s,k⟩)
def aAU (E:ErrD K "BadName" "BadName.__init__" iD D C I fd):RA0 P w K mg base "BadName" C:=E.r X G (E.F.ok tF (λvs H Q E h=>by obtain⟨e,a,rfl,_⟩:=h;rfl) λz A outer s H vs Q e J h=>by
 obtain⟨e,a,rfl,he,k⟩:=h;refine⟨_,(aJ (aN (cG OI FB J bB eA rfl mD (aA (pv 0) (aA (pv 1) (aA aU aB)))))),?_⟩;exact⟨_,rfl,_,rfl,e,C,_,a,_,rfl,he,E.x,E.s,k⟩)
def aDb (E:ErrD K "Taken" "Taken.__init__" kX D C I fd):RA0 P w K mg base "Taken" C:=E.r X G (E.F.ok yE (λvs H Q E h=>by obtain⟨e,a,rfl,_⟩:=h;rfl) λz A outer s H vs Q e J h=>by
 obtain⟨e,a,rfl,he,k⟩:=h;refine⟨_,(aJ (aN (cG OI FB J bB eA rfl mD (aA (pv 0) (aA (pv 1) (aA aU aB)))))),?_⟩;exact⟨_,rfl,_,rfl,e,C,_,a,_,rfl,he,E.x,E.s,k⟩)
def aEk (E:ErrD K "Full" "Full.__init__" mL D C I fd):RA0 P w K mg base "Full" C:=E.r X G (E.F.ok G0 (λvs H Q E h=>by obtain⟨e,a,rfl,_⟩:=h;rfl) λz A outer s H vs Q e J h=>by
 obtain⟨e,a,rfl,he,k⟩:=h;refine⟨_,(aJ (aN (cG OI FB J bB eA rfl mD (aA (pv 0) (aA (pv 1) (aA aU aB)))))),?_⟩;exact⟨_,rfl,_,rfl,e,C,_,a,_,rfl,he,E.x,E.s,k⟩)
def aCd (E:ErrD K "NoRoad" "NoRoad.__init__" jI D C I fd):RA0 P w K mg base "NoRoad" C:=E.r X G (E.F.ok xI (λvs H Q E h=>by obtain⟨e,a,rfl,_⟩:=h;rfl) λz A outer s H vs Q e J h=>by
 obtain⟨e,a,rfl,he,k⟩:=h;refine⟨_,(aJ (aN (cG OI FB J bB eA rfl mD (aA (pv 0) (aA (pv 1) (aA aU aB)))))),?_⟩;exact⟨_,rfl,_,rfl,e,C,_,a,_,rfl,he,E.x,E.s,k⟩)
def aEl (E:ErrD K "Laid" "Laid.__init__" mM D C I fd):RA0 P w K mg base "Laid" C:=E.r X G (E.F.ok G1 (λvs H Q E h=>by obtain⟨e,a,rfl,_⟩:=h;rfl) λz A outer s H vs Q e J h=>by
 obtain⟨e,a,rfl,he,k⟩:=h;refine⟨_,(aJ (aN (cG OI FB J bB eA rfl mD (aA (pv 0) (aA (pv 1) (aA aU aB)))))),?_⟩;exact⟨_,rfl,_,rfl,e,C,_,a,_,rfl,he,E.x,E.s,k⟩)
def aAV (E:ErrD K "NoStone" "NoStone.__init__" iE D C I fd):RA0 P w K mg base "NoStone" C:=E.r X G (E.F.ok tG (λvs H Q E h=>by obtain⟨e,a,rfl,_⟩:=h;rfl) λz A outer s H vs Q e J h=>by
 obtain⟨e,a,rfl,he,k⟩:=h;refine⟨_,(aJ (aN (cG OI FB J bB eA rfl mD (aA (pv 0) (aA (pv 1) (aA aU aB)))))),?_⟩;exact⟨_,rfl,_,rfl,e,C,_,a,_,rfl,he,E.x,E.s,k⟩)
def aAW (E:ErrD K "NoEntry" "NoEntry.__init__" iG D C I fd):RA0 P w K mg base "NoEntry" C:=E.r X G (E.F.ok tI (λvs H Q E h=>by obtain⟨e,a,rfl,_⟩:=h;rfl) λz A outer s H vs Q e J h=>by
 obtain⟨e,a,rfl,he,k⟩:=h;refine⟨_,(aJ (aN (cG OI FB J bB eA rfl mD (aA (pv 0) (aA (pv 1) (aA aU aB)))))),?_⟩;exact⟨_,rfl,_,rfl,e,C,_,a,_,rfl,he,E.x,E.s,k⟩)
def aAX (E:ErrD K "NotWalk" "NotWalk.__init__" iH D C I fd):RA0 P w K mg base "NotWalk" C:=E.r X G (E.F.ok tJ (λvs H Q E h=>by obtain⟨e,a,rfl,_⟩:=h;rfl) λz A outer s H vs Q e J h=>by
 obtain⟨e,a,rfl,he,k⟩:=h;refine⟨_,(aJ (aN (cG OI FB J bB eA rfl mD (aA (pv 0) (aA (pv 1) (aA aU aB)))))),?_⟩;exact⟨_,rfl,_,rfl,e,C,_,a,_,rfl,he,E.x,E.s,k⟩)
def yF (E:ErrD K "NothingLeft" "NothingLeft.__init__" eW D C I fd):RA0 P w K mg base "NothingLeft" C:=E.r X G (E.F.ok nK (λvs H Q E h=>by obtain⟨e,a,rfl,_⟩:=h;rfl) λz A outer s H vs Q e J h=>by
 obtain⟨e,a,rfl,he,k⟩:=h;refine⟨_,(aJ (aN (cG OI FB J bB eA rfl mD (aA (pv 0) (aA (pv 1) (aA aU aB)))))),?_⟩;exact⟨_,rfl,_,rfl,e,C,_,a,_,rfl,he,E.x,E.s,k⟩)
def aAY (E:ErrA K "BadText" "BadText.__init__" iI D C I fd):RAI P w K mg base "BadText" C:=E.r X G (E.F.ok tK (λvs H Q E h=>by obtain⟨e,a,rfl,_⟩:=h;rfl) λJ A outer s H vs Q e L h=>by
 obtain⟨e,n,rfl,hi,he,k⟩:=h;refine⟨_,(aI (aN (cG OI FB L bB eA rfl mD (aA (pv 0) (aA (eO (aX (cV (by decide)) (aX (gF (pv 1)) (aX (cV (by decide)) eN)))) (aA aU aB)))))
  (aJ (pY (pv 0) (pv 1) rfl))),?_⟩
 refine⟨_,rfl,_,rfl,n,rfl,hi.1,hi.2,λz=>⟨e,C,_,_,_,rfl,he,E.x,E.s,λdx h1 h2=>⟨_,rfl,_,rfl,e,C,dx,_,rfl,aE,(by rw[aF h2];exact aE),by show 1<=1000;decide,E.t,?_⟩⟩⟩;show Q .non _;rw[jS h2];exact k dx h1 h2)
end
abbrev jJ:Stmt:=top 100
def cD:FnScope ["_law_script","_law_many","_law_row","_law_seed","_law_cell","_law_rest","_law_k"] ["_law_script","_law_many"] (aG jJ):=.of
inductive mO (H:Hp) (a:Addr) (l:Addr) (p:Addr) (m:Nat) (ms:List Int) (i:Nat) (σ:St) (H2:Hp):Prop
 | mk (seed:Int) (xs:List Int) (v1 v2 v3:Option V) (k0_:σ=[some (.ref a),some (.int m),some (.ref l),some (.int seed),v1,v2,v3]) (k1_:Same H H2) (k2_:H2 p=some (.lst (ms.map V.int))) (k3_:H2 l=some (.lst (xs.map V.int))) (k4_:aBM xs) (k5_:xs.length<=61 * i) (k6_:0<=seed) (k7_:seed<2147483629):mO H a l p m ms i σ H2
inductive mP (H:Hp) (a:Addr) (l:Addr) (p:Addr) (m:Nat) (ms:List Int) (i:Nat) (seed:Int) (z:Int) (v3:Option V) (σ:St) (H3:Hp):Prop
 | mk (ys:List Int) (k0_:σ=[some (.ref a),some (.int m),some (.ref l),some (.int (sd1 seed z)),some (.int z),some (.int (rs1 z)),v3]) (k1_:Same H H3) (k2_:H3 p=some (.lst (ms.map V.int))) (k3_:H3 l=some (.lst (ys.map V.int))) (k4_:aBM ys) (k5_:ys.length<=61 * i+1):mP H a l p m ms i seed z v3 σ H3
inductive mQ (H:Hp) (a:Addr) (l:Addr) (p:Addr) (m:Nat) (ms:List Int) (i:Nat) (seed:Int) (z:Int) (j:Nat) (σ:St) (H4:Hp):Prop
 | mk (r:Int) (ys:List Int) (v:Option V) (k0_:σ=[some (.ref a),some (.int m),some (.ref l),some (.int (sd1 seed z)),some (.int z),some (.int r),v]) (k1_:Same H H4) (k2_:H4 p=some (.lst (ms.map V.int))) (k3_:H4 l=some (.lst (ys.map V.int))) (k4_:aBM ys) (k5_:ys.length<=61 * i+1+j):mQ H a l p m ms i seed z j σ H4
inductive mR (H:Hp) (a:Addr) (l:Addr) (m:Nat) (v1:Option V) (v2:Option V) (v3:Option V) (σ:St) (H3:Hp):Prop
 | mk (seed:Int) (ys:List Int) (k0_:σ=[some (.ref a),some (.int m),some (.ref l),some (.int seed),v1,v2,v3]) (k1_:Same H H3) (k2_:H3 l=some (.lst (ys.map V.int))) (k3_:aBM ys) (k4_:ys.length<=5000) (k5_:0<=seed) (k6_:seed<2147483629):mR H a l m v1 v2 v3 σ H3
def X6 (F:Fun K "_law_numbers" "_law_numbers" jJ f fd) (B:Bt mg):FnOk P w K mg base CX0 1 f fd ["_law_script","_law_many"] (qY K):=by
 refine F.ok cD (λvs H Q E h=>?_) (λbi A outer s H vs Q E hr h=>?_)
 .obtain⟨a,sc,m,rfl,_⟩:=h;rfl
 .obtain⟨a,sc,m,rfl,hS,hlen,hm,k⟩:=h;refine⟨_,(fT (aW (i:=2) cD.nd rfl (Or.inl rfl) (bP aB)) (fT (aW (i:=3) cD.nd rfl (Or.inl rfl) aK) (fT (dZ ia rfl (eM (pB Z9 (pv 0) tL (tM aK))) (aM (i:=4) cD.nd rfl (Or.inl rfl)) (fT (aW (i:=3) cD.nd rfl (Or.inl rfl) (bA oB (bA dJ (bA dJ (bA iZ (pv 3) aK) (bA oB (pv 4) aK)) aK) aK)) (fT (aW (i:=5) cD.nd rfl (Or.inl rfl) (bA iY (pv 4) (bA aDw aK aK))) (tQ (bT (aV jM (pv 5) aK (bE _)) (aJ (aN (lE aGs aGt aGu dU (pv 2) (aA (bA oB (pv 4) aK) aB)))) aY) (aJ (dZ ia rfl (gU rfl B.range (aA aK aB)) (aM (i:=6) cD.nd rfl (Or.inl rfl)) (aJ (bT (aV iL (pv 5) aK (bE _)) (fT (aN (lE aGs aGt aGu dU (pv 2) (aA (bA oB (pv 5) aK) aB))) (aJ (aW (i:=5) cD.nd rfl (Or.inl rfl) (bA Y2 (pv 5) aK)))) aY)))))))) (aI (uK ia (aV jM (aL bD (by rfl) B.len gj (aA (pv 2) aB)) (pv 1) (bE _)) (fT (aW (i:=3) cD.nd rfl (Or.inl rfl) (bA oB (bA dJ (bA dJ (bA dJ (bA iZ (pv 3) (pv 3)) (bA iZ aK (pv 3))) (bA iZ aK (aL bD (by rfl) B.len gj (aA (pv 2) aB)))) aK) aK)) (aJ (aN (lE aGs aGt aGu dU (pv 2) (aA (bA oB (bA Y2 (pv 3) aK) aK) aB)))))) (aJ (bO (pB Z9 (pv 2) tL (tM (pv 1))))))))),?_⟩
  try dsimp only[bX,bZ]
  refine λM1 L=>?_;refine⟨by decide,λl hl=>?_⟩;refine L [some (.ref a),some (.int m),some (.ref l),none,none,none,none] _ ?_;clear L M1;refine λM1 L=>?_;refine L [some (.ref a),some (.int m),some (.ref l),some (.int 59),none,none,none] _ ?_;clear L M1;refine λM1 L=>?_;refine⟨_,rfl,_,rfl,a,sc.map V.int,rfl,(Same.upd hl).seq hS,λp hp=>?_⟩;obtain⟨ms,ec,bj,bn⟩:=v8 sc none (some 63);rw[ec];have hpl:p≠l:=λe=>by subst e;rw[aE]at hp;cases hp
  have bb:H p=none:=by rw[<- hp,aF hpl]
  refine⟨p,rfl,⟨_,SqL.of aE⟩,jL (K:=K) (a:=p) (xs:=ms.map V.int) (mO H a l p m ms) ?_ ?_ ?_ ?_⟩
  .exact⟨59,[],none,none,none,rfl,Same.upd' bb (Same.upd hl),aE,by rw[aF (gi hpl),aE];rfl,λ_ h=>(by cases h),ah _,by decide,by decide⟩
  .rintro i σ H2 _ ⟨J,xs,v1,v2,v3,_,_,e,_⟩;exact SqL.of e
  .rintro i x σ H2 hi ⟨J,xs,v1,v2,v3,rfl,sm,ep,el,nx,lx,s0,s1⟩;have bo:i<ms.length:=by
    have:=(aGw.mp hi).1;simpa using this
   obtain⟨z,rfl⟩:∃ z,x=V.int z:=by
    rw[aGj]at hi;cases e:ms[i]? with
    | none=>rw[e]at hi;cases hi
    | some z=>rw[e]at hi;exact⟨z,(gu hi).symm⟩
   clear L;refine λM2 M=>?_;refine⟨_,rfl,_,_,rfl,rfl,.inr ⟨by decide,by decide⟩,_,rfl,_,_,rfl,rfl,(by show (0:Int)<999983;decide),_,_,rfl,rfl,_,_,rfl,rfl,_,_,rfl,rfl,(by show (0:Int)<2147483563;decide),?_⟩;have t0:0<=sd1 J z:=ng _ (by decide);have t1:sd1 J z<2147483563:=ll _ (by decide);refine M [some (.ref a),some (.int m),some (.ref l),some (.int (sd1 J z)),some (.int z),v2,v3] _ ?_;clear M M2;refine λM2 M=>?_;refine⟨_,rfl,_,_,rfl,rfl,⟨by decide,by decide,by decide⟩,_,_,rfl,rfl,?_⟩;refine M [some (.ref a),some (.int m),some (.ref l),some (.int (sd1 J z)),some (.int z),some (.int (rs1 z)),v3] _ ?_;clear M M2;refine⟨mP H a l p m ms i J z v3,?_,?_⟩
   .refine⟨_,rfl,_,_,rfl,rfl,_,rfl,pH (λ_=>?_) (λ_=>⟨xs,rfl,sm,ep,el,nx,by lia⟩)⟩;refine⟨_,rfl,.inl ⟨rfl,_,SqL.of el⟩,_,rfl,_,_,rfl,rfl,(by show (0:Int)<9967;decide),l,_,_,rfl,rfl,el,(by rw[aGV];exact bH (by lia)),?_⟩;refine⟨xs++[z % 9967],rfl,Same.upd' hl sm,by rw[aF hpl];exact ep,by rw[aE];simp,?_,by simp;lia⟩;intro n hn;rcases aGy.mp hn with h | h
    .exact nx n h
    .rw[aGr.mp h];exact⟨ng _ (by decide),ll _ (by decide)⟩
   .rintro σ H3 ⟨ys,rfl,Y,bc,U,ax,bf⟩;refine⟨60,rfl,by decide,by decide,gW (lo:=0) (n:=60) (mQ H a l p m ms i J z)
     ⟨rs1 z,ys,v3,rfl,Y,bc,U,ax,by lia⟩ ?_ ?_⟩
    .rintro j σ H4 hj ⟨r,ys,v,rfl,ay,az,aw,a_,bg⟩;refine⟨_,rfl,_,_,rfl,rfl,_,rfl,pH (λbq=>?_) (λ_=>⟨r,ys,_,rfl,ay,az,aw,a_,by lia⟩)⟩;refine λM2 M=>?_;refine⟨_,rfl,.inl ⟨rfl,_,SqL.of aw⟩,_,rfl,_,_,rfl,rfl,(by show (0:Int)<1013;decide),l,_,_,rfl,rfl,aw,(by rw[aGV];exact bH (by lia)),?_⟩;refine M [some (.ref a),some (.int m),some (.ref l),some (.int (sd1 J z)),some (.int z),some (.int r),some (.int (0+(j:Int)))] _ ?_;clear M M2;refine⟨_,rfl,_,_,rfl,rfl,⟨by decide,by decide⟩,?_⟩;refine⟨r / 1013,ys++[r % 1013],_,rfl,Same.upd' hl ay,by rw[aF hpl];exact az,by rw[aE];simp,?_,by simp;lia⟩;intro n hn;rcases aGy.mp hn with h | h
     .exact a_ n h
     .rw[aGr.mp h];have a1:=ng r (show (1013:Int)≠0 by decide);have a2:=ll r (show (0:Int)<1013 by decide);exact⟨a1,by lia⟩
    .rintro σ H4 ⟨r,ys,v,rfl,ay,az,aw,a_,bg⟩;exact⟨sd1 J z,ys,_,_,_,rfl,ay,az,aw,a_,by lia,t0,by lia⟩
  .rintro σ H2 ⟨J,xs,v1,v2,v3,rfl,sm,ep,el,nx,lx,s0,s1⟩;have br:xs.length<=61 * 63:=by
    have:(ms.map V.int).length<=63:=by rw[aGV];lia
    lia
   refine L [some (.ref a),some (.int m),some (.ref l),some (.int J),v1,v2,v3] _ ?_;clear L M1;refine G7 (mR H a l m v1 v2 v3)
    (λ_ H3=>match H3 l with | some (.lst ys)=>m - ys.length | _=>0) ⟨J,xs,rfl,sm,el,nx,by lia,s0,s1⟩ ?_ ?_
   .rintro σ H3 ⟨J,ys,rfl,Y,U,ax,bf,q0,q1⟩;refine⟨_,rfl,l,_,rfl,.inl (SqL.of U),_,rfl,_,_,rfl,rfl,_,rfl,pH (λhc=>?_) (λhc=>?_)⟩
    .rw[aGV]at hc;refine λM1 L=>?_;refine⟨_,rfl,_,rfl,_,_,rfl,rfl,.inl ⟨by lia,by lia⟩,_,rfl,_,_,rfl,rfl,.inl ⟨by decide,by decide⟩,_,_,rfl,rfl,_,rfl,l,_,rfl,.inl (SqL.of U),_,_,rfl,rfl,.inl ⟨by decide,by decide⟩,_,_,rfl,rfl,_,_,rfl,rfl,_,_,rfl,rfl,(by show (0:Int)<2147483629;decide),?_⟩;refine L [some (.ref a),some (.int m),some (.ref l),some (.int (sd2 J ys)),v1,v2,v3] _ ?_;clear L M1;have t0:0<=sd2 J ys:=ng _ (by decide);have t1:sd2 J ys<2147483629:=ll _ (by decide);refine⟨_,rfl,.inl ⟨rfl,_,SqL.of U⟩,_,rfl,_,_,rfl,rfl,⟨by decide,by decide⟩,_,_,rfl,rfl,(by show (0:Int)<9967;decide),l,_,_,rfl,rfl,U,(by rw[aGV];exact bH (by lia)),?_⟩;refine⟨⟨sd2 J ys,ys++[sd2 J ys / 1019 % 9967],rfl,Same.upd' hl Y,by rw[aE,aGa];rfl,?_,by simp;lia,t0,t1⟩,?_⟩
     .intro n hn;rcases aGy.mp hn with h | h
      .exact ax n h
      .rw[aGr.mp h];exact⟨ng _ (by decide),ll _ (by decide)⟩
     .simp only[aE,U,aG4,aGV,gm]
      lia
    .rw[aGV]at hc;refine⟨_,rfl,_,rfl,_,rfl,l,_,rfl,SqL.of U,λp2 ba=>?_⟩;rw[aEJ ys m (by lia)];exact k p2 (ys.take m) _ (by simp;lia) (λn hn=>ax n (tw hn)) (Y.free ba) (Same.upd' (Y.free ba) Y) aE
   .intro σ H3 Q1 Q2 hq h;obtain⟨x,e,p2,ys,e2,bh,z,e3,i,j,e4,e5,b,e6,q⟩:=h;exact⟨x,e,p2,ys,e2,bh,z,e3,i,j,e4,e5,b,e6,hq _ _ q⟩
abbrev mS:Stmt:=top 101
def qP:FnScope ["_law_name","_law_house_here"] ["_law_name"] (aG mS):=.of
def X7 (X:cL K mg) (G:Hc K) (F:Fun K "_law_house" "_law_house" mS f fd) (B:Bt mg) (J:jP P w K mg base "House" G.Hs 1 ["self"] (jT G)) (L:bN P w K mg base G.Hs "build" 13 ["self","name","row"] (lX X G)) (M:bN P w K mg base G.Hs "walk" 13 ["self","name","creel","count"] (dC X G "walk" 3)) (U:bN P w K mg base G.Hs "put" 13 ["self","name","place"] (dC X G "put" 2)):FnOk P w K mg base (CXR P w) 14 f fd ["_law_name"] (rK G):=by
 refine F.gX qP λbj A outer s H vs Q E Y hr h=>?_;obtain⟨rfl,k⟩:=h;refine⟨_,(aI (aW (i:=1) qP.nd rfl (Or.inl rfl) (j3 J hr rfl)) (aI (aN (cX L G.hs hr (dF Y) (pv 1) (aA (pv 0) (aA (bP (aA aK (aA aK aB))) aB)))) (aI (aN (cX M G.hs hr (dF Y) (pv 1) (aA (pv 0) (aA aK (aA aK aB))))) (aI (aN (cX U G.hs hr (dF Y) (pv 1) (aA (pv 0) (aA aK aB)))) (aJ (bO (pv 1))))))),?_⟩
 try dsimp only[bX,bZ]
 refine λx dx hx az a_=>aC3 hx az a_ λH1 aw=>?_;obtain⟨ba,_,_,_,bb⟩:=aw.ins;refine⟨_,rfl,x,ba,_,rfl,bb,rfl,_,rfl,(show 2<=sizeLine by decide),λl hl=>aS hl λH2 g2 el=>?_⟩;refine⟨H,x,l,"road",[1,2],[],0,_,rfl,aw.same g2,by decide,el,⟨by unfold A6;decide +kernel,by decide +kernel⟩,.build (by decide +kernel) (λz=>(nomatch z)) ⟨.cons (by decide) (ij _ _),(show 2<=60 by decide)⟩ (by decide),λS' hS H3 ax=>?_,λ_ z=>nomatch z⟩;cases hS;obtain⟨bc,_,_,_,bf⟩:=ax.ins;refine⟨_,rfl,x,bc,_,rfl,bf,rfl,_,rfl,H,x,_,.ent,_,1,_,rfl,rfl,ax,by decide,.ent (is:=[1,3]) .w0 (show 0<10 by decide),λS' hS H4 ay=>?_,λ_ z=>nomatch z⟩;cases hS;obtain⟨bg,_,_,_,bh⟩:=ay.ins;refine⟨_,rfl,x,bg,_,rfl,bh,rfl,_,rfl,H,x,_,.ent,_,2,_,rfl,rfl,ay,by decide,.ent (is:=[40]) .put (show 1<10 by decide),λS' hS H5 bi=>?_,λ_ z=>nomatch z⟩;cases hS;exact⟨_,rfl,k x H5 bi⟩
abbrev eX:Stmt:=top 102
def iW:FnScope ["_law_which","_law_number","_law_house_here","_law_acts","_law_act"] ["_law_which","_law_number"] (aG eX):=.of
abbrev lcS (i:Nat):Stmt:=(aZ eX).getD i (.Pass ⟨0,0,0,0⟩)
def sbV:Stmt->Expr
 | .Assign _ v _=>v
 | _=>.Constant .none 0 ⟨0,0,0,0⟩
def aFj:Scope:=match sbV (lcS 1)with
 | .List es _=>match es.getD 10 (.Constant .none 0 ⟨0,0,0,0⟩)with
  | .Lambda _ _ z _=>z
  | _=>aG eX
 | _=>aG eX
@[irreducible] def aDc:Expr:=sbV (lcS 1)
def lcB:aZ eX=[lcS 0,.Assign (asT (lcS 1)) aDc (asP (lcS 1)),lcS 2,lcS 3]:=by
 unfold aDc;rfl
def aCe {f c PT:Addr} {fd:FuncData} {X:cL K mg} {T:qB} (G:Hc K) (F:FunC K "_law_call" "_law_call" eX f fd c) (hC:PySem.W.CodeHd base c PT) (hbm:nR mg base) (B:Bt mg) (F_law_house:dI P w K mg base "_law_house" 14 ["_law_name"] (rK G))
 (F_row_of:dI P w K mg base "row_of" 5 ["trains"] (P0 X T)) (F_look_row:dI P w K mg base "look_row" 4 ["row"] (C5 X)) (F_walked:dI P w K mg base "walked" 5 ["row","creel"] (D6 X)) (F_how_many:dI P w K mg base "how_many" 5 ["niches","sizes"] (D9 T)) (F_behind:dI P w K mg base "behind" 5 ["one","other","gap"] (E1 X)) (F_read_page:dI P w K mg base "read_page" 5 ["text"] (E3 T))
 (M_build:bN P w K mg base G.Hs "build" 13 ["self","name","row"] (lX X G)) (M_put:bN P w K mg base G.Hs "put" 13 ["self","name","place"] (dC X G "put" 2)) (M_take:bN P w K mg base G.Hs "take" 13 ["self","name","place"] (dC X G "take" 2)) (M_late:bN P w K mg base G.Hs "late" 13 ["self","name","at","creel","count"] (dC X G "late" 4)) (M_strike:bN P w K mg base G.Hs "strike" 13 ["self","name","at"] (dC X G "strike" 2)) (M_again:bN P w K mg base G.Hs "again" 4 ["self"] (qF X G)) (M_row:bN P w K mg base G.Hs "row" 8 ["self","name"] (D5 X G)):FnOk P w K mg base (CXR P w) 15 f fd ["_law_which","_law_number"] (C7 X T PT):=by
 refine F.okX iW (λvs H Q E h=>?_) (λA outer s H vs Q E hfr hr h=>?_)
 .cases h;subst_vars;rfl
 .obtain⟨k,n,rfl,hk,hn0,hn1,hT,h5⟩:=h;rw[lcB]
  refine⟨_,(aI (aW (i:=2) iW.nd rfl (Or.inr rfl) (cN F_law_house hr rfl (dF hfr) (aA aU aB))) (aI (aW (i:=3) iW.nd rfl (Or.inl rfl) (PEi.out (by unfold aDc;exact(aD3 (@aA _ _ _ _ _ (cQ (k:=13) ["_law_number"] [1] hC hbm rfl rfl λ_ _ _ _ _ _ _ _ _ hfr hr h=>⟨_,(cN F_row_of hr rfl (fR hfr) (aA (bP (aA (cM (aA aK (aA (pv 0) aB))) aB)) aB)),h⟩) (@aA _ _ _ _ _ (cQ (k:=13) ["_law_number"] [1] hC hbm rfl rfl λ_ _ _ _ _ _ _ _ _ hfr hr h=>⟨_,(cN F_look_row hr rfl (fR hfr) (aA (bP (aA (pv 0) (aA (pv 0) aB))) aB)),h⟩) (@aA _ _ _ _ _ (cQ (k:=13) ["_law_number"] [1] hC hbm rfl rfl λ_ _ _ _ _ _ _ _ _ hfr hr h=>⟨_,(cN F_walked hr rfl (fR hfr) (aA (bP (aA (pv 0) aB)) (aA (nL jA (pv 0)) aB))),h⟩) (@aA _ _ _ _ _ (cQ (k:=13) ["_law_number"] [1] hC hbm rfl rfl λ_ _ _ _ _ _ _ _ _ hfr hr h=>⟨_,(cN F_row_of hr rfl (fR hfr) (aA (bP (aA (cM (aA aK (aA aK aB))) (aA (cM (aA (nL jA (pv 0)) (aA aK aB))) aB))) aB)),h⟩) (@aA _ _ _ _ _ (cQ (k:=13) ["_law_number"] [1] hC hbm rfl rfl λ_ _ _ _ _ _ _ _ _ hfr hr h=>⟨_,(cN F_how_many hr rfl (fR hfr) (aA (bA oB (pv 0) aK) (aA (bP (aA aK (aA (nL jA (pv 0)) aB))) aB))),h⟩) (@aA _ _ _ _ _ (cQ (k:=13) ["_law_number"] [1] hC hbm rfl rfl λ_ _ _ _ _ _ _ _ _ hfr hr h=>⟨_,(cN F_how_many hr rfl (fR hfr) (aA (bA dJ aK (pv 0)) (aA (bP aB) aB))),h⟩) (@aA _ _ _ _ _ (cQ (k:=13) ["_law_number"] [1] hC hbm rfl rfl λ_ _ _ _ _ _ _ _ _ hfr hr h=>⟨_,(cN F_behind hr rfl (fR hfr) (aA (bP (aA aK aB)) (aA (bP (aA aK (aA (bA dJ aK (pv 0)) aB))) (aA aK aB)))),h⟩) (@aA _ _ _ _ _ (cQ (k:=13) ["_law_number"] [1] hC hbm rfl rfl λ_ _ _ _ _ _ _ _ _ hfr hr h=>⟨_,(cN F_behind hr rfl (fR hfr) (aA (bP aB) (aA (bP (aA (pv 0) aB)) (aA aK aB)))),h⟩) (@aA _ _ _ _ _ (cQ (k:=13) ["_law_house_here","_law_number"] [2,1] hC hbm rfl rfl λ_ _ _ _ _ _ _ _ _ hfr hr h=>⟨_,(cX M_build G.hs hr (fR hfr) (pv 0) (aA aU (aA (bP (aA (pv 1) aB)) aB))),h⟩) (@aA _ _ _ _ _ (cQ (k:=13) ["_law_house_here","_law_number"] [2,1] hC hbm rfl rfl λ_ _ _ _ _ _ _ _ _ hfr hr h=>⟨_,(cX M_build G.hs hr (fR hfr) (pv 0) (aA aU (aA (bP (aA (pv 1) aB)) aB))),h⟩) (@aA _ _ _ _ _ (cQ (k:=13) ["_law_house_here"] [2] hC hbm rfl rfl λ_ _ _ _ _ _ _ _ _ hfr hr h=>⟨_,(aCY ⟨rfl,rfl,rfl⟩ rfl ["_law_k"] ["_law_house_here"] [0] rfl (.of (show eC aFj _ ["_law_house_here"] [0] ["_law_house_here"]=true by decide +kernel)) (gU rfl B.range (aA aK aB)) (λ_ _ _=>(aM (i:=0) (show (["_law_k","_law_house_here"]:List Str).Nodup by decide +kernel) rfl (Or.inl rfl))) (kA (by decide)) (λ_ _ _=>dY) (λ_ _ _=>(cX M_build G.hs hr aFf (pv 1) (aA (dQ aAq aU (pv 0) (λ_ _=>rfl)) (aA (bP aB) aB))))),h⟩) (@aA _ _ _ _ _ (cQ (k:=13) ["_law_house_here"] [2] hC hbm rfl rfl λ_ _ _ _ _ _ _ _ _ hfr hr h=>⟨_,(cX M_row G.hs hr (fR hfr) (pv 0) (aA aU aB)),h⟩) (@aA _ _ _ _ _ (cQ (k:=13) ["_law_house_here"] [2] hC hbm rfl rfl λ_ _ _ _ _ _ _ _ _ hfr hr h=>⟨_,(cX M_put G.hs hr (fR hfr) (pv 0) (aA aU (aA aK aB))),h⟩) (@aA _ _ _ _ _ (cQ (k:=13) ["_law_house_here","_law_number"] [2,1] hC hbm rfl rfl λ_ _ _ _ _ _ _ _ _ hfr hr h=>⟨_,(cX M_take G.hs hr (fR hfr) (pv 0) (aA aU (aA (bA dJ aK (pv 1)) aB))),h⟩) (@aA _ _ _ _ _ (cQ (k:=13) ["_law_house_here","_law_number"] [2,1] hC hbm rfl rfl λ_ _ _ _ _ _ _ _ _ hfr hr h=>⟨_,(cX M_strike G.hs hr (fR hfr) (pv 0) (aA aU (aA (bA dJ aK (pv 1)) aB))),h⟩) (@aA _ _ _ _ _ (cQ (k:=13) ["_law_house_here"] [2] hC hbm rfl rfl λ_ _ _ _ _ _ _ _ _ hfr hr h=>⟨_,(cX M_strike G.hs hr (fR hfr) (pv 0) (aA aU (aA aK aB))),h⟩) (@aA _ _ _ _ _ (cQ (k:=13) ["_law_house_here"] [2] hC hbm rfl rfl λ_ _ _ _ _ _ _ _ _ hfr hr h=>⟨_,(cX M_late G.hs hr (fR hfr) (pv 0) (aA aU (aA aK (aA aK (aA aK aB))))),h⟩) (@aA _ _ _ _ _ (cQ (k:=13) ["_law_house_here"] [2] hC hbm rfl rfl λ_ _ _ _ _ _ _ _ _ hfr hr h=>⟨_,(aCK M_again G.hs hr (fR hfr) (pv 0)),h⟩) (@aA _ _ _ _ _ (cQ (k:=13) ["_law_number"] [1] hC hbm rfl rfl λ_ _ _ _ _ _ _ _ _ hfr hr h=>⟨_,(cN F_read_page hr rfl (fR hfr) (aA (bA Q9 aU (eY y9 (by rfl) B.str aBE (aA (pv 0) aB))) aB)),h⟩) aB (by rfl)) (by rfl)) (by rfl)) (by rfl)) (by rfl)) (by rfl)) (by rfl)) (by rfl)) (by rfl)) (by rfl)) (by rfl)) (by rfl)) (by rfl)) (by rfl)) (by rfl)) (by rfl)) (by rfl)) (by rfl)) (by rfl))))) (hs:=by unfold aDc;rfl)) (aI (aW (i:=4) iW.nd rfl (Or.inl rfl) (dQ mU (pv 3) (pv 0) (λ_ _=>rfl))) (aJ (bO (aDW (k:=13) (i:=4) ⟨rfl,rfl,rfl⟩ hr (dF hfr) rfl (Or.inl rfl))))))),?_⟩
  try dsimp only[bX,bZ]
  refine⟨rfl,λa H1 hO1=>?_⟩;have T1:TabT V9 PT H1:=hT.same hO1.1;refine aFg (aEe (n6 ?_));refine aC0 (.cons (.cons (.cons (.cons (.cons (.cons (.cons (.cons (.cons (.cons (.cons (.cons (.cons (.cons (.cons (.cons (.cons (.cons (.cons (.nil)))))))))))))))))))) T1 (show 19<=sizeLine by decide) λfs H2 p hfl g2 T2 L hp=>?_;refine aS hp λH3 g3 el=>?_;have gS:=SameT.trans g2 (Same.t (P:=PT) g3);obtain⟨Hb,hO,T4,hS⟩:=hO1.tab T1 gS (T2.same g3);have hb:Same Hb H3:=hO.1;have Rb:∀ c fs H',(wE X T)[k]?=some c->Same Hb H'->Rf E c fs H':=λc fs H' hc g=>h5 c fs H' hc (hS H' g) (T4.same g);have R:=λc fs H' hc (g:Same H3 H')=>Rb c fs H' hc (hb.trans g);have L:=λi q e=>(L i q e).imp λf' z=>And.intro z.1 (z.2.keep λx φ e=>g3 _ _ e);obtain⟨dx,_,_,_,ha⟩:=hO.ins;have D1:DoS H3 [("road",D3)] .ent "put" [.str "road",.int 40] (.inr .laid):=.entx (is:=[40]) (.laid .zero (by decide)) (show 2<10 by decide);refine gn ?_;refine n6 ?_;obtain rfl | rfl | rfl | rfl | rfl | rfl | rfl | rfl | rfl | rfl | rfl | rfl | rfl | rfl | rfl | rfl | rfl | rfl | rfl:=(show k=0\/k=1\/k=2\/k=3\/k=4\/k=5\/k=6\/k=7\/k=8\/k=9\/k=10\/k=11\/k=12\/k=13\/k=14\/k=15\/k=16\/k=17\/k=18 by lia)
  .obtain⟨f',hf',Lf⟩:=L 0 _ rfl;exact⟨_,rfl,_,rfl,p,_,_,_,rfl,rfl,SqL.of el,cR hf',f',_,_,rfl,Lf,_,rfl,(show 2<=sizeLine by decide),λt ht=>aS ht λH5 g5 et=>⟨(show 1<=sizeLine by decide),λl hl=>aS hl λH6 g6 el=>⟨l,[(61,n)],none,rfl,⟨_,el,.cons ⟨t,rfl,g6 _ _ et⟩ .nil⟩,(show 1<=9 by decide),.many (λq hq=>by rw[aGr.mp hq];exact(show (1:Int)<=61 by decide)) (show (60:Int)<61 by decide),λH' g=>R X.many _ H' rfl ((g5.trans g6).trans g)⟩⟩⟩
  .obtain⟨f',hf',Lf⟩:=L 1 _ rfl;exact⟨_,rfl,_,rfl,p,_,_,_,rfl,rfl,SqL.of el,cR hf',f',_,_,rfl,Lf,_,rfl,_,rfl,(show 2<=sizeLine by decide),λl hl=>aS hl λH5 g5 el=>⟨l,[n,n],rfl,.inl ⟨trivial,el⟩,(show 2<=200 by decide),(λz=>by rw[aC4]at z;cases z),λ_=>by rw[aC4];exact R X.row _ H5 rfl g5⟩⟩
  .obtain⟨f',hf',Lf⟩:=L 2 _ rfl;exact⟨_,rfl,_,rfl,p,_,_,_,rfl,rfl,SqL.of el,cR hf',f',_,_,rfl,Lf,_,rfl,(show 1<=sizeLine by decide),λl hl=>aS hl λH5 g5 el=>⟨_,rfl,_,rfl,l,n,-n,rfl,el,by lia,R X.creel _ H5 rfl g5⟩⟩
  .obtain⟨f',hf',Lf⟩:=L 3 _ rfl;exact⟨_,rfl,_,rfl,p,_,_,_,rfl,rfl,SqL.of el,cR hf',f',_,_,rfl,Lf,(show 2<=sizeLine by decide),λt1 ht1=>aS ht1 λH5 g5 et1=>⟨_,rfl,_,rfl,(show 2<=sizeLine by decide),λt2 ht2=>aS ht2 λH6 g6 et2=>⟨(show 2<=sizeLine by decide),λl hl=>aS hl λH7 g7 el=>⟨l,[(1,0),(-n,0)],some 1,rfl,⟨_,el,.cons ⟨t1,rfl,(g6.trans g7) _ _ et1⟩ (.cons ⟨t2,rfl,g7 _ _ et2⟩ .nil)⟩,(show 2<=9 by decide),.bad 1 (-n,0) rfl (λq hq=>by rw[aGr.mp hq];decide) (show -n<1 by lia),λH' g=>R T.trains _ H' rfl (((g5.trans g6).trans g7).trans g)⟩⟩⟩⟩
  .obtain⟨f',hf',Lf⟩:=L 4 _ rfl;exact⟨_,rfl,_,rfl,p,_,_,_,rfl,rfl,SqL.of el,cR hf',f',_,_,rfl,Lf,_,rfl,_,_,rfl,rfl,(by decide),_,rfl,_,rfl,(show 2<=sizeLine by decide),λl hl=>aS hl λH5 g5 el=>.sizes _ (-n) l rfl (by lia) (by lia) el (by lia) λH' g=>R T.sizes _ H' rfl (g5.trans g)⟩
  .obtain⟨f',hf',Lf⟩:=L 5 _ rfl;exact⟨_,rfl,_,rfl,p,_,_,_,rfl,rfl,SqL.of el,cR hf',f',_,_,rfl,Lf,_,rfl,_,_,rfl,rfl,(show 0<=sizeLine by decide),λl hl=>aS hl λH5 g5 el=>.number _ l rfl (by lia) (R T.number _ H5 rfl g5)⟩
  .obtain⟨f',hf',Lf⟩:=L 6 _ rfl;exact⟨_,rfl,_,rfl,p,_,_,_,rfl,rfl,SqL.of el,cR hf',f',_,_,rfl,Lf,(show 1<=sizeLine by decide),λl hl=>aS hl λH5 g5 el=>⟨_,rfl,_,_,rfl,rfl,(show 2<=sizeLine by decide),λl2 hl2=>aS hl2 λH6 g6 el2=>.near l l2 (3+n) rfl (g6 _ _ el) el2 (by lia) (R X.near _ H6 rfl (g5.trans g6))⟩⟩
  .obtain⟨f',hf',Lf⟩:=L 7 _ rfl;exact⟨_,rfl,_,rfl,p,_,_,_,rfl,rfl,SqL.of el,cR hf',f',_,_,rfl,Lf,(show 0<=sizeLine by decide),λl hl=>aS hl λH5 g5 el=>⟨_,rfl,(show 1<=sizeLine by decide),λl2 hl2=>aS hl2 λH6 g6 el2=>.bare l l2 n 5 rfl (g6 _ _ el) el2 (R X.bare _ H6 rfl (g5.trans g6))⟩⟩
  .obtain⟨f',hf',Lf⟩:=L 8 _ rfl;exact⟨_,rfl,_,rfl,p,_,_,_,rfl,rfl,SqL.of el,cR hf',f',_,_,rfl,Lf,_,rfl,a,dx,_,rfl,ha,rfl,_,rfl,(show 1<=sizeLine by decide),λl hl=>aS hl λH5 g5 el=>⟨Hb,a,l,"Road",[n],_,_,_,rfl,hO.same g5,by decide,el,⟨by unfold A6;decide +kernel,by decide +kernel⟩,.name (by decide +kernel),(λ_ z=>nomatch z),λr hr=>by cases hr;exact λH' g=>R X.name _ H' rfl (g5.trans g)⟩⟩
  .obtain⟨f',hf',Lf⟩:=L 9 _ rfl;exact⟨_,rfl,_,rfl,p,_,_,_,rfl,rfl,SqL.of el,cR hf',f',_,_,rfl,Lf,_,rfl,a,dx,_,rfl,ha,rfl,_,rfl,(show 1<=sizeLine by decide),λl hl=>aS hl λH5 g5 el=>⟨Hb,a,l,"road",[n],_,_,_,rfl,hO.same g5,by decide,el,⟨by unfold A6;decide +kernel,by decide +kernel⟩,.taken (by decide +kernel) (by decide +kernel),(λ_ z=>nomatch z),λr hr=>by cases hr;exact λH' g=>R X.taken _ H' rfl (g5.trans g)⟩⟩
  .obtain⟨f',hf',Lf⟩:=L 10 _ rfl;refine⟨_,rfl,_,rfl,p,_,_,_,rfl,rfl,SqL.of el,cR hf',f',_,_,rfl,Lf,_,rfl,by decide,by decide,oG (lo:=0) (n:=9) (λi ys H'=>i<=7/\ys.length=i/\HO5 G Hb H' a (S5 i) (3+i)) ⟨gr _,rfl,hO⟩ ?_ ?_ ?_⟩
   .rintro i ys H' hi ⟨_,hy,_⟩;exact bH (by lia)
   .rintro i ys H' hi ⟨hi7,hy,hO'⟩;obtain⟨h1,h2,h3⟩:=aEf i (by lia);obtain⟨dx',_,_,_,ha'⟩:=hO'.ins;refine⟨_,rfl,a,dx',_,rfl,ha',rfl,_,rfl,_,_,_,rfl,rfl,(show 9<=sizeLine by decide),by rw[uy];exact h1,(show 0<=sizeLine by decide),λl hl=>aS hl λH6 g6 el6=>?_⟩;have hO6:=hO'.same g6
    by_cases h7:i<7
    .exact⟨Hb,a,l,nm5 i,[],S5 i,3+i,_,rfl,hO6,by lia,el6,n8 (by lia),.build h2 h3 ⟨.nil,(show 0<=60 by decide)⟩ (by rw[aC5];lia),λS' hS' H7 hO7=>by
      cases hS';exact⟨by lia,by rw[aG4,hy];rfl,by rw[aD5];exact hO7⟩,λ_ z=>nomatch z⟩
    .exact⟨Hb,a,l,nm5 i,[],S5 i,3+i,_,rfl,hO6,by lia,el6,n8 (by lia),.full h2 h3 ⟨.nil,(show 0<=60 by decide)⟩ (by rw[aC5];lia),(λ_ z=>nomatch z),λr hr=>by
      cases hr;exact λH7 g=>Rb X.full _ H7 rfl (hO6.1.trans g)⟩
   .rintro ys H' ⟨hi7,_⟩;exact absurd hi7 (by decide)
  .obtain⟨f',hf',Lf⟩:=L 11 _ rfl;exact⟨_,rfl,_,rfl,p,_,_,_,rfl,rfl,SqL.of el,cR hf',f',_,_,rfl,Lf,_,rfl,a,dx,_,rfl,ha,rfl,Hb,a,"other",_,_,rfl,hO,by decide +kernel,R X.road _ H3 rfl (Same.refl _)⟩
  .obtain⟨f',hf',Lf⟩:=L 12 _ rfl;exact⟨_,rfl,_,rfl,p,_,_,_,rfl,rfl,SqL.of el,cR hf',f',_,_,rfl,Lf,_,rfl,a,dx,_,rfl,ha,rfl,Hb,a,_,.ent,_,_,_,rfl,rfl,hO,by decide,D1,(λ_ z=>nomatch z),λr hr=>by cases hr;exact λH' g=>R X.laid _ H' rfl g⟩
  .obtain⟨f',hf',Lf⟩:=L 13 _ rfl;exact⟨_,rfl,_,rfl,p,_,_,_,rfl,rfl,SqL.of el,cR hf',f',_,_,rfl,Lf,_,rfl,a,dx,_,rfl,ha,rfl,_,rfl,_,_,rfl,rfl,Hb,a,_,.ent,_,_,_,rfl,rfl,hO,by decide,.entx (is:=[50+n]) (.stone .zero (by intro z;simp[D3]at z;lia)) (show 2<10 by decide),(λ_ z=>nomatch z),λr hr=>by cases hr;exact λH' g=>R X.stone _ H' rfl g⟩
  .obtain⟨f',hf',Lf⟩:=L 14 _ rfl;exact⟨_,rfl,_,rfl,p,_,_,_,rfl,rfl,SqL.of el,cR hf',f',_,_,rfl,Lf,_,rfl,a,dx,_,rfl,ha,rfl,_,rfl,_,_,rfl,rfl,Hb,a,_,.strike,_,_,_,rfl,rfl,hO,by decide,.entry (show (2:Int)<=2+n by lia),(λ_ z=>nomatch z),λr hr=>by cases hr;exact λH' g=>R X.entry _ H' rfl g⟩
  .obtain⟨f',hf',Lf⟩:=L 15 _ rfl;exact⟨_,rfl,_,rfl,p,_,_,_,rfl,rfl,SqL.of el,cR hf',f',_,_,rfl,Lf,_,rfl,a,dx,_,rfl,ha,rfl,Hb,a,_,.strike,_,_,_,rfl,rfl,hO,by decide,.walk rfl,(λ_ z=>nomatch z),λr hr=>by cases hr;exact λH' g=>R X.walk _ H' rfl g⟩
  .obtain⟨f',hf',Lf⟩:=L 16 _ rfl;exact⟨_,rfl,_,rfl,p,_,_,_,rfl,rfl,SqL.of el,cR hf',f',_,_,rfl,Lf,_,rfl,a,dx,_,rfl,ha,rfl,Hb,a,_,.late,_,_,_,rfl,rfl,hO,by decide,.late rfl rfl,(λ_ z=>nomatch z),λr hr=>by cases hr;exact λH' g=>R X.clash _ H' rfl g⟩
  .obtain⟨f',hf',Lf⟩:=L 17 _ rfl;exact⟨_,rfl,_,rfl,p,_,_,_,rfl,rfl,SqL.of el,cR hf',f',_,_,rfl,Lf,_,rfl,a,dx,_,rfl,ha,rfl,Hb,a,_,_,rfl,hO,R X.left _ H3 rfl (Same.refl _)⟩
  .obtain⟨f',hf',Lf⟩:=L 18 _ rfl;exact⟨_,rfl,_,rfl,p,_,_,_,rfl,rfl,SqL.of el,cR hf',f',_,_,rfl,Lf,_,rfl,n,rfl,C8 hn0 hn1,_,_,rfl,rfl,dE (by have:=(C8 hn0 hn1).2;show 8+_<=10000;lia),_,rfl,(zK hn0 hn1).1,aD4 n,(zK hn0 hn1).2,λH' g=>R T.text _ H' rfl g⟩
abbrev mT:Stmt:=top 103
def fQ:FnScope ["_law_e","_law_found"] ["_law_e"] (aG mT):=.of
def aCf {X:cL K mg} {T:qB} (Y:n5 X T) (F:Fun K "_law_flags" "_law_flags" mT f fd) (B:Bt mg):FnOkH P w K mg base CX0 1 f fd ["_law_e"] (C6 X T):=by
 refine F.okH fQ (λvs H Q E h=>?_) (λay A outer s H vs Q E hr h=>?_)
 .cases h;subst_vars;rfl
 .obtain⟨e,c,dx,fs,j,rfl,hc,he,J,k⟩:=h;have L:=Y.isi c (aG6 hc);have z:=λi b hb=>Y.kit j i c b hc hb;refine⟨_,(aI (aW (i:=1) fQ.nd rfl (Or.inl rfl) (bP (aA (aL (bQ K rfl) (by rfl) B.isinstance aQ (aA (pv 0) (aA (cB rfl (Y.m 0 rfl rfl)) aB))) (aA (aL (bQ K rfl) (by rfl) B.isinstance aQ (aA (pv 0) (aA (cB rfl (Y.m 1 rfl rfl)) aB))) (aA (aL (bQ K rfl) (by rfl) B.isinstance aQ (aA (pv 0) (aA (cB rfl (Y.m 2 rfl rfl)) aB))) (aA (aL (bQ K rfl) (by rfl) B.isinstance aQ (aA (pv 0) (aA (cB rfl (Y.m 3 rfl rfl)) aB))) aB)))))) (aI (aW (i:=1) fQ.nd rfl (Or.inl rfl) (bA lF (pv 1) (bP (aA (aL (bQ K rfl) (by rfl) B.isinstance aQ (aA (pv 0) (aA (cB rfl (Y.m 4 rfl rfl)) aB))) (aA (aL (bQ K rfl) (by rfl) B.isinstance aQ (aA (pv 0) (aA (cB rfl (Y.m 5 rfl rfl)) aB))) (aA (aL (bQ K rfl) (by rfl) B.isinstance aQ (aA (pv 0) (aA (cB rfl (Y.m 6 rfl rfl)) aB))) (aA (aL (bQ K rfl) (by rfl) B.isinstance aQ (aA (pv 0) (aA (cB rfl (Y.m 7 rfl rfl)) aB))) aB))))))) (aI (aW (i:=1) fQ.nd rfl (Or.inl rfl) (bA lF (pv 1) (bP (aA (aL (bQ K rfl) (by rfl) B.isinstance aQ (aA (pv 0) (aA (cB rfl (Y.m 8 rfl rfl)) aB))) (aA (aL (bQ K rfl) (by rfl) B.isinstance aQ (aA (pv 0) (aA (cB rfl (Y.m 9 rfl rfl)) aB))) (aA (aL (bQ K rfl) (by rfl) B.isinstance aQ (aA (pv 0) (aA (cB rfl (Y.m 10 rfl rfl)) aB))) (aA (aL (bQ K rfl) (by rfl) B.isinstance aQ (aA (pv 0) (aA (cB rfl (Y.m 11 rfl rfl)) aB))) aB))))))) (aI (aW (i:=1) fQ.nd rfl (Or.inl rfl) (bA lF (pv 1) (bP (aA (aL (bQ K rfl) (by rfl) B.isinstance aQ (aA (pv 0) (aA (cB rfl (Y.m 12 rfl rfl)) aB))) (aA (aL (bQ K rfl) (by rfl) B.isinstance aQ (aA (pv 0) (aA (cB rfl (Y.m 13 rfl rfl)) aB))) (aA (aL (bQ K rfl) (by rfl) B.isinstance aQ (aA (pv 0) (aA (cB rfl (Y.m 14 rfl rfl)) aB))) (aA (aL (bQ K rfl) (by rfl) B.isinstance aQ (aA (pv 0) (aA (cB rfl (Y.m 15 rfl rfl)) aB))) aB))))))) (aJ (bO (bA lF (pv 1) (bP (aA (aL (bQ K rfl) (by rfl) B.isinstance aQ (aA (pv 0) (aA (cB rfl (Y.m 16 rfl rfl)) aB))) (aA (aL (bQ K rfl) (by rfl) B.isinstance aQ (aA (pv 0) (aA (cB rfl (Y.m 17 rfl rfl)) aB))) (aA (aL (bQ K rfl) (by rfl) B.isinstance aQ (aA (pv 0) (aA (cB rfl (Y.m 18 rfl rfl)) aB))) aB))))))))))),?_⟩
  try dsimp only[bX,bZ]
  refine⟨_,rfl,e,c,_,dx,fs,_,rfl,he,J,L,z 0 _ rfl,_,rfl,e,c,_,dx,fs,_,rfl,he,J,L,z 1 _ rfl,_,rfl,e,c,_,dx,fs,_,rfl,he,J,L,z 2 _ rfl,_,rfl,e,c,_,dx,fs,_,rfl,he,J,L,z 3 _ rfl,(show 4<=sizeLine by decide),λl1 h1=>?_⟩;refine aS h1 λH1 g1 M=>?_;have he:=g1 _ _ he;have J:=g1 _ _ J
  change H1 l1=some (.lst (flB 0 4 j))at M
  refine⟨_,rfl,_,rfl,e,c,_,dx,fs,_,rfl,he,J,L,z 4 _ rfl,_,rfl,e,c,_,dx,fs,_,rfl,he,J,L,z 5 _ rfl,_,rfl,e,c,_,dx,fs,_,rfl,he,J,L,z 6 _ rfl,_,rfl,e,c,_,dx,fs,_,rfl,he,J,L,z 7 _ rfl,(show 4<=sizeLine by decide),λp q=>?_⟩;refine aS q λH2 g2 ep=>?_
  change H2 p=some (.lst (flB 4 4 j))at ep
  refine⟨l1,p,_,_,rfl,rfl,g2 _ _ M,ep,dE (show 8<=10000 by decide),λl2 h2=>?_⟩;refine aS h2 λH3 g3 M=>?_;rw[tY 0 4 4 j]at M;have g4:=g2.trans g3;have he:=g4 _ _ he;have J:=g4 _ _ J;refine⟨_,rfl,_,rfl,e,c,_,dx,fs,_,rfl,he,J,L,z 8 _ rfl,_,rfl,e,c,_,dx,fs,_,rfl,he,J,L,z 9 _ rfl,_,rfl,e,c,_,dx,fs,_,rfl,he,J,L,z 10 _ rfl,_,rfl,e,c,_,dx,fs,_,rfl,he,J,L,z 11 _ rfl,(show 4<=sizeLine by decide),λp q=>?_⟩;refine aS q λH4 g5 ep=>?_
  change H4 p=some (.lst (flB 8 4 j))at ep
  refine⟨l2,p,_,_,rfl,rfl,g5 _ _ M,ep,dE (show 12<=10000 by decide),λl3 h3=>?_⟩;refine aS h3 λH5 g6 M=>?_;rw[tY 0 8 4 j]at M;have g7:=g5.trans g6;have he:=g7 _ _ he;have J:=g7 _ _ J;refine⟨_,rfl,_,rfl,e,c,_,dx,fs,_,rfl,he,J,L,z 12 _ rfl,_,rfl,e,c,_,dx,fs,_,rfl,he,J,L,z 13 _ rfl,_,rfl,e,c,_,dx,fs,_,rfl,he,J,L,z 14 _ rfl,_,rfl,e,c,_,dx,fs,_,rfl,he,J,L,z 15 _ rfl,(show 4<=sizeLine by decide),λp q=>?_⟩;refine aS q λH6 g8 ep=>?_
  change H6 p=some (.lst (flB 12 4 j))at ep
  refine⟨l3,p,_,_,rfl,rfl,g8 _ _ M,ep,dE (show 16<=10000 by decide),λl4 h4=>?_⟩;refine aS h4 λH7 g9 M=>?_;rw[tY 0 12 4 j]at M;have U:=g8.trans g9;have he:=U _ _ he;have J:=U _ _ J;refine⟨_,rfl,_,rfl,e,c,_,dx,fs,_,rfl,he,J,L,z 16 _ rfl,_,rfl,e,c,_,dx,fs,_,rfl,he,J,L,z 17 _ rfl,_,rfl,e,c,_,dx,fs,_,rfl,he,J,L,z 18 _ rfl,(show 3<=sizeLine by decide),λp q=>?_⟩;refine aS q λH8 aw ep=>?_
  change H8 p=some (.lst (flB 16 3 j))at ep
  refine⟨l4,p,_,_,rfl,rfl,aw _ _ M,ep,dE (show 19<=10000 by decide),λl5 h5=>?_⟩;refine aS h5 λH9 ax M=>?_;rw[tY 0 16 3 j]at M;exact k _ _ ((((g1.trans g4).trans g7).trans U).trans (aw.trans ax)) M
abbrev kY:Stmt:=top 104
def fZ:FnScope ["_law_which","_law_number","_law_flags_here","_law_e"] ["_law_which","_law_number"] (aG kY):=.of
def aAZ {f PT:Addr} {fd:FuncData} {X:cL K mg} {T:qB} (Y:n5 X T) (mV:mg "ValueError"=none) (F:Fun K "_law_raised" "_law_raised" kY f fd) (B:Bt mg) (J:dI P w K mg base "_law_call" 15 ["_law_which","_law_number"] (C7 X T PT)) (z:aCO P w K mg base "_law_flags" 1 ["_law_e"] (C6 X T)):FnOk P w K mg base CX0 16 f fd ["_law_which","_law_number"] (wF PT):=by
 refine F.g fZ λay A outer s H vs Q E hr h=>?_;obtain⟨k,n,rfl,hk,h0,h1,hT,q⟩:=h;refine⟨_,(aI (aW (i:=2) fZ.nd rfl (Or.inl rfl) (bP aB)) (tQ (l9 ⟨rfl,rfl,rfl⟩ (O0 (aCE J hr rfl (λ_=>(aA (pv 0) (aA (pv 1) aB))))) (aBw (i:=3) rfl X.m_err fZ.nd rfl rfl (λe=>(aJ (aW (i:=2) fZ.nd rfl (Or.inl rfl) (bA lF (aEa z (Room.mk' hr.h) rfl (aA (pv 3) aB)) (bP (aA (aL (V3 K rfl) (by rfl) B.isinstance aQ (aA (pv 3) (aA (aCh (v:=.ty "ValueError") rfl mV (by kernel_rfl) rfl) aB))) aB)))))) aE4)) (aJ (bO (pv 2))))),?_⟩
 try dsimp only[bX,bZ]
 refine⟨(show 0<=sizeLine by decide),λl0 aw=>aS aw λH1 g1 e1=>?_⟩;refine⟨λL H'=>∃ l,L=[some (.int k),some (.int n),some (.ref l),none]/\Q (.ref l) H',?_,?_⟩
 .refine⟨_,rfl,_,rfl,k,n,rfl,hk,h0,h1,hT.same g1,λc fs H2 hc gS T2 dx ax e he=>?_⟩;have g3:=(Same.upd (o:=.xd fs) ax).trans (Same.upd (o:=XH e (.ref c) (some dx)) he);have ex:(upd (upd H2 dx (.xd fs)) e (XH e (.ref c) (some dx))) dx=some (.xd fs):=(Same.upd he) _ _ aE;have ee:(upd (upd H2 dx (.xd fs)) e (XH e (.ref c) (some dx))) e=some (XH e (.ref c) (some dx)):=aE;have hm:=aG6 hc;refine⟨_,Y.exe c hm,aAw ⟨_,rfl,e,c,dx,fs,k,rfl,hc,ee,ex,λl H4 M el=>?_⟩⟩;refine⟨_,rfl,e,_,_,_,rfl,M _ _ ee,Y.kv c hm,(show 1<=sizeLine by decide),λp hp=>aS hp λH5 U ep=>?_⟩;refine⟨l,p,_,_,rfl,rfl,U _ _ el,ep,by rw[aD1];exact dE (show 20<=10000 by decide),λl5 h5=>?_⟩;have gg:=((g3.trans M).trans U).trans (Same.upd (o:=.lst (flB 0 19 k++[V.bl true])) h5);have gt:=(SameT.trans (Same.t g1) gS).trans (Same.t ((g3.trans M).trans U));exact⟨_,rfl,q _ _ ((SameT.trans (Same.t g1) gS).trans (Same.t gg)) (T2.same gg) (aD2 gt (T2.same ((g3.trans M).trans U)) h5) aE⟩
 .rintro L H' ⟨l,rfl,hq⟩;exact⟨_,rfl,hq⟩
abbrev o0:Stmt:=top 105
def xJ:FnScope ["_law_script","_law_numbers_here","_law_which","_law_number","_law_found"] ["_law_script"] (aG o0):=.of
def aEm {f PT:Addr} {fd:FuncData} {X:cL K mg} {T:qB} (F:Fun K "law" "law" o0 f fd) (B:Bt mg) (g1:sL K X.row "at") (g2:sL K T.trains "at") (g3:sL K T.sizes "at") (g4:sL K X.clash "at") (g5:sL K T.text "at")
 (ax:RAI P w K mg base "BadRow" X.row) (M:RAI P w K mg base "BadTrains" T.trains) (U:RAI P w K mg base "BadSizes" T.sizes) (ay:RAI P w K mg base "Clash" X.clash) (Y:RAI P w K mg base "BadText" T.text)
 (J:cZ P w K mg base "_law_numbers" 1 ["_law_script","_law_many"] (qY K)) (L:cZ P w K mg base "_law_raised" 16 ["_law_which","_law_number"] (wF PT)) :
 FnOk P w K mg base CX0 17 f fd ["_law_script"] (C1 K PT):=by
 refine F.ok xJ (λvs H Q E h=>?_) (λbi A outer s H vs Q E hr h=>?_)
 .obtain⟨a,ns,rfl,_⟩:=h;rfl
 .obtain⟨sa,sc,rfl,bc,hS,hlen,kk⟩:=h;have hu:=hr.units;refine⟨_,(aI (aW (i:=1) xJ.nd rfl (Or.inl rfl) (bU J hr rfl (aA (pv 0) (aA aK aB)))) (aI (dZ ia rfl (gU rfl B.range (aA aK aB)) (aM (i:=2) xJ.nd rfl (Or.inr rfl)) (aJ (bT (aV (aBB hu) (bU L hr rfl (aA (pv 2) (aA (dQ mU (pv 1) (pv 2) (λ_ _=>rfl)) aB))) (bA lF (fK ["_law_k"] ["_law_which"] [2] rfl (.of (show eC (aG o0) _ ["_law_script","_law_numbers_here","_law_which","_law_number","_law_found"] [2] ["_law_which"]=true by decide +kernel)) (gU rfl B.range (aA aK aB)) (λ_ _ _=>(aM (i:=0) (show (["_law_k","_law_which"]:List Str).Nodup by decide +kernel) rfl (Or.inl rfl))) (kA (by decide)) (λ_ _ _=>dY) (λ_ _ _=>(jY aBG (pv 1) (pv 0) (bE _)))) (bP (aA G4 aB))) (bE _)) (aJ (bO G4)) aY))) (aI (aW (i:=3) xJ.nd rfl (Or.inl rfl) (dQ mU (pv 1) aK (λ_ _=>rfl))) (aI (aW (i:=4) xJ.nd rfl (Or.inl rfl) (bP (aA (lT K rfl (lU ax hr rfl (aA (pv 3) aB)) rfl) (aA (lT K rfl (lU M hr rfl (aA (pv 3) aB)) rfl) (aA (lT K rfl (lU U hr rfl (aA (pv 3) aB)) rfl) (aA (lT K rfl (lU ay hr rfl (aA (pv 3) aB)) rfl) (aA (lT K rfl (lU Y hr rfl (aA (pv 3) aB)) rfl) aB))))))) (aJ (bO (jY (aEH hu) (pv 4) (bP (aA (pv 3) (aA (pv 3) (aA (pv 3) (aA (pv 3) (aA (pv 3) aB)))))) (bE _)))))))),?_⟩
  try dsimp only[bX,bZ]
  refine⟨_,rfl,sa,sc,22,rfl,hS,hlen,by decide,λl1 nums H1 bj az bn bf a_=>?_⟩;have bh:TabT V9 PT H1:=TabT.nil (bf _ _ bc);have bg:∀ i:Nat,i<22->∃ n,0<=n/\n<9967/\atI (nums.map V.int) (i:Int)=some (.int n):=λi hi=>by
   obtain⟨n,m,_,e⟩:=vB (ns:=nums) (i:=(i:Int)) (by lia) (by lia);exact⟨n,(az n m).1,(az n m).2,e⟩
  have nl:l1≠PT:=λz=>by rw[z,bf _ _ bc]at a_;cases a_
  refine⟨(19:Int),rfl,by lia,by lia,gW (lo:=0) (λi σ Hx=>∃ v2,σ=[some (.ref sa),some (.ref l1),v2,none,none]/\SameT PT H1 Hx/\TabT V9 PT Hx) ⟨none,rfl,SameT.refl,bh⟩ ?_ ?_⟩
  .rintro i σ Hx hi ⟨v2,rfl,gx,hT⟩;have aw:i<19:=by lia
   obtain⟨n,n0,n1,en⟩:=bg i (by lia);have ez:(0:Int)+(i:Int)=(i:Int):=by lia
   rw[ez];refine⟨_,rfl,_,rfl,_,rfl,l1,_,_,_,rfl,rfl,SqL.of (gx _ _ nl a_),en,i,n,rfl,aw,n0,n1,hT,λl H2 g2 T2 hn el=>?_⟩;refine⟨(19:Int),rfl,by lia,by lia,oG (lo:=0) (λj ys H3=>Same H2 H3/\ys=(List.range j).map λq=>V.bl (decide (q=i))) ⟨Same.refl _,rfl⟩ ?_ ?_ ?_⟩
   .rintro j ys H3 hj ⟨_,rfl⟩;rw[aGV,ko];exact qb (show j<=1000 by lia) (by decide)
   .rintro j ys H3 hj ⟨ba,rfl⟩;refine⟨_,rfl,_,rfl,_,_,rfl,rfl,ba,?_⟩;rw[tj,aGa];simp only[aGk,lr,List.append_cancel_left_eq,List.cons.injEq,and_true,V.bl.injEq,decide_eq_decide]
    lia
   .rintro ys H3 ⟨ba,rfl⟩ D hD;refine aS hD λH4 g4 e4=>⟨(show 1<=sizeLine by decide),λp hp=>aS hp λH5 g5 e5=>⟨D,p,_,_,rfl,rfl,g5 _ _ e4,e5,(by rw[aGV,ko];exact dE (show 20<=10000 by decide)),λr bb=>aS bb λH6 g6 e6=>?_⟩⟩;have gg:=((ba.trans g4).trans g5).trans g6;have e7:H6 r=some (.lst ((bL i).map V.bl)):=by rw[e6];unfold bL;rw[aGa,aGp];rfl
    have e8:H6 l=some (.lst ((bL i).map V.bl)):=by rw[<- aEd];exact gg _ _ el
    refine⟨_,_,.lst e8 (Dens.bls _),.lst e7 (Dens.bls _),(W0 i aw).2,(W0 i aw).2,?_⟩;rw[(W0 i aw).1];exact⟨false,rfl,uU ⟨_,rfl,gx.trans (g2.trans (Same.t gg)),T2.same gg⟩⟩
  .rintro σ Hx ⟨v2,rfl,gx,hT⟩;obtain⟨n,n0,n1,en⟩:=bg 20 (by lia);refine⟨_,rfl,l1,_,_,_,rfl,rfl,SqL.of (gx _ _ nl a_),en,?_⟩;have si:=C8 n0 n1;refine⟨_,rfl,mkI si λe1 d1 J1 s1 o1 x1=>⟨e1,_,d1,_,_,rfl,o1,x1,g1,rfl,_,rfl,mkI si λe2 d2 J2 s2 o2 x2=>⟨e2,_,d2,_,_,rfl,o2,x2,g2,rfl,_,rfl,mkI si λe3 d3 J3 s3 o3 x3=>⟨e3,_,d3,_,_,rfl,o3,x3,g3,rfl,_,rfl,mkI si λe4 d4 J4 s4 o4 x4=>⟨e4,_,d4,_,_,rfl,o4,x4,g4,rfl,_,rfl,mkI si λe5 d5 J5 s5 o5 x5=>⟨e5,_,d5,_,_,rfl,o5,x5,g5,rfl,?_⟩⟩⟩⟩⟩⟩;refine⟨(show 5<=sizeLine by decide),λp hp=>aS hp λH5 g5 ep=>?_⟩;refine⟨_,rfl,_,rfl,_,rfl,_,rfl,_,rfl,_,rfl,(show 5<=sizeLine by decide),λr bb=>aS bb λH6 g6 er=>?_⟩;refine⟨_,_,Den.ints (ns:=[n,n,n,n,n]) (g6 _ _ ep),Den.ints (ns:=[n,n,n,n,n]) er,(wG n).2,(wG n).2,?_⟩;rw[(wG n).1];exact kk _
end
def all_mk {l:PySem.W.OpenLaw} {w:World} {K:PySem.W.Frag} {h:Heap} {mg:Str->Option Value} {fa:Addr} {ts:List Addr} {PT:Addr} (hts:PT∈ts) (X:K.In h) (Gm:h.Ns mainGlobals mg) (hfa:mg "law"=some (.ref fa))
 {C_Road C_Course C_House:Addr}
 {C_TooMany I_TooMany C_BadRow I_BadRow C_BadCreel I_BadCreel C_BadTrains I_BadTrains C_BadSizes I_BadSizes C_BadNumber I_BadNumber C_TooNear I_TooNear C_Bare I_Bare C_BadName I_BadName C_Taken I_Taken C_Full I_Full C_NoRoad I_NoRoad C_Laid I_Laid C_NoStone I_NoStone C_NoEntry I_NoEntry C_NotWalk I_NotWalk C_Clash I_Clash C_NothingLeft I_NothingLeft C_BadText I_BadText C_CreelError I_CreelError:Addr} {j_TooMany j_BadRow j_BadCreel j_BadTrains j_BadSizes j_BadNumber j_TooNear j_Bare j_BadName j_Taken j_Full j_NoRoad j_Laid j_NoStone j_NoEntry j_NotWalk j_Clash j_NothingLeft j_BadText j_CreelError:FuncData}
 {cC:Addr}
 {f0:Addr} {d0:FuncData}
 {f1:Addr} {d1:FuncData}
 {f2:Addr} {d2:FuncData}
 {f3:Addr} {d3:FuncData}
 {f4:Addr} {d4:FuncData}
 {f5:Addr} {d5:FuncData}
 {f6:Addr} {d6:FuncData}
 {f7:Addr} {d7:FuncData}
 {f8:Addr} {d8:FuncData}
 {f9:Addr} {d9:FuncData}
 {f10:Addr} {d10:FuncData}
 {f11:Addr} {d11:FuncData}
 {f12:Addr} {d12:FuncData}
 {f13:Addr} {d13:FuncData}
 {f14:Addr} {d14:FuncData}
 {f15:Addr} {d15:FuncData}
 {f16:Addr} {d16:FuncData}
 {f17:Addr} {d17:FuncData}
 {f18:Addr} {d18:FuncData}
 {f19:Addr} {d19:FuncData}
 {f20:Addr} {d20:FuncData}
 {f21:Addr} {d21:FuncData}
 {f22:Addr} {d22:FuncData}
 {f23:Addr} {d23:FuncData}
 {f24:Addr} {d24:FuncData}
 {f25:Addr} {d25:FuncData}
 {f26:Addr} {d26:FuncData}
 {f27:Addr} {d27:FuncData}
 {f28:Addr} {d28:FuncData}
 {f29:Addr} {d29:FuncData}
 {f30:Addr} {d30:FuncData}
 {f31:Addr} {d31:FuncData}
 {f32:Addr} {d32:FuncData}
 {f33:Addr} {d33:FuncData}
 {f34:Addr} {d34:FuncData}
 {f35:Addr} {d35:FuncData}
 {f36:Addr} {d36:FuncData}
 {f37:Addr} {d37:FuncData}
 {f38:Addr} {d38:FuncData}
 {f39:Addr} {d39:FuncData}
 {f40:Addr} {d40:FuncData}
 {f41:Addr} {d41:FuncData}
 {f42:Addr} {d42:FuncData}
 {f43:Addr} {d43:FuncData}
 {f44:Addr} {d44:FuncData}
 {f45:Addr} {d45:FuncData}
 {f46:Addr} {d46:FuncData}
 {i_Road:Addr} {j_Road:FuncData}
 {i_Course:Addr} {j_Course:FuncData}
 {i_House:Addr} {j_House:FuncData}
 {m_do:Addr} {n_do:FuncData}
 {m_build:Addr} {n_build:FuncData}
 {m_walk:Addr} {n_walk:FuncData}
 {m_put:Addr} {n_put:FuncData}
 {m_take:Addr} {n_take:FuncData}
 {m_late:Addr} {n_late:FuncData}
 {m_strike:Addr} {n_strike:FuncData}
 {m_again:Addr} {n_again:FuncData}
 {m_row:Addr} {n_row:FuncData}
 {t_MOST_STONES:Tok}
 {t_FEW_WALKS:Tok}
 {t_REST_APART:Tok}
 {t_MOST_ROADS:Tok}
 {t_LETTERS:Tok}
 {t_MOST_LETTERS:Tok}
 {t_MOST_NICHES:Tok}
 {dD:Addr} {epD:Nat} {td0 td1 td2 td3 td4 td5 td6 td7 td8:Tok} {rd1 rd6:Addr}
 (hG:HcIn K C_Road C_Course C_House)
 (eT:aFd K "CreelError.__init__" fP C_CreelError I_CreelError j_CreelError)
 (e_TooMany:ErrD K "TooMany" "TooMany.__init__" iB C_CreelError C_TooMany I_TooMany j_TooMany)
 (e_BadRow:ErrA K "BadRow" "BadRow.__init__" jH C_CreelError C_BadRow I_BadRow j_BadRow)
 (e_BadCreel:ErrD K "BadCreel" "BadCreel.__init__" gJ C_CreelError C_BadCreel I_BadCreel j_BadCreel)
 (e_BadTrains:ErrA K "BadTrains" "BadTrains.__init__" fW C_CreelError C_BadTrains I_BadTrains j_BadTrains)
 (e_BadSizes:ErrA K "BadSizes" "BadSizes.__init__" gK C_CreelError C_BadSizes I_BadSizes j_BadSizes)
 (e_BadNumber:ErrD K "BadNumber" "BadNumber.__init__" fX C_CreelError C_BadNumber I_BadNumber j_BadNumber)
 (e_TooNear:ErrD K "TooNear" "TooNear.__init__" iC C_CreelError C_TooNear I_TooNear j_TooNear)
 (e_Bare:ErrD K "Bare" "Bare.__init__" mK C_CreelError C_Bare I_Bare j_Bare)
 (e_BadName:ErrD K "BadName" "BadName.__init__" iD C_CreelError C_BadName I_BadName j_BadName)
 (e_Taken:ErrD K "Taken" "Taken.__init__" kX C_CreelError C_Taken I_Taken j_Taken)
 (e_Full:ErrD K "Full" "Full.__init__" mL C_CreelError C_Full I_Full j_Full)
 (e_NoRoad:ErrD K "NoRoad" "NoRoad.__init__" jI C_CreelError C_NoRoad I_NoRoad j_NoRoad)
 (e_Laid:ErrD K "Laid" "Laid.__init__" mM C_CreelError C_Laid I_Laid j_Laid)
 (e_NoStone:ErrD K "NoStone" "NoStone.__init__" iE C_CreelError C_NoStone I_NoStone j_NoStone)
 (e_NoEntry:ErrD K "NoEntry" "NoEntry.__init__" iG C_CreelError C_NoEntry I_NoEntry j_NoEntry)
 (e_NotWalk:ErrD K "NotWalk" "NotWalk.__init__" iH C_CreelError C_NotWalk I_NotWalk j_NotWalk)
 (e_Clash:ErrA K "Clash" "Clash.__init__" kW C_CreelError C_Clash I_Clash j_Clash)
 (e_NothingLeft:ErrD K "NothingLeft" "NothingLeft.__init__" eW C_CreelError C_NothingLeft I_NothingLeft j_NothingLeft)
 (e_BadText:ErrA K "BadText" "BadText.__init__" iI C_CreelError C_BadText I_BadText j_BadText)
 (eV:oS K [C_TooMany,C_BadRow,C_BadCreel,C_BadTrains,C_BadSizes,C_BadNumber,C_TooNear,C_Bare,C_BadName,C_Taken,C_Full,C_NoRoad,C_Laid,C_NoStone,C_NoEntry,C_NotWalk,C_Clash,C_NothingLeft,C_BadText] [C_BadRow,C_BadTrains,C_BadSizes,C_Clash,C_BadText] C_CreelError C_Laid C_NoStone=true)
 (z_VE:PySem.W.nsIn K mainGlobals "ValueError"=some none)
 (h0:DefIn K "look_row" kH f0 d0)
 (h1:DefIn K "look_creel" gQ f1 d1)
 (h2:DefIn K "look_walks" kI f2 d2)
 (h3:DefIn K "walked" lZ f3 d3)
 (h4:DefIn K "look_trains" dX f4 d4)
 (h5:DefIn K "by_size" rL f5 d5)
 (h6:DefIn K "crowd" uB f6 d6)
 (h7:DefIn K "crowds" qH f7 d7)
 (h8:DefIn K "drop_last" mB f8 d8)
 (h9:DefIn K "add_train" mC f9 d9)
 (h10:DefIn K "add_stone" iV f10 d10)
 (h11:DefIn K "list_of" nG f11 d11)
 (h12:DefIn K "row_of" mF f12 d12)
 (h13:DefIn K "gain" E8 f13 d13)
 (h14:DefIn K "added" uC f14 d14)
 (h15:DefIn K "far" aCb f15 d15)
 (h16:DefIn K "look_niches" jC f16 d16)
 (h17:DefIn K "look_sizes" kK f17 d17)
 (h18:DefIn K "how_many" oV f18 d18)
 (h19:DefIn K "behind" wR f19 d19)
 (h20:DefIn K "row_behind_walks" dP f20 d20)
 (h21:DefIn K "row_now" rN f21 d21)
 (h22:DefIn K "with_stone" kL f22 d22)
 (h23:DefIn K "without_stone" gI f23 d23)
 (h24:DefIn K "row_behind" kM f24 d24)
 (h25:DefIn K "add_walk" oX f25 d25)
 (h26:DefIn K "go_on" F2 f26 d26)
 (h27:DefIn K "is_rest" rP f27 d27)
 (h28:DefIn K "new_road" oY f28 d28)
 (h29:DefIn K "with_entry" kN f29 d29)
 (h30:DefIn K "with_log" kO f30 d30)
 (h31:DefIn K "is_made_of" gT f31 d31)
 (h32:DefIn K "is_name" rQ f32 d32)
 (h33:DefIn K "road_named" kP f33 d33)
 (h34:DefIn K "with_road" mG f34 d34)
 (h35:DefIn K "built" F5 f35 d35)
 (h36:DefIn K "entered" rR f36 d36)
 (h37:DefIn K "found_late" kR f37 d37)
 (h38:DefIn K "struck" wZ f38 d38)
 (h39:DefIn K "roads_behind" hZ f39 d39)
 (h40:DefIn K "read_page" mJ f40 d40)
 (h41:DefIn K "_law_numbers" jJ f41 d41)
 (h42:DefIn K "_law_house" mS f42 d42)
 (h43:DefC K "_law_call" eX f43 d43 cC)
 (h44:DefIn K "_law_flags" mT f44 d44)
 (h45:DefIn K "_law_raised" kY f45 d45)
 (h46:DefIn K "law" o0 f46 d46)
 (hi_Road:InitIn K C_Road "Road.__init__" gH i_Road j_Road)
 (hi_Course:InitIn K C_Course "Course.__init__" fO i_Course j_Course)
 (hi_House:InitIn K C_House "House.__init__" fV i_House j_House)
 (hm_do:MethIn K C_House "do" "House.do" oZ m_do n_do)
 (hm_build:MethIn K C_House "build" "House.build" jF m_build n_build)
 (hm_walk:MethIn K C_House "walk" "House.walk" kS m_walk n_walk)
 (hm_put:MethIn K C_House "put" "House.put" mH m_put n_put)
 (hm_take:MethIn K C_House "take" "House.take" kT m_take n_take)
 (hm_late:MethIn K C_House "late" "House.late" kU m_late n_late)
 (hm_strike:MethIn K C_House "strike" "House.strike" iA m_strike n_strike)
 (hm_again:MethIn K C_House "again" "House.again" jG m_again n_again)
 (hm_row:MethIn K C_House "row" "House.row" mI m_row n_row)
 (z_len:PySem.W.nsIn K mainGlobals "len"=some none)
 (z_range:PySem.W.nsIn K mainGlobals "range"=some none)
 (z_list:PySem.W.nsIn K mainGlobals "list"=some none)
 (z_tuple:PySem.W.nsIn K mainGlobals "tuple"=some none)
 (z_bool:PySem.W.nsIn K mainGlobals "bool"=some none)
 (z_str:PySem.W.nsIn K mainGlobals "str"=some none)
 (z_int:PySem.W.nsIn K mainGlobals "int"=some none)
 (z_isinstance:PySem.W.nsIn K mainGlobals "isinstance"=some none)
 (z_all:PySem.W.nsIn K mainGlobals "all"=some none)
 (z_sorted:PySem.W.nsIn K mainGlobals "sorted"=some none)
 (z_max:PySem.W.nsIn K mainGlobals "max"=some none)
 (z_min:PySem.W.nsIn K mainGlobals "min"=some none)
 (z_set:PySem.W.nsIn K mainGlobals "set"=some none)
 (z_reversed:PySem.W.nsIn K mainGlobals "reversed"=some none)
 (z_sum:PySem.W.nsIn K mainGlobals "sum"=some none)
 (z_enumerate:PySem.W.nsIn K mainGlobals "enumerate"=some none)
 (z_zip:PySem.W.nsIn K mainGlobals "zip"=some none)
 (z_any:PySem.W.nsIn K mainGlobals "any"=some none)
 (z_abs:PySem.W.nsIn K mainGlobals "abs"=some none)
 (z_dict:PySem.W.nsIn K mainGlobals "dict"=some none)
 (y_MOST_STONES:PySem.W.nsIn K mainGlobals "MOST_STONES"=some (some (.int 60 t_MOST_STONES)))
 (y_FEW_WALKS:PySem.W.nsIn K mainGlobals "FEW_WALKS"=some (some (.int 10 t_FEW_WALKS)))
 (y_REST_APART:PySem.W.nsIn K mainGlobals "REST_APART"=some (some (.int 16 t_REST_APART)))
 (y_MOST_ROADS:PySem.W.nsIn K mainGlobals "MOST_ROADS"=some (some (.int 8 t_MOST_ROADS)))
 (y_LETTERS:PySem.W.nsIn K mainGlobals "LETTERS"=some (some (.str "abcdefghijklmnopqrstuvwxyz" t_LETTERS)))
 (y_MOST_LETTERS:PySem.W.nsIn K mainGlobals "MOST_LETTERS"=some (some (.int 8 t_MOST_LETTERS)))
 (y_MOST_NICHES:PySem.W.nsIn K mainGlobals "MOST_NICHES"=some (some (.int 200 t_MOST_NICHES)))
 (aD:PySem.W.nsIn K mainGlobals "DEEDS"=some (some (.ref dD)))
 (lD:K.lookup dD=some ⟨.type "dict",none,.dict #[⟨PyData.keyHash w.params "build",.str "build" td0,.ref f35⟩,⟨PyData.keyHash w.params "shut",.str "shut" td1,.ref rd1⟩,⟨PyData.keyHash w.params "walk",.str "walk" td2,.ref f36⟩,⟨PyData.keyHash w.params "put",.str "put" td3,.ref f36⟩,⟨PyData.keyHash w.params "take",.str "take" td4,.ref f36⟩,⟨PyData.keyHash w.params "mirror",.str "mirror" td5,.ref f36⟩,⟨PyData.keyHash w.params "lay",.str "lay" td6,.ref rd6⟩,⟨PyData.keyHash w.params "late",.str "late" td7,.ref f37⟩,⟨PyData.keyHash w.params "strike",.str "strike" td8,.ref f38⟩] epD,#[]⟩)
 (sysD:(dD == sysModules)=false)
 (hcp:PySem.W.codeHdIn K cC PT=true)
 (hlp:K.lookup PT=none) :
 ∃ (fd:FuncData) (c P:Addr),P∈ts/\PySem.W.codeHdIn K c P=true/\K.lookup P=none/\(∀ (s:Shared) (v:Value),BindsTo s fd ⟨[v],[]⟩ [("_law_script",v)])/\∀ base:Heap,K.In base->base.Ns mainGlobals mg->nR mg base->PySem.W.CodeHd base c P->FnOk l.prog w K mg base CX0 17 fa fd ["_law_script"] (C1 K P):=by
 have e:=hfa.symm.trans (ik X Gm h46.a);cases e;have B:Bt mg:=⟨ge X Gm z_len,ge X Gm z_range,ge X Gm z_list,ge X Gm z_tuple,ge X Gm z_bool,ge X Gm z_str,ge X Gm z_int,ge X Gm z_isinstance,ge X Gm z_all,ge X Gm z_sorted,ge X Gm z_max,ge X Gm z_min,ge X Gm z_set,ge X Gm z_reversed,ge X Gm z_sum,ge X Gm z_enumerate,ge X Gm z_zip,ge X Gm z_any,ge X Gm z_abs⟩;have B6:Bt6 mg:=⟨ge X Gm z_dict⟩;have C:Cn mg t_MOST_STONES:=⟨ik X Gm y_MOST_STONES⟩;have C2:Cn2 mg t_MOST_NICHES:=⟨ik X Gm y_MOST_NICHES⟩;have C3:Cn3 mg t_FEW_WALKS t_REST_APART t_MOST_ROADS:=⟨ik X Gm y_FEW_WALKS,ik X Gm y_REST_APART,ik X Gm y_MOST_ROADS⟩;have WL:Wl mg:=⟨⟨_,ik X Gm y_LETTERS⟩,⟨_,ik X Gm y_MOST_LETTERS⟩⟩;have mD:=ik X Gm aD;have mV:=ge X Gm z_VE;obtain⟨kvD,DD,v_build,v_shut,v_walk,v_put,v_take,v_mirror,v_lay,v_late,v_strike⟩:=aCI (P:=l.prog) (w:=w) lD sysD
 let G:Hc K:=hG.g
 have mE:=ik X Gm eT.a
 let XE:cL K mg:=⟨C_TooMany,C_BadRow,C_BadCreel,C_TooNear,C_Bare,C_BadName,C_Taken,C_Full,C_NoRoad,C_Laid,C_NoStone,C_NoEntry,C_NotWalk,C_Clash,C_NothingLeft,C_CreelError,e_BadRow.mm X Gm,e_Clash.mm X Gm,e_Laid.mm X Gm,e_NoStone.mm X Gm,mE⟩
 let TE:qB:=⟨C_BadTrains,C_BadSizes,C_BadNumber,C_BadText⟩
 have XC:aEb XE:=aEg eV;have Y:n5 XE TE:=aEh eV (.cons (e_TooMany.mm X Gm) (.cons (e_BadRow.mm X Gm) (.cons (e_BadCreel.mm X Gm) (.cons (e_BadTrains.mm X Gm) (.cons (e_BadSizes.mm X Gm) (.cons (e_BadNumber.mm X Gm) (.cons (e_TooNear.mm X Gm) (.cons (e_Bare.mm X Gm) (.cons (e_BadName.mm X Gm) (.cons (e_Taken.mm X Gm) (.cons (e_Full.mm X Gm) (.cons (e_NoRoad.mm X Gm) (.cons (e_Laid.mm X Gm) (.cons (e_NoStone.mm X Gm) (.cons (e_NoEntry.mm X Gm) (.cons (e_NotWalk.mm X Gm) (.cons (e_Clash.mm X Gm) (.cons (e_NothingLeft.mm X Gm) (.cons (e_BadText.mm X Gm) .nil)))))))))))))))))));have bl:∀ (s:Shared) (v:Value),BindsTo s d46 ⟨[v],[]⟩ [("_law_script",v)]:=by
  obtain⟨_,_,_,_,_,_,_,_,_,rfl,_,_⟩:=h46.F.ex;exact λs v=>.of_eq rfl
 refine⟨d46,cC,PT,hts,hcp,hlp,bl,λbase _ _ hbm hC=>?_⟩;have OH:=nJ (P:=l.prog) (w:=w) (mg:=mg) (base:=base) eT.F mV;have OB:=OH.fn;have R_TooMany:=aAS X Gm eT.o OB eT.b mE e_TooMany;have R_BadRow:=aCc X Gm eT.o OB eT.b mE e_BadRow;have R_BadCreel:=X4 X Gm eT.o OB eT.b mE e_BadCreel;have R_BadTrains:=Q0 X Gm eT.o OB eT.b mE e_BadTrains;have R_BadSizes:=X5 X Gm eT.o OB eT.b mE e_BadSizes;have R_BadNumber:=Q3 X Gm eT.o OB eT.b mE e_BadNumber;have R_TooNear:=aAT X Gm eT.o OB eT.b mE e_TooNear;have R_Bare:=aEj X Gm eT.o OB eT.b mE e_Bare;have R_BadName:=aAU X Gm eT.o OB eT.b mE e_BadName;have R_Taken:=aDb X Gm eT.o OB eT.b mE e_Taken;have R_Full:=aEk X Gm eT.o OB eT.b mE e_Full;have R_NoRoad:=aCd X Gm eT.o OB eT.b mE e_NoRoad;have R_Laid:=aEl X Gm eT.o OB eT.b mE e_Laid;have R_NoStone:=aAV X Gm eT.o OB eT.b mE e_NoStone;have R_NoEntry:=aAW X Gm eT.o OB eT.b mE e_NoEntry;have R_NotWalk:=aAX X Gm eT.o OB eT.b mE e_NotWalk;have OC:=xG e_Clash.F eT.o OH eT.b mE e_Clash.x e_Clash.s e_Clash.t;have RH_Clash:nE l.prog w K mg base "Clash" XE.clash ["self","at"] (V4 "Clash" XE.clash):=e_Clash.rH X Gm OC;have R_Clash:RaisesAs l.prog w K mg base "Clash" XE.clash ["self","at"] (V4 "Clash" XE.clash):=e_Clash.r X Gm OC.fn;have R_NothingLeft:=yF X Gm eT.o OB eT.b mE e_NothingLeft;have R_BadText:=aAY X Gm eT.o OB eT.b mE e_BadText;have N_Road:jP l.prog w K mg base "Road" C_Road 1 ["self","entries","rests","course"] (nD G):=hi_Road.at (ik X Gm hG.aR) (hi_Road.F.binds4 (p1:="self") (p2:="entries") (p3:="rests") (p4:="course") λ_ _ _ _ _ _ _ _ _ _=>rfl) (F0 G hi_Road.F);have N_Course:jP l.prog w K mg base "Course" C_Course 1 ["self","rested","walks","turned"] (oO G):=hi_Course.at (ik X Gm hG.aC) (hi_Course.F.binds4 (p1:="self") (p2:="rested") (p3:="walks") (p4:="turned") λ_ _ _ _ _ _ _ _ _ _=>rfl) (wS G hi_Course.F);have N_House:jP l.prog w K mg base "House" C_House 1 ["self"] (jT G):=hi_House.at (ik X Gm hG.aH) (hi_House.F.binds1 (p1:="self") λ_ _ _ _ _ _ _=>rfl) (xS G hi_House.F);have t0:=h0.d5 l.prog w base X Gm (h0.F.binds1 (p1:="row") λ_ _ _ _ _ _ _=>rfl);have A_look_row:=t0.fn (P3 h0.F B C);have A_look_rowL:cZ l.prog w K mg base "look_row" 1 ["row"] zW:=t0.fn ((P3 h0.F B C).imp λ_ _ _ _=>aE8);have AX_look_row:=t0.fx (aC6 h0.F B C XE R_TooMany R_BadRow);have t1:=h1.d5 l.prog w base X Gm (h1.F.binds1 (p1:="creel") λ_ _ _ _ _ _ _=>rfl);have A_look_creel:=t1.fn (xQ h1.F B);have AX_look_creel:=t1.fx (wL h1.F B XE R_BadCreel);have t2:=h2.d5 l.prog w base X Gm (h2.F.binds1 (p1:="walks") λ_ _ _ _ _ _ _=>rfl);have A_look_walks:=t2.fn (xR h2.F B A_look_creel);have t3:=h3.d5 l.prog w base X Gm (h3.F.binds2 (p1:="row") (p2:="creel") λ_ _ _ _ _ _ _ _=>rfl);have A_walked:=t3.fn (aAM h3.F B A_look_rowL A_look_creel);have AX_walked:=t3.fx (W5 h3.F B XE A_look_row AX_look_creel);have t4:=h4.d5 l.prog w base X Gm (h4.F.binds1 (p1:="trains") λ_ _ _ _ _ _ _=>rfl);have A_look_trains:=t4.fn (wM h4.F B C);have AX_look_trains:=t4.fx (sV h4.F B C XE TE R_TooMany R_BadTrains);have t5:=h5.d5 l.prog w base X Gm (h5.F.binds1 (p1:="trains") λ_ _ _ _ _ _ _=>rfl);have A_by_size:=t5.fn (W6 h5.F B);have t6:=h6.d5 l.prog w base X Gm (h6.F.binds2 (p1:="offsets") (p2:="size") λ_ _ _ _ _ _ _ _=>rfl);have A_crowd:=t6.fn (aC8 h6.F B);have t7:=h7.d5 l.prog w base X Gm (h7.F.binds1 (p1:="offsets") λ_ _ _ _ _ _ _=>rfl);have A_crowds:=t7.fn (aAN h7.F B);have t8:=h8.d5 l.prog w base X Gm (h8.F.binds2 (p1:="offsets") (p2:="size") λ_ _ _ _ _ _ _ _=>rfl);have A_drop_last:=t8.fn (E5 h8.F B)
 have t9:=h9.d5 l.prog w base X Gm (h9.F.binds3 (p1:="offsets") (p2:="size") (p3:="place") λ_ _ _ _ _ _ _ _ _=>rfl);have A_add_train:=t9.fn (E6 h9.F B A_crowd);have t10:=h10.d5 l.prog w base X Gm (h10.F.binds2 (p1:="offsets") (p2:="place") λ_ _ _ _ _ _ _ _=>rfl);have A_add_stone:=t10.fn (E7 h10.F B A_crowds A_drop_last A_add_train);have t11:=h11.d5 l.prog w base X Gm (h11.F.binds1 (p1:="row") λ_ _ _ _ _ _ _=>rfl);have A_list_of:=t11.fn (W7 h11.F B A_look_row A_add_stone);have t12:=h12.d5 l.prog w base X Gm (h12.F.binds1 (p1:="trains") λ_ _ _ _ _ _ _=>rfl);have A_row_of:=t12.fn (aAO h12.F B A_look_trains A_by_size A_crowds A_drop_last A_add_train);have AX_row_of:=t12.fx (W8 h12.F B XE TE AX_look_trains);have t13:=h13.d5 l.prog w base X Gm (h13.F.binds2 (p1:="walks") (p2:="size") λ_ _ _ _ _ _ _ _=>rfl);have A_gain:=t13.fn (aD7 h13.F B);have t14:=h14.d5 l.prog w base X Gm (h14.F.binds2 (p1:="trains") (p2:="walks") λ_ _ _ _ _ _ _ _=>rfl);have A_added:=t14.fn (aCa h14.F B A_look_trains A_look_walks A_gain);have t15:=h15.d5 l.prog w base X Gm (h15.F.binds2 (p1:="row") (p2:="walks") λ_ _ _ _ _ _ _ _=>rfl);have A_far:=t15.fn (aD8 h15.F B A_list_of A_added A_row_of);have t16:=h16.d5 l.prog w base X Gm (h16.F.binds1 (p1:="niches") λ_ _ _ _ _ _ _=>rfl);have AX_look_niches:=t16.fx (sW h16.F B C2 TE R_BadNumber);have t17:=h17.d5 l.prog w base X Gm (h17.F.binds1 (p1:="sizes") λ_ _ _ _ _ _ _=>rfl);have AX_look_sizes:=t17.fx (wQ h17.F B C XE TE R_TooMany R_BadSizes);have t18:=h18.d5 l.prog w base X Gm (h18.F.binds2 (p1:="niches") (p2:="sizes") λ_ _ _ _ _ _ _ _=>rfl);have AX_how_many:=t18.fx (E9 h18.F B TE AX_look_niches AX_look_sizes);have t19:=h19.d5 l.prog w base X Gm (h19.F.binds3 (p1:="one") (p2:="other") (p3:="gap") λ_ _ _ _ _ _ _ _ _=>rfl);have AX_behind:=t19.fx (W9 h19.F B C XE A_look_row R_Bare R_TooMany R_TooNear);have t20:=h20.d5 l.prog w base X Gm (h20.F.binds2 (p1:="rested") (p2:="walks") λ_ _ _ _ _ _ _ _=>rfl);have A_row_behind_walks:=t20.fn (aD9 h20.F B C3 A_far A_walked);have t21:=h21.d5 l.prog w base X Gm (h21.F.binds1 (p1:="course") λ_ _ _ _ _ _ _=>rfl);have A_row_now:=t21.fn (P5 G h21.F B A_row_behind_walks);have t22:=h22.d5 l.prog w base X Gm (h22.F.binds2 (p1:="row") (p2:="place") λ_ _ _ _ _ _ _ _=>rfl);have AX_with_stone:=t22.fx (wU h22.F B C XE R_Laid R_TooMany);have t23:=h23.d5 l.prog w base X Gm (h23.F.binds2 (p1:="row") (p2:="place") λ_ _ _ _ _ _ _ _=>rfl);have AX_without_stone:=t23.fx (qK h23.F B XE R_NoStone);have t24:=h24.d5 l.prog w base X Gm (h24.F.binds2 (p1:="row") (p2:="entry") λ_ _ _ _ _ _ _ _=>rfl);have AX_row_behind:=t24.fx (wV h24.F B XE AX_with_stone AX_without_stone);have t25:=h25.d5 l.prog w base X Gm (h25.F.binds3 (p1:="course") (p2:="creel") (p3:="count") λ_ _ _ _ _ _ _ _ _=>rfl);have A_add_walk:=t25.fn (F1 G h25.F B C A_look_creel);have t26:=h26.d5 l.prog w base X Gm (h26.F.binds2 (p1:="course") (p2:="entry") λ_ _ _ _ _ _ _ _=>rfl);have AX_go_on:=t26.fx (aAQ XE G h26.F B A_add_walk AX_row_behind A_row_now);have t27:=h27.d5 l.prog w base X Gm (h27.F.binds3 (p1:="rests") (p2:="number") (p3:="entry") λ_ _ _ _ _ _ _ _ _=>rfl);have A_is_rest:=t27.fn (P7 h27.F B C3);have t28:=h28.d5 l.prog w base X Gm (h28.F.binds1 (p1:="row") λ_ _ _ _ _ _ _=>rfl);have A_new_road:=t28.fn (F3 G h28.F B N_Road N_Course);have t29:=h29.d5 l.prog w base X Gm (h29.F.binds2 (p1:="road") (p2:="entry") λ_ _ _ _ _ _ _ _=>rfl);have AX_with_entry:=t29.fx (wW XE G h29.F B B6 N_Road N_Course AX_go_on A_is_rest);have t30:=h30.d5 l.prog w base X Gm (h30.F.binds3 (p1:="road") (p2:="at") (p3:="entries") λ_ _ _ _ _ _ _ _ _=>rfl);have AX_with_log:=t30.fx (F4 XE XC G h30.F B N_Course RH_Clash AX_go_on A_is_rest)
 have t31:=h31.d5 l.prog w base X Gm (h31.F.binds3 (p1:="text") (p2:="signs") (p3:="most") λ_ _ _ _ _ _ _ _ _=>rfl);have A_is_made_of:=t31.fn (aDa h31.F B);have t32:=h32.d5 l.prog w base X Gm (h32.F.binds1 (p1:="text") λ_ _ _ _ _ _ _=>rfl);have A_is_name:=t32.fn (X2 h32.F B WL A_is_made_of);have t33:=h33.d5 l.prog w base X Gm (h33.F.binds2 (p1:="roads") (p2:="name") λ_ _ _ _ _ _ _ _=>rfl);have AX_road_named:=t33.fx (wX XE h33.F B R_NoRoad);have t34:=h34.d5 l.prog w base X Gm (h34.F.binds3 (p1:="roads") (p2:="name") (p3:="road") λ_ _ _ _ _ _ _ _ _=>rfl);have A_with_road:=t34.fn (xW h34.F B B6);have t35:=h35.d5 l.prog w base X Gm (h35.F.binds2 (p1:="roads") (p2:="deed") λ_ _ _ _ _ _ _ _=>rfl);have RX_built:oP l.prog w K mg base f35 10 ["roads","deed"] (fN XE G .build):=t35.refX (aAR XE G h35.F B C3 A_is_name A_look_row A_new_road A_with_road R_BadName R_Taken R_Full);have t36:=h36.d5 l.prog w base X Gm (h36.F.binds2 (p1:="roads") (p2:="deed") λ_ _ _ _ _ _ _ _=>rfl);have RX_entered:oP l.prog w K mg base f36 10 ["roads","deed"] (fN XE G .ent):=t36.refX (P9 XE G h36.F B AX_road_named A_with_road AX_with_entry);have t37:=h37.d5 l.prog w base X Gm (h37.F.binds2 (p1:="roads") (p2:="deed") λ_ _ _ _ _ _ _ _=>rfl);have RX_found_late:oP l.prog w K mg base f37 10 ["roads","deed"] (fN XE G .late):=t37.refX (wY XE G h37.F B AX_road_named A_look_creel A_with_road AX_with_log R_NoEntry);have t38:=h38.d5 l.prog w base X Gm (h38.F.binds2 (p1:="roads") (p2:="deed") λ_ _ _ _ _ _ _ _=>rfl);have RX_struck:oP l.prog w K mg base f38 10 ["roads","deed"] (fN XE G .strike):=t38.refX (X3 XE G h38.F B AX_road_named R_NoEntry R_NotWalk);have t39:=h39.d5 l.prog w base X Gm (h39.F.binds2 (p1:="roads") (p2:="deed") λ_ _ _ _ _ _ _ _=>rfl);have AX_roads_behind:=t39.fx (rS XE G h39.F B DD mD (jV ⟨_,v_build,RX_built⟩ (jV ⟨_,v_walk,RX_entered⟩ (jV ⟨_,v_put,RX_entered⟩ (jV ⟨_,v_take,RX_entered⟩ (jV ⟨_,v_late,RX_found_late⟩ (jV ⟨_,v_strike,RX_struck⟩ (λ_ h=>nomatch h))))))));have M_do:bN l.prog w K mg base C_House "do" 12 ["self","deed"] (qE XE G):=hm_do.atX (hm_do.F.binds2 (p1:="self") (p2:="deed") λ_ _ _ _ _ _ _ _=>rfl) (F6 XE G hm_do.F B AX_roads_behind)
 have M_build:bN l.prog w K mg base C_House "build" 13 ["self","name","row"] (lX XE G):=hm_build.atX (hm_build.F.binds3 (p1:="self") (p2:="name") (p3:="row") λ_ _ _ _ _ _ _ _ _=>rfl) (sX XE G hm_build.F B M_do);have M_walk:bN l.prog w K mg base C_House "walk" 13 ["self","name","creel","count"] (dC XE G "walk" 3):=hm_walk.atX (hm_walk.F.binds4 (p1:="self") (p2:="name") (p3:="creel") (p4:="count") λ_ _ _ _ _ _ _ _ _ _=>rfl) (xC XE G hm_walk.F B M_do);have M_put:bN l.prog w K mg base C_House "put" 13 ["self","name","place"] (dC XE G "put" 2):=hm_put.atX (hm_put.F.binds3 (p1:="self") (p2:="name") (p3:="place") λ_ _ _ _ _ _ _ _ _=>rfl) (xY XE G hm_put.F B M_do);have M_take:bN l.prog w K mg base C_House "take" 13 ["self","name","place"] (dC XE G "take" 2):=hm_take.atX (hm_take.F.binds3 (p1:="self") (p2:="name") (p3:="place") λ_ _ _ _ _ _ _ _ _=>rfl) (xD XE G hm_take.F B M_do);have M_late:bN l.prog w K mg base C_House "late" 13 ["self","name","at","creel","count"] (dC XE G "late" 4):=hm_late.atX (hm_late.F.binds (ps:=["self","name","at","creel","count"]) λ_ _ _ _ _ _ us hl=>match us,hl with | [_,_,_,_,_],_=>rfl) (xE XE G hm_late.F B M_do);have M_strike:bN l.prog w K mg base C_House "strike" 13 ["self","name","at"] (dC XE G "strike" 2):=hm_strike.atX (hm_strike.F.binds3 (p1:="self") (p2:="name") (p3:="at") λ_ _ _ _ _ _ _ _ _=>rfl) (rT XE G hm_strike.F B M_do);have M_again:bN l.prog w K mg base C_House "again" 4 ["self"] (qF XE G):=hm_again.atX (hm_again.F.binds1 (p1:="self") λ_ _ _ _ _ _ _=>rfl) (sZ XE G hm_again.F B R_NothingLeft);have M_row:bN l.prog w K mg base C_House "row" 8 ["self","name"] (D5 XE G):=hm_row.atX (hm_row.F.binds2 (p1:="self") (p2:="name") λ_ _ _ _ _ _ _ _=>rfl) (yB XE G hm_row.F B AX_road_named A_row_now);have t40:=h40.d5 l.prog w base X Gm (h40.F.binds1 (p1:="text") λ_ _ _ _ _ _ _=>rfl);have AX_read_page:=t40.fx (yC G TE h40.F B N_House R_BadText);have t41:=h41.d5 l.prog w base X Gm (h41.F.binds2 (p1:="_law_script") (p2:="_law_many") λ_ _ _ _ _ _ _ _=>rfl);have A_law_numbers:=t41.fn (X6 h41.F B);have t42:=h42.d5 l.prog w base X Gm (h42.F.binds1 (p1:="_law_name") λ_ _ _ _ _ _ _=>rfl);have AX_law_house:=t42.fx (X7 XE G h42.F B N_House M_build M_walk M_put);have t43:=h43.d5 l.prog w base X Gm (h43.F.binds2 (p1:="_law_which") (p2:="_law_number") λ_ _ _ _ _ _ _ _=>rfl);have AX_law_call:=t43.fx (aCe G h43.G hC hbm B AX_law_house AX_row_of AX_look_row AX_walked AX_how_many AX_behind AX_read_page M_build M_put M_take M_late M_strike M_again M_row);have t44:=h44.d5 l.prog w base X Gm (h44.F.binds1 (p1:="_law_e") λ_ _ _ _ _ _ _=>rfl);have A_law_flags:=t44.fh (aCf Y h44.F B);have t45:=h45.d5 l.prog w base X Gm (h45.F.binds2 (p1:="_law_which") (p2:="_law_number") λ_ _ _ _ _ _ _ _=>rfl);have A_law_raised:=t45.fn (aAZ Y mV h45.F B AX_law_call A_law_flags);exact aEm (X:=XE) (T:=TE) h46.F B (qG eV (.head _)) (qG eV (.tail _ (.head _))) (qG eV (.tail _ (.tail _ (.head _)))) (qG eV (.tail _ (.tail _ (.tail _ (.head _))))) (qG eV (.tail _ (.tail _ (.tail _ (.tail _ (.head _)))))) R_BadRow R_BadTrains R_BadSizes R_Clash R_BadText A_law_numbers A_law_raised
def walk {l:PySem.W.OpenLaw} {q:Program} {loose:List Str} {XP:(Str->Option Value)->Heap->Prop} {YP:World->Heap->Prop} {d:DefRec} {K:Params->PySem.W.Frag} (hn:l.most=some 63) (hdf:d.params.defaults=[]) {ts:List Addr}
 (hY:∀ (w:World) (h:Heap),YP w h->(K w.params).In h) (hTab:∀ (w:World) (h:Heap),YP w h->∀ P∈ts,h.get? P=some (PySem.W.tabObj #[]))
 (F:∀ (w:World) (mg:Str->Option Value) (fa:Addr) (h:Heap),(K w.params).In h->h.Ns mainGlobals mg->mg d.name=some (.ref fa) ->
  ∃ (fd:FuncData) (c P:Addr),P∈ts/\PySem.W.codeHdIn (K w.params) c P=true/\(K w.params).lookup P=none/\(∀ (s:Shared) (v:Value),BindsTo s fd ⟨[v],[]⟩ [("_law_script",v)])/\∀ base:Heap,(K w.params).In base->base.Ns mainGlobals mg->nR mg base->PySem.W.CodeHd base c P->FnOk l.prog w (K w.params) mg base CX0 17 fa fd ["_law_script"] (C1 (K w.params) P)) :
 PySem.W.WalkO q loose XP YP l.row.toRowW d [] (λf vs=>PySem.call f vs) :=
 L2.walk_ofT (n:=63) (k:=17) (x:="_law_script") (CX:=λ_=>CX0) (sp:=λw P=>C1 (K w.params) P) hn (by decide) hdf ⟨rfl,by decide,by decide⟩ hY hTab F (λ_ P H a ns hl hP hS=>⟨a,ns,rfl,hP,hS,hl,λ_=>rfl⟩) λ_ _ _ _ _ z=>z
end CW
inductive PySem.W.Fast|tw10028154214466997329|tw10994912042862499663|tw11498439047101764504|tw4327857862013820639|tw9602807904593645921|tw13789309816330332285|tw656071300866296310|tw10812815166001405453|tw18403937600827896335|tw4104973219813319654|tw386720881978304051|tw15274422023822622141|tw18068539150218180333|tw11821708321096078296|tw5732528960810497768|tw15049186070520427100|tw10776092988347223564|tw6600229441979177209|tw9413181061752581728|tw6055934941083321470|tw15993500606819346577|tw1513863452068171713|tw8834581832695288544|tw11890666048197897290|tw6177511855131279833|tw12554304936589957284|tw15813466938356947591|tw8055171322085226611|tw1240730498946374872|tw15957810163949006274|tw11467589793050569741|tw14047864357071930766|tw7143420929188090088|tw14506302477658977832|tw15473425342978509045|tw13362661239485065160|tw1544350673150736493|tw11021953107258680441|tw1354875800099464702|tw18124338691060057244|tw6050883362023154471|tw16420529282431942801|tw10329456683804097358|tw17735001838518049667|tw2819067201001495952|tw3675862614201596897|tw5160583364913759249|tw964998444541153827|tw17280773162959194044|tw4590137039160972697|tw1992299340063296668|tw2755486261330194060|tw609700509902837458|tw13738629419062043840|tw12170303430707270141|tw11507137343533763863|tw9411190743976753960|tw13270701645929984245|tw13531275804759653960|tw7764768982435195743|tw13694024578860165612|tw9987241339452846625|tw16393627960354776043|tw10344909302808358375|tw501002933587359987|tw14457148400987311328|tw8953772663919255204|tw12858636837506223182|tw10961111613382572739|tw5568655103604819670|tw15019666154600707558|tw17029264618723835960|tw650780159930547048|tw15768354976816871890|tw9213683840746688774|tw15972137890887765033|tw4747379796521932180|tw12071088011476710130|tw9526968280482036736|tw16314658878643449885|tw6653473837282193655|tw4613903963767369205|tw9886376074691903137|tw9791024289746722290|tw1596255679320097395|tw4357668248716549730|tw11076933773141553053|tw11010250459331794750|tw12158058941049235657|tw6928624226199559909|tw12302771532070788131|tw9323101451717136939|tw6045607812790259571|tw8246373678782277792|tw14124495368228632520|tw4792740444451393445|tw8703784113046536410|tw3864748363655354278|tw16120770688590829876|tw5867141522096125622|tw2320784145689689064|tw70691738515722396|tw4213672126125097505|tw4837236391678569374|tw3069222377517367064|tw5849550385399800829|tw15978540934012024507|tw861524131269199356|tw10366666534660636921|tw7309971153442429693|tw3931753424992914572|tw13134653202934041396|tw3423594696430859206|tw6053730554148318175|tw12336311119287598386|tw13308245831466871444|tw11992618771175300143|tw3800283577006558603|tw9306188856832582587|tw5231925892761399007|tw1603954279560474565|tw2537253086902706367|tw11181829758736241091|tw12034212287108171016|tw5844137891965544902|tw576072554979111856|tw2661023046744590828|tw3359099683276719930|tw4118055018666366300|tw17254838844150919725|tw12801369989311434174|tw14016221191864003775|tw7123058541772908323|tw6410126285552368700|tw18054691460815696571|tw13403071669673524637|tw9738259403759582098|tw1490255436838896913|tw1631032207449034424|tw2775530517348055223|tw17939485675771828734|tw10200629337121041477|tw3853827517768965109|tw14702301864620548092|tw16760088484978238564|tw11202959866577338781|tw3447115724995596414|tw15302122194070043792|tw17894525215816640860|tw1133576512630339287
open PySem PySem.W PyProof.Rows
set_option maxRecDepth 100000 in
set_option maxHeartbeats 0 in
theorem PySem.Challenge.cw_creelway_k55_refusals_apart_holds : PySem.Challenge.rw_creelway_k55_refusals_apart.Holds := by
 w_on;o_law;k_head;(case hw=>w_witness2)
 k_fill
 refine CW.walk (l:=PySem.Challenge.rw_creelway_k55_refusals_apart) rfl rfl (fun w h Y=>PySem.W.km_in_of Y) (fun w h Y=>PySem.W.km_tabs_of Y) ?F
 case F =>
  intro w mg fa h KX G hmg;refine' CW.all_mk (List.Mem.head _) KX G hmg ?h0 ?h1 ?h2 ?h3 ?h4 ?h5 ?h6 ?h7 ?h8 ?h9 ?h10 ?h11 ?h12 ?h13 ?h14 ?h15 ?h16 ?h17 ?h18 ?h19 ?h20 ?h21 ?h22 ?h23 ?h24 ?h25 ?h26 ?h27 ?h28 ?h29 ?h30 ?h31 ?h32 ?h33 ?h34 ?h35 ?h36 ?h37 ?h38 ?h39 ?h40 ?h41 ?h42 ?h43 ?h44 ?h45 ?h46 ?h47 ?h48 ?h49 ?h50 ?h51 ?h52 ?h53 ?h54 ?h55 ?h56 ?h57 ?h58 ?h59 ?h60 ?h61 ?h62 ?h63 ?h64 ?h65 ?h66 ?h67 ?h68 ?h69 ?h70 ?h71 ?h72 ?h73 ?h74 ?h75 ?h76 ?h77 ?h78 ?h79 ?h80 ?h81 ?h82 ?h83 ?h84 ?h85 ?h86 ?h87 ?h88 ?h89 ?h90 ?h91 ?h92 ?h93 ?h94 ?h95 ?h96 ?h97 ?h98 ?h99 ?h100 ?h101 ?h102 ?h103 ?h104 ?h105 ?h106 ?h107 ?h108 ?h109 ?h110 ?h111 ?h112 ?h113
  (case h0=>exact⟨by k_is,by k_is,by k_is,by k_is,by k_is,by k_is,by k_is,by k_is,by k_is,by k_is,by k_is,by k_is,by k_is,by k_is,by k_is,by k_is,by k_is,by k_is,by k_is,by k_is,by k_is,by k_is,by k_is,by k_is,by kernel_rfl,by kernel_rfl⟩)
  (case h1=>exact CW.errT (fun _ _ _=>⟨_,rfl,rfl⟩) (by k_is) (by k_is) (by k_is) (by k_is) (by k_is) (by k_is) (by k_is) (by k_is) (by k_is))
  (case h2=>exact CW.errD (fun _ _=>⟨_,rfl,rfl⟩) (by k_is) (by k_is) (by k_is) (by k_is) (by k_is) (by k_is) (by k_is) (by kernel_rfl) (by kernel_rfl))
  (case h3=>exact CW.errA (fun _ _ _ _ _ _ _ _=>rfl) (by k_is) (by k_is) (by k_is) (by k_is) (by k_is) (by k_is) (by kernel_rfl) (by kernel_rfl) (by kernel_rfl))
  (case h4=>exact CW.errD (fun _ _=>⟨_,rfl,rfl⟩) (by k_is) (by k_is) (by k_is) (by k_is) (by k_is) (by k_is) (by k_is) (by kernel_rfl) (by kernel_rfl))
  (case h5 | h6=>exact CW.errA (fun _ _ _ _ _ _ _ _=>rfl) (by k_is) (by k_is) (by k_is) (by k_is) (by k_is) (by k_is) (by kernel_rfl) (by kernel_rfl) (by kernel_rfl))
  (case h7 | h8 | h9 | h10 | h11 | h12 | h13 | h14 | h15 | h16 | h17=>exact CW.errD (fun _ _=>⟨_,rfl,rfl⟩) (by k_is) (by k_is) (by k_is) (by k_is) (by k_is) (by k_is) (by k_is) (by kernel_rfl) (by kernel_rfl))
  (case h18=>exact CW.errA (fun _ _ _ _ _ _ _ _=>rfl) (by k_is) (by k_is) (by k_is) (by k_is) (by k_is) (by k_is) (by kernel_rfl) (by kernel_rfl) (by kernel_rfl))
  (case h19=>exact CW.errD (fun _ _=>⟨_,rfl,rfl⟩) (by k_is) (by k_is) (by k_is) (by k_is) (by k_is) (by k_is) (by k_is) (by kernel_rfl) (by kernel_rfl))
  (case h20=>exact CW.errA (fun _ _ _ _ _ _ _ _=>rfl) (by k_is) (by k_is) (by k_is) (by k_is) (by k_is) (by k_is) (by kernel_rfl) (by kernel_rfl) (by kernel_rfl))
  (case h21=>kernel_rfl)
  (case h22=>k_is)
  (case h23 | h24 | h25 | h26 | h27 | h28 | h29 | h30 | h31 | h32 | h33 | h34 | h35 | h36 | h37 | h38 | h39 | h40 | h41 | h42 | h43 | h44 | h45 | h46 | h47 | h48 | h49 | h50 | h51 | h52 | h53 | h54 | h55 | h56 | h57 | h58 | h59 | h60 | h61 | h62 | h63 | h64 | h65=>exact L2.defIn (by k_is) (by k_is) (by k_is) (by k_is))
  (case h66=>exact L2.defC (by k_is) (by k_is) (by k_is) (by k_is))
  (case h67 | h68 | h69=>exact L2.defIn (by k_is) (by k_is) (by k_is) (by k_is))
  (case h70 | h71 | h72=>exact L2.initIn (by k_is) (by k_is) (by k_is) (by k_is) (by k_is) (by k_is) (by k_is))
  (case h73 | h74 | h75 | h76 | h77 | h78 | h79 | h80 | h81=>exact L2.methIn (by k_is) (by k_is) (by k_is) (by k_is) (by k_is))
  (case h82 | h83 | h84 | h85 | h86 | h87 | h88 | h89 | h90 | h91 | h92 | h93 | h94 | h95 | h96 | h97 | h98 | h99 | h100 | h101 | h102 | h103 | h104 | h105 | h106 | h107 | h108 | h109 | h110=>k_is)
  (case h111 | h112 | h113=>kernel_rfl)
