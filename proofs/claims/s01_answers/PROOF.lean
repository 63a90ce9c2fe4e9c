import PyProof.Rows.All
import Wide.All
import OpenK.AllK
import Wide.FinOn
import PyProof.EqAt
import PyProof.EqKinds
import PyProof.TupleCall
import KE.BitLaws
import Open.SpecLaws
import KE.OsHead
import KE.OsGo
import KE.KSortRegAny
import PySem.Challenge.RW_grammarpairs_s01_answers
import PyVaglrn
set_option Elab.async false
set_option linter.all false
set_option maxRecDepth 100000
set_option maxHeartbeats 0
set_option exponentiation.threshold 2000
open PySem.W (Frag)
abbrev aa:=@PySem.wpAny_bind
abbrev ah:=@if_neg
abbrev az:=@if_pos
abbrev ag:=@PySem.wpAny_pure
abbrev af:=@List.mem_cons
abbrev ak:=@Nat.le_refl
abbrev aY:=@Ne.symm
abbrev aK:=@PySem.Heap.lt_size
abbrev ay:=@List.length_append
abbrev ai:=@List.getElem?_eq_some_iff
abbrev aj:=@PySem.Heap.get?_push_of_some
abbrev aF:=@decide_eq_true
abbrev aA:=@List.mem_cons_of_mem
abbrev aM:=@decide_eq_false
abbrev aG:=@List.length_cons
abbrev aJ:=@List.size_toArray
abbrev aE:=@List.mem_singleton
abbrev aP:=@List.length_map
abbrev br:=@Nat.zero_le
abbrev bu:=@PySem.sizeLine_eq
abbrev bh:=@Nat.le_trans
abbrev bf:=@List.map_cons
abbrev bq:=@List.mem_map
abbrev aT:=@List.nodup_cons
abbrev aN:=@PySem.Heap.get?_push_size
abbrev aB:=@List.getElem?_eq_getElem
abbrev aQ:=@Bool.false_ne_true
abbrev aS:=@List.not_mem_nil
abbrev bG:=@Nat.ne_of_lt
abbrev bg:=@List.mem_append
abbrev cC:=@or_false
abbrev aW:=@List.mem_cons_self
abbrev cV:=@congrArg
abbrev bS:=@List.mem_range
abbrev bj:=@List.mem_of_getElem?
abbrev bJ:=@PySem.PassesOwn.never
abbrev bR:=@Option.some.inj
abbrev bB:=@Nat.lt_of_lt_of_le
abbrev bQ:=@List.append_nil
abbrev bI:=@Bool.and_eq_true
abbrev cg:=@PySem.W.mg_of
abbrev bP:=@List.take_length
abbrev bN:=@List.append_assoc
abbrev aX:=@Array.getElem?_eq_getElem
abbrev bM:=@Array.length_toList
abbrev bV:=@PySem.wpAny_newObj_type
abbrev bA:=@PySem.Heap.get?_update_other
abbrev bL:=@List.map_congr_left
abbrev bU:=@of_decide_eq_true
abbrev dh:=@PySem.wpAny_of_eq
abbrev cE:=@PySem.boot_len
abbrev cW:=@Nat.lt_irrefl
abbrev cq:=@List.length_take
abbrev cf:=@List.getElem?_map
abbrev cb:=@List.flatMap_cons
abbrev cK:=@List.mem_filter
abbrev eJ:=@PySem.wpAny_mono
abbrev c6:=@PySem.Heap.size_push
abbrev cj:=@PySem.mem_of_lookup
abbrev bC:=@List.getD_eq_getElem?_getD
abbrev cJ:=@List.mem_flatMap
abbrev bK:=@PySem.F.plainAttrs_list
abbrev bY:=@PySem.Heap.get?_update_self
abbrev d4:=@List.map_map
abbrev bZ:=@List.mem_iff_getElem?
abbrev cx:=@List.flatMap_append
abbrev c7:=@Nat.min_eq_left
abbrev dG:=@PySem.plainId_quiet
abbrev cD:=@PySem.Obj.data_mapFields
abbrev gB:=@Prod.ext
abbrev dY:=@PySem.wpAny_holding
abbrev c8:=@PySem.wpAny_call_entry
abbrev cF:=@List.getElem?_range
abbrev bX:=@List.filter_cons_of_pos
abbrev dq:=@List.map_append
abbrev du:=@PySem.codeAny_builtin
abbrev cY:=@Bool.eq_false_iff
abbrev cy:=@Option.map_eq_some_iff
abbrev dg:=@PySem.wpAny_truthy_bool
abbrev dJ:=@Bool.eq_iff_iff
abbrev dc:=@Int.toNat_natCast
abbrev g7:=@if_false
abbrev df:=@List.length_range
abbrev ck:=@List.filter_cons_of_neg
abbrev cI:=@PySem.Around.under_plainId
abbrev fW:=@PySem.wpAny_rule
abbrev cP:=@List.mem_append_right
abbrev dj:=@PySem.wpAny_Call_Name_kw
abbrev cT:=@List.length_singleton
abbrev cS:=@Array.getElem?_toList
abbrev dB:=@Nat.lt_succ_of_lt
abbrev cR:=@List.getElem?_eq_none
abbrev dA:=@decide_eq_true_eq
abbrev dP:=@List.any_eq_true
abbrev cp:=@PyProof.Rows.callWith_type1
abbrev j0:=@if_true
abbrev gu:=@PySem.wpAny_field
abbrev eM:=@PySem.wpAny_specialOf
abbrev ef:=@List.flatMap_nil
abbrev eX:=@PySem.isSubtype_type
abbrev eV:=@Nat.lt_succ_self
abbrev ff:=@List.nil_append
abbrev d9:=@List.pairwise_cons
abbrev fi:=@List.range_succ
abbrev fY:=@Bool.true_and
abbrev dz:=@List.length_filter_le
abbrev dH:=@Nat.eq_of_testBit_eq
abbrev fj:=@PySem.typeLookup_type
abbrev dw:=@PySem.builtinLookup_eq_fast
abbrev fM:=@PySem.wpAny_setField
abbrev i9:=@beq_iff_eq
abbrev fI:=@List.length_drop
abbrev dM:=@List.take_of_length_le
abbrev eT:=@Bool.false_eq_true
abbrev fG:=@List.all_eq_true
abbrev fS:=@List.length_nil
abbrev gE:=@Nat.add_assoc
abbrev iE:=@PySem.Paired.snoc
abbrev fV:=@PySem.wpAny_updateSeq
abbrev eU:=@PySem.F.called_set
abbrev dn:=@PySem.F.slot_list_append
abbrev dk:=@PySem.F.type_list_append
abbrev gx:=@PySem.wpAny_passesOwn
abbrev gM:=@Bool.false_and
abbrev fK:=@PySem.Calls.spliced_cons
abbrev iS:=@PySem.codeAny_mono
abbrev jf:=@Nat.le_succ
abbrev d6:=@PySem.wpAny_callSpecial?_slot
abbrev ic:=@List.any_cons
abbrev iT:=@List.map_nil
abbrev gi:=@List.lookup_cons
abbrev ia:=@List.sum_cons
abbrev eL:=@List.take_append_drop
abbrev d7:=@List.length_eq_zero_iff
abbrev fk:=@List.filter_sublist
abbrev iU:=@Nat.zero_add
abbrev fJ:=@Nat.lt_of_le_of_lt
abbrev gh:=@PySem.F.plain_min_loop
abbrev h_:=@PySem.wpAny_attempt
abbrev lM:=@PySem.wpAny_load
abbrev gq:=@Int.natCast_nonneg
abbrev gD:=@PySem.Calls.spliced_nil
abbrev dv:=@PyProof.Rows.slot_tuple_getitem
abbrev jG:=@PySem.wpAny_typeOf
abbrev ij:=@List.foldl_cons
abbrev lK:=@PySem.call_meets
abbrev gZ:=@Nat.le_add_right
abbrev jD:=@Nat.pow_succ
abbrev iO:=@PySem.wpAny_seqItems
abbrev g5:=@PySem.wpAny_isInstance
abbrev fX:=@PySem.Heap.SameBut.update
abbrev fE:=@PySem.Obj.isFreed_of_fields
abbrev dX:=@Array.getD_eq_getD_getElem?
abbrev eO:=@PySem.F.slot_list_extend
abbrev eN:=@PySem.F.type_list_extend
abbrev gO:=@beq_eq_false_iff_ne
abbrev ki:=@PySem.Paired.length
abbrev gA:=@List.mem_append_left
abbrev lx:=@Nat.ne_of_gt
abbrev kC:=@List.all_cons
abbrev iC:=@List.reverse_cons
abbrev gL:=@List.replicate_succ
abbrev lI:=@Nat.add_comm
abbrev lA:=@Nat.lt_trans
abbrev gH:=@Bool.and_eq_true_iff
abbrev iY:=@List.cons_append
abbrev fB:=@List.getElem?_zip_eq_some
abbrev jM:=@List.nodup_nil
abbrev fA:=@List.drop_eq_getElem_cons
abbrev gC:=@List.mem_of_mem_take
abbrev gF:=@Nat.mul_le_mul_right
abbrev ft:=@Decidable.byContradiction
abbrev fz:=@List.mem_of_find?_eq_some
abbrev gc:=@Nat.testBit_lt_two_pow
abbrev ly:=@Nat.add_zero
abbrev iI:=@List.take_add_one
abbrev jJ:=@List.drop_zero
abbrev hW:=@List.filter_append
abbrev jW:=@PySem.wpAny_tryCatch
abbrev iH:=@PySem.fits_of_scanBound
abbrev fT:=@PyProof.Rows.size_push'
abbrev fw:=@Classical.byContradiction
abbrev jL:=@PySem.Value.isInt_shape
abbrev oq:=@Nat.le_of_lt
abbrev iZ:=@List.filterMap_cons
abbrev lj:=@PySem.wpAny_execs_nil
abbrev mR:=@PySem.wpAny_standAt
abbrev qL:=@PyProof.Rows.boot_range
abbrev ox:=@Nat.le_of_eq
abbrev qK:=@PySem.wpAny_call
abbrev jn:=@PySem.W.callWith_K
abbrev gw:=@List.getElem?_append_left
abbrev jP:=@List.flatten_cons
abbrev oo:=@Nat.mul_comm
abbrev qO:=@PySem.Walks.list
abbrev kS:=@PySem.pushCells_keeps
abbrev jS:=@Nat.le_of_succ_le
abbrev hG:=@List.pairwise_lt_range
abbrev kb:=@Option.getD_some
abbrev jV:=@List.nodup_append
abbrev j3:=@List.getElem_mem
abbrev ka:=@List.drop_length
abbrev ll:=@Option.map_some
abbrev hE:=@List.find?_cons_of_pos
abbrev mT:=@Int.ofNat.inj
abbrev kU:=@List.cons.injEq
abbrev lg:=@List.filter_nil
abbrev pU:=@PySem.wpAny_letGo
abbrev kO:=@PySem.codeAny_of_tree
abbrev gn:=@Array.getElem?_eq_some_iff
abbrev jR:=@PySem.Obj.cls_mapFields
abbrev jO:=@List.ext_getElem?
abbrev lh:=@List.find?_cons
abbrev qM:=@PySem.intKind_is
abbrev gU:=@PySem.F.slot_tuple_hash
abbrev i0:=@Nat.sub_le_sub_left
abbrev nG:=@PySem.wpAny_pyHash_int
abbrev jz:=@List.getElem?_set_self
abbrev ke:=@List.getElem?_set_ne
abbrev mK:=@PySem.wpAny_pyIter_list
abbrev mI:=@List.any_eq_false
abbrev kQ:=@PySem.W.plainGet_of
abbrev oH:=@List.of_mem_zip
abbrev iA:=@List.getElem?_append_right
abbrev rH:=@PySem.concat_meets
abbrev nN:=@PySem.noFill_tuple_add
abbrev qz:=@PySem.seq_tuple_add
abbrev jB:=@PySem.F.slot_tuple_add
abbrev je:=@PySem.F.entry_tuple_add
abbrev i6:=@PySem.F.args_tuple_add_2
abbrev rO:=@PySem.seqIndex_neg
abbrev lU:=@PyProof.Rows.slot_tuple_getitem
abbrev jw:=@PySem.Calls.callWith_builtin
abbrev rE:=@List.any_map
abbrev pS:=@List.forIn_nil
abbrev nu:=@Nat.succ_ne_self
abbrev mB:=@List.foldl_append
abbrev lV:=@List.find?_eq_none
abbrev jh:=@Option.bind_eq_some_iff
abbrev oK:=@List.length_zip
abbrev kd:=@Nat.pow_le_pow_right
abbrev oA:=@Nat.testBit_and
abbrev kP:=@Nat.testBit_two_pow
abbrev qa:=@List.drop_drop
abbrev oN:=@Nat.not_lt_zero
abbrev kD:=@List.pairwise_append
abbrev lN:=@List.getElem?_take
abbrev px:=@List.take_zero
abbrev jy:=@List.drop_of_length_le
abbrev jx:=@List.find?_cons_of_neg
abbrev nM:=@PySem.F.entry_min_loop
abbrev nL:=@PySem.entryFor_of_tree
abbrev pW:=@PySem.entryFor_alias
abbrev mw:=@PySem.wpAny_pyIter_slot
abbrev p8:=@PySem.wpAny_runValue
abbrev kj:=@PySem.codeAny_extend_loopS
abbrev pO:=@PySem.F.called_tuple
abbrev mz:=@Option.isSome_map
abbrev ql:=@Bool.not_true
abbrev nD:=@PySem.Around.in1_units
abbrev qw:=@Bool.and_true
abbrev fP:=@PyProof.Rows.F.plain_set_update_loop
abbrev nv:=@PySem.wpAny_askSetting
abbrev mJ:=@PySem.wpAny_setEpoch_of
abbrev oG:=@PySem.wpAny_ite_split
abbrev jC:=@PyProof.Rows.boot_list
abbrev lp:=@List.length_pos_iff
abbrev oZ:=@PySem.wpAny_loadName_local
abbrev kK:=@PySem.Calls.Name_function_global
abbrev nW:=@PySem.wpAny_isTrue_Compare1
abbrev nS:=@PySem.W.methodCall_KW
abbrev ni:=@PySem.W.cellsFrom_some
abbrev jv:=@PyProof.Rows.callWith_builtin1
abbrev nq:=@PyProof.Rows.subscriptTail_builtinR
abbrev oP:=@PySem.Calls.evalArgs_plain
abbrev mM:=@List.eraseIdx_cons_succ
abbrev oX:=@PySem.F.args_list_extend_2
abbrev nc:=@List.range_succ_eq_map
abbrev j2:=@PySem.W.length_le_weightAllW
abbrev o4:=@List.mem_erase_of_ne
abbrev l_:=@List.length_erase_of_mem
abbrev ng:=@List.getElem_cons_drop
abbrev oY:=@Nat.add_le_add_right
abbrev kH:=@Nat.testBit_two_pow_add_eq
abbrev kI:=@Nat.testBit_two_pow_add_gt
abbrev mL:=@decide_eq_false_iff_not
abbrev lz:=@List.pairwise_iff_getElem
abbrev l8:=@List.length_filterMap_le
abbrev o3:=@PySem.codeAny_call_builtin
abbrev jt:=@PySem.AutoSeq1.wpAny_loadPart'
abbrev lF:=@PySem.F.slot_dict_getitem
abbrev pd:=@PySem.F.plain_reversed_new
abbrev nr:=@PyProof.Rows.len_tuple
abbrev oW:=@PySem.F.args_object_init_2
abbrev nR:=@PySem.F.slot_dict_get
abbrev oe:=@List.Pairwise.sublist
abbrev ik:=@PyProof.Rows.F.entry_set_update_loop
abbrev nY:=@PySem.F.plain_set_new
abbrev kJ:=@List.length_eraseIdx_of_lt
abbrev l7:=@List.filterMap_cons_some
abbrev lE:=@PySem.F.plain_extend_loop
abbrev mi:=@PySem.F.plain_list_iadd
abbrev lZ:=@PyProof.Rows.boot_sorted
abbrev nj:=@Option.map_eq_none_iff
abbrev kL:=@List.exists_cons_of_ne_nil
abbrev mm:=@Nat.add_sub_cancel_left
namespace L2
open PyProof.Rows PySem PySem.Spec
inductive om{a b:Type}(p:a->b->Prop):Prop
 |intro(c:a) (d:b) (h:p c d)
inductive Hl{a b c:Type}(p:a->b->c->Prop):Prop
 |intro(d:a) (e:b) (f:c) (h:p d e f)
inductive AF{a b c d:Type}(p:a->b->c->d->Prop):Prop
 |intro(e:a) (f:b) (g:c) (i:d) (h:p e f g i)
inductive Vu{a b c d e:Type}(p:a->b->c->d->e->Prop):Prop
 |intro(f:a) (g:b) (i:c) (j:d) (k:e) (h:p f g i j k)
inductive ZP{a b c d e f:Type}(p:a->b->c->d->e->f->Prop):Prop
 |intro(g:a) (i:b) (j:c) (k:d) (l:e) (m:f) (h:p g i j k l m)
inductive Ex7{a b c d e f g:Type}(p:a->b->c->d->e->f->g->Prop):Prop
 |intro(i:a) (j:b) (k:c) (l:d) (m:e) (n:f) (o:g) (h:p i j k l m n o)
inductive Zl{a b c d e f g i:Type}(p:a->b->c->d->e->f->g->i->Prop):Prop
 |intro(j:a) (k:b) (l:c) (m:d) (n:e) (o:f) (q:g) (r:i) (h:p j k l m n o q r)
inductive Ex9{a b c d e f g i j:Type}(p:a->b->c->d->e->f->g->i->j->Prop):Prop
 |intro(k:a) (l:b) (m:c) (n:d) (o:e) (q:f) (r:g) (s:i) (t:j) (h:p k l m n o q r s t)
def inClass(s:Stmt)(j:Nat):Stmt:=match s with
 |.ClassDef _ _ _ a _ _ _ _ _ _ _=>a.getD j (.Pass ⟨0,0,0,0⟩)
 |_=>.Pass ⟨0,0,0,0⟩
def pY(s:Stmt):Arguments:=match s with
 |.FunctionDef _ a _ _ _ _ _ _ _ _=>a
 |_=>{posonlyargs:=[],args:=[],vararg:=none,kwonlyargs:=[],kw_defaults:=[],kwarg:=none,defaults:=[]}
def m7(s:Stmt):List Stmt:=match s with
 |.FunctionDef _ _ b _ _ _ _ _ _ _=>b
 |_=>[]
def aI(s:Stmt):Scope:=match s with
 |.FunctionDef _ _ _ _ _ _ a _ _ _=>a
 |_=>{kind:=.function,names:=[],isGenerator:=false,isCoroutine:=false}
end L2
namespace Gp
open PySem
abbrev po:Program:=PySem.Challenge.pw_grammarpairs_s01_answers
noncomputable def Y1:List Stmt:=(by exact λl _=>l:∀l,(po.main.body.drop 0).take 10=l->List Stmt) [_,_,_,_,_,_,_,_,_,_] rfl
noncomputable def wx:List Stmt:=(by exact λl _=>l:∀l,(po.main.body.drop 10).take 10=l->List Stmt) [_,_,_,_,_,_,_,_,_,_] rfl
noncomputable def zZ:List Stmt:=(by exact λl _=>l:∀l,(po.main.body.drop 20).take 10=l->List Stmt) [_,_,_,_,_,_,_,_,_,_] rfl
noncomputable def DD:List Stmt:=(by exact λl _=>l:∀l,(po.main.body.drop 30).take 10=l->List Stmt) [_,_,_,_,_,_,_,_,_,_] rfl
noncomputable def S8:List Stmt:=(by exact λl _=>l:∀l,(po.main.body.drop 40).take 10=l->List Stmt) [_,_,_,_,_,_,_,_,_,_] rfl
noncomputable def U0:List Stmt:=(by exact λl _=>l:∀l,(po.main.body.drop 50).take 10=l->List Stmt) [_,_,_,_,_,_,_,_,_,_] rfl
noncomputable def Vr:List Stmt:=(by exact λl _=>l:∀l,(po.main.body.drop 60).take 10=l->List Stmt) [_,_,_,_,_,_,_,_,_,_] rfl
noncomputable def Vt:List Stmt:=(by exact λl _=>l:∀l,(po.main.body.drop 70).take 10=l->List Stmt) [_,_,_,_,_,_,_,_,_,_] rfl
noncomputable def So:List Stmt:=(by exact λl _=>l:∀l,(po.main.body.drop 80).take 10=l->List Stmt) [_,_,_,_,_,_,_,_,_,_] rfl
noncomputable def Sr:List Stmt:=(by exact λl _=>l:∀l,(po.main.body.drop 90).take 10=l->List Stmt) [_,_,_,_,_,_,_,_,_,_] rfl
noncomputable def Hx:List Stmt:=(by exact λl _=>l:∀l,(po.main.body.drop 100).take 9=l->List Stmt) [_,_,_,_,_,_,_,_,_] rfl
noncomputable def Yl:List (Str×NameKind):=(by exact λl _=>l:∀l,(po.main.scope.names.drop 0).take 33=l->List _) [_,_,_,_,_,_,_,_,_,_,_,_,_,_,_,_,_,_,_,_,_,_,_,_,_,_,_,_,_,_,_,_,_] rfl
noncomputable def Z9:List (Str×NameKind):=(by exact λl _=>l:∀l,(po.main.scope.names.drop 33).take 33=l->List _) [_,_,_,_,_,_,_,_,_,_,_,_,_,_,_,_,_,_,_,_,_,_,_,_,_,_,_,_,_,_,_,_,_] rfl
noncomputable def Sq:List (Str×NameKind):=(by exact λl _=>l:∀l,(po.main.scope.names.drop 66).take 33=l->List _) [_,_,_,_,_,_,_,_,_,_,_,_,_,_,_,_,_,_,_,_,_,_,_,_,_,_,_,_,_,_,_,_,_] rfl
noncomputable def Ir:Scope:=⟨.module,Yl++(Z9++Sq),false,false,[]⟩
noncomputable def pg:Program:=⟨⟨Y1++(wx++(zZ++(DD++(S8++(U0++(Vr++(Vt++(So++(Sr++Hx))))))))),Ir,false,"/claim/cut.py",[]⟩,[],[],[],[],{argv:=[],stdin:=[],environ:=some [([76,67,95,65,76,76],[67,46,85,84,70,45,56])]}⟩
theorem Za:po=pg:=by kernel_rfl
def nE{a b:Type}(_:a)(_:b):Bool:=true
theorem aag:nE pg [nE Y1 Ir,nE wx Ir,nE zZ Ir,nE DD Ir,nE S8 Ir,nE U0 Ir,nE Vr Ir,nE Vt Ir,nE So Ir,nE Sr Ir,nE Hx Ir]=true:=by k_qdec
def tp(l:List Stmt)(i:Nat):Stmt:=l.getD i (.Pass ⟨0,0,0,0⟩)
open L2 PyProof.Rows PySem.Spec
noncomputable section
abbrev l6:Stmt:=inClass (tp Y1 1) 0
abbrev jm:Stmt:=inClass (tp Y1 1) 1
abbrev iy:Stmt:=inClass (tp Y1 1) 2
abbrev jl:Stmt:=inClass (tp Y1 1) 3
abbrev pT:Stmt:=inClass (tp wx 1) 0
abbrev pw:Stmt:=tp wx 2
abbrev sO:Stmt:=inClass (tp wx 4) 0
abbrev j5:Stmt:=inClass (tp wx 4) 1
abbrev hX:Stmt:=inClass (tp wx 4) 2
abbrev i4:Stmt:=inClass (tp wx 4) 3
abbrev jQ:Stmt:=inClass (tp wx 4) 4
abbrev pj:Stmt:=tp wx 5
abbrev oy:Stmt:=inClass (tp wx 8) 0
abbrev mS:Stmt:=inClass (tp wx 8) 1
abbrev kX:Stmt:=inClass (tp wx 8) 2
abbrev me:Stmt:=inClass (tp wx 8) 3
abbrev jk:Stmt:=inClass (tp wx 8) 4
abbrev iL:Stmt:=inClass (tp wx 8) 5
abbrev si:Stmt:=tp wx 9
abbrev mH:Stmt:=tp zZ 1
abbrev sJ:Stmt:=tp zZ 2
abbrev wh:Stmt:=tp zZ 3
abbrev kY:Stmt:=tp zZ 4
abbrev gP:Stmt:=tp zZ 6
abbrev j_:Stmt:=tp zZ 7
abbrev ji:Stmt:=tp zZ 8
abbrev qP:Stmt:=tp zZ 9
abbrev qQ:Stmt:=tp DD 0
abbrev ma:Stmt:=tp DD 1
abbrev uf:Stmt:=tp DD 2
abbrev jY:Stmt:=tp DD 3
abbrev zg:Stmt:=tp DD 4
abbrev xH:Stmt:=tp DD 5
abbrev yd:Stmt:=tp DD 6
abbrev wq:Stmt:=tp DD 7
abbrev yY:Stmt:=tp DD 8
abbrev p6:Stmt:=tp DD 9
abbrev uD:Stmt:=tp S8 0
abbrev t_:Stmt:=inClass (tp S8 3) 0
abbrev kZ:Stmt:=inClass (tp S8 3) 1
abbrev pA:Stmt:=inClass (tp S8 3) 2
abbrev j7:Stmt:=inClass (tp S8 3) 3
abbrev mU:Stmt:=inClass (tp U0 8) 0
abbrev mX:Stmt:=inClass (tp U0 8) 1
abbrev j8:Stmt:=inClass (tp U0 8) 2
abbrev qV:Stmt:=tp U0 9
abbrev qX:Stmt:=tp Vr 0
abbrev kh:Stmt:=tp Vr 1
abbrev qN:Stmt:=tp Vr 2
abbrev mQ:Stmt:=tp Vr 3
abbrev rh:Stmt:=tp Vr 6
abbrev oM:Stmt:=tp Vr 7
abbrev pN:Stmt:=tp Vr 8
abbrev tS:Stmt:=tp Vr 9
abbrev sL:Stmt:=inClass (tp Vt 1) 0
abbrev qR:Stmt:=inClass (tp Vt 1) 1
abbrev pV:Stmt:=inClass (tp Vt 1) 2
abbrev gv:Stmt:=inClass (tp Vt 1) 3
abbrev sx:Stmt:=tp Vt 2
abbrev kN:Stmt:=tp Vt 3
abbrev zb:Stmt:=tp Vt 8
abbrev mV:Stmt:=tp Vt 9
abbrev mO:Stmt:=tp So 0
abbrev sh:Stmt:=tp So 1
abbrev qU:Stmt:=tp So 2
abbrev uA:Stmt:=tp So 3
abbrev s_load:Stmt:=tp So 4
abbrev JL:Stmt:=tp So 5
abbrev Bn:Stmt:=tp So 6
abbrev BO:Stmt:=tp So 7
abbrev J6:Stmt:=tp So 8
abbrev Qc:Stmt:=tp So 9
abbrev JD:Stmt:=tp Sr 0
abbrev BU:Stmt:=tp Sr 1
abbrev K7:Stmt:=tp Sr 2
abbrev Qh:Stmt:=tp Sr 3
abbrev Ko:Stmt:=tp Sr 4
abbrev K2:Stmt:=tp Sr 5
abbrev Bq:Stmt:=tp Sr 6
abbrev zx:Stmt:=tp Sr 7
abbrev zr:Stmt:=tp Sr 8
abbrev k6:Stmt:=tp Sr 9
abbrev qH:Stmt:=tp Hx 0
abbrev zA:Stmt:=tp Hx 1
abbrev BV:Stmt:=tp Hx 2
abbrev s_same:Stmt:=tp Hx 3
abbrev wj:Stmt:=tp Hx 4
abbrev E3:Stmt:=tp Hx 5
abbrev sk:Stmt:=tp Hx 7
abbrev vk:Stmt:=tp Hx 8
end
end Gp
namespace Gp
open L2 PyProof.Rows PySem PySem.Calls PySem.W
abbrev de(P:Params)(x:Str)(t:Nat)(v:Value):DictEntry:=⟨PyData.keyHash P x,.str x t,v⟩
abbrev di(a:List DictEntry)(n:Nat):Obj:=⟨.type "dict",none,.dict a.toArray n,#[]⟩
abbrev fo(n q:Str)(s:Stmt)(m:Str)(t c:Nat):Obj:=⟨.type "function",none,.func (fnOf n q (pY s) (m7 s) (aI s) .none .none .none (.str m t) none (.ref c) .none),#[]⟩
abbrev cc(n q:Str)(t l k r u:Nat)(a b c:Value):Obj:=⟨.type "code",none,.fields #[.str n t,.str q (t+1),.str "/claim/cut.py" (t+2),.int l 0,.int k 0,.int 0 0,.int 0 0,.int 3 0,.ref r,.bool true,.int 181 0,.ref (r+1),.none,a,b,c,.int u 0,.int l 0,.str "/claim/cut.py" (u+1)],#[]⟩
abbrev c5(n q:Str)(t l k r u:Nat):Obj:=cc n q t l k r u (.ref (r+2)) (.ref (r+3)) (.ref (r+4))
abbrev c3(n q:Str)(t l k r u:Nat):Obj:=cc n q t l k r u .none .none (.ref (r+2))
abbrev f1(n:Str)(s:Stmt)(m:Str)(t c:Nat):Obj:=fo n n s m t c
abbrev d5(n:Str)(t l k r u:Nat):Obj:=c5 n n t l k r u
abbrev d3(n:Str)(t l k r u:Nat):Obj:=c3 n n t l k r u
abbrev cl(n:Str)(t u d a:Nat):Obj:=⟨.type "type",none,.cls ⟨n,[.type "object"],[.ref a,.type "object"],d,n,true,[],[],false,none,false⟩,#[none,none,some (.str n t),some (.str n u),some (.builtin "object.__new__"),some (.bool true)]⟩
noncomputable def KP (P:Params):Frag:=
 (nat_lit 3,di [de P "__name__" 165 (.str "grammarpairs.desk" 938),de P "__doc__" 166 .none,de P "__package__" 167 .none,de P "__loader__" 168 (.builtin "__main__.__loader__#opaque"),de P "__spec__" 169 .none,de P "__annotations__" 170 (.ref 6),de P "__builtins__" 171 (.ref 4),de P "__file__" 173 (.str "/claim/cut.py" 172),de P "__cached__" 174 .none,de P "CallReader" 242 (.ref 52),de P "MOST_NONTERMINALS" 246 (.int 20 245),de P "MOST_RULES" 248 (.int 60 247),de P "MOST_SYMBOLS" 250 (.int 8 249),de P "HIGHEST_BYTE" 252 (.int 255 251),de P "MOST_BYTES" 254 (.int 24 253),de P "START" 256 (.int 0 255),de P "NONTERMINAL" 258 (.int 0 257),de P "RANGE" 260 (.int 1 259),de P "Grammar" 291 (.ref 73),de P "is_too_great" 298 (.ref 84),de P "Marks" 368 (.ref 127),de P "joined_where" 380 (.ref 138),de P "NO_BYTES" 383 (.ref 139),de P "Covering" 460 (.ref 191),de P "reads_text" 471 (.ref 202),de P "rules_not_in" 479 (.ref 207),de P "left_alone" 487 (.ref 214),de P "just_one" 495 (.ref 221),de P "first_difference" 508 (.ref 228),de P "rule_of_nonterminals" 516 (.ref 233),de P "renumbered_symbol" 524 (.ref 240),de P "renumbered_rules" 530 (.ref 245),de P "moved_rules" 538 (.ref 252),de P "right_start" 545 (.ref 259),de P "under_new_start" 555 (.ref 266),de P "choice_of" 565 (.ref 273),de P "one_behind_another" 574 (.ref 280),de P "many_of" 583 (.ref 287),de P "put_at" 589 (.ref 292),de P "turned" 595 (.ref 297),de P "is_order" 603 (.ref 304),de P "renamed" 611 (.ref 311),de P "without_rule" 619 (.ref 318),de P "with_rule" 627 (.ref 325),de P "MOST_BEFORE" 631 (.int 16 630),de P "Pair" 685 (.ref 363),de P "BELOW_ZERO" 688 (.int (-1) 687),de P "NO_BYTE" 691 (.int (-1) 690),de P "NO_GRAMMAR_ROW" 694 (.int (-2) 693),de P "NO_RULE" 697 (.int (-2) 696),de P "TOO_LONG" 700 (.int (-3) 699),de P "NO_SUCH_NONTERMINAL" 703 (.int (-4) 702),de P "NO_SUCH_SIDE" 706 (.int (-5) 705),de P "TOO_GREAT" 709 (.int (-6) 708),de P "NO_SUCH_LENGTH" 712 (.int (-7) 711),de P "NO_SUCH_RULE" 715 (.int (-8) 714),de P "NO_ORDER" 718 (.int (-9) 717),de P "TOO_MANY_TEXTS" 721 (.int (-10) 720),de P "NONE_BEFORE" 724 (.int (-11) 723),de P "RowReader" 774 (.ref 398),de P "read_symbol" 783 (.ref 409),de P "read_rule" 789 (.ref 414),de P "grammar_of_row" 795 (.ref 419),de P "rule_of_row" 805 (.ref 426),de P "row_of_grammar" 816 (.ref 433),de P "MOST_TEXTS" 820 (.int 300 819),de P "ranges_of" 826 (.ref 438),de P "signs_of" 832 (.ref 443),de P "are_too_many" 843 (.ref 450),de P "texts_of" 849 (.ref 455),de P "Using" 914 (.ref 491),de P "first_uses" 926 (.ref 502),de P "first_text_using" 937 (.ref 509),de P "LEFT" 941 (.int 0 940),de P "RIGHT" 943 (.int 1 942),de P "MOST_GONE_THROUGH" 945 (.int 8 944),de P "is_side" 952 (.ref 516),de P "has_below_zero" 959 (.ref 523),de P "is_rule_number" 967 (.ref 530),de P "grammar_at" 975 (.ref 537),de P "size_answer" 982 (.ref 544),de P "make_left" 990 (.ref 551),de P "load" 1001 (.ref 558),de P "held" 1010 (.ref 565),de P "choice" 1018 (.ref 572),de P "behind" 1026 (.ref 579),de P "many" 1034 (.ref 586),de P "put" 1043 (.ref 593),de P "turn" 1051 (.ref 600),de P "rename" 1060 (.ref 607),de P "drop" 1069 (.ref 614),de P "add" 1079 (.ref 621),de P "undo" 1087 (.ref 628),de P "swap" 1095 (.ref 635),de P "reads" 1101 (.ref 640),de P "counted" 1108 (.ref 647),de P "changed" 1118 (.ref 654),de P "refusal_of_texts" 1126 (.ref 661),de P "text_answer" 1133 (.ref 668),de P "compare" 1145 (.ref 675),de P "within" 1153 (.ref 682),de P "same" 1161 (.ref 689),de P "sentence" 1173 (.ref 696),de P "cover" 1188 (.ref 703),de P "CALLS" 1225 (.ref 704),de P "answers_on" 1237 (.ref 712),de P "answers" 1244 (.ref 719)] 107)::
 (nat_lit 27,c5 "__init__" "CallReader.__init__" 201 4 2 22 206)::
 (nat_lit 28,fo "__init__" "CallReader.__init__" l6 "grammarpairs.calls" 187 27)::
 (nat_lit 34,c5 "has_more" "CallReader.has_more" 209 8 1 29 213)::
 (nat_lit 35,fo "has_more" "CallReader.has_more" jm "grammarpairs.calls" 187 34)::
 (nat_lit 41,c5 "take_number" "CallReader.take_number" 216 11 1 36 221)::
 (nat_lit 42,fo "take_number" "CallReader.take_number" iy "grammarpairs.calls" 187 41)::
 (nat_lit 48,c5 "take_row" "CallReader.take_row" 224 16 1 43 230)::
 (nat_lit 49,fo "take_row" "CallReader.take_row" jl "grammarpairs.calls" 187 48)::
 (nat_lit 51,di [de P "__module__" 196 (.str "grammarpairs.calls" 187),de P "__firstlineno__" 200 (.int 2 199),de P "__init__" 208 (.ref 28),de P "has_more" 215 (.ref 35),de P "take_number" 223 (.ref 42),de P "take_row" 232 (.ref 49),de P "__static_attributes__" 235 (.ref 50),de P "__dict__" 237 (.ref 53),de P "__weakref__" 239 (.ref 54),de P "__doc__" 240 .none] 4)::
 (nat_lit 52,cl "CallReader" 189 197 51 52)::
 (nat_lit 69,c5 "__init__" "Grammar.__init__" 273 32 3 64 279)::
 (nat_lit 70,fo "__init__" "Grammar.__init__" pT "grammarpairs.grammar" 243 69)::
 (nat_lit 72,di [de P "__module__" 268 (.str "grammarpairs.grammar" 243),de P "__firstlineno__" 272 (.int 30 271),de P "__init__" 281 (.ref 70),de P "__static_attributes__" 284 (.ref 71),de P "__dict__" 286 (.ref 74),de P "__weakref__" 288 (.ref 75),de P "__doc__" 289 .none] 4)::
 (nat_lit 73,cl "Grammar" 261 269 72 73)::
 (nat_lit 83,d5 "is_too_great" 292 35 1 78 296)::
 (nat_lit 84,f1 "is_too_great" pw "grammarpairs.grammar" 243 83)::
 (nat_lit 97,c5 "__init__" "Marks.__init__" 313 40 2 92 322)::
 (nat_lit 98,fo "__init__" "Marks.__init__" sO "grammarpairs.marks" 299 97)::
 (nat_lit 104,c5 "note_symbol" "Marks.note_symbol" 325 56 3 99 331)::
 (nat_lit 105,fo "note_symbol" "Marks.note_symbol" j5 "grammarpairs.marks" 299 104)::
 (nat_lit 109,c3 "ahead_of_byte" "Marks.ahead_of_byte" 334 62 2 106 337)::
 (nat_lit 110,fo "ahead_of_byte" "Marks.ahead_of_byte" hX "grammarpairs.marks" 299 109)::
 (nat_lit 116,c5 "ahead_of_ended" "Marks.ahead_of_ended" 340 65 2 111 345)::
 (nat_lit 117,fo "ahead_of_ended" "Marks.ahead_of_ended" i4 "grammarpairs.marks" 299 116)::
 (nat_lit 123,c5 "ends_of_next" "Marks.ends_of_next" 348 68 2 118 353)::
 (nat_lit 124,fo "ends_of_next" "Marks.ends_of_next" jQ "grammarpairs.marks" 299 123)::
 (nat_lit 126,di [de P "__module__" 308 (.str "grammarpairs.marks" 299),de P "__firstlineno__" 312 (.int 38 311),de P "__init__" 324 (.ref 98),de P "note_symbol" 333 (.ref 105),de P "ahead_of_byte" 339 (.ref 110),de P "ahead_of_ended" 347 (.ref 117),de P "ends_of_next" 355 (.ref 124),de P "__static_attributes__" 361 (.ref 125),de P "__dict__" 363 (.ref 128),de P "__weakref__" 365 (.ref 129),de P "__doc__" 366 .none] 4)::
 (nat_lit 127,cl "Marks" 301 309 126 127)::
 (nat_lit 137,d5 "joined_where" 369 70 3 132 378)::
 (nat_lit 138,f1 "joined_where" pj "grammarpairs.marks" 299 137)::
 (nat_lit 139,⟨.type "tuple",none,.seq #[] 0,#[]⟩)::
 (nat_lit 152,c5 "__init__" "Covering.__init__" 396 80 2 147 401)::
 (nat_lit 153,fo "__init__" "Covering.__init__" oy "grammarpairs.covering" 381 152)::
 (nat_lit 159,c5 "learn" "Covering.learn" 404 86 2 154 411)::
 (nat_lit 160,fo "learn" "Covering.learn" mS "grammarpairs.covering" 381 159)::
 (nat_lit 166,c5 "stepped" "Covering.stepped" 414 96 3 161 420)::
 (nat_lit 167,fo "stepped" "Covering.stepped" kX "grammarpairs.covering" 381 166)::
 (nat_lit 173,c5 "settle" "Covering.settle" 423 99 2 168 431)::
 (nat_lit 174,fo "settle" "Covering.settle" me "grammarpairs.covering" 381 173)::
 (nat_lit 180,c5 "start_ends" "Covering.start_ends" 434 108 2 175 439)::
 (nat_lit 181,fo "start_ends" "Covering.start_ends" jk "grammarpairs.covering" 381 180)::
 (nat_lit 187,c5 "covers_whole" "Covering.covers_whole" 442 111 2 182 447)::
 (nat_lit 188,fo "covers_whole" "Covering.covers_whole" iL "grammarpairs.covering" 381 187)::
 (nat_lit 190,di [de P "__module__" 391 (.str "grammarpairs.covering" 381),de P "__firstlineno__" 395 (.int 78 394),de P "__init__" 403 (.ref 153),de P "learn" 413 (.ref 160),de P "stepped" 422 (.ref 167),de P "settle" 433 (.ref 174),de P "start_ends" 441 (.ref 181),de P "covers_whole" 449 (.ref 188),de P "__static_attributes__" 453 (.ref 189),de P "__dict__" 455 (.ref 192),de P "__weakref__" 457 (.ref 193),de P "__doc__" 458 .none] 4)::
 (nat_lit 191,cl "Covering" 384 392 190 191)::
 (nat_lit 201,d5 "reads_text" 461 113 2 196 469)::
 (nat_lit 202,f1 "reads_text" si "grammarpairs.covering" 381 201)::
 (nat_lit 206,d3 "rules_not_in" 474 120 2 203 477)::
 (nat_lit 207,f1 "rules_not_in" mH "grammarpairs.comparing" 472 206)::
 (nat_lit 213,d5 "left_alone" 480 125 2 208 485)::
 (nat_lit 214,f1 "left_alone" sJ "grammarpairs.comparing" 472 213)::
 (nat_lit 220,d5 "just_one" 488 127 2 215 493)::
 (nat_lit 221,f1 "just_one" wh "grammarpairs.comparing" 472 220)::
 (nat_lit 227,d5 "first_difference" 496 129 4 222 506)::
 (nat_lit 228,f1 "first_difference" kY "grammarpairs.comparing" 472 227)::
 (nat_lit 232,d3 "rule_of_nonterminals" 511 139 2 229 514)::
 (nat_lit 233,f1 "rule_of_nonterminals" gP "grammarpairs.making" 509 232)::
 (nat_lit 239,d5 "renumbered_symbol" 517 141 2 234 522)::
 (nat_lit 240,f1 "renumbered_symbol" j_ "grammarpairs.making" 509 239)::
 (nat_lit 244,d3 "renumbered_rules" 525 145 2 241 528)::
 (nat_lit 245,f1 "renumbered_rules" ji "grammarpairs.making" 509 244)::
 (nat_lit 251,d5 "moved_rules" 531 151 2 246 536)::
 (nat_lit 252,f1 "moved_rules" qP "grammarpairs.making" 509 251)::
 (nat_lit 258,d5 "right_start" 539 153 1 253 543)::
 (nat_lit 259,f1 "right_start" qQ "grammarpairs.making" 509 258)::
 (nat_lit 265,d5 "under_new_start" 546 155 3 260 553)::
 (nat_lit 266,f1 "under_new_start" ma "grammarpairs.making" 509 265)::
 (nat_lit 272,d5 "choice_of" 556 158 2 267 563)::
 (nat_lit 273,f1 "choice_of" uf "grammarpairs.making" 509 272)::
 (nat_lit 279,d5 "one_behind_another" 566 162 2 274 572)::
 (nat_lit 280,f1 "one_behind_another" jY "grammarpairs.making" 509 279)::
 (nat_lit 286,d5 "many_of" 575 165 1 281 581)::
 (nat_lit 287,f1 "many_of" zg "grammarpairs.making" 509 286)::
 (nat_lit 291,d3 "put_at" 584 169 3 288 587)::
 (nat_lit 292,f1 "put_at" xH "grammarpairs.making" 509 291)::
 (nat_lit 296,d3 "turned" 590 174 1 293 593)::
 (nat_lit 297,f1 "turned" yd "grammarpairs.making" 509 296)::
 (nat_lit 303,d5 "is_order" 596 177 2 298 601)::
 (nat_lit 304,f1 "is_order" wq "grammarpairs.making" 509 303)::
 (nat_lit 310,d5 "renamed" 604 179 2 305 609)::
 (nat_lit 311,f1 "renamed" yY "grammarpairs.making" 509 310)::
 (nat_lit 317,d5 "without_rule" 612 181 2 312 617)::
 (nat_lit 318,f1 "without_rule" p6 "grammarpairs.making" 509 317)::
 (nat_lit 324,d5 "with_rule" 620 183 2 319 625)::
 (nat_lit 325,f1 "with_rule" uD "grammarpairs.making" 509 324)::
 (nat_lit 338,c5 "__init__" "Pair.__init__" 644 189 1 333 648)::
 (nat_lit 339,fo "__init__" "Pair.__init__" t_ "grammarpairs.pair" 628 338)::
 (nat_lit 345,c5 "become_left" "Pair.become_left" 651 194 2 340 657)::
 (nat_lit 346,fo "become_left" "Pair.become_left" kZ "grammarpairs.pair" 628 345)::
 (nat_lit 352,c5 "go_back" "Pair.go_back" 660 199 1 347 664)::
 (nat_lit 353,fo "go_back" "Pair.go_back" pA "grammarpairs.pair" 628 352)::
 (nat_lit 359,c5 "change_sides" "Pair.change_sides" 667 203 1 354 672)::
 (nat_lit 360,fo "change_sides" "Pair.change_sides" j7 "grammarpairs.pair" 628 359)::
 (nat_lit 362,di [de P "__module__" 639 (.str "grammarpairs.pair" 628),de P "__firstlineno__" 643 (.int 187 642),de P "__init__" 650 (.ref 339),de P "become_left" 659 (.ref 346),de P "go_back" 666 (.ref 353),de P "change_sides" 674 (.ref 360),de P "__static_attributes__" 678 (.ref 361),de P "__dict__" 680 (.ref 364),de P "__weakref__" 682 (.ref 365),de P "__doc__" 683 .none] 4)::
 (nat_lit 363,cl "Pair" 632 640 362 363)::
 (nat_lit 380,c5 "__init__" "RowReader.__init__" 739 223 2 375 744)::
 (nat_lit 381,fo "__init__" "RowReader.__init__" mU "grammarpairs.rows" 725 380)::
 (nat_lit 387,c5 "take" "RowReader.take" 747 228 3 382 754)::
 (nat_lit 388,fo "take" "RowReader.take" mX "grammarpairs.rows" 725 387)::
 (nat_lit 394,c5 "is_done" "RowReader.is_done" 757 240 1 389 761)::
 (nat_lit 395,fo "is_done" "RowReader.is_done" j8 "grammarpairs.rows" 725 394)::
 (nat_lit 397,di [de P "__module__" 734 (.str "grammarpairs.rows" 725),de P "__firstlineno__" 738 (.int 221 737),de P "__init__" 746 (.ref 381),de P "take" 756 (.ref 388),de P "is_done" 763 (.ref 395),de P "__static_attributes__" 767 (.ref 396),de P "__dict__" 769 (.ref 399),de P "__weakref__" 771 (.ref 400),de P "__doc__" 772 .none] 4)::
 (nat_lit 398,cl "RowReader" 727 735 397 398)::
 (nat_lit 408,d5 "read_symbol" 775 242 2 403 781)::
 (nat_lit 409,f1 "read_symbol" qV "grammarpairs.rows" 725 408)::
 (nat_lit 413,d3 "read_rule" 784 247 2 410 787)::
 (nat_lit 414,f1 "read_rule" qX "grammarpairs.rows" 725 413)::
 (nat_lit 418,d3 "grammar_of_row" 790 252 1 415 793)::
 (nat_lit 419,f1 "grammar_of_row" kh "grammarpairs.rows" 725 418)::
 (nat_lit 425,d5 "rule_of_row" 796 260 2 420 803)::
 (nat_lit 426,f1 "rule_of_row" qN "grammarpairs.rows" 725 425)::
 (nat_lit 432,d5 "row_of_grammar" 806 266 1 427 814)::
 (nat_lit 433,f1 "row_of_grammar" mQ "grammarpairs.rows" 725 432)::
 (nat_lit 437,d3 "ranges_of" 821 276 1 434 824)::
 (nat_lit 438,f1 "ranges_of" rh "grammarpairs.signs" 817 437)::
 (nat_lit 442,d3 "signs_of" 827 282 1 439 830)::
 (nat_lit 443,f1 "signs_of" oM "grammarpairs.signs" 817 442)::
 (nat_lit 449,d5 "are_too_many" 833 286 2 444 841)::
 (nat_lit 450,f1 "are_too_many" pN "grammarpairs.signs" 817 449)::
 (nat_lit 454,d3 "texts_of" 844 293 2 451 847)::
 (nat_lit 455,f1 "texts_of" tS "grammarpairs.signs" 817 454)::
 (nat_lit 468,c5 "__init__" "Using.__init__" 864 306 2 463 869)::
 (nat_lit 469,fo "__init__" "Using.__init__" sL "grammarpairs.using" 850 468)::
 (nat_lit 475,c5 "stand" "Using.stand" 872 312 3 470 880)::
 (nat_lit 476,fo "stand" "Using.stand" qR "grammarpairs.using" 850 475)::
 (nat_lit 482,c5 "follow" "Using.follow" 883 320 3 477 894)::
 (nat_lit 483,fo "follow" "Using.follow" pV "grammarpairs.using" 850 482)::
 (nat_lit 487,c3 "rules_first_used" "Using.rules_first_used" 897 330 2 484 900)::
 (nat_lit 488,fo "rules_first_used" "Using.rules_first_used" gv "grammarpairs.using" 850 487)::
 (nat_lit 490,di [de P "__module__" 859 (.str "grammarpairs.using" 850),de P "__firstlineno__" 863 (.int 304 862),de P "__init__" 871 (.ref 469),de P "stand" 882 (.ref 476),de P "follow" 896 (.ref 483),de P "rules_first_used" 902 (.ref 488),de P "__static_attributes__" 907 (.ref 489),de P "__dict__" 909 (.ref 492),de P "__weakref__" 911 (.ref 493),de P "__doc__" 912 .none] 4)::
 (nat_lit 491,cl "Using" 852 860 490 491)::
 (nat_lit 501,d5 "first_uses" 915 339 2 496 924)::
 (nat_lit 502,f1 "first_uses" sx "grammarpairs.using" 850 501)::
 (nat_lit 508,d5 "first_text_using" 927 347 3 503 935)::
 (nat_lit 509,f1 "first_text_using" kN "grammarpairs.using" 850 508)::
 (nat_lit 515,d5 "is_side" 946 357 1 510 950)::
 (nat_lit 516,f1 "is_side" zb "grammarpairs.desk" 938 515)::
 (nat_lit 522,d5 "has_below_zero" 953 359 1 517 957)::
 (nat_lit 523,f1 "has_below_zero" mV "grammarpairs.desk" 938 522)::
 (nat_lit 529,d5 "is_rule_number" 960 361 2 524 965)::
 (nat_lit 530,f1 "is_rule_number" mO "grammarpairs.desk" 938 529)::
 (nat_lit 536,d5 "grammar_at" 968 363 2 531 973)::
 (nat_lit 537,f1 "grammar_at" sh "grammarpairs.desk" 938 536)::
 (nat_lit 543,d5 "size_answer" 976 365 1 538 980)::
 (nat_lit 544,f1 "size_answer" qU "grammarpairs.desk" 938 543)::
 (nat_lit 550,d5 "make_left" 983 367 2 545 988)::
 (nat_lit 551,f1 "make_left" uA "grammarpairs.desk" 938 550)::
 (nat_lit 557,d5 "load" 991 372 2 552 999)::
 (nat_lit 558,f1 "load" s_load "grammarpairs.desk" 938 557)::
 (nat_lit 564,d5 "held" 1002 386 2 559 1008)::
 (nat_lit 565,f1 "held" JL "grammarpairs.desk" 938 564)::
 (nat_lit 571,d5 "choice" 1011 391 2 566 1016)::
 (nat_lit 572,f1 "choice" Bn "grammarpairs.desk" 938 571)::
 (nat_lit 578,d5 "behind" 1019 393 2 573 1024)::
 (nat_lit 579,f1 "behind" BO "grammarpairs.desk" 938 578)::
 (nat_lit 585,d5 "many" 1027 395 2 580 1032)::
 (nat_lit 586,f1 "many" J6 "grammarpairs.desk" 938 585)::
 (nat_lit 592,d5 "put" 1035 397 2 587 1041)::
 (nat_lit 593,f1 "put" Qc "grammarpairs.desk" 938 592)::
 (nat_lit 599,d5 "turn" 1044 402 2 594 1049)::
 (nat_lit 600,f1 "turn" JD "grammarpairs.desk" 938 599)::
 (nat_lit 606,d5 "rename" 1052 404 2 601 1058)::
 (nat_lit 607,f1 "rename" BU "grammarpairs.desk" 938 606)::
 (nat_lit 613,d5 "drop" 1061 411 2 608 1067)::
 (nat_lit 614,f1 "drop" K7 "grammarpairs.desk" 938 613)::
 (nat_lit 620,d5 "add" 1070 416 2 615 1077)::
 (nat_lit 621,f1 "add" Qh "grammarpairs.desk" 938 620)::
 (nat_lit 627,d5 "undo" 1080 424 2 622 1085)::
 (nat_lit 628,f1 "undo" Ko "grammarpairs.desk" 938 627)::
 (nat_lit 634,d5 "swap" 1088 429 2 629 1093)::
 (nat_lit 635,f1 "swap" K2 "grammarpairs.desk" 938 634)::
 (nat_lit 639,d3 "reads" 1096 432 2 636 1099)::
 (nat_lit 640,f1 "reads" Bq "grammarpairs.desk" 938 639)::
 (nat_lit 646,d5 "counted" 1102 442 1 641 1106)::
 (nat_lit 647,f1 "counted" zx "grammarpairs.desk" 938 646)::
 (nat_lit 653,d5 "changed" 1109 444 2 648 1116)::
 (nat_lit 654,f1 "changed" zr "grammarpairs.desk" 938 653)::
 (nat_lit 660,d5 "refusal_of_texts" 1119 448 2 655 1124)::
 (nat_lit 661,f1 "refusal_of_texts" k6 "grammarpairs.desk" 938 660)::
 (nat_lit 667,d5 "text_answer" 1127 454 1 662 1131)::
 (nat_lit 668,f1 "text_answer" qH "grammarpairs.desk" 938 667)::
 (nat_lit 674,d5 "compare" 1134 458 3 669 1143)::
 (nat_lit 675,f1 "compare" zA "grammarpairs.desk" 938 674)::
 (nat_lit 681,d5 "within" 1146 465 2 676 1151)::
 (nat_lit 682,f1 "within" BV "grammarpairs.desk" 938 681)::
 (nat_lit 688,d5 "same" 1154 467 2 683 1159)::
 (nat_lit 689,f1 "same" s_same "grammarpairs.desk" 938 688)::
 (nat_lit 695,d5 "sentence" 1162 469 2 690 1171)::
 (nat_lit 696,f1 "sentence" wj "grammarpairs.desk" 938 695)::
 (nat_lit 702,d5 "cover" 1174 479 2 697 1186)::
 (nat_lit 703,f1 "cover" E3 "grammarpairs.desk" 938 702)::
 (nat_lit 704,di [⟨0,.int 0 1189,(.ref 558)⟩,⟨1,.int 1 1191,(.ref 565)⟩,⟨2,.int 2 1193,(.ref 572)⟩,⟨3,.int 3 1195,(.ref 579)⟩,⟨4,.int 4 1197,(.ref 586)⟩,⟨5,.int 5 1199,(.ref 593)⟩,⟨6,.int 6 1201,(.ref 600)⟩,⟨7,.int 7 1203,(.ref 607)⟩,⟨8,.int 8 1205,(.ref 614)⟩,⟨9,.int 9 1207,(.ref 621)⟩,⟨10,.int 10 1209,(.ref 628)⟩,⟨11,.int 11 1211,(.ref 635)⟩,⟨12,.int 12 1213,(.ref 640)⟩,⟨13,.int 13 1215,(.ref 654)⟩,⟨14,.int 14 1217,(.ref 682)⟩,⟨15,.int 15 1219,(.ref 689)⟩,⟨16,.int 16 1221,(.ref 696)⟩,⟨17,.int 17 1223,(.ref 703)⟩] 18)::
 (nat_lit 711,d5 "answers_on" 1226 491 2 706 1235)::
 (nat_lit 712,f1 "answers_on" sk "grammarpairs.desk" 938 711)::
 (nat_lit 718,d5 "answers" 1238 500 1 713 1242)::
 (nat_lit 719,f1 "answers" vk "grammarpairs.desk" 938 718)::[]
noncomputable abbrev V_:List Addr:=[3,27,28,34,35,41,42,48,49,51,52,69,70,72,73,83,84,97,98,104,105,109,110,116,117,123,124,126,127,137,138,139,152,153,159,160,166,167,173,174,180,181,187,188,190,191,201,202,206,207,213,214,220,221,227,228,232,233,239,240,244,245,251,252,258,259,265,266,272,273,279,280,286,287,291,292,296,297,303,304,310,311,317,318,324,325,338,339,345,346,352,353,359,360,362,363,380,381,387,388,394,395,397,398,408,409,413,414,418,419,425,426,432,433,437,438,442,443,449,450,454,455,468,469,475,476,482,483,487,488,490,491,501,502,508,509,515,516,522,523,529,530,536,537,543,544,550,551,557,558,564,565,571,572,578,579,585,586,592,593,599,600,606,607,613,614,620,621,627,628,634,635,639,640,646,647,653,654,660,661,667,668,674,675,681,682,688,689,695,696,702,703,704,711,712,718,719]
theorem MS(P:Params):V_=(KP P).map (·.1):=by kernel_rfl
end Gp
namespace Gp
open PyProof.Rows PySem PySem.Calls PySem.W
noncomputable def qv:Program:=view pg [1,3,4,5,6,7,8,9,10,11,12,14,15,17,18,19,21,22,23,24,26,27,28,29,30,31,32,33,34,35,36,37,38,39,40,42,43,44,45,46,47,48,49,50,51,52,53,54,55,56,58,59,60,61,62,63,65,66,67,68,69,71,72,73,75,76,77,78,79,80,81,82,83,84,85,86,87,88,89,90,91,92,93,94,95,96,97,98,99,100,101,102,103,104,105,106,107,108]
def yU(b:String->Option Builtin)(p:Program)(w:World)(c:Nat)(a:Option Value):Nat->SharedT->Thread->Option SharedT
 |0,_,_=>none
 |n+1,s,t=>match through t with
  |true=>some s
  |false=>match stepOk c a t with
   |false=>none
   |true=>match stepT (denote b) p w s t with
    |some (d,e)=>yU b p w c a n d e
    |none=>none
theorem Ie{b:String->Option Builtin}{p:Program}{w:World}{c:Nat}{a:Option Value}:∀{n:Nat} {s d:SharedT} {t:Thread},yU b p w c a n s t=some d->topRun b p w c a n s.abs t=some d.abs
 |0,_,_,_,h=>by cases h
 |n+1,s,d,t,h=>by
  unfold yU at h;unfold topRun;cases f:through t with
  |true=>rw[f]at h;cases h;rfl
  |false=>
   rw[f]at h;cases g:stepOk c a t with
   |false=>rw[g]at h;cases h
   |true=>
    rw[g]at h;cases e:stepT (denote b) p w s t with
    |none=>rw[e]at h;cases h
    |some r=>obtain⟨i,j⟩:=r;rw[e]at h;rw[stepT_spec e];exact Ie h
def ofL:Nat->List Obj->BT->BT
 |_,[],t=>t
 |i,o::l,t=>ofL (i+1) l (t.ins i o)
noncomputable def S0 (w:World) (os:OsState):SharedT:=⟨ofL 0 (boot_heap w.params).objs.toList .nil,11,(boot_heap w.params).life,Array.mk [],boot_drawn,boot_toks,os⟩
theorem Yz(w:World)(os:OsState):(S0 w os).abs=⟨boot_heap w.params,Array.mk [],boot_drawn,boot_toks,os⟩:=by kernel_rfl
theorem Sf(w:World):((boot_heap w.params).isNs mainGlobals&&(Array.mk ([]:List GenState)).size==0,(boot_heap w.params).objs.size,(boot_heap w.params).nsMap mainGlobals "__annotations__")=(true,11,some (.ref 6)):=by kernel_rfl
abbrev lo:List Str:=["CALLS"]
noncomputable abbrev Xt (s:Shared):Bool:=xlAt qv [] s&&recOk [] s
noncomputable def lk {a:Type} (f:World->Shared->a) (w:World) (os:OsState):Option a:=(yU treeTable pg w 11 (some (.ref 6)) 9740 (S0 w os) (topStub pg)).map λS=>f w S.abs
noncomputable abbrev VZ (s:Shared):=openSeen qv lo (importedModules pg.main.body) Xt true s
noncomputable abbrev VD:=openGood qv lo
theorem rN{c:Type}{f a:World->OsState->Option c}{g b:World->c}(e:f=a)(d:g=b)(h:∀(w:World) os,a (w.withFollow "special-get-raises" false) os=some (b (w.withFollow "special-get-raises" false)))(k:∀(w:World) os,a (w.withFollow "special-get-raises" true) os=some (b (w.withFollow "special-get-raises" true)))(w:World)(os:OsState):f w os=some (g w):=by
 subst e d;exact byRow2 "special-get-raises" (P:=λw=>f w os=some (g w)) (λw=>h w os) (λw=>k w os) w
noncomputable def hl0:=lk λw s=>staticsOk (importedModules pg.main.body) (boot_heap w.params) s.heap&&namesBound pg s.heap&&gensDone s&&laidKept (boot_heap w.params) s.heap
noncomputable def hg0 (w:World):=true
noncomputable def hl1:=lk λw s=>(VZ s).1
noncomputable def hg1 (w:World):=VD.1
noncomputable def hl2:=lk λw s=>(VZ s).2.1
noncomputable def hg2 (w:World):=VD.2.1
noncomputable def hl3:=lk λw s=>(VZ s).2.2.1
noncomputable def hg3 (w:World):=VD.2.2.1
noncomputable def hl4:=lk λw s=>(VZ s).2.2.2.1
noncomputable def hg4 (w:World):=VD.2.2.2.1
noncomputable def hl5:=lk λw s=>(VZ s).2.2.2.2.1
noncomputable def hg5 (w:World):=VD.2.2.2.2.1
noncomputable def hl6:=lk λw s=>(VZ s).2.2.2.2.2.1
noncomputable def hg6 (w:World):=VD.2.2.2.2.2.1
noncomputable def hl7:=lk λw s=>(VZ s).2.2.2.2.2.2.1
noncomputable def hg7 (w:World):=VD.2.2.2.2.2.2.1
noncomputable def hl8:=lk λw s=>(VZ s).2.2.2.2.2.2.2.1
noncomputable def hg8 (w:World):=VD.2.2.2.2.2.2.2.1
noncomputable def hl9:=lk λw s=>(VZ s).2.2.2.2.2.2.2.2
noncomputable def hg9 (w:World):=VD.2.2.2.2.2.2.2.2
noncomputable def hl10:=lk λw s=>V_.map s.heap.get?
noncomputable def hg10 (w:World):=(KP w.params).map λp=>some p.2
theorem laid:nE [nE hl0 true,nE hl1 true,nE hl2 true,nE hl3 true,nE hl4 true,nE hl5 true,nE hl6 true,nE hl7 true,nE hl8 true,nE hl9 true,nE hl10 true] [nE hg1 true,nE hg2 true,nE hg3 true,nE hg4 true,nE hg5 true,nE hg6 true,nE hg7 true,nE hg8 true,nE hg9 true]=true:=by k_qdec
theorem NU(w:World)(os:OsState):PySem.W.Fast.tw14534357416055741653 (w.withFollow "special-get-raises" false) os=some (hg0 (w.withFollow "special-get-raises" false))/\PySem.W.Fast.tw3563727484629306899 (w.withFollow "special-get-raises" false) os=some (PySem.W.Fast.tw978184341192239688 (w.withFollow "special-get-raises" false))/\PySem.W.Fast.tw17801138865386928523 (w.withFollow "special-get-raises" false) os=some (PySem.W.Fast.tw10736301518138922159 (w.withFollow "special-get-raises" false))/\PySem.W.Fast.tw7384959411696455945 (w.withFollow "special-get-raises" false) os=some (PySem.W.Fast.tw10125669391408994778 (w.withFollow "special-get-raises" false))/\PySem.W.Fast.tw13613108100709673658 (w.withFollow "special-get-raises" false) os=some (PySem.W.Fast.tw8190830100604991124 (w.withFollow "special-get-raises" false))/\PySem.W.Fast.tw3419405721035822402 (w.withFollow "special-get-raises" false) os=some (PySem.W.Fast.tw8234051530523513799 (w.withFollow "special-get-raises" false)):=⟨by kernel_rfl,by kernel_rfl,by kernel_rfl,by kernel_rfl,by kernel_rfl,by kernel_rfl⟩
theorem NV(w:World)(os:OsState):PySem.W.Fast.tw14534357416055741653 (w.withFollow "special-get-raises" true) os=some (hg0 (w.withFollow "special-get-raises" true))/\PySem.W.Fast.tw3563727484629306899 (w.withFollow "special-get-raises" true) os=some (PySem.W.Fast.tw978184341192239688 (w.withFollow "special-get-raises" true))/\PySem.W.Fast.tw17801138865386928523 (w.withFollow "special-get-raises" true) os=some (PySem.W.Fast.tw10736301518138922159 (w.withFollow "special-get-raises" true))/\PySem.W.Fast.tw7384959411696455945 (w.withFollow "special-get-raises" true) os=some (PySem.W.Fast.tw10125669391408994778 (w.withFollow "special-get-raises" true))/\PySem.W.Fast.tw13613108100709673658 (w.withFollow "special-get-raises" true) os=some (PySem.W.Fast.tw8190830100604991124 (w.withFollow "special-get-raises" true))/\PySem.W.Fast.tw3419405721035822402 (w.withFollow "special-get-raises" true) os=some (PySem.W.Fast.tw8234051530523513799 (w.withFollow "special-get-raises" true)):=⟨by kernel_rfl,by kernel_rfl,by kernel_rfl,by kernel_rfl,by kernel_rfl,by kernel_rfl⟩
theorem ZF(w:World)(os:OsState):PySem.W.Fast.tw8799213541598912795 (w.withFollow "special-get-raises" false) os=some (PySem.W.Fast.tw13485029284356826827 (w.withFollow "special-get-raises" false))/\PySem.W.Fast.tw15034839194400156690 (w.withFollow "special-get-raises" false) os=some (PySem.W.Fast.tw10609673508928216780 (w.withFollow "special-get-raises" false)):=⟨by kernel_rfl,by kernel_rfl⟩
theorem Zh(w:World)(os:OsState):PySem.W.Fast.tw8799213541598912795 (w.withFollow "special-get-raises" true) os=some (PySem.W.Fast.tw13485029284356826827 (w.withFollow "special-get-raises" true))/\PySem.W.Fast.tw15034839194400156690 (w.withFollow "special-get-raises" true) os=some (PySem.W.Fast.tw10609673508928216780 (w.withFollow "special-get-raises" true)):=⟨by kernel_rfl,by kernel_rfl⟩
theorem Zf(w:World)(os:OsState):PySem.W.Fast.tw17540938669616524978 (w.withFollow "special-get-raises" false) os=some (PySem.W.Fast.tw8791650064203664647 (w.withFollow "special-get-raises" false))/\PySem.W.Fast.tw11998831200125210773 (w.withFollow "special-get-raises" false) os=some (hg10 (w.withFollow "special-get-raises" false)):=⟨by kernel_rfl,by kernel_rfl⟩
theorem Y4(w:World)(os:OsState):PySem.W.Fast.tw17540938669616524978 (w.withFollow "special-get-raises" true) os=some (PySem.W.Fast.tw8791650064203664647 (w.withFollow "special-get-raises" true))/\PySem.W.Fast.tw11998831200125210773 (w.withFollow "special-get-raises" true) os=some (hg10 (w.withFollow "special-get-raises" true)):=⟨by kernel_rfl,by kernel_rfl⟩
theorem aaf(w:World)(os:OsState):PySem.W.Fast.tw6851752401356732565 (w.withFollow "special-get-raises" false) os=some (PySem.W.Fast.tw12483988812365020148 (w.withFollow "special-get-raises" false)):=by kernel_rfl
theorem aac(w:World)(os:OsState):PySem.W.Fast.tw6851752401356732565 (w.withFollow "special-get-raises" true) os=some (PySem.W.Fast.tw12483988812365020148 (w.withFollow "special-get-raises" true)):=by kernel_rfl
theorem TF{d:String->Option Builtin}{p:Program}{w:World}{N m:Nat}{a b:Shared}{c:Option Value}(e:(a.heap.isNs mainGlobals&&a.gens.size==0)=true)(g:a.heap.objs.size=m)(h:a.heap.nsMap mainGlobals "__annotations__"=c)(r:topRun d p w m c N a (topStub p)=some b)
 (f:(staticsOk (importedModules p.main.body) a.heap b.heap&&namesBound p b.heap&&gensDone b&&laidKept a.heap b.heap)=true):topFrom d p w N a=some b:=by
 subst g h;unfold topFrom;rw[e];dsimp only;rw[r];show(match staticsOk (importedModules p.main.body) a.heap b.heap&&namesBound p b.heap&&gensDone b&&laidKept a.heap b.heap with |true=>_|false=>_)=_;rw[f]
theorem Wr{a:String->Option Builtin}{p:Program}{w:World}{N:Nat}{b c:Shared}{d:Type}{g:Shared->d}{v:d}(e:fencedOpening a p w N=some b)(t:topFrom a p w N b=some c)(h:g c=v):(openEnds a p w N).map g=some v:=by
 unfold openEnds;rw[e];show(topFrom a p w N b).map g=some v;rw[t,<-h];rfl
theorem YG{a:Type}{f:World->Shared->a}{w:World}{os:OsState}{v:a}(e:lk f w os=some v):∃S,yU treeTable pg w 11 (some (.ref 6)) 9740 (S0 w os) (topStub pg)=some S:=by
 unfold lk at e;obtain⟨S,h,_⟩:=cy.mp e;exact⟨S,h⟩
theorem yO{a:Type}{f:World->Shared->a}{w:World}{os:OsState}{S:SharedT}{v:a}(h:yU treeTable pg w 11 (some (.ref 6)) 9740 (S0 w os) (topStub pg)=some S)(e:lk f w os=some v):f w S.abs=v:=by
 unfold lk at e;rw[h]at e;exact bR e
theorem Ze:LeftO pg qv lo Xt (λs=>V_.map s.heap.get?) (λw=>(KP w.params).map λp=>some p.2) 9740:=λw=>by
 obtain⟨⟨h,c,d,k,os⟩,e,f⟩:=cy.mp (boot_open (p:=pg) (N:=9740) (by kernel_rfl) (by decide) (λs=>by kernel_rfl) w);obtain⟨rfl,rfl,rfl,rfl⟩:h=boot_heap w.params/\c=Array.mk []/\d=boot_drawn/\k=boot_toks:=by simpa using f
 obtain⟨g,i,j⟩:_/\_/\_:=by simpa only[Prod.mk.injEq]using Sf w
 obtain⟨S,a⟩:=YG (rN PySem.W.Fast.te14534357416055741653 rfl (λw os=>(NU w os).1) (λw os=>(NV w os).1) w os);have l:=yO a (rN PySem.W.Fast.te14534357416055741653 rfl (λw os=>(NU w os).1) (λw os=>(NV w os).1) w os);have m:=yO a (rN PySem.W.Fast.te17540938669616524978 PySem.W.Fast.te8791650064203664647 (λw os=>(Zf w os).1) (λw os=>(Y4 w os).1) w os);have n:=yO a (rN PySem.W.Fast.te3563727484629306899 PySem.W.Fast.te978184341192239688 (λw os=>(NU w os).2.1) (λw os=>(NV w os).2.1) w os);have o:=yO a (rN PySem.W.Fast.te8799213541598912795 PySem.W.Fast.te13485029284356826827 (λw os=>(ZF w os).1) (λw os=>(Zh w os).1) w os);have q:=yO a (rN PySem.W.Fast.te3419405721035822402 PySem.W.Fast.te8234051530523513799 (λw os=>(NU w os).2.2.2.2.2) (λw os=>(NV w os).2.2.2.2.2) w os);have t:=yO a (rN PySem.W.Fast.te17801138865386928523 PySem.W.Fast.te10736301518138922159 (λw os=>(NU w os).2.2.1) (λw os=>(NV w os).2.2.1) w os);have u:=yO a (rN PySem.W.Fast.te6851752401356732565 PySem.W.Fast.te12483988812365020148 aaf aac w os);have v:=yO a (rN PySem.W.Fast.te7384959411696455945 PySem.W.Fast.te10125669391408994778 (λw os=>(NU w os).2.2.2.1) (λw os=>(NV w os).2.2.2.1) w os);have x:=yO a (rN PySem.W.Fast.te15034839194400156690 PySem.W.Fast.te10609673508928216780 (λw os=>(ZF w os).2) (λw os=>(Zh w os).2) w os);have y:=yO a (rN PySem.W.Fast.te13613108100709673658 PySem.W.Fast.te8190830100604991124 (λw os=>(NU w os).2.2.2.2.1) (λw os=>(NV w os).2.2.2.2.1) w os);have b:=yO a (rN PySem.W.Fast.te11998831200125210773 rfl (λw os=>(Zf w os).2) (λw os=>(Y4 w os).2) w os);have r:=Ie a;rw[Yz]at r;exact Wr e (TF g i j r l) (gB (gB m (gB n (gB o (gB q (gB t (gB u (gB v (gB x y)))))))) b)
theorem Zj:LeftO po qv lo Xt (λs=>V_.map s.heap.get?) (λw=>(KP w.params).map λp=>some p.2) 9740:=by
 rw[Za];exact Ze
end Gp
namespace L2
open PyProof.Rows PySem PySem.Spec
abbrev Key:=Sum Int Str
def Xo:Key->Value->Bool
 |.inl k,v=>Value.isInt k v
 |.inr x,v=>Value.isStrOf x v
def ZX(w:World):Key->Int
 |.inl k=>hashInt k
 |.inr x=>hashStr w x
theorem jI:∀{k:Key} {v:Value},Xo k v=true->(∃i t,k=Sum.inl i/\v=Value.int i t)\/(∃x t,k=Sum.inr x/\v=Value.str x t)
 |.inl i,v,h=>by
  obtain⟨t,e⟩:=jL (k:=i) (v:=v) h;exact .inl ⟨i,t,rfl,e⟩
 |.inr x,v,h=>by
  obtain⟨t,e⟩:=Value.isStrOf_shape (x:=x) (v:=v) h;exact .inr ⟨x,t,rfl,e⟩
theorem Yg(a b:Int):decide ((Sum.inl a:Key)=Sum.inl b)=(a==b):=by
 by_cases e:a=b
 ·subst e;simp
 ·have h:¬(Sum.inl a:Key)=Sum.inl b:=λq=>e (Sum.inl.inj q)
  rw[aM h];exact(gO.mpr e).symm
theorem Yi(a b:Str):decide ((Sum.inr a:Key)=Sum.inr b)=decide (a=b):=by
 by_cases e:a=b
 ·subst e;simp
 ·have h:¬(Sum.inr a:Key)=Sum.inr b:=λq=>e (Sum.inr.inj q)
  rw[aM h,aM e]
theorem XM(a:Int)(b:Str):decide ((Sum.inl a:Key)=Sum.inr b)=false:=aM (λq=>nomatch q)
theorem XN(a:Str)(b:Int):decide ((Sum.inr a:Key)=Sum.inl b)=false:=aM (λq=>nomatch q)
def JW(c:Program)(w:World):PySem.KeyKind c w Key where
 is:=Xo
 hash:=ZX w
 inj:=λv a b g f=>by
  rcases jI g with⟨i,t,rfl,rfl⟩|⟨x,t,rfl,rfl⟩
  ·rcases jI f with⟨j,u,rfl,e⟩|⟨y,u,rfl,e⟩
   ·injection e with e1 _;rw[e1]
   ·exact nomatch e
  ·rcases jI f with⟨j,u,rfl,e⟩|⟨y,u,rfl,e⟩
   ·exact nomatch e
   ·injection e with e1 _;rw[e1]
 byValue:=λk v h=>by
  rcases jI h with⟨i,t,rfl,rfl⟩|⟨x,t,rfl,rfl⟩<;>rfl
 pyHash:=λd h=>by
  rcases jI d with⟨i,t,rfl,rfl⟩|⟨x,t,rfl,rfl⟩
  ·exact nG h
  ·exact wpAny_pyHash_str h
 eqBool:=λl d h=>by
  rcases jI l with⟨i,t,rfl,rfl⟩|⟨x,t,rfl,rfl⟩
  ·rcases jI d with⟨j,u,rfl,rfl⟩|⟨y,u,rfl,rfl⟩
   ·rw[Yg]at h;exact wpAny_eqBool_int h
   ·rw[XM]at h;exact SeqAt.EqAt.int_str i t y u _ _ _ _ h
  ·rcases jI d with⟨j,u,rfl,rfl⟩|⟨y,u,rfl,rfl⟩
   ·rw[XN]at h;exact SeqAt.EqAt.str_int x t j u _ _ _ _ h
   ·rw[Yi]at h;exact wpAny_eqBool_str h
 «strs»:=λk x t v h=>by
  rcases jI h with⟨i,u,rfl,e⟩|⟨y,u,rfl,e⟩
  ·exact nomatch e
  ·injection e with e1 _
   subst e1;cases v<;>rfl
inductive V where
 |non|bl (b:Bool)|int (i:Int)|str (x:Str)|JX (b:Array UInt8)|ZH (b:UInt64)|ref (a:Addr)|ty (n:String)
 deriving DecidableEq
def RelV:V->Value->Prop
 |.non,u=>u=Value.none
 |.bl b,u=>u=Value.bool b
 |.int i,u=>∃t,u=Value.int i t
 |.str x,u=>∃t,u=Value.str x t
 |.JX b,u=>∃t,u=Value.bytes b t
 |.ZH b,u=>∃t,u=Value.float b t
 |.ref a,u=>u=Value.ref a
 |.ty n,u=>u=Value.type n
abbrev Vals:List V->List Value->Prop:=Paired RelV
theorem Vals.length{xs:List V}{a:List Value}(r:Vals xs a):xs.length=a.length:=ki r
theorem Vals.get:∀{a:List V} {b:List Value} {i:Nat} {x:V},Vals a b->a[i]?=some x->∃u,b[i]?=some u/\RelV x u
 |_,_,_,_,.nil,e=>by simp at e
 |_,_,0,_,.cons r _,e=>by simp at e;subst e;exact⟨_,rfl,r⟩
 |_,_,i+1,x,.cons _ t,e=>by
  obtain⟨u,c,d⟩:=Vals.get (i:=i) (x:=x) t (by simpa using e);exact⟨u,by simpa using c,d⟩
theorem Vals.set{x:V}{u:Value}(r:RelV x u):∀{a:List V} {b:List Value} (i:Nat),Vals a b->Vals (a.set i x) (b.set i u)
 |_,_,_,.nil=>.nil
 |_,_,0,.cons _ t=>.cons r t
 |_,_,i+1,.cons q t=>.cons q (Vals.set r i t)
theorem Vals.append:∀{a b:List V} {c d:List Value},Vals a c->Vals b d->Vals (a++b) (c++d)
 |_,_,_,_,.nil,s=>s
 |_,_,_,_,.cons r t,s=>.cons r (Vals.append t s)
theorem Vals.take:∀{xs:List V} {a:List Value} (n:Nat),Vals xs a->Vals (xs.take n) (a.take n)
 |_,_,0,_=>.nil
 |_,_,_+1,.nil=>.nil
 |_,_,n+1,.cons r t=>.cons r (Vals.take n t)
theorem Vals.drop:∀{xs:List V} {a:List Value} (n:Nat),Vals xs a->Vals (xs.drop n) (a.drop n)
 |_,_,0,r=>r
 |_,_,_+1,.nil=>.nil
 |_,_,n+1,.cons _ t=>Vals.drop n t
def zE:Option V->Option Value->Prop
 |some v,some u=>RelV v u
 |none,none=>True
 |_,_=>False
def KV{a:Type}:List (a×V)->List (a×Value)->Prop:=Paired λ(p:a×V) (q:a×Value)=>p.1=q.1/\RelV p.2 q.2
def kV:Key->V
 |.inl i=>.int i
 |.inr x=>.str x
inductive HO where
 |lst (b:List V)
 |tup (b:List V)
 |dK (a:List (Key×V))|dT (a:List (List Key×V))
 |set (S:Int->Bool) (n:Nat)
 |ins (C c:Addr) (fs:List (Str×V))
 |own (x:Addr)
 |xd (fs:List (Str×V))
 |met (f x:Addr)
 |Jz (lo d:Int)
 |zJ (o:Obj) (u:HO)
 |Yj (e:Array Value)
 |ext (g:Heap->Prop)
abbrev Hp:=Addr->Option HO
def upd(H:Hp)(a:Addr)(o:HO):Hp:=λb=>if b=a then some o else H b
theorem au{H:Hp}{a:Addr}{o:HO}:upd H a o a=some o:=by unfold upd;rw[az rfl]
theorem aO{H:Hp}{a b:Addr}{o:HO}(h:b≠a):upd H a o b=H b:=by unfold upd;rw[ah h]
theorem gJ{H:Hp}{a:Addr}{o u:HO}:upd (upd H a o) a u=upd H a u:=by
 funext b;unfold upd;split<;>rfl
theorem xS{H:Hp}{a b:Addr}{o u:HO}(h:H a=some o)(c:H b=some u)(d:o≠u):a≠b:=by
 intro e;subst e;rw[h]at c;exact d (bR c)
theorem cZ{H:Hp}{a b:Addr}{o:HO}(h:H a=some o)(c:H b=none):a≠b:=by
 intro e;subst e;rw[h]at c;cases c
section
variable(P:Program)(w:World)
def l9(H:Hp)(h:Heap)(a:Addr):HO->Prop
 |.lst d=>d.length<=sizeLine/\∃(b:List Value) (n:Nat),Vals d b/\h.get? a=some {cls:=.type "list",data:=.seq b.toArray n}
 |.tup d=>d.length<=sizeLine/\∃b:List Value,Vals d b/\IsTup h a b.toArray
 |.dK c=>c.length<=sizeLine/\(a==sysModules)=false/\∃j,KV c j/\h.DictOf (JW P w) a j
 |.dT c=>c.length<=sizeLine/\(a==sysModules)=false/\∃d:List (List Key×Addr×Value),
   Paired (λ(p:List Key×V) (q:List Key×Addr×Value)=>p.1=q.1/\H q.2.1=some (.tup (p.1.map kV))/\RelV p.2 q.2.2) c d/\
   Hl λo k r=>h.get? a=some o/\o.ExactDict/\o.data=.dict k r/\k.toList=d.map (entryOfKey (tupleKind (JW P w)))/\(d.map (·.1)).Nodup
 |.set S n=>h.SetOf (intKind P w) a S n
 |.ins C g fs=>H g=some (.own a)/\fs.length<=1000/\g≠a/\h.get? a=some (PySem.W.instObj C g)/\
   ∃e,h.Ns1 g e/\(∀f,zE (fs.lookup f) (e f))/\PySem.Within e (fs.map (·.1))
 |.own _=>∃o,h.get? a=some o
 |.xd fs=>∃e,h.Ns1 a e/\∀f,zE (fs.lookup f) (e f)
 |.Jz lo s=>Hl λt u v=>h.get? a=some {cls:=.type "range",data:=.fields #[.int lo t,.int s u,.int 1 v]}
 |.zJ o u=>h.get? a=some o/\l9 H h a u
 |.Yj y=>h.get? a=some {cls:=.none,data:=.fields y}
 |.met f x=>h.get? a=some (PySem.W.methodObj (.ref f) (.ref x))
 |.ext i=>i h/\(∃o,h.get? a=some o)/\∀l m:Heap,i l->(∀o,l.get? a=some o->m.get? a=some o)->i m
def Bo(H:Hp)(h:Heap):Prop:=∀a o,H a=some o->l9 P w H h a o
end
section
variable{P:Program}{w:World}{H H':Hp}{h h':Heap}{a:Addr}{o:HO}
theorem l9.lt(x:l9 P w H h a o):a<h.objs.size:=by
 cases o with
 |lst c=>obtain⟨_,_,_,_,e⟩:=x;exact aK e
 |tup c=>obtain⟨_,_,_,p⟩:=x;exact p.lt
 |dK b=>obtain⟨_,_,_,_,o,_,_,e,_⟩:=x;exact aK e
 |dT b=>obtain⟨_,_,_,_,o,_,_,e,_⟩:=x;exact aK e
 |set S n=>obtain⟨o,_,_,_,e,_⟩:=x;exact aK e
 |ins C d fs=>obtain⟨_,_,_,e,_⟩:=x;exact aK e
 |own y=>obtain⟨_,e⟩:=x;exact aK e
 |xd fs=>obtain⟨_,⟨_,_,_,e,_⟩,_⟩:=x;exact aK e
 |Jz lo g=>obtain⟨_,_,_,e⟩:=x;exact aK e
 |zJ i u=>obtain⟨e,_⟩:=x;exact aK e
 |Yj j=>exact aK (show h.get? a=some _ from x)
 |met f y=>exact aK (show h.get? a=some _ from x)
 |ext k=>obtain⟨_,⟨_,e⟩,_⟩:=x;exact aK e
theorem Paired.jr{e g:Type}{F G:e->g->Prop}:∀{c:List e} {d:List g},Paired F c d->(∀a b,F a b->G a b)->Paired G c d
 |_,_,.nil,_=>.nil
 |_,_,.cons r t,f=>.cons (f _ _ r) (Paired.jr t f)
theorem l9.HW(x:l9 P w H h a o)(k:∀b u,(b=a\/H b=some (.own a))->h.get? b=some u->h'.get? b=some u)
 (E:∀b,H b=some (.own a)->H' b=some (.own a))(G:∀b m,H b=some (.tup m)->H' b=some (.tup m)):l9 P w H' h' a o:=by
 induction o with
 |lst m=>obtain⟨z,l,n,r,e⟩:=x;exact⟨z,l,n,r,k _ _ (.inl rfl) e⟩
 |tup m=>obtain⟨z,l,r,g,e,c⟩:=x;exact⟨z,l,r,g,k _ _ (.inl rfl) e,c⟩
 |dK s=>obtain⟨z,y,I,r,g,i,j,e,c⟩:=x;exact⟨z,y,I,r,g,i,j,k _ _ (.inl rfl) e,c⟩
 |dT s=>
  obtain⟨z,y,m,r,g,i,j,e,c⟩:=x;exact⟨z,y,m,Paired.jr r λp q z=>⟨z.1,G _ _ z.2.1,z.2.2⟩,g,i,j,k _ _ (.inl rfl) e,c⟩
 |set S n=>obtain⟨g,i,j,t,e,c⟩:=x;exact⟨g,i,j,t,k _ _ (.inl rfl) e,c⟩
 |ins C M fs=>
  obtain⟨d,z,J,e,A,⟨B,i,j,e2,c⟩,r⟩:=x;exact⟨E _ d,z,J,k _ _ (.inl rfl) e,A,⟨B,i,j,k _ _ (.inr d) e2,c⟩,r⟩
 |own y=>obtain⟨g,e⟩:=x;exact⟨g,k _ _ (.inl rfl) e⟩
 |xd fs=>obtain⟨A,⟨B,i,j,e,c⟩,r⟩:=x;exact⟨A,⟨B,i,j,k _ _ (.inl rfl) e,c⟩,r⟩
 |Jz lo N=>obtain⟨t,u,v,e⟩:=x;exact⟨t,u,v,k _ _ (.inl rfl) e⟩
 |zJ g u L=>obtain⟨e,q⟩:=x;exact⟨k _ _ (.inl rfl) e,L q⟩
 |Yj D=>
  have e:h.get? a=some {cls:=.none,data:=.fields D}:=x;show h'.get? a=some {cls:=.none,data:=.fields D};exact k a _ (.inl rfl) e
 |met f y=>
  have e:h.get? a=some (PySem.W.methodObj (.ref f) (.ref y)):=x;show h'.get? a=some (PySem.W.methodObj (.ref f) (.ref y));exact k a _ (.inl rfl) e
 |ext O=>obtain⟨p,⟨o,e⟩,st⟩:=x;exact⟨st _ _ p λo q=>k _ _ (.inl rfl) q,⟨o,k _ _ (.inl rfl) e⟩,st⟩
theorem Bo.lt(x:Bo P w H h)(e:H a=some o):a<h.objs.size:=(x a o e).lt
theorem Bo.fresh(x:Bo P w H h)(e:h.objs.size<=a):H a=none:=by
 cases q:H a with
 |none=>rfl
 |some u=>exact absurd (bB (x.lt q) e) (cW _)
theorem Bo.kept(x:Bo P w H h)(k:∀b u,h.get? b=some u->h'.get? b=some u):Bo P w H h':=λa o e=>
 (x a o e).HW (λb u _ q=>k b u q) (λ_ q=>q) λ_ _ q=>q
theorem Bo.laid(x:Bo P w H h)(k:∀b u,h.get? b=some u->h'.get? b=some u)(i:h.objs.size<=a)(d:l9 P w (upd H a o) h' a o):Bo P w (upd H a o) h':=λb u e=>by
 have f:=x.fresh i;by_cases g:b=a
 ·subst g;rw[au]at e;cases e;exact d
 ·rw[aO g]at e;exact(x b u e).HW (λc v _ q=>k c v q) (λc q=>by rw[aO (cZ q f)];exact q) λc j q=>by rw[aO (cZ q f)];exact q
end
def Rd(H:Hp)(a:Addr)(u:HO):Prop:=H a=some u\/∃o,H a=some (.zJ o u)
theorem Rd.ok{P:Program}{w:World}{H:Hp}{h:Heap}{a:Addr}{u:HO}(r:Rd H a u)(x:Bo P w H h):l9 P w H h a u:=by
 rcases r with r|⟨o,r⟩
 ·exact x a u r
 ·obtain⟨_,q⟩:=x a _ r;exact q
def V8:Option HO->Prop
 |some (.lst _)=>True
 |some (.dK _)=>True
 |some (.dT _)=>True
 |some (.set _ _)=>True
 |some (.ins _ _ _)=>True
 |some (.ext _)=>True
 |_=>False
section
variable{P:Program}{w:World}{H:Hp}{h h':Heap}{x e:Addr}{o':HO}
theorem Bo.write(ok:Bo P w H h)(g:V8 (H x))(o:e=x\/H e=some (.own x))(k:∀b u,b≠e->h.get? b=some u->h'.get? b=some u)(m:∃u,h'.get? e=some u)
 (n:l9 P w (upd H x o') h' x o'):Bo P w (upd H x o') h':=λb u q=>by
 have d:∀c y,H c=some (.own y)->c≠x:=λc y r z=>by subst z;rw[r]at g;exact g
 have f:∀c i,H c=some (.tup i)->c≠x:=λc i r z=>by subst z;rw[r]at g;exact g
 by_cases j:b=x
 ·subst j;rw[au]at q;cases q;exact n
 ·rw[aO j]at q;by_cases a:b=e
  ·have p:H b=some (.own x):=by
    rcases o with z|z
    ·exact absurd (a.trans z) j
    ·rw[a];exact z
   rw[q]at p;cases p;obtain⟨v,s⟩:=m;exact⟨v,by rw[a];exact s⟩
  ·refine(ok b u q).HW (λc v l r=>k c v ?_ r) (λc r=>by rw[aO (d c b r)];exact r) λc i r=>by rw[aO (f c i r)];exact r
   rcases l with rfl|l
   ·exact a
   ·rintro rfl;rcases o with z|z
    ·exact d c b l z
    ·rw[l]at z;cases z;exact j rfl
end
structure Un(fs ex:List Addr)(H c:Hp)(h h':Heap):Prop where
 keep:∀b o,h.get? b=some o->H b=none->b∉fs->b∉ex->h'.get? b=some o
 slot:∀b o,h.get? b=some o->H b=none->b∈fs->b∉ex->∃f,h'.get? b=some {o with slots:=f}
 free:∀b o,h.get? b=some o->H b=none->b∉ex->c b=none
 there:∀b o,h.get? b=some o->b∉ex->∃g,h'.get? b=some g
 K9:∀b d,H b=some (.tup d)->c b=some (.tup d)
 Hc:∀b o u,H b=some (.zJ o u)->c b=some (.zJ o u)
 KJ:∀b e,H b=some (.Yj e)->∃a,c b=some (.Yj (e++a))
section
variable{fs YZ ex ex':List Addr}{H H1 H2:Hp}{h h1 h2 h':Heap}{a x e:Addr}{o:HO}
theorem Un.any(u:Un fs ex H H1 h h1){b:Addr}{c:Obj}(q:h.get? b=some c)(n:H b=none)(d:b∉ex):∃g,h1.get? b=some {c with slots:=g}:=by
 by_cases f:b∈fs
 ·exact u.slot b c q n f d
 ·exact⟨c.slots,u.keep b c q n f d⟩
theorem Un.kept(k:∀b u,h.get? b=some u->h'.get? b=some u):Un fs ex H H h h':=
 ⟨λb c q _ _ _=>k b c q,λb c q _ _ _=>⟨c.slots,k b c q⟩,λ_ _ _ n _=>n,λb c q _=>⟨c,k b c q⟩,λ_ _ q=>q,λ_ _ _ q=>q,λ_ d q=>⟨#[],by rw[q];simp⟩⟩
theorem Un.refl:Un fs ex H H h h:=Un.kept λ_ _ q=>q
theorem Un.laid(k:∀b u,h.get? b=some u->h'.get? b=some u)(d:h.objs.size<=a)(c:H a=none):Un fs ex H (upd H a o) h h' where
 keep:=λb u q _ _ _=>k b u q
 slot:=λb u q _ _ _=>⟨u.slots,k b u q⟩
 free:=λb u q n _=>by rw[aO (bG (bB (aK q) d))];exact n
 there:=λb u q _=>⟨u,k b u q⟩
 K9:=λb f q=>by rw[aO (cZ q c)];exact q
 Hc:=λb u f q=>by rw[aO (cZ q c)];exact q
 KJ:=λb g q=>⟨#[],by rw[aO (cZ q c),q];simp⟩
theorem Un.write(d:V8 (H x))(l:e=x\/H e=some (.own x))(k:∀b u,b≠e->h.get? b=some u->h'.get? b=some u)(f:∃u,h'.get? e=some u):Un fs ex H (upd H x o) h h':=by
 have i:∀b,H b=none->b≠x:=λb n z=>by subst z;rw[n]at d;exact d
 have j:∀b,H b=none->b≠e:=λb n z=>by
  subst z;rcases l with r|r
  ·exact i b n r
  ·rw[n]at r;cases r
 have g:∀b u,H b=some u->¬V8 (some u)->b≠x:=λb u q m z=>by subst z;rw[q]at d;exact m d
 refine⟨λb u q n _ _=>k b u (j b n) q,λb u q n _ _=>⟨u.slots,k b u (j b n) q⟩,λb u q n _=>by rw[aO (i b n)];exact n,λb u q _=>?_,
  λb p q=>by rw[aO (g b _ q λz=>z)];exact q,λb u p q=>by rw[aO (g b _ q λz=>z)];exact q,λb s q=>⟨#[],by rw[aO (g b _ q λz=>z),q];simp⟩⟩
 by_cases c:b=e
 ·subst c;exact f
 ·exact⟨u,k b u c q⟩
end
def ZM(h:Heap)(H:Hp):List Addr:=(List.range h.objs.size).filter λa=>(H a).isSome
def J0(h:Heap)(H:Hp):Heap:=PySem.W.hideAll h (ZM h H)
theorem R0(h:Heap)(H:Hp):(J0 h H).objs.size=h.objs.size:=PySem.W.hideAll_size _ _
theorem SF{h:Heap}{H:Hp}{b:Addr}{o:Obj}(e:h.get? b=some o)(n:H b=none):(J0 h H).get? b=some o:=
 PySem.W.hideAll_get _ e λa=>by
  have q:(H b).isSome=true:=(cK.mp a).2;rw[n]at q;simp at q
theorem VQ{h:Heap}{H:Hp}{b:Addr}{o:Obj}(e:(J0 h H).get? b=some o):h.get? b=some o/\H b=none:=by
 have a:h.get? b=some o:=PySem.W.of_hideAll (ZM h H) e;refine⟨a,?_⟩;cases q:H b with
 |none=>rfl
 |some x=>
  have c:b∈ZM h H:=cK.mpr ⟨bS.mpr (aK a),by simp[q]⟩;have z:(J0 h H).get? b=none:=PySem.W.hideAll_none (ZM h H) c;rw[z]at e;cases e
structure Mod(K:Frag)(mg:Str->Option Value)(base:Heap):Prop where
 Y2:K.In base
 glob:base.Ns mainGlobals mg
 blt:∃a,base.Ns builtinsNs a/\∀x:Str,x≠"__name__"->a x=bootBuiltins x
 nolimit:base.NoLimit
structure Cx where
 prog:Program
 w:World
 K:Frag
 mg:Str->Option Value
 base:Heap
 A:Around
 N:List Str
 IB:Shared
 Yw:Hp
 env:Env
 outer:List Env
 stack:List Env
 ex:List Addr
 fn:Str->Bool
 calm:Bool
 pn:List (Addr×Obj)
 xe:Value->Shared->Prop
def Uq(l:List Env):List Addr:=l.filterMap (·.frame)
abbrev Cx.fs(X:Cx):List Addr:=Uq X.outer
def XJ(a:Scope)(x:Str):Prop:=a.names.lookup x=some .local\/a.names.lookup x=some .cell\/a.names.lookup x=some .free
def Loc(a:Scope)(x:Str):Prop:=a.names.lookup x=some .local\/a.names.lookup x=some .cell
def Look(a:Env)(h:Heap)(m:Str->Option Value)(x:Str)(u:Value):Prop:=
 (a.kindOf x=some .local/\m x=some u)\/((a.kindOf x=some .cell\/a.kindOf x=some .free)/\∃c,a.cells.lookup x=some c/\h.IsCell c (some u))
structure Cx.Ok(X:Cx):Prop where
 mod:Mod X.K X.mg X.base
 kind:X.env.scope.kind=.function
 glob:X.env.globals=mainGlobals
 blt:X.env.builtins=builtinsNs
 above:X.IB.heap.objs.size<=X.env.locals
 inj:∀x y c,X.env.cells.lookup x=some c->X.env.cells.lookup y=some c->x=y
 has:∀x,(X.env.kindOf x=some .cell\/X.env.kindOf x=some .free)->∃c,X.env.cells.lookup x=some c
 ZA:∀x c,X.fn x=true->X.env.cells.lookup x=some c->X.IB.heap.objs.size<=c
 hd:X.calm=true->X.A.handled=none
 frames:X.A.frames=some X.stack
 ZT:X.stack=X.outer\/(X.stack=X.env::X.outer/\X.env.frame=some X.env.locals)
 ZS:∀b∈X.ex,b≠X.env.locals/\∀x c,X.env.cells.lookup x=some c->c≠b
 bs:∀b o,X.base.get? b=some o->X.IB.heap.get? b=some o/\X.Yw b=none
 V0:X.base.objs.size<=X.IB.heap.objs.size
 Ti:∀b o,X.base.get? b=some o->b∉X.ex
 SS:∀b∈X.ex,b∉X.fs
 Et:X.IB.heap.FunFrames X.base X.outer
 Yx:∀b∈X.fs,X.Yw b=none
structure Inv(X:Cx)(a:List (Addr×Obj))(b:List (Option V))(H:Hp)(s:Shared):Prop where
 ok:X.Ok
 os:s.os=X.IB.os
 bare:AllBare s.gens
 base:Un X.fs X.ex X.Yw H X.IB.heap s.heap
 loc:∃m,s.heap.Ns X.env.locals m/\∀(i:Nat) (x:Str) (v:V),X.N[i]?=some x->b[i]?=some (some v)->XJ X.env.scope x->∃u,RelV v u/\Look X.env s.heap m x u
 cell:∀x c,X.env.cells.lookup x=some c->∃v,s.heap.IsCell c v
 free:H X.env.locals=none
 vo:∀x c,X.env.cells.lookup x=some c->H c=none
 pin:∀p∈X.pn++a,s.heap.get? p.1=some p.2/\H p.1=none/\p.1≠X.env.locals/\p.1∉X.fs/\∀v,p.2.data≠.cell v
 e_:Bo X.prog X.w H s.heap
 len:b.length=X.N.length
section
variable{X:Cx}{pins:List (Addr×Obj)}{σ:List (Option V)}{H H':Hp}{s:Shared}{h':Heap}
theorem Cx.Ok.aad(ok:X.Ok){b:Addr}{o:Obj}(e:X.base.get? b=some o):b∉X.fs:=λa=>by
 have :=(ok.Et.mem a).1;rw[e]at this;cases this
theorem Inv.bs(I:Inv X pins σ H s):∀b o,X.base.get? b=some o->s.heap.get? b=some o/\H b=none:=λb o e=>
 ⟨I.base.keep b o (I.ok.bs b o e).1 (I.ok.bs b o e).2 (I.ok.aad e) (I.ok.Ti b o e),I.base.free b o (I.ok.bs b o e).1 (I.ok.bs b o e).2 (I.ok.Ti b o e)⟩
theorem Inv.bk(I:Inv X pins σ H s):∀b o,X.base.get? b=some o->s.heap.get? b=some o:=λb o e=>(I.bs b o e).1
theorem Inv.mod(I:Inv X pins σ H s):Mod X.K X.mg X.base:=I.ok.mod
theorem Inv.MH(I:Inv X pins σ H s):X.K.In s.heap:=I.ok.mod.Y2.keeps I.bk
theorem Inv.lt(I:Inv X pins σ H s):X.env.locals<s.heap.objs.size:=let ⟨_,hn,_⟩:=I.loc;hn.lt
theorem Inv.sz(I:Inv X pins σ H s):X.IB.heap.objs.size<=s.heap.objs.size:=bh I.ok.above (oq I.lt)
theorem Inv.Z5(I:Inv X pins σ H s){a:Addr}(h:s.heap.objs.size<=a):a∉X.fs:=λb=>by
 obtain⟨_,o,c,_⟩:=I.ok.Et.mem b;exact absurd (bB (aK c) (bh I.sz h)) (cW _)
theorem Inv.Yp(I:Inv X pins σ H s):∀x c,X.env.cells.lookup x=some c->c≠X.env.locals:=λx c e z=>by
 obtain⟨v,o,d,f⟩:=I.cell x c e;obtain⟨m,⟨g,h,i,a,b,_⟩,_⟩:=I.loc;rw[z,a]at d;cases d;rw[b]at f;cases f
theorem Inv.Et(I:Inv X pins σ H s):s.heap.FunFrames X.base X.outer:=by
 have all:∀(l:List Env),(∀b∈Uq l,b∈X.fs)->X.IB.heap.FunFrames X.base l->s.heap.FunFrames X.base l:=by
  intro l
  induction l with
  |nil=>intro _ _;trivial
  |cons g r h=>
   intro f i;obtain⟨j,⟨L,o,a,k,m,n⟩,p⟩:=i;have c:L∈X.fs:=f L (by unfold Uq;rw[iZ,a];exact aW);obtain⟨q,e⟩:=I.base.slot L o m (I.ok.Yx L c) c λz=>I.ok.SS L z c
   exact⟨j,⟨L,_,a,k,e,n⟩,h (λb d=>f b (by unfold Uq;rw[iZ,a];exact aA _ d)) p⟩
 exact all X.outer (λ_ d=>d) I.ok.Et
theorem Inv.stack(I:Inv X pins σ H s):s.heap.FunFrames X.base X.stack:=by
 rcases I.ok.ZT with e|⟨e,a⟩
 ·rw[e];exact I.Et
 ·rw[e];obtain⟨m,b,_⟩:=I.loc;refine .cons (by rw[I.ok.kind];decide) a b ?_ I.Et;exact Heap.get?_none_of_le (bh I.ok.V0 I.ok.above)
theorem Inv.OC(I:Inv X pins σ H s):∀b∈Uq X.stack,b∈X.env.locals::X.fs:=λb a=>by
 rcases I.ok.ZT with e|⟨e,c⟩
 ·rw[e]at a;exact aA _ a
 ·rw[e]at a;unfold Uq at a;rw[iZ,c]at a;exact a
theorem Inv.Qj(I:Inv X pins σ H s):∀b∈Uq X.stack,H b=none:=λb a=>by
 rcases af.mp (I.OC b a)with e|a
 ·rw[e];exact I.free
 ·obtain⟨_,o,c,_⟩:=I.ok.Et.mem a;exact I.base.free b o c (I.ok.Yx b a) λz=>I.ok.SS b z a
theorem Inv.step{g':Array GenState}{t':Nat}{d':Drawn}{ch:List Addr}(I:Inv X pins σ H s)
 (f:∀b∈ch,(b∈X.ex\/X.IB.heap.objs.size<=b)/\b≠X.env.locals/\(∀x c,X.env.cells.lookup x=some c->c≠b)/\∀p∈X.pn++pins,p.1≠b)
 (keep:∀b o,b≠X.env.locals->b∉X.fs->b∉ch->s.heap.get? b=some o->H b=none->h'.get? b=some o)
 (slot:∀b o,b≠X.env.locals->b∈X.fs->b∉ch->s.heap.get? b=some o->H b=none->∃N,h'.get? b=some {o with slots:=N})(free:∀b o,b∉ch->s.heap.get? b=some o->H b=none->H' b=none)
 (y:∀b o,b∉ch->s.heap.get? b=some o->∃C,h'.get? b=some C)
 (D:∀b t,H b=some (.tup t)->H' b=some (.tup t))(E:∀b o u,H b=some (.zJ o u)->H' b=some (.zJ o u))(G:∀b M,H b=some (.Yj M)->∃J,H' b=some (.Yj (M++J)))
 (ns:∀m,s.heap.Ns X.env.locals m->h'.Ns X.env.locals m)(O:Bo X.prog X.w H' h')(hg:AllBare g'):
 Inv X pins σ H' {s with heap:=h',gens:=g',drawn:=d',toks:=t'}:=by
 have L:∀b o,X.IB.heap.get? b=some o->b≠X.env.locals:=λb o e=>bG (bB (aK e) I.ok.above)
 have j:∀b o,X.IB.heap.get? b=some o->b∉X.ex->b∉ch:=λb o e a A=>by
  rcases(f b A).1 with z|z
  ·exact a z
  ·exact absurd (bB (aK e) z) (cW _)
 have g:∀x c,X.env.cells.lookup x=some c->∀v,s.heap.IsCell c v->h'.IsCell c v:=λx c e v ⟨o,B,Q⟩=>by
  have h:c∉ch:=λz=>(f c z).2.2.1 x c e rfl
  by_cases U:c∈X.fs
  ·obtain⟨N,q⟩:=slot c o (I.Yp x c e) U h B (I.vo x c e);exact⟨_,q,Q⟩
  ·exact⟨o,keep c o (I.Yp x c e) U h B (I.vo x c e),Q⟩
 refine⟨I.ok,I.os,hg,⟨λb o e n A a=>?_,λb o e n A a=>?_,λb o e n a=>?_,λb o e a=>?_,λb t e=>D b t (I.base.K9 b t e),λb o t e=>E b o t (I.base.Hc b o t e),λb M e=>?_⟩,?_,λx c e=>?_,?_,λx c e=>?_,λp Y=>?_,O,I.len⟩
 ·exact keep b o (L b o e) A (j b o e a) (I.base.keep b o e n A a) (I.base.free b o e n a)
 ·obtain⟨N,e1⟩:=I.base.slot b o e n A a;obtain⟨T,e2⟩:=slot b _ (L b o e) A (j b o e a) e1 (I.base.free b o e n a);exact⟨T,e2⟩
 ·obtain⟨C,e1⟩:=I.base.there b o e a;exact free b C (j b o e a) e1 (I.base.free b o e n a)
 ·obtain⟨C,e1⟩:=I.base.there b o e a;exact y b C (j b o e a) e1
 ·obtain⟨m1,e1⟩:=I.base.KJ b M e;obtain⟨m2,e2⟩:=G b _ e1;exact⟨m1++m2,by rw[e2,Array.append_assoc]⟩
 ·obtain⟨m,hn,hl⟩:=I.loc;refine⟨m,ns m hn,λi x v e1 e2 e3=>?_⟩;obtain⟨u,r,l⟩:=hl i x v e1 e2 e3;refine⟨u,r,?_⟩;rcases l with l|⟨k,c,e,z⟩
  ·exact .inl l
  ·exact .inr ⟨k,c,e,g x c e _ z⟩
 ·obtain⟨v,z⟩:=I.cell x c e;exact⟨v,g x c e v z⟩
 ·obtain⟨m,⟨o,_,_,B,_⟩,_⟩:=I.loc;exact free _ o (λz=>(f _ z).2.1 rfl) B I.free
 ·obtain⟨v,o,B,Q⟩:=I.cell x c e;exact free c o (λz=>(f c z).2.2.1 x c e rfl) B (I.vo x c e)
 ·obtain⟨e,n,Z,nf,d⟩:=I.pin p Y;have h:p.1∉ch:=λz=>(f p.1 z).2.2.2 p Y rfl
  exact⟨keep p.1 p.2 Z nf h e n,free p.1 p.2 h e n,Z,nf,d⟩
theorem Inv.un{t':Nat}(I:Inv X pins σ H s)(u:Un X.fs [] H H' s.heap h')(c:Bo X.prog X.w H' h'):Inv X pins σ H' {s with heap:=h',toks:=t'}:=by
 obtain⟨m,⟨o,l,p,h,r⟩,_⟩:=id I.loc;obtain⟨q,i⟩:=u.any h I.free (by simp);exact I.step (g':=s.gens) (d':=s.drawn) (ch:=[]) (λ_ z=>nomatch z) (λb o _ d _ e n=>u.keep b o e n d (by simp)) (λb o _ d _ e n=>u.slot b o e n d (by simp)) (λb o _ e n=>u.free b o e n (by simp)) (λb o _ e=>u.there b o e (by simp)) u.K9 u.Hc u.KJ (λt j=>by
  obtain⟨v,f,g,a,k⟩:=j;rw[h]at a;cases a;exact⟨_,f,g,i,k⟩) c I.bare
theorem Inv.call{g':Array GenState}{t':Nat}{d':Drawn}{ch:List Addr}(I:Inv X pins σ H s)(u:Un (Uq X.stack) ch H H' s.heap h')(g:Bo X.prog X.w H' h')(l:AllBare g')
 (d:∀b∈ch,(b∈X.ex\/X.IB.heap.objs.size<=b)/\b≠X.env.locals/\(∀x c,X.env.cells.lookup x=some c->c≠b)/\∀p∈X.pn++pins,p.1≠b):
 Inv X pins σ H' {s with heap:=h',gens:=g',drawn:=d',toks:=t'}:=by
 obtain⟨m,⟨o,y,A,k,r⟩,_⟩:=id I.loc;obtain⟨B,h⟩:=u.any k I.free λz=>(d _ z).2.1 rfl
 exact I.step (ch:=ch) d (λb o h q a e n=>u.keep b o e n (λz=>(af.mp (I.OC b z)).elim h q) a) (λb o _ _ a e n=>u.any e n a) (λb o a e n=>u.free b o e n a) (λb o a e=>u.there b o e a) u.K9 u.Hc u.KJ (λC t=>by
  obtain⟨D,i,j,f,v⟩:=t;rw[k]at f;cases f;exact⟨_,i,j,h,v⟩) g l
theorem Inv.turned{t':Nat}{it:Addr}(I:Inv X pins σ H s)(k:∀b o,b≠it->s.heap.get? b=some o->h'.get? b=some o)(g:H it=none)(f:it≠X.env.locals)
 (h:it∈X.ex\/X.IB.heap.objs.size<=it)(i:∀x c,X.env.cells.lookup x=some c->c≠it)(j:∀p∈X.pn++pins,p.1≠it):Inv X pins σ H {s with heap:=h',toks:=t'}:=by
 have d:∀b u,H b=some u->b≠it:=λb u e z=>by rw[z,g]at e;cases e
 refine I.step (g':=s.gens) (d':=s.drawn) (ch:=[it]) (λb l=>?_) (λb o _ _ a e _=>k b o (λz=>a (by simp[z])) e) (λb o _ _ a e _=>⟨o.slots,k b o (λz=>a (by simp[z])) e⟩) (λ_ _ _ _ n=>n)
  (λb o a e=>⟨o,k b o (λz=>a (by simp[z])) e⟩) (λ_ _ e=>e) (λ_ _ _ e=>e) (λb B e=>⟨#[],by rw[e];simp⟩) (λm t=>?_) (λb u e=>?_) I.bare
 ·have e:b=it:=by simpa using l
  subst e;exact⟨h,f,i,j⟩
 ·obtain⟨o,w,y,A,r⟩:=t;exact⟨o,w,y,k _ o (aY f) A,r⟩
 ·refine(I.e_ b u e).HW (λc v a q=>k c v ?_ q) (λ_ q=>q) λ_ _ q=>q
  rcases a with z|z
  ·rw[z];exact d b u e
  ·exact d c _ z
theorem Inv.tok(I:Inv X pins σ H s)(t:Nat):Inv X pins σ H {s with toks:=t}:=I.un (h':=s.heap) (t':=t) Un.refl I.e_
theorem Inv.kept{t':Nat}(I:Inv X pins σ H s)(k:∀b u,s.heap.get? b=some u->h'.get? b=some u):Inv X pins σ H {s with heap:=h',toks:=t'}:=I.un (Un.kept k) (I.e_.kept k)
theorem Inv.laid{a:Addr}{o:HO}{t':Nat}(I:Inv X pins σ H s)(k:∀b u,s.heap.get? b=some u->h'.get? b=some u)(c:s.heap.objs.size<=a)(d:l9 X.prog X.w (upd H a o) h' a o):
 Inv X pins σ (upd H a o) {s with heap:=h',toks:=t'}:=I.un (Un.laid k c (I.e_.fresh c)) (I.e_.laid k c d)
theorem Inv.write{x e:Addr}{o:HO}{t':Nat}(I:Inv X pins σ H s)(d:V8 (H x))(f:e=x\/H e=some (.own x))(k:∀b u,b≠e->s.heap.get? b=some u->h'.get? b=some u)(a:∃u,h'.get? e=some u)
 (c:l9 X.prog X.w (upd H x o) h' x o):Inv X pins σ (upd H x o) {s with heap:=h',toks:=t'}:=I.un (Un.write d f k a) (I.e_.write d f k a c)
theorem Inv.weak{a:List (Option V)}(I:Inv X pins σ H s)(c:a.length=σ.length)(w:∀(i:Nat) v,a[i]?=some (some v)->σ[i]?=some (some v)):Inv X pins a H s:=
 ⟨I.ok,I.os,I.bare,I.base,let ⟨m,d,b⟩:=I.loc;⟨m,d,λi x v e1 e2 e3=>b i x v e1 (w i v e2) e3⟩,I.cell,I.free,I.vo,I.pin,I.e_,c.trans I.len⟩
theorem Inv.PY{a:List (Addr×Obj)}(I:Inv X pins σ H s)(h:∀p∈a,s.heap.get? p.1=some p.2/\H p.1=none/\p.1≠X.env.locals/\p.1∉X.fs/\∀v,p.2.data≠.cell v):Inv X a σ H s:=
 ⟨I.ok,I.os,I.bare,I.base,I.loc,I.cell,I.free,I.vo,λp b=>(bg.mp b).elim (λz=>I.pin p (gA _ z)) (h p),I.e_,I.len⟩
theorem Hd{N:List Str}(c:N.Nodup){i j:Nat}{x:Str}(a:N[i]?=some x) (b:N[j]?=some x):i=j:=by
 obtain⟨d,e1⟩:=ai.mp a;obtain⟨e,e2⟩:=ai.mp b;exact(List.getElem_inj c).mp (e1.trans e2.symm)
theorem Iy{M:Model}{A:Around}{E:Value->Shared->Prop}{i:Nat}{x:Str}{v:V}{u:Value}{Q:Unit->Shared->Prop}(I:Inv X pins σ H s)(hN:X.N.Nodup)(O:X.N[i]?=some x) (t:Loc X.env.scope x) (r:RelV v u)
 (h:∀s',Inv X pins (σ.set i (some v)) H s'->(∃a,Heap.SameBut a s.heap s'.heap/\(a=X.env.locals\/X.env.cells.lookup x=some a))->Q () s') (hf:X.fn x=true\/X.env.scope.names.lookup x=some .local:=by first|exact .inl rfl|exact .inr rfl|assumption):wpAny M A (storeName X.env x u) Q E s:=by
 obtain⟨m,hn,hl⟩:=id I.loc;have T:(X.env.scope.kind==.class||(X.env.scope.kind==.module&&X.env.locals !=X.env.globals))=false:=by rw[I.ok.kind];rfl
 have C:i<σ.length:=by rw[I.len];exact(ai.mp O).1
 have Yp:=I.Yp;have g:∀{a:Addr} {h':Heap},(∃o,s.heap.get? a=some o/\H a=none)->Heap.SameBut a s.heap h'->Bo X.prog X.w H h':=λ{a h'} ha f b ob e=>by
  obtain⟨_,_,B⟩:=ha;refine(I.e_ b ob e).HW (λc w' l q=>(f.2 c ?_).trans q) (λ_ q=>q) λ_ _ q=>q
  rintro rfl;rcases l with rfl|l
  ·rw[B]at e;cases e
  ·rw[B]at l;cases l
 rcases t with D|D
 ·refine wpAny_storeName_local D hn (λh' x1 f=>?_) T;obtain⟨oL,_,_,x2,_⟩:=id hn;refine h _ ⟨I.ok,I.os,I.bare,⟨λb o e n G t=>?_,λb o e n G t=>?_,I.base.free,λb o e t=>?_,I.base.K9,I.base.Hc,I.base.KJ⟩,⟨_,x1,λj y v' e1 e2 e3=>?_⟩,λy c e=>?_,I.free,I.vo,λp hp=>?_,g ⟨oL,x2,I.free⟩ f,by simpa using I.len⟩ ⟨_,f,.inl rfl⟩
  ·exact(f.2 b (bG (bB (aK e) I.ok.above))).trans (I.base.keep b o e n G t)
  ·obtain⟨sl,e1⟩:=I.base.slot b o e n G t;exact⟨sl,(f.2 b (bG (bB (aK e) I.ok.above))).trans e1⟩
  ·obtain⟨o',e1⟩:=I.base.there b o e t;exact⟨o',(f.2 b (bG (bB (aK e) I.ok.above))).trans e1⟩
  ·by_cases J:j=i
   ·subst J;rw[O]at e1;cases e1;rw[jz C]at e2;cases e2;exact⟨u,r,.inl ⟨D,by simp⟩⟩
   ·rw[ke (aY J)]at e2;obtain⟨u',r',q⟩:=hl j y v' e1 e2 e3;refine⟨u',r',?_⟩;rcases q with⟨k,e⟩|⟨k,c,e,z⟩
    ·refine .inl ⟨k,?_⟩;have :y≠x:=λe=>J (Hd hN e1 (e▸O))
     simp[this,e]
    ·exact .inr ⟨k,c,e,z.sameBut f (Yp y c e)⟩
  ·obtain⟨w',z⟩:=I.cell y c e;exact⟨w',z.sameBut f (Yp y c e)⟩
  ·obtain⟨e,n,ne,nf,d⟩:=I.pin p hp;exact⟨(f.2 p.1 ne).trans e,n,ne,nf,d⟩
 ·have L:X.fn x=true:=by
   rcases hf with z|z
   ·exact z
   ·rw[z]at D;cases D
  obtain⟨c,l⟩:=I.ok.has x (.inl D);obtain⟨w',z⟩:=I.cell x c l;refine wpAny_storeName_cell I.ok.kind D l z (λh' U f=>?_);obtain⟨oc,Y,Z⟩:=id z;refine h {s with heap:=h'} ⟨I.ok,I.os,I.bare,⟨λb o e n G t=>?_,λb o e n G t=>?_,I.base.free,λb o e t=>?_,I.base.K9,I.base.Hc,I.base.KJ⟩,⟨m,hn.sameBut f (aY (Yp x c l)),λj y v' e1 e2 e3=>?_⟩,λy c' e=>?_,I.free,I.vo,λp hp=>?_,g ⟨oc,Y,I.vo x c l⟩ f,by simpa using I.len⟩ ⟨c,f,.inr l⟩
  ·exact(f.2 b (bG (bB (aK e) (I.ok.ZA x c L l)))).trans (I.base.keep b o e n G t)
  ·obtain⟨sl,e1⟩:=I.base.slot b o e n G t;exact⟨sl,(f.2 b (bG (bB (aK e) (I.ok.ZA x c L l)))).trans e1⟩
  ·obtain⟨o',e1⟩:=I.base.there b o e t;exact⟨o',(f.2 b (bG (bB (aK e) (I.ok.ZA x c L l)))).trans e1⟩
  ·by_cases J:j=i
   ·subst J;rw[O]at e1;cases e1;rw[jz C]at e2;cases e2;exact⟨u,r,.inr ⟨.inl D,c,l,U⟩⟩
   ·rw[ke (aY J)]at e2;obtain⟨u',r',q⟩:=hl j y v' e1 e2 e3;refine⟨u',r',?_⟩;rcases q with q|⟨k,c',e,z'⟩
    ·exact .inl q
    ·refine .inr ⟨k,c',e,z'.sameBut f ?_⟩;rintro rfl;exact J (Hd hN e1 (I.ok.inj _ _ _ e l▸O))
  ·by_cases x0:c'=c
   ·subst x0;exact⟨_,U⟩
   ·obtain⟨w2,z2⟩:=I.cell y c' e;exact⟨w2,z2.sameBut f x0⟩
  ·obtain⟨e,n,ne,nf,d⟩:=I.pin p hp;refine⟨(f.2 p.1 ?_).trans e,n,ne,nf,d⟩;intro q;rw[q,Y]at e;have q':oc=p.2:=bR e;exact d w' (by rw[<-q'];exact Z)
theorem Fc{M:Model}{A:Around}{E:Value->Shared->Prop}{i:Nat}{x:Str}{v:V}{u:Value}{Q:Unit->Shared->Prop}(I:Inv X pins σ H s)(b:X.N.Nodup)(c:X.N[i]?=some x) (d:Loc X.env.scope x) (r:RelV v u)
 (h:∀a,Inv X pins (σ.set i (some v)) H a->Q () a) (e:X.fn x=true\/X.env.scope.names.lookup x=some .local:=by first|exact .inl rfl|exact .inr rfl|assumption):wpAny M A (storeName X.env x u) Q E s:=
 Iy I b c d r (λa f _=>h a f) e
theorem Inv.Xr{a:Shared}{ch:List Addr}(I:Inv X pins σ H s)(g:a.os=s.os)(u:Un (Uq X.stack) ch H H' s.heap a.heap)(d:Bo X.prog X.w H' a.heap)(h:AllBare a.gens)
 (f:∀b∈ch,(b∈X.ex\/X.IB.heap.objs.size<=b)/\b≠X.env.locals/\(∀x c,X.env.cells.lookup x=some c->c≠b)/\∀p∈X.pn++pins,p.1≠b):Inv X pins σ H' a:=by
 obtain⟨h',g',d',t',i⟩:=a;have e:i=s.os:=g;subst e;exact I.call (g':=g') (t':=t') (d':=d') u d h f
end
abbrev XK:=Value->Option Addr->Hp->Prop
abbrev St:=List (Option V)
abbrev VK:=V->Hp->Prop
abbrev TE:=St->Hp->VK->Prop
abbrev TT:=St->Hp->(Bool->Hp->Prop)->Prop
abbrev TA:=St->Hp->(List V->Hp->Prop)->Prop
structure Ends where
 nx:St->Hp->Prop
 rt:VK
 bk:St->Hp->Prop:=λ_ _=>False
 ct:St->Hp->Prop:=λ_ _=>False
abbrev TS:=Ends->St->Hp->Prop
def EP(X:Cx)(a:List (Addr×Obj))(c:St)(Q:VK)(u:Value)(d:Shared):Prop:=om λv b=>Inv X a c b d/\RelV v u/\Q v b
def TP(X:Cx)(a:List (Addr×Obj))(d:St)(Q:Bool->Hp->Prop)(b:Bool)(e:Shared):Prop:=∃c,Inv X a d c e/\Q b c
def AP(X:Cx)(a:List (Addr×Obj))(d:St)(Q:List V->Hp->Prop)(e:List Value)(f:Shared):Prop:=om λb c=>Inv X a d c f/\Vals b e/\Q b c
def SP(X:Cx)(b:List (Addr×Obj))(D:Ends)(f:Flow)(d:Shared):Prop:=
 match f with
 |.next=>om λa c=>Inv X b a c d/\D.nx a c
 |.brk=>om λa c=>Inv X b a c d/\D.bk a c
 |.cont=>om λa c=>Inv X b a c d/\D.ct a c
 |.ret u=>Hl λv a c=>Inv X b a c d/\RelV v u/\D.rt v c
def PE(X:Cx)(e:Expr)(t:TE):Prop:=
 ∀(a:List (Addr×Obj)) (s:Shared) (b:St) (H:Hp) (Q:VK),Inv X a b H s->t b H Q->wpAny (model X.prog X.w) X.A (eval e X.env) (EP X a b Q) X.xe s
def PT(X:Cx)(e:Expr)(t:TT):Prop:=
 ∀(a:List (Addr×Obj)) (s:Shared) (b:St) (H:Hp) (Q:Bool->Hp->Prop),Inv X a b H s->t b H Q->wpAny (model X.prog X.w) X.A (isTrue e X.env (eval e X.env)) (TP X a b Q) X.xe s
def PA(X:Cx)(d:List Expr)(t:TA):Prop:=
 ∀(b:Pos) (a:List (Addr×Obj)) (s:Shared) (c:St) (H:Hp) (Q:List V->Hp->Prop),Inv X a c H s->t c H Q->wpAny (model X.prog X.w) X.A (spliced (backTo b (starEach d X.env))) (AP X a c Q) X.xe s
def PS(X:Cx)(st:Stmt)(t:TS):Prop:=
 ∀(a:List (Addr×Obj)) (s:Shared) (b:St) (H:Hp) (D:Ends),Inv X a b H s->t D b H->wpAny (model X.prog X.w) X.A (exec st X.env) (SP X a D) X.xe s
def PM(X:Cx)(st:List Stmt)(t:TS):Prop:=
 ∀(a:List (Addr×Obj)) (s:Shared) (b:St) (H:Hp) (D:Ends),Inv X a b H s->t D b H->wpAny (model X.prog X.w) X.A (execs st X.env) (SP X a D) X.xe s
theorem iz{b:Type}{t:Sem b}{Q c:b->Shared->Prop}{M:Model}{A:Around}{E:Value->Shared->Prop}{s:Shared}(h:wpAny M A t Q E s)(d:∀a s,Q a s->c a s):wpAny M A t c E s:=eJ h d λ_ _ x=>x
section
variable{X:Cx}
def ao(i:Nat):TE:=λa H Q=>∃v,a[i]?=some (some v)/\Q v H
def tC(v:V):TE:=λ_ H Q=>Q v H
theorem Sz{i:Nat}{x:Str}{f:Pos}(n:X.N[i]?=some x) (o:XJ X.env.scope x) (g:(x==("__debug__":Str))=false:=by decide) (j:(x==("__classdict__":Str))=false:=by decide):PE X (.Name x f) (ao i):=by
 intro d s p H Q I h;obtain⟨v,e,h⟩:=h;obtain⟨m,q,t⟩:=I.loc;obtain⟨u,r,l⟩:=t i x v n e o;have fin:EP X d p Q u s:=⟨v,H,I,r,h⟩;rcases l with⟨b,w⟩|⟨b,c,k,a⟩
 ·exact wpAny_Name (oZ I.ok.kind b q w fin) g
 ·rcases b with b|b
  ·exact wpAny_Name (wpAny_loadName_cell I.ok.kind b k a fin) g
  ·exact wpAny_Name (wpAny_loadName_free I.ok.kind b k a fin j) g
theorem bW{i j a}:PE X (.Constant (.int i) j a) (tC (.int i)):=λ_ _ _ H _ I h=>wpAny_Constant_int ⟨.int i,H,I.tok _,⟨_,rfl⟩,h⟩
theorem LV{b j a}:PE X (.Constant (.bool b) j a) (tC (.bl b)):=λ_ _ _ H _ I h=>Constant_bool ⟨.bl b,H,I,rfl,h⟩
theorem JO{j a}:PE X (.Constant .none j a) (tC .non):=λ_ _ _ H _ I h=>Constant_none ⟨.non,H,I,rfl,h⟩
def Gl(X:Cx)(x:Str):Prop:=X.env.kindOf x=some .globalImplicit
theorem EX{E:Value->Shared->Prop}{a:List (Addr×Obj)}{s:Shared}{c:St}{H:Hp}{x:Str}{u:Value}{b:Pos}{Q:Value->Shared->Prop}(I:Inv X a c H s)(d:Gl X x)(e:X.mg x=some u)(h:Q u s)
 (f:(x==("__debug__":Str))=false:=by decide):wpAny (model X.prog X.w) X.A (eval (.Name x b) X.env) Q E s:=
 kK I.ok.kind d (Calls.loadGlobal_global (by rw[I.ok.glob];exact I.mod.glob.keeps I.bk) e h) f
theorem qC{E:Value->Shared->Prop}{a:List (Addr×Obj)}{s:Shared}{c:St}{H:Hp}{x:Str}{u:Value}{b:Pos}{Q:Value->Shared->Prop}(I:Inv X a c H s)(d:Gl X x)(e:X.mg x=none)(f:bootBuiltins x=some u)(h:Q u s)
 (g:x≠"__name__":=by decide)(i:(x==("__debug__":Str))=false:=by decide):wpAny (model X.prog X.w) X.A (eval (.Name x b) X.env) Q E s:=by
 obtain⟨l,j,k⟩:=I.mod.blt;exact kK I.ok.kind d (Calls.loadGlobal_builtin (by rw[I.ok.glob];exact I.mod.glob.keeps I.bk) e (by rw[I.ok.blt];exact j.keeps I.bk) ((k x g).trans f) h) i
theorem QJ{x:Str}{v:V}{u:Value}{a:Pos}(b:Gl X x)(c:X.mg x=some u)(r:RelV v u)(d:(x==("__debug__":Str))=false:=by decide):PE X (.Name x a) (tC v):=
 λ_ _ _ H _ I h=>EX I b c ⟨v,H,I,r,h⟩ d
variable{a b:Expr}{ta tb:TE}{pos:Pos}
def PC(X:Cx)(g:CmpOp)(a b:Expr)(t:TE):Prop:=
 ∀(c:List (Addr×Obj)) (s:Shared) (f:St) (H:Hp) (Q:VK),Inv X c f H s->t f H Q->
  wpAny (model X.prog X.w) X.A (eval a X.env) (λv d=>wpAny (model X.prog X.w) X.A (eval b X.env) (λu e=>wpAny (model X.prog X.w) X.A (compareOp g v u) (EP X c f Q) X.xe e) X.xe d) X.xe s
theorem U6(b:Expr){c:CmpOp}(h:c≠.In)(d:c≠.NotIn):behindInMarks c b=false:=by
 have e1:(c==CmpOp.In)=false:=by cases c<;>first|rfl|exact absurd rfl h
 have e2:(c==CmpOp.NotIn)=false:=by cases c<;>first|rfl|exact absurd rfl d
 cases b<;>simp[behindInMarks,e1,e2]
def Wz(ta:TE):TE:=λc H Q=>ta c H λx d=>Q (.bl (decide (x=.non))) d
theorem RelV.SJ{x:V}{v:Value}(r:RelV x v):(v==Value.none)=decide (x=.non):=by
 cases x with
 |non=>cases r;rfl
 |bl _=>cases r;rfl
 |int _=>obtain⟨t,rfl⟩:=r;rfl
 |str _=>obtain⟨t,rfl⟩:=r;rfl
 |JX _=>obtain⟨t,rfl⟩:=r;rfl
 |ZH _=>obtain⟨t,rfl⟩:=r;rfl
 |ref _=>cases r;rfl
 |ty _=>cases r;rfl
theorem N1{j c}(e:PE X a ta):PC X .Is a (.Constant .none j c) (Wz ta):=by
 intro d s f H Q I h;refine iz (e d s f H _ I h) ?_;rintro v m ⟨x,g,i,k,l⟩;exact Constant_none (is_none_gen ⟨.bl _,g,i,by rw[k.SJ];rfl,l⟩)
def tB(t:TE):TT:=λd H Q=>t d H λx e=>∃c,x=.bl c/\Q c e
theorem GY{f:CmpOp}{t:TE}(h:PC X f a b t)(g:behindInMarks f b=false:=by first|exact U6 _ (by decide) (by decide)|rfl):PT X (.Compare a [f] [b] pos) (tB t):=by
 intro e s i H Q I j;refine nW (iz (h e s i H _ I j) λv p g=>iz g λu r k=>iz k ?_) g;rintro c w ⟨x,l,m,n,o⟩;obtain⟨d,rfl,q⟩:=o;cases n;exact dg ⟨l,m,q⟩
theorem kq{e:Expr}{t:TE}(h:PE X e t)(f:∀whole,isTrue e X.env whole=(do let v<-whole;standAt e.pos;holding [v] (truthy v)):=by intro _;rfl):PT X e (tB t):=by
 intro c s g H Q I i;refine isTrue_plain (iz (h c s g H _ I i) ?_) (f _);rintro v n ⟨x,j,k,l,m⟩;obtain⟨d,rfl,q⟩:=m;cases l;exact dg ⟨j,k,q⟩
variable{tA tB':TT}{gz:List Expr}
def EI(t:TT):TT:=λd H Q=>t d H λc e=>Q (!c) e
theorem tE(e:PT X a tA):PT X (.UnaryOp .Not a pos) (EI tA):=by
 intro d s f H Q I h;exact isTrue_not (e d s f H (λc g=>Q (!c) g) I h)
def Qg(ta tb:TE):TE:=λd H Q=>ta d H λx e=>∃c,x=.bl c/\if c=true then tb d e Q else Q (.bl false) e
def Ys(ta tb:TE):TE:=λd H Q=>ta d H λx e=>∃c,x=.bl c/\if c=true then Q (.bl true) e else tb d e Q
def Xz(ta:TE):TE:=λd H Q=>ta d H λx e=>∃c,x=.bl c/\Q (.bl (!c)) e
theorem F_{d}{t:TE}(h:PE X a t):PE X (.BoolOp d [a] pos) t:=λc s e H Q I f=>BoolOp_one (h c s e H Q I f)
theorem Ov(j:PE X a ta)(k:PE X (.BoolOp .And (b::gz) pos) tb):PE X (.BoolOp .And (a::b::gz) pos) (Qg ta tb):=by
 intro d s f H Q I h;refine BoolOp_and (iz (j d s f H _ I h) ?_);rintro v l ⟨x,g,i,m,e⟩;obtain⟨c,rfl,e⟩:=e;cases m;refine dg ?_;cases c with
 |true=>exact k d l f g Q i e
 |false=>exact⟨.bl false,g,i,rfl,e⟩
theorem W7(j:PE X a ta)(k:PE X (.BoolOp .Or (b::gz) pos) tb):PE X (.BoolOp .Or (a::b::gz) pos) (Ys ta tb):=by
 intro d s f H Q I h;refine BoolOp_or (iz (j d s f H _ I h) ?_);rintro v l ⟨x,g,i,m,e⟩;obtain⟨c,rfl,e⟩:=e;cases m;refine dg ?_;cases c with
 |false=>exact k d l f g Q i e
 |true=>exact⟨.bl true,g,i,rfl,e⟩
theorem XD(f:PE X a ta):PE X (.UnaryOp .Not a pos) (Xz ta):=by
 intro d s g H Q I h;refine UnaryOp_ (iz (f d s g H _ I h) ?_);rintro v l ⟨x,i,j,k,e⟩;obtain⟨c,rfl,e⟩:=e;cases k;exact not_of (dg ⟨.bl (!c),i,j,rfl,e⟩)
def ZQ(t:TT)(ta tb:TE):TE:=λd H Q=>t d H λc e=>if c=true then ta d e Q else tb d e Q
theorem Fv{c:Expr}(l:PT X c tA)(m:PE X a ta)(n:PE X b tb):PE X (.IfExp c a b pos) (ZQ tA ta tb):=by
 intro e s f H Q I h;refine wpAny_IfExp (iz (l e s f H _ I h) ?_);rintro d g ⟨i,j,k⟩;cases d with
 |true=>exact m e g f i Q j k
 |false=>exact n e g f i Q j k
end
def eD(K:Frag)(H:Hp)(a:Addr)(xs:List V):Prop:=
 Rd H a (.lst xs)\/
  ∃(o:Obj) (b:Array Value) (n:Nat),K.lookup a=some o/\o.cls=.type "list"/\o.dict=none/\o.data=.seq b n/\b.size<=sizeLine/\Vals xs b.toList
def kF(K:Frag)(H:Hp)(a:Addr)(xs:List V):Prop:=
 Rd H a (.tup xs)\/
  ∃(o:Obj) (b:Array Value) (n:Nat),K.lookup a=some o/\o.cls=.type "tuple"/\o.data=.seq b n/\b.size<=sizeLine/\Vals xs b.toList
def Z7:Value->Option V
 |.none=>some .non
 |.bool b=>some (.bl b)
 |.int i _=>some (.int i)
 |.str x _=>some (.str x)
 |.bytes b _=>some (.JX b)
 |.float b _=>some (.ZH b)
 |.ref a=>some (.ref a)
 |.type n=>some (.ty n)
 |_=>none
theorem RelV.abs{x:V}{u:Value}(r:RelV x u):Z7 u=some x:=by
 cases x with
 |non=>cases r;rfl
 |bl _=>cases r;rfl
 |int _=>obtain⟨t,rfl⟩:=r;rfl
 |str _=>obtain⟨t,rfl⟩:=r;rfl
 |JX _=>obtain⟨t,rfl⟩:=r;rfl
 |ZH _=>obtain⟨t,rfl⟩:=r;rfl
 |ref _=>cases r;rfl
 |ty _=>cases r;rfl
theorem RelV.inj{x y:V}{u:Value}(r:RelV x u)(q:RelV y u):x=y:=bR (r.abs.symm.trans q.abs)
theorem Vals.inj:∀{a b:List V} {c:List Value},Vals a c->Vals b c->a=b
 |_,_,_,.nil,.nil=>rfl
 |_,_,_,.cons r t,.cons d e=>by rw[r.inj d,Vals.inj t e]
section
variable{X:Cx}{pins:List (Addr×Obj)}{σ:St}{H:Hp}{s:Shared}{a:Addr}{xs ys:List V}
theorem eD.of{K:Frag}(h:H a=some (.lst xs)):eD K H a xs:=.inl (.inl h)
theorem kF.of{K:Frag}(h:H a=some (.tup xs)):kF K H a xs:=.inl (.inl h)
theorem Inv.list(I:Inv X pins σ H s)(h:eD X.K H a xs):∃b:List Value,Vals xs b/\PlainL s.heap a b.toArray/\xs.length<=sizeLine:=by
 rcases h with h|⟨o,b,n,c,d,f,g,i,r⟩
 ·obtain⟨z,b,n,r,e⟩:=h.ok I.e_;exact⟨b,r,⟨_,n,e,rfl,rfl,rfl⟩,z⟩
 ·refine⟨b.toList,r,⟨o,n,I.MH a o c,d,f,by simpa using g⟩,?_⟩;have e:=r.length;simp only[bM]at e;omega
theorem Inv.tuple(I:Inv X pins σ H s)(h:kF X.K H a xs):∃b:List Value,Vals xs b/\IsTup s.heap a b.toArray/\xs.length<=sizeLine:=by
 rcases h with h|⟨o,b,n,c,d,f,g,r⟩
 ·obtain⟨z,b,r,p⟩:=h.ok I.e_;exact⟨b,r,p,z⟩
 ·refine⟨b.toList,r,⟨o,I.MH a o c,d,n,by simpa using f⟩,?_⟩;have e:=r.length;simp only[bM]at e;omega
theorem Inv.BI(I:Inv X pins σ H s)(h:eD X.K H a xs)(i:eD X.K H a ys):xs=ys:=by
 obtain⟨c,r,⟨o,n,e,_,_,d⟩,_⟩:=I.list h;obtain⟨b,j,⟨l,m,f,_,_,g⟩,_⟩:=I.list i;rw[e]at f;cases f;rw[d]at g;injection g with k _
 have :c=b:=by simpa using congrArg Array.toList k
 subst this;exact r.inj j
theorem Inv.RW(I:Inv X pins σ H s)(h:kF X.K H a xs)(i:kF X.K H a ys):xs=ys:=by
 obtain⟨c,r,⟨o,e,_,n,d⟩,_⟩:=I.tuple h;obtain⟨b,j,⟨l,f,_,m,g⟩,_⟩:=I.tuple i;rw[e]at f;cases f;rw[d]at g;injection g with k _
 have :c=b:=by simpa using congrArg Array.toList k
 subst this;exact r.inj j
end
abbrev Cx.HY(X:Cx)(E:Value->Shared->Prop):Cx:={X with xe:=E}
abbrev Cx.Zc(X:Cx):Cx:=X.HY λ_ _=>False
theorem Cx.Ok.HY{X:Cx}(ok:X.Ok)(E:Value->Shared->Prop):(X.HY E).Ok:=
 ⟨ok.mod,ok.kind,ok.glob,ok.blt,ok.above,ok.inj,ok.has,ok.ZA,ok.hd,ok.frames,ok.ZT,ok.ZS,ok.bs,ok.V0,ok.Ti,ok.SS,ok.Et,ok.Yx⟩
theorem Cx.Ok.xC{X:Cx}{E:Value->Shared->Prop}(ok:(X.HY E).Ok):X.Ok:=
 ⟨ok.mod,ok.kind,ok.glob,ok.blt,ok.above,ok.inj,ok.has,ok.ZA,ok.hd,ok.frames,ok.ZT,ok.ZS,ok.bs,ok.V0,ok.Ti,ok.SS,ok.Et,ok.Yx⟩
section
variable{X:Cx}{pins:List (Addr×Obj)}{σ:St}{H:Hp}{s:Shared}{E:Value->Shared->Prop}
theorem Inv.HY(I:Inv X pins σ H s)(E:Value->Shared->Prop):Inv (X.HY E) pins σ H s:=⟨I.ok.HY E,I.os,I.bare,I.base,I.loc,I.cell,I.free,I.vo,I.pin,I.e_,I.len⟩
theorem Inv.xC(I:Inv (X.HY E) pins σ H s):Inv X pins σ H s:=⟨I.ok.xC,I.os,I.bare,I.base,I.loc,I.cell,I.free,I.vo,I.pin,I.e_,I.len⟩
theorem SP.xC{D:Ends}{f:Flow}{c:Shared}(h:SP (X.HY E) pins D f c):SP X pins D f c:=by
 cases f with
 |next=>obtain⟨a,b,I,q⟩:=h;exact⟨a,b,I.xC,q⟩
 |brk=>obtain⟨a,b,I,q⟩:=h;exact⟨a,b,I.xC,q⟩
 |cont=>obtain⟨a,b,I,q⟩:=h;exact⟨a,b,I.xC,q⟩
 |ret u=>obtain⟨v,a,b,I,r,q⟩:=h;exact⟨v,a,b,I.xC,r,q⟩
theorem PM.Zc{st:List Stmt}{t:TS}(h:PM X.Zc st t):PM X st t:=λpins s σ H D I a=>
 eJ (h pins s σ H D (I.HY _) a) (λ_ _ q=>q.xC) λ_ _ z=>False.elim z
end
section
variable{X:Cx}{st:Stmt}{gz:List Stmt}{t u:TS}{e:Expr}{te:TE}{pos:Pos}
def g9:TS:=λD a H=>D.nx a H
def bO(t u:TS):TS:=λD a H=>t {D with nx:=u D} a H
theorem d8:PM X [] g9:=λ_ _ a H _ I h=>lj ⟨a,H,I,h⟩
theorem aw(c:PS X st t)(d:PM X gz u):PM X (st::gz) (bO t u):=by
 intro a s g H D I h;refine wpAny_execs_cons (iz (c a s g H {D with nx:=u D} I h) λf i q=>?_);cases f with
 |next=>
  obtain⟨b,j,k,q⟩:=q;exact d a i b j D k q
 |ret v=>exact q
 |brk=>exact q
 |cont=>exact q
theorem aH(b:PS X st t):PM X [st] t:=by
 intro a s c H D I h;refine wpAny_execs_cons (iz (b a s c H D I h) λf d q=>?_);cases f with
 |next=>exact lj q
 |ret v=>exact q
 |brk=>exact q
 |cont=>exact q
theorem Inv.quiet{a:List (Addr×Obj)}{b:St}{H:Hp}{s:Shared}(I:Inv X a b H s):interactive X.env=false:=by simp[interactive,I.ok.kind]
def i_(te:TE):TS:=λD a H=>te a H λ_ b=>D.nx a b
theorem fL(c:PE X e te)(d:swapsWith e none pos.line X.env=pure false:=by rfl):PS X (.Expr e pos) (i_ te):=by
 intro a s b H D I h;exact wpAny_Expr_any (iz (c a s b H _ I h) λv j ⟨x,f,g,k,i⟩=>⟨b,f,g,i⟩) I.quiet d
def dC(te:TE):TS:=λD a H=>te a H D.rt
theorem bE(c:PE X e te):PS X (.Return (some e) pos) (dC te):=by
 intro a s b H D I h;exact wpAny_Return_some (iz (c a s b H _ I h) λv j ⟨x,d,f,g,i⟩=>⟨x,b,d,f,g,i⟩)
def Xi:TS:=λD _ H=>D.rt .non H
theorem WK:PS X (.Return none pos) Xi:=λ_ _ a H _ I h=>wpAny_Return_none ⟨.non,a,H,I,rfl,h⟩
def k8(c:TT)(t u:TS):TS:=λD a H=>c a H λb d=>if b=true then t D a d else u D a d
theorem g8{c:Expr}{a b:List Stmt}{i:TT}(n:PT X c i)(o:PM X a t)(p:PM X b u):PS X (.If c a b pos) (k8 i t u):=by
 intro f s g H D I h;refine wpAny_If (iz (n f s g H _ I h) ?_);rintro d j ⟨k,l,m⟩;cases d with
 |true=>exact o f j g k D l m
 |false=>exact p f j g k D l m
end
abbrev TG:=V->St->Hp->(St->Hp->Prop)->Prop
abbrev XG:=List V->St->Hp->(St->Hp->Prop)->Prop
def PG(X:Cx)(a:Expr)(t:TG):Prop:=
 ∀(b:List (Addr×Obj)) (s:Shared) (d:St) (H:Hp) (v:V) (u:Value) (Q:St->Hp->Prop),Inv X b d H s->RelV v u->t v d H Q->
  wpAny (model X.prog X.w) X.A (assign a X.env u) (λ_ f=>om λc e=>Inv X b c e f/\Q c e) X.xe s
def ZU(X:Cx)(g:List Expr)(t:XG):Prop:=
 ∀(a:List (Addr×Obj)) (s:Shared) (c:St) (H:Hp) (d:List V) (e:List Value) (Q:St->Hp->Prop),Inv X a c H s->Vals d e->t d c H Q->
  wpAny (model X.prog X.w) X.A (assignInOrder ((assignEach g X.env).map (·.2)) e) (λ_ h=>om λb f=>Inv X a b f h/\Q b f) X.xe s
abbrev YY:=V->V->V->Hp->(Hp->Prop)->Prop
def Y9(X:Cx)(t:YY):Prop:=
 ∀(a:List (Addr×Obj)) (s:Shared) (b:St) (H:Hp) (o i v:V) (c d u:Value) (Q:Hp->Prop),Inv X a b H s->RelV o c->RelV i d->RelV v u->t o i v H Q->
  wpAny (model X.prog X.w) X.A (setItem c d u) (λ_ f=>∃e,Inv X a b e f/\Q e) X.xe s
abbrev ZR:=V->V->Hp->VK->Prop
def PIp(X:Cx)(c:Operator)(t:ZR):Prop:=
 ∀(a:List (Addr×Obj)) (s:Shared) (b:St) (H:Hp) (x y:V) (v u:Value) (Q:VK),Inv X a b H s->RelV x v->RelV y u->t x y H Q->
  wpAny (model X.prog X.w) X.A (inplaceOp c v u) (EP X a b Q) X.xe s
section
variable{X:Cx}{pos:Pos}
def bw(i:Nat):TG:=λv a H Q=>Q (a.set i (some v)) H
theorem Wv{i:Nat}{x:Str}(b:X.N.Nodup)(c:X.N[i]?=some x) (d:Loc X.env.scope x) (e:X.fn x=true\/X.env.scope.names.lookup x=some .local:=by first|exact .inl rfl|exact .inr rfl|assumption):PG X (.Name x pos) (bw i):=by
 intro a s g H v u Q I r h;exact wpAny_assign_Name (Fc I b c d r (λj f=>⟨_,H,f,h⟩) e)
def AL:XG:=λvs a H Q=>vs=[]/\Q a H
def ju(t:TG)(u:XG):XG:=λvs b H Q=>om λv r=>vs=v::r/\t v b H λa c=>u r a c Q
theorem mW:ZU X [] AL:=by
 intro a s b H c d Q I r h;obtain⟨e,h⟩:=h;subst e;cases r;exact assignInOrder_nil ⟨b,H,I,h⟩
theorem eW{e:Expr}{b:List Expr}{t:TG}{u:XG}(d:PG X e t)(f:ZU X b u)
 (g:(assignEach (e::b) X.env).map (·.2)=assign e X.env::(assignEach b X.env).map (·.2):=by rfl):ZU X (e::b) (ju t u):=by
 intro a s i H o p Q I r h;obtain⟨v,q,e1,h⟩:=h;subst e1;cases r with
 |cons r j=>
  rw[g];refine assignInOrder_cons (iz (d a s i H _ _ _ I r h) ?_);rintro _ k ⟨c,l,m,n⟩;exact f a k c l _ _ Q m j n
def A4(K:Frag)(n:Nat)(t:XG):TG:=λv b H Q=>om λa xs=>v=.ref a/\kF K H a xs/\xs.length=n/\t xs b H Q
theorem qA{d:List Expr}{k:Nat}{t:XG}{n:Nat}(l:X.calm=true)(h:ZU X d t)
 (m:(assignEach d X.env).length=n:=by rfl)(f:(assignEach d X.env).findIdx? (·.1)=none:=by rfl):PG X (.Tuple d k pos) (A4 X.K n t):=by
 intro c s i H v u Q I r g;obtain⟨a,p,e1,q,w,g⟩:=g;subst e1;cases r;obtain⟨x,j,y,C⟩:=I.tuple q;refine assign_Tuple_tuple (I.ok.hd l) y (by simp[m,<-w,j.length]) f λz A=>?_
 have B:Inv X c i H {s with heap:=z}:=I.kept (t':=s.toks) λb o e=>A b o (bG (aK e)) e
 exact h c _ i H p _ Q B (by simpa using j) g
def Yt(b c:TE)(t:YY):TG:=λv a H Q=>b a H λo d=>c a d λi e=>t o i v e λf=>Q a f
theorem Vn{o i:Expr}{e f:TE}{t:YY}(g:PE X o e)(j:PE X i f)(k:Y9 X t)
 (l:∀v,assign (.Subscript o i pos) X.env v=(do
   let b<-holding [v] (eval o X.env);let c<-holding [v,b] (eval i X.env)
   standAt pos
   holding [v,b,c] (setItem b c v)
   release [v,b,c] []):=by intro _;rfl):PG X (.Subscript o i pos) (Yt e f t):=by
 intro a s d H v u Q I r h;rw[l];refine aa (dY (iz (g a s d H _ I h) ?_));rintro b m ⟨x,n,p,q,w⟩;refine aa (dY (iz (j a m d n _ p w) ?_));rintro c z ⟨y,A,B,C,D⟩;refine aa (mR (aa (dY (iz (k a z d A x y v b c u _ B q C r D) ?_))));rintro _ L ⟨E,G,J⟩;exact wpAny_release ⟨d,E,G,J⟩
def dN(b:TE)(g:TG):TS:=λD a H=>b a H λx c=>g x a c D.nx
theorem UR{b e:Expr}{c:TE}{g:TG}(f:PE X e c)(i:PG X b g)(j:swapsWithSole [b] e pos.line X.env=pure false:=by rfl)(k:swappedStores [b] e X.env=pure none:=by rfl)
 (l:(assignEach [b] X.env).map (·.2)=[assign b X.env]:=by rfl):PS X (.Assign [b] e pos) (dN c g):=by
 intro a s d H D I h;refine wpAny_Assign_stores (iz (f a s d H _ I h) ?_) j k;rintro v m ⟨x,n,o,p,r⟩;rw[l];exact iz (i a m d n x v _ o p r) λ_ t q=>q
theorem YQ{i:Nat}{x:Str}{e:Expr}{c:TE}{a:Pos}(d:X.N.Nodup)(f:X.N[i]?=some x) (g:Loc X.env.scope x) (j:PE X e c) (k:swapsWith e (some (.Name x a)) pos.line X.env=pure false:=by rfl) (l:X.fn x=true\/X.env.scope.names.lookup x=some .local:=by first|exact .inl rfl|exact .inr rfl|assumption):
 PS X (.Assign [.Name x a] e pos) (dN c (bw i)):=by
 intro b s m H D I h;refine wpAny_Assign_Name (iz (j b s m H _ I h) ?_) k;rintro v t ⟨y,n,o,p,q⟩;exact Fc o d f g p (λu r=>⟨_,n,r,q⟩) l
def ZG(i:Nat)(b:TE)(c:ZR):TS:=λD a H=>∃x,a[i]?=some (some x)/\b a H λy d=>c x y d λz e=>D.nx (a.set i (some z)) e
theorem YN{i:Nat}{x:Str}{e:Expr}{q:TE}{n:Operator}{t:ZR}{f:Pos}(E:X.N.Nodup)(B:X.N[i]?=some x) (o:Loc X.env.scope x) (G:PE X e q) (J:PIp X n t) (L:X.fn x=true\/X.env.scope.names.lookup x=some .local:=by first|exact .inl rfl|exact .inr rfl|assumption):
 PS X (.AugAssign (.Name x f) n e pos) (ZG i q t):=by
 intro a s C H D I h;obtain⟨v,e1,h⟩:=h;obtain⟨m,M,O⟩:=I.loc;have p:XJ X.env.scope x:=by rcases o with k|k;exact .inl k;exact .inr (.inl k)
 obtain⟨u,r,l⟩:=O i x v B e1 p;refine wpAny_AugAssign_Name ?_;have go:wpAny (model X.prog X.w) X.A (eval e X.env) (λw g=>wpAny (model X.prog X.w) X.A (inplaceOp n u w) (λr j=>wpAny (model X.prog X.w) X.A (storeName X.env x r) (λ_=>SP X a D .next) X.xe j) X.xe g) X.xe s:=by
  refine iz (G a s C H _ I h) ?_;rintro w Q ⟨y,T,U,Y,Z⟩;refine iz (J a Q C T v y u w _ U r Y Z) ?_;rintro z s2 ⟨zv,H2,I2,r2,q2⟩;exact Fc I2 E B o r2 (λs3 I3=>⟨_,H2,I3,q2⟩) L
 rcases l with⟨b,hm⟩|⟨b,c,hc,d⟩
 ·exact oZ I.ok.kind b M hm go
 ·rcases b with b|b
  ·exact wpAny_loadName_cell I.ok.kind b hc d go
  ·rcases o with k|k
   ·have :X.env.scope.names.lookup x=some .free:=b;rw[k]at this;cases this
   ·have :X.env.scope.names.lookup x=some .free:=b;rw[k]at this;cases this
def ipI(f:Int->Int->Int):ZR:=λx y H Q=>om λi j=>x=.int i/\y=.int j/\Q (.int (f i j)) H
theorem Yu:PIp X .Add (ipI λi j=>i+j):=by
 intro a s d H x y v u Q I b c h;obtain⟨i,j,e1,e2,q⟩:=h;subst e1;subst e2;obtain⟨t,rfl⟩:=b;obtain⟨e,rfl⟩:=c;exact iadd_int ⟨.int _,H,I.tok _,⟨_,rfl⟩,q⟩
end
section
variable{X:Cx}{pos:Pos}
def KD(c:TT)(h:TS):TS:=λD a H=>∃W:Nat->St->Hp->Prop,(∃m,W m a H)/\∀m a H,W m a H->
 c a H λb e=>if b=true then∃N:St->Hp->Prop,(∀d f,N d f->∃g,g<m/\W g d f)/\h {D with nx:=N,ct:=N,bk:=D.nx} a e else D.nx a e
theorem Gw{c:Expr}{g:List Stmt}{u:TT}{x:TS}(y:PassesOwn (model X.prog X.w) X.A X.env X.xe)(J:PT X c u)(L:PM X g x):PS X (.While c g [] pos) (KD u x):=by
 intro a s M H D I h;obtain⟨W,⟨O,Q⟩,i⟩:=h;refine wpAny_While (codeAny_whileLoop (λn T=>∃j z,Inv X a j z T/\W n j z) ?_ O ⟨M,H,I,Q⟩);rintro n U ⟨e,B,Y,Z⟩;refine gx y (iz (J a U e B _ Y (i n e B Z)) ?_);rintro b s2 ⟨C,E,l⟩;cases b with
 |true=>
  obtain⟨N,G,l⟩:=l;rw[az rfl];refine gx y (iz (L a s2 e C _ E l) λf s3 m=>?_);cases f with
  |next=>
   obtain⟨d,k,o,p⟩:=m;obtain⟨q,r,t⟩:=G d k p;exact⟨q,r,d,k,o,t⟩
  |cont=>
   obtain⟨d,k,o,p⟩:=m;obtain⟨q,r,t⟩:=G d k p;exact⟨q,r,d,k,o,t⟩
  |brk=>exact m
  |ret v=>exact m
 |false=>
  rw[ah aQ];exact lj ⟨e,C,E,l⟩
end
structure It where
 go:Nat->Hp->Prop
 NL:Nat->Hp->V->Hp->Prop
 stop:Nat->Hp->Prop
def Ex(X:Cx)(a:List (Addr×Obj))(H:Hp)(b:Addr):Prop:=
 H b=none/\b≠X.env.locals/\b∉X.fs/\(b∈X.ex\/X.IB.heap.objs.size<=b)/\(∀x c,X.env.cells.lookup x=some c->c≠b)/\∀p∈X.pn++a,p.1≠b
theorem Inv.NS{X:Cx}{a:List (Addr×Obj)}{f:St}{H H':Hp}{s:Shared}{b:Addr}(I:Inv X a f H s)(d:s.heap.objs.size<=b)(g:H' b=none):Ex X a H' b:=by
 refine⟨g,lx (bB I.lt d),I.Z5 d,.inr (bh I.sz d),λx c e z=>?_,λp h z=>?_⟩
 ·obtain⟨v,q⟩:=I.cell x c e;exact absurd (bB q.lt (by rw[z];exact d)) (cW _)
 ·exact absurd (bB (aK (I.pin p h).1) (by rw[z];exact d)) (cW _)
structure Turn(P:Program)(w:World)(K:Frag)(m:Expr)(J:It)(d:List Addr)(e:Addr)(c:Nat->Heap->Prop):Prop where
 mem:e∈d
 obj:∀i h,c i h->∀b∈d,∃o,h.get? b=some o/\∀v,o.data≠.cell v
 keep:∀i h k,c i h->(∀b∈d,∀o,h.get? b=some o->k.get? b=some o)->c i k
 item:∀(X:Cx),X.prog=P->X.w=w->X.K=K->X.calm=true->∀(i:Nat) (a:List (Addr×Obj)) (s:Shared) (f:St) (H:Hp) (E:Value->Shared->Prop),Inv X a f H s->(∀b∈d,Ex X a H b)->c i s.heap->J.go i H->
  wpAny (model P w) X.A (pyNext (.ref e)) (λr g=>∃u,r=some u/\
   wpAny (model P w) X.A (letOwnedTupleGo m (.ref e) u) (λ_ l=>∃x j,Inv X a f j l/\RelV x u/\J.NL i H x j/\c (i+1) l.heap/\∀b∈d,j b=none) E g) E s
 done:∀(X:Cx),X.prog=P->X.w=w->X.K=K->X.calm=true->∀(i:Nat) (a:List (Addr×Obj)) (s:Shared) (f:St) (H:Hp) (E:Value->Shared->Prop),Inv X a f H s->(∀b∈d,Ex X a H b)->c i s.heap->J.stop i H->
  wpAny (model P w) X.A (pyNext (.ref e)) (λr g=>r=none/\Inv X a f H g) E s
 self:∀(A:Around) (i:Nat) (s:Shared) (Q:Value->Shared->Prop) (E:Value->Shared->Prop),c i s.heap->Q (.ref e) s->wpAny (model P w) A (pyIter (.ref e)) Q E s
abbrev TI:=St->Hp->(It->Hp->Prop)->Prop
def PIE(X:Cx)(a:List (Addr×Obj))(i:St)(j:Expr)(R:It->Hp->Prop)(c:Value)(e:Shared):Prop:=
 ∃(f:Addr) (g:List Addr) (h:Nat->Heap->Prop) (J:It) (d:Hp),c=.ref f/\Inv X a i d e/\Turn X.prog X.w X.K j J g f h/\h 0 e.heap/\(∀b∈g,Ex X a d b)/\R J d
def PI(X:Cx)(c iter:Expr)(d:TI):Prop:=
 ∀(a:List (Addr×Obj)) (s:Shared) (b:St) (H:Hp) (R:It->Hp->Prop),Inv X a b H s->d b H R->
  wpAny (model X.prog X.w) X.A (eval iter X.env) (λv e=>wpAny (model X.prog X.w) X.A (pyIter v) (PIE X a b c R) X.xe e) X.xe s
theorem T2{M:Model}{A:Around}{E:Value->Shared->Prop}{s:Shared}{b:Expr}{c:Addr}{u:Value}{o:Obj}{n:String}{d:Array Value}{Q:Unit->Shared->Prop}(e:s.heap.get? c=some o)(f:o.cls=.type n)(g:o.data=.fields d)
 (i:["enumerate","zip","dict_itemiterator","dict_reverseitemiterator","odict_iterator","itertools.zip_longest","itertools.pairwise"].contains n=false)(a:Q () s):wpAny M A (letOwnedTupleGo b (.ref c) u) Q E s:=by
 unfold letOwnedTupleGo;cases b<;>first
  |exact ag a
  |(cases u<;>first
     |exact ag a
     |(refine aa (lM e ?_)
       rw[f,g];show wpAny M A (if(["enumerate","zip","dict_itemiterator","dict_reverseitemiterator","odict_iterator","itertools.zip_longest","itertools.pairwise"].contains n&&d[0]?==some (rawInt _))=true then _ else _) Q E s;rw[ah (by intro h;rw[i,gM]at h;cases h)];exact ag a))
def Px(K:Frag)(a:Addr):It:=
 ⟨λi H=>om λb x=>eD K H a b/\b[i]?=some x,λi H x c=>c=H/\∀b,eD K H a b->b[i]?=some x,λi H=>∃b,eD K H a b/\b.length<=i⟩
def S6(K:Frag)(a:Addr):It:=
 ⟨λi H=>om λb x=>kF K H a b/\b[i]?=some x,λi H x c=>c=H/\∀b,kF K H a b->b[i]?=some x,λi H=>∃b,kF K H a b/\b.length<=i⟩
def Ra(lo:Int)(n:Nat):It:=⟨λi _=>i<n,λi H x a=>a=H/\x=.int (lo+i),λi _=>n<=i⟩
theorem QZ{P:Program}{w:World}{K:Frag}{Q:Expr}(a g:Addr):Turn P w K Q (Px K a) [g] g (λi h=>h.IsListIter g a i) where
 mem:=by simp
 obj:=λi h st b j=>by
  have e:b=g:=by simpa using j
  subst e;obtain⟨o,e,c,d⟩:=st;exact⟨o,e,λv z=>by rw[d]at z;cases z⟩
 keep:=λi h m st k=>st.at λo e=>k g (by simp) o e
 item:=by
  intro X r t y N i f s O H E I n st A;subst r t y;obtain⟨T,x,q,B⟩:=A;obtain⟨C,D,p,U⟩:=I.list q;obtain⟨u,Y,Z⟩:=D.get B;obtain⟨G,f1,f2,J,L,M⟩:=n g (by simp);refine wpAny_pyNext_list_item st p.isList (x:=u) (by simpa using Y) λm l sb=>?_
  have I1:Inv X f O H {s with heap:=m}:=I.turned (t':=s.toks) (λb o j e=>(sb.2 b j).trans e) G f1 J L M;obtain⟨o,e,c,d⟩:=id l;exact⟨u,rfl,T2 (s:={s with heap:=m}) e c d (by decide) ⟨x,H,I1,Z,⟨rfl,λys hy=>by rw[I.BI hy q];exact B⟩,l,λb j=>(n b j).1⟩⟩
 done:=by
  intro X r t y N i f s O H E I n st A;subst r t y;obtain⟨T,q,B⟩:=A;obtain⟨C,D,p,U⟩:=I.list q;obtain⟨G,f1,f2,J,L,M⟩:=n g (by simp);have hl:=D.length;exact wpAny_pyNext_list_end (I.ok.hd N) st p.isList (by simp;omega) λm eb=>⟨rfl,I.turned (t':=s.toks) (λb o j e=>eb b o j e) G f1 J L M⟩
 self:=λ_ _ _ _ _ st h=>wpAny_pyIter_listiter st h
theorem Oj{P:Program}{w:World}{K:Frag}{Q:Expr}(a g:Addr):Turn P w K Q (S6 K a) [g] g (λi h=>h.IsTupleIter g a i) where
 mem:=by simp
 obj:=λi h st b j=>by
  have e:b=g:=by simpa using j
  subst e;obtain⟨o,e,c,d⟩:=st;exact⟨o,e,λv z=>by rw[d]at z;cases z⟩
 keep:=λi h n st k=>st.at λo e=>k g (by simp) o e
 item:=by
  intro X t y A N i f s O H E I q st B;subst t y A;obtain⟨T,x,r,C⟩:=B;obtain⟨l,D,p,U⟩:=I.tuple r;obtain⟨u,Y,Z⟩:=D.get C;obtain⟨G,f1,f2,J,L,M⟩:=q g (by simp);refine wpAny_pyNext_tuple_item st (show s.heap.IsTuple a l.toArray from p) (x:=u) (by simpa using Y) λn m sb=>?_
  have I1:Inv X f O H {s with heap:=n}:=I.turned (t':=s.toks) (λb o j e=>(sb.2 b j).trans e) G f1 J L M;obtain⟨o,e,c,d⟩:=id m;exact⟨u,rfl,T2 (s:={s with heap:=n}) e c d (by decide) ⟨x,H,I1,Z,⟨rfl,λys hy=>by rw[I.RW hy r];exact C⟩,m,λb j=>(q b j).1⟩⟩
 done:=by
  intro X t y A N i f s O H E I q st B;subst t y A;obtain⟨T,r,C⟩:=B;obtain⟨l,D,p,U⟩:=I.tuple r;obtain⟨G,f1,f2,J,L,M⟩:=q g (by simp);have hl:=D.length;exact wpAny_pyNext_tuple_end (I.ok.hd N) st (show s.heap.IsTuple a l.toArray from p) (by simp;omega) λn eb=>⟨rfl,I.turned (t':=s.toks) (λb o j e=>eb b o j e) G f1 J L M⟩
 self:=λ_ _ _ _ _ st h=>wpAny_pyIter_tupleiter st h
theorem OR{P:Program}{w:World}{K:Frag}{C:Expr}(a:Addr)(lo:Int)(n:Nat):Turn P w K C (Ra lo n) [a] a (λi h=>IsRangeIter h a (lo+(i:Nat)*1) ((n:Int)-(i:Nat)) 1) where
 mem:=by simp
 obj:=λi h st b d=>by
  have e:b=a:=by simpa using d
  subst e;exact⟨_,st,λv z=>by
   have D:Data.fields _=Data.cell v:=z;cases D⟩
 keep:=λi h g st k=>k a (by simp) _ st
 item:=by
  intro X l m p q i c s B H E I j st r;subst l m p;obtain⟨u,f1,G,x,y,A⟩:=j a (by simp);have W:=Walks.range (prog:=X.prog) (w:=X.w) (I.ok.hd q) a lo 1 n;refine W.item i s _ _ r st λv g tk J f L=>?_
  obtain⟨t,rfl⟩:=J;have M:Inv X c B H {s with heap:=g,toks:=tk}:=I.turned (λb o d e=>L b o (by simpa using d) e) u f1 x y A;refine⟨_,rfl,T2 (s:={s with heap:=g,toks:=tk}) (n:="range_iterator") f rfl rfl (by decide) ⟨.int (lo+i),H,M,⟨t,?_⟩,⟨rfl,rfl⟩,f,λb d=>(j b d).1⟩⟩;rw[Int.mul_one]
 done:=by
  intro X l m p q i c s B H E I j st r;subst l m p;obtain⟨u,f1,G,x,y,A⟩:=j a (by simp);exact wpAny_pyNext_range_end (I.ok.hd q) st (by have :n<=i:=r;omega) λg N=>⟨rfl,I.turned (t':=s.toks) (λb o d e=>N b o d e) u f1 x y A⟩
 self:=λ_ _ _ _ _ st h=>wpAny_pyIter_rangeiter st h
section
variable{X:Cx}{tg:Expr}
def m9(K:Frag)(c:TE):TI:=λd H R=>c d H λx b=>∃a,x=.ref a/\(∃e,eD K b a e)/\R (Px K a) b
def TM(K:Frag)(c:TE):TI:=λd H R=>c d H λx b=>∃a,x=.ref a/\(∃e,kF K b a e)/\R (S6 K a) b
theorem il{l:Expr}{g:TE}(i:PE X l g):PI X tg l (m9 X.K g):=by
 intro c s j H R I h;refine iz (i c s j H _ I h) ?_;rintro v d ⟨x,k,f,m,n⟩;obtain⟨a,e,⟨w,r⟩,q⟩:=n;subst e;cases m;obtain⟨t,y,p,z⟩:=f.list r;refine mK p.isList ?_;refine⟨d.heap.objs.size,[d.heap.objs.size],_,_,k,rfl,f.kept (t':=d.toks) λb o e=>aj _ e,QZ a _,⟨_,aN _ rfl,rfl,rfl⟩,λb u=>?_,q⟩;have e:b=d.heap.objs.size:=by simpa using u
 subst e;exact f.NS (ak _) (f.e_.fresh (ak _))
theorem Ki{l:Expr}{i:TE}(j:PE X l i):PI X tg l (TM X.K i):=by
 intro c s k H R I h;refine iz (j c s k H _ I h) ?_;rintro v d ⟨x,m,f,n,r⟩;obtain⟨a,e,⟨w,t⟩,q⟩:=r;subst e;cases n;obtain⟨g,y,p,z⟩:=f.tuple t;refine wpAny_pyIter_tuple (show d.heap.IsTuple a g.toArray from p) ?_;refine⟨d.heap.objs.size,[d.heap.objs.size],_,_,m,rfl,f.kept (t':=d.toks) λb o e=>aj _ e,Oj a _,⟨_,aN _ rfl,rfl,rfl⟩,λb u=>?_,q⟩;have e:b=d.heap.objs.size:=by simpa using u
 subst e;exact f.NS (ak _) (f.e_.fresh (ak _))
theorem MD{c:List (Addr×Obj)}{d:St}{H:Hp}{s:Shared}{R:It->Hp->Prop}{E:Value->Shared->Prop}{lo a:Int}{t u v:Tok}{tk:Nat}(I:Inv X c d H s)(g: -(2^62)<=lo)(h:lo<2^62)(i: -(2^62)<=a)(j:a<2^62)
 (q:R (Ra lo (a-lo).toNat) H):wpAny (model X.prog X.w) X.A (pyIter (.ref s.heap.objs.size)) (PIE X c d tg R) E {s with heap:=s.heap.push {cls:=.type "range",data:=.fields #[.int lo t,.int a u,.int 1 v]},toks:=tk}:=by
 refine wpAny_pyIter_range (IsRange.new ..) (small_one g h i j) ?_;have f:Inv X c d H {s with heap:=s.heap.push {cls:=.type "range",data:=.fields #[.int lo t,.int a u,.int 1 v]},toks:=tk}:=I.kept λb o e=>aj _ e
 refine⟨(s.heap.push {cls:=.type "range",data:=.fields #[.int lo t,.int a u,.int 1 v]}).objs.size,[(s.heap.push {cls:=.type "range",data:=.fields #[.int lo t,.int a u,.int 1 v]}).objs.size],_,_,H,rfl,
  f.kept (t':=tk) λb o e=>aj _ e,OR _ lo (a-lo).toNat,?_,λb k=>?_,q⟩
 ·have e1:lo+((0:Nat):Int)*1=lo:=by simp
  have e2:(((a-lo).toNat:Nat):Int)-((0:Nat):Int)=Builtin.Range.rangeSize lo a 1:=by rw[rangeSize_one];split<;>omega
  show IsRangeIter _ _ (lo+((0:Nat):Int)*1) ((((a-lo).toNat:Nat):Int)-((0:Nat):Int)) 1;rw[e1,e2];exact aN _ rfl
 ·have e:b=(s.heap.push {cls:=.type "range",data:=.fields #[.int lo t,.int a u,.int 1 v]}).objs.size:=by simpa using k
  subst e;exact f.NS (ak _) (f.e_.fresh (ak _))
def Gq(a:TA):TI:=λb H R=>a b H λc d=>∃j:Int,c=[.int j]/\ -(2^62)<=j/\j<2^62/\R (Ra 0 j.toNat) d
def U9(a:TA):TI:=λb H R=>a b H λc d=>om λ(i j:Int)=>c=[.int i,.int j]/\(-(2^62)<=i/\i<2^62/\ -(2^62)<=j/\j<2^62)/\R (Ra i (j-i).toNat) d
theorem sW{a:Expr}{f:TA}{p b:Pos}(g:Gl X "range")(i:X.mg "range"=none)(k:PA X [a] f)(l:starEach [a] X.env=[(false,eval a X.env)]:=by rfl):PI X tg (.Call (.Name "range" p) [a] [] b) (Gq f):=by
 intro c s m H R I h;refine Call_ (qC I g i qL (cp (iz (k b c s m H _ I h) ?_) l rfl));rintro w x ⟨y,z,n,o,d⟩;obtain⟨j,e,d,u,q⟩:=d;subst e;cases o with
 |cons r v=>
  cases v;obtain⟨t,rfl⟩:=r;exact call_range_1 (MD n (by omega) (by omega) d u (by simpa using q))
theorem Ij{a b:Expr}{k:TA}{p c:Pos}(l:Gl X "range")(m:X.mg "range"=none)(n:PA X [a,b] k)(o:starEach [a,b] X.env=[(false,eval a X.env),(false,eval b X.env)]:=by rfl)(Sq:starEach [b] X.env=[(false,eval b X.env)]:=by rfl):
 PI X tg (.Call (.Name "range" p) [a,b] [] c) (U9 k):=by
 intro d s u H R I h;refine Call_ (qC I l m qL (cp (iz (n c d s u H _ I h) λB C ⟨D,E,v,w,f⟩=>?_) (by rw[o,Sq]) (by rw[Sq];rfl)));obtain⟨i,j,e,⟨f,x,y,z⟩,q⟩:=f;subst e;cases w with
 |cons r g=>
  cases g with
  |cons A g=>
   cases g;obtain⟨t,rfl⟩:=r;obtain⟨G,rfl⟩:=A;exact call_range_2 (MD v f x y z q)
def uM(f:TI)(g:TG)(h:TS):TS:=λD a H=>f a H λJ j=>∃W:Nat->Nat->St->Hp->Prop,(∃m,W 0 m a j)/\∀i m a H,W i m a H->
 (J.stop i H/\D.nx a H)\/(J.go i H/\∃N:St->Hp->Prop,(∀b c,N b c->∃e,e<m/\W (i+1) e b c)/\∀x c,J.NL i H x c->g x a c λd k=>h {D with nx:=N,ct:=N,bk:=D.nx} d k)
def FZ(a:List Addr)(h:Heap):List (Addr×Obj):=a.filterMap λb=>(h.get? b).map λo=>(b,o)
theorem A7{a:List Addr}{h:Heap}{b:Addr}{o:Obj}(c:b∈a)(e:h.get? b=some o):(b,o)∈FZ a h:=List.mem_filterMap.mpr ⟨b,c,by rw[e];rfl⟩
theorem R4{a:List Addr}{h:Heap}{p:Addr×Obj}(c:p∈FZ a h):p.1∈a/\h.get? p.1=some p.2:=by
 obtain⟨b,d,e⟩:=List.mem_filterMap.mp c;cases q:h.get? b with
 |none=>rw[q]at e;cases e
 |some o=>
  rw[q]at e;have f:(b,o)=p:=bR e;subst f;exact⟨d,q⟩
theorem Inv.pinned{a:List (Addr×Obj)}{f:St}{H:Hp}{s:Shared}{c:List Addr}(I:Inv X a f H s)(i:∀b∈c,Ex X a H b)(j:∀b∈c,∃o,s.heap.get? b=some o/\∀v,o.data≠.cell v):Inv X (a++FZ c s.heap) f H s:=
 I.PY λp k=>(bg.mp k).elim (λz=>I.pin p (cP _ z)) λz=>by
  obtain⟨g,e⟩:=R4 z;obtain⟨l,f1,m,_⟩:=i p.1 g;obtain⟨o,h,d⟩:=j p.1 g;rw[e]at h;cases h;exact⟨e,l,f1,m,d⟩
theorem Inv.BD{pins b:List (Addr×Obj)}{a:St}{H:Hp}{s:Shared}(I:Inv X (pins++b) a H s):Inv X pins a H s:=I.PY λp c=>I.pin p (cP _ (gA _ c))
theorem km{iter:Expr}{z:List Stmt}{wi:TI}{g:TG}{tb:TS}{Y:Pos}(E:PassesOwn (model X.prog X.w) X.A X.env X.xe)(hc:X.calm=true)(hi:PI X tg iter wi)(hg:PG X tg g)(j:PM X z tb)
 (hs:∀x,foldedSetIterable iter X.env x=pure x:=by intro _;rfl):PS X (.For tg iter z [] Y) (uM wi g tb):=by
 intro a s σ H D I h;refine wpAny_For (iz (hi a s σ H _ I h) λv s1 h1=>iz h1 λx3 s2 h2=>?_) hs;obtain⟨it,G,tn,J,H2,e,I2,T,Z,f2,W,⟨m0,w0⟩,L⟩:=h2;subst e;have k:∀{y:Hp},(∀b∈G,y b=none)->∀b∈G,Ex X a y b:=λhn b j=>⟨hn b j,(f2 b j).2⟩
 refine codeAny_forLoop_any (λn s'=>∃i l y,Inv X a l y s'/\tn i s'.heap/\(∀b∈G,y b=none)/\W i n l y) ?_ m0 ⟨0,σ,H2,I2,Z,λb j=>(f2 b j).1,w0⟩;rintro n s3 ⟨i,p,U,I3,M,O,w3⟩;rcases L i n p U w3 with⟨stop,qn⟩|⟨go,N,hN,step⟩
 ·refine gx E (iz (T.done X rfl rfl rfl hc i a s3 p U X.xe I3 (k O) M stop) ?_);rintro r s4 ⟨hr,I4⟩;subst hr;exact lj ⟨p,U,I4,qn⟩
 ·refine gx E (iz (T.item X rfl rfl rfl hc i a s3 p U X.xe I3 (k O) M go) ?_);rintro r s4 ⟨u,hr,h4⟩;subst hr;refine gx E (iz h4 ?_);rintro _ s5 ⟨x,H5,I5,r5,y5,C,x0⟩;have x1:=I5.pinned (k x0) (T.obj _ _ C);refine gx E (iz (hg _ s5 p H5 x u _ x1 r5 (step x H5 y5)) ?_);rintro _ s6 ⟨x2,H6,I6,q6⟩;refine gx E (iz (j _ s6 x2 H6 _ I6 q6) λf s7 B=>?_);have again:∀{c:St} {q:Hp},Inv X (a++FZ G s5.heap) c q s7->N c q->∃m,m<n/\∃i l y,Inv X a l y s7/\tn i s7.heap/\(∀b∈G,y b=none)/\W i m l y:=λ{c q} t Q=>by
   obtain⟨m',hm,w7⟩:=hN c q Q;refine⟨m',hm,i+1,c,q,t.BD,T.keep _ _ _ C λb j o e=>(t.pin (b,o) (cP _ (cP _ (A7 j e)))).1,λb j=>?_,w7⟩;obtain⟨o,e,d⟩:=T.obj _ _ C b j;exact(t.pin (b,o) (cP _ (cP _ (A7 j e)))).2.1
  cases f with
  |next=>obtain⟨c,q,t,Q⟩:=B;exact again t Q
  |cont=>obtain⟨c,q,t,Q⟩:=B;exact again t Q
  |brk=>obtain⟨c,q,t,B⟩:=B;exact⟨c,q,t.BD,B⟩
  |ret v=>obtain⟨x7,c,q,t,r7,B⟩:=B;exact⟨x7,c,q,t.BD,r7,B⟩
end
theorem mx{K:Frag}{a:Addr}{xs:List V}{g:TG}{k:TS}{D:Ends}{b:St}{H:Hp}(Pv:Nat->St->Hp->Prop)(n:Pv 0 b H)(o:∀i b H,i<=xs.length->Pv i b H->eD K H a xs)
 (r:∀i x b H,xs[i]?=some x->Pv i b H->g x b H λc j=>k {D with nx:=Pv (i+1),ct:=Pv (i+1),bk:=D.nx} c j) (s:∀b H,Pv xs.length b H->D.nx b H):
 ∃W:Nat->Nat->St->Hp->Prop,(∃m,W 0 m b H)/\∀i m b H,W i m b H->
  ((Px K a).stop i H/\D.nx b H)\/((Px K a).go i H/\∃N:St->Hp->Prop,(∀d f,N d f->∃l,l<m/\W (i+1) l d f)/\∀x f,(Px K a).NL i H x f->g x b f λc j=>k {D with nx:=N,ct:=N,bk:=D.nx} c j):=by
 refine⟨λi m b H=>m=xs.length-i/\i<=xs.length/\Pv i b H,⟨xs.length,by simp,br _,n⟩,?_⟩;rintro i m b H ⟨rfl,t,p⟩;have q:=o i b H t p;by_cases h:i<xs.length
 ·refine .inr ⟨⟨xs,xs[i],q,by simp[h]⟩,Pv (i+1),λd f u=>⟨xs.length-(i+1),by omega,rfl,h,u⟩,λx f y=>?_⟩;obtain⟨e,y⟩:=y;subst e;exact r i x b _ (y xs q) p
 ·have e:i=xs.length:=by omega
  subst e;exact .inl ⟨⟨xs,q,ak _⟩,s b H p⟩
theorem Ql{K:Frag}{a:Addr}{xs:List V}{g:TG}{k:TS}{D:Ends}{b:St}{H:Hp}(Pv:Nat->St->Hp->Prop)(n:Pv 0 b H)(o:∀i b H,i<=xs.length->Pv i b H->kF K H a xs)
 (r:∀i x b H,xs[i]?=some x->Pv i b H->g x b H λc j=>k {D with nx:=Pv (i+1),ct:=Pv (i+1),bk:=D.nx} c j) (s:∀b H,Pv xs.length b H->D.nx b H):
 ∃W:Nat->Nat->St->Hp->Prop,(∃m,W 0 m b H)/\∀i m b H,W i m b H->
  ((S6 K a).stop i H/\D.nx b H)\/((S6 K a).go i H/\∃N:St->Hp->Prop,(∀d f,N d f->∃l,l<m/\W (i+1) l d f)/\∀x f,(S6 K a).NL i H x f->g x b f λc j=>k {D with nx:=N,ct:=N,bk:=D.nx} c j):=by
 refine⟨λi m b H=>m=xs.length-i/\i<=xs.length/\Pv i b H,⟨xs.length,by simp,br _,n⟩,?_⟩;rintro i m b H ⟨rfl,t,p⟩;have q:=o i b H t p;by_cases h:i<xs.length
 ·refine .inr ⟨⟨xs,xs[i],q,by simp[h]⟩,Pv (i+1),λd f u=>⟨xs.length-(i+1),by omega,rfl,h,u⟩,λx f y=>?_⟩;obtain⟨e,y⟩:=y;subst e;exact r i x b _ (y xs q) p
 ·have e:i=xs.length:=by omega
  subst e;exact .inl ⟨⟨xs,q,ak _⟩,s b H p⟩
theorem sU{lo:Int}{n:Nat}{g:TG}{j:TS}{D:Ends}{a:St}{H:Hp}(Pv:Nat->St->Hp->Prop)(l:Pv 0 a H)
 (o:∀i a H,i<n->Pv i a H->g (.int (lo+i)) a H λb h=>j {D with nx:=Pv (i+1),ct:=Pv (i+1),bk:=D.nx} b h)(q:∀a H,Pv n a H->D.nx a H):
 ∃W:Nat->Nat->St->Hp->Prop,(∃m,W 0 m a H)/\∀i m a H,W i m a H->
  ((Ra lo n).stop i H/\D.nx a H)\/((Ra lo n).go i H/\∃N:St->Hp->Prop,(∀c d,N c d->∃k,k<m/\W (i+1) k c d)/\∀x d,(Ra lo n).NL i H x d->g x a d λb h=>j {D with nx:=N,ct:=N,bk:=D.nx} b h):=by
 refine⟨λi m a H=>m=n-i/\i<=n/\Pv i a H,⟨n,by simp,br _,l⟩,?_⟩;rintro i m a H ⟨rfl,s,p⟩;by_cases f:i<n
 ·refine .inr ⟨f,Pv (i+1),λc d r=>⟨n-(i+1),by omega,rfl,f,r⟩,λx d y=>?_⟩;obtain⟨e,y⟩:=y;subst e y;exact o i a _ f p
 ·have e:i=n:=by omega
  subst e;exact .inl ⟨ak _,q a H p⟩
abbrev R2:=V->V->Hp->VK->Prop
def Cv(X:Cx)(f:Value->Value->Sem Value)(r:R2):Prop:=
 ∀(a:List (Addr×Obj)) (s:Shared) (b:St) (H:Hp) (x y:V) (v u:Value) (Q:VK),Inv X a b H s->RelV x v->RelV y u->r x y H Q->
  wpAny (model X.prog X.w) X.A (f v u) (EP X a b Q) X.xe s
def UnR(X:Cx)(f:Value->Sem Value)(r:V->Hp->VK->Prop):Prop:=
 ∀(a:List (Addr×Obj)) (s:Shared) (b:St) (H:Hp) (x:V) (v:Value) (Q:VK),Inv X a b H s->RelV x v->r x H Q->
  wpAny (model X.prog X.w) X.A (f v) (EP X a b Q) X.xe s
def wV(X:Cx)(f:Value)(r:List V->Hp->VK->Prop):Prop:=
 ∀(a:List (Addr×Obj)) (s:Shared) (b:St) (H:Hp) (c:List V) (d:List Value) (Q:VK),Inv X a b H s->Vals c d->r c H Q->
  wpAny (model X.prog X.w) X.A (call f d) (EP X a b Q) X.xe s
def aaa(X:Cx)(r:V->Hp->(Bool->Hp->Prop)->Prop):Prop:=
 ∀(a:List (Addr×Obj)) (s:Shared) (b:St) (H:Hp) (x:V) (v:Value) (Q:Bool->Hp->Prop),Inv X a b H s->RelV x v->r x H Q->
  wpAny (model X.prog X.w) X.A (truthy v) (TP X a b Q) X.xe s
def hJ(r:R2)(b c:TE):TE:=λa H Q=>b a H λx d=>c a d λy e=>r x y e Q
def Z6(r:V->Hp->VK->Prop)(a:TE):TE:=λb H Q=>a b H λx c=>r x c Q
def rI(C:Int->Int->Prop)(g:Int->Int->V):R2:=λx y H Q=>om λi j=>x=.int i/\y=.int j/\C i j/\Q (g i j) H
def mZ(g:Int->Int->V):R2:=λx y H Q=>om λi j=>x=.int i/\y=.int j/\Q (g i j) H
def rU(g:Int->V):V->Hp->VK->Prop:=λx H Q=>∃i,x=.int i/\Q (g i) H
section
variable{X:Cx}{a b c:Expr}{ta tb tc:TE}{pos:Pos}
theorem XY(m:PE X a ta)(n:PE X b tb){d:List (Addr×Obj)}{s:Shared}{e:St}{H:Hp}{R:V->V->Hp->Prop}(I:Inv X d e H s)
 (h:ta e H λx l=>tb e l λy g=>R x y g){Q:Value->Shared->Prop}{f:Value->Value->Sem Value}
 (o:∀v u k x y g,Inv X d e g k->RelV x v->RelV y u->R x y g->wpAny (model X.prog X.w) X.A (f v u) Q X.xe k):
 wpAny (model X.prog X.w) X.A (eval a X.env) (λv i=>wpAny (model X.prog X.w) X.A (eval b X.env) (λu j=>wpAny (model X.prog X.w) X.A (f v u) Q X.xe j) X.xe i) X.xe s:=by
 refine iz (m d s e H _ I h) ?_;rintro v p ⟨x,l,q,r,t⟩;refine iz (n d p e l _ q t) ?_;rintro u k ⟨y,g,z,B,C⟩;exact o v u k x y g z r B C
theorem eH{e:Operator}{r:R2}(f:Cv X (binaryOp e) r)(g:PE X a ta)(i:PE X b tb):PE X (.BinOp a e b pos) (hJ r ta tb):=by
 intro d s j H Q I h;exact wpAny_BinOp (XY g i I h λv u k x y l m n o q=>f d k j l x y v u Q m n o q)
theorem Xn{e:UnaryOp}{r:V->Hp->VK->Prop}(g:UnR X (unaryOp e) r)(i:PE X a ta):PE X (.UnaryOp e a pos) (Z6 r ta):=by
 intro d s f H Q I h;exact UnaryOp_ (iz (i d s f H _ I h) λv j ⟨x,k,l,m,n⟩=>g d j f k x v Q l m n)
theorem opI{f:Value->Value->Sem Value}{C:Int->Int->Prop}{g:Int->Int->Int}
 (rule:∀(i j:Int) (t u:Tok) (s:Shared) (Q:Value->Shared->Prop) (E:Value->Shared->Prop),C i j->Q (.int (g i j) s.toks) {s with toks:=s.toks+1}->wpAny (model X.prog X.w) X.A (f (.int i t) (.int j u)) Q E s):
 Cv X f (rI C λi j=>.int (g i j)):=by
 intro d s n H x y v u Q I e k h;obtain⟨i,j,rfl,rfl,l,q⟩:=h;obtain⟨t,rfl⟩:=e;obtain⟨m,rfl⟩:=k;exact rule i j t m s _ _ l ⟨.int (g i j),H,I.tok _,⟨_,rfl⟩,q⟩
theorem Wn{f:Value->Value->Sem Value}{g:Int->Int->Int}
 (rule:∀(i j:Int) (t u:Tok) (s:Shared) (Q:Value->Shared->Prop) (E:Value->Shared->Prop),Q (.int (g i j) s.toks) {s with toks:=s.toks+1}->wpAny (model X.prog X.w) X.A (f (.int i t) (.int j u)) Q E s):
 Cv X f (mZ λi j=>.int (g i j)):=by
 intro d s m H x y v u Q I e k h;obtain⟨i,j,rfl,rfl,q⟩:=h;obtain⟨t,rfl⟩:=e;obtain⟨l,rfl⟩:=k;exact rule i j t l s _ _ ⟨.int (g i j),H,I.tok _,⟨_,rfl⟩,q⟩
theorem Yv{f:Value->Value->Sem Value}{g:Int->Int->Bool}
 (rule:∀(i j:Int) (t u:Tok) (s:Shared) (Q:Value->Shared->Prop) (E:Value->Shared->Prop),Q (.bool (g i j)) s->wpAny (model X.prog X.w) X.A (f (.int i t) (.int j u)) Q E s):
 Cv X f (mZ λi j=>.bl (g i j)):=by
 intro d s m H x y v u Q I e k h;obtain⟨i,j,rfl,rfl,q⟩:=h;obtain⟨t,rfl⟩:=e;obtain⟨l,rfl⟩:=k;exact rule i j t l s _ _ ⟨.bl (g i j),H,I,rfl,q⟩
def WS(i j:Int):Prop:=(-(2^64)<i/\i<2^64)\/(-(2^64)<j/\j<2^64)
theorem WS.ok{i j:Int}(h:WS i j):IntMulOk i j:=by
 rcases h with⟨d,e⟩|⟨d,e⟩
 ·exact .of_left (intBits_le_64 d e)
 ·exact .of_right (intBits_le_64 d e)
theorem NN(k:Nat):(0:Int)<=2^k:=by
 rw[two_pow_cast];exact gq _
theorem pz:Cv X (binaryOp .Add) (mZ λi j=>.int (i+j)):=Wn λ_ _ _ _ _ _ _ q=>add_int q
theorem O5:Cv X (binaryOp .Sub) (mZ λi j=>.int (i-j)):=Wn λ_ _ _ _ _ _ _ q=>sub_int q
theorem XE:Cv X (binaryOp .Mult) (rI WS λi j=>.int (i*j)):=opI λ_ _ _ _ _ _ _ d q=>mul_int q d.ok
theorem XF:Cv X (binaryOp .RShift) (rI (λ_ j=>0<=j) λi j=>.int (i/2^j.toNat)):=opI λi j _ _ _ _ _ d q=>
 rshift_int d (by rw[Int.fdiv_eq_ediv_of_nonneg i (NN _)];exact q)
theorem wI:Cv X (binaryOp .BitAnd) (mZ λi j=>.int (Builtin.bitAnd i j)):=Wn λ_ _ _ _ _ _ _ q=>and_int q
theorem Aa:Cv X (binaryOp .BitOr) (mZ λi j=>.int (Builtin.bitOr i j)):=Wn λ_ _ _ _ _ _ _ q=>or_int q
theorem unI{f:Value->Sem Value}{g:Int->Int}
 (rule:∀(i:Int) (t:Tok) (s:Shared) (Q:Value->Shared->Prop) (E:Value->Shared->Prop),Q (.int (g i) s.toks) {s with toks:=s.toks+1}->wpAny (model X.prog X.w) X.A (f (.int i t)) Q E s):
 UnR X f (rU λi=>.int (g i)):=by
 intro d s j H x v Q I e h;obtain⟨i,rfl,q⟩:=h;obtain⟨t,rfl⟩:=e;exact rule i t s _ _ ⟨.int (g i),H,I.tok _,⟨_,rfl⟩,q⟩
theorem Uh:UnR X (unaryOp .Invert) (rU λi=>.int (Builtin.bitNot i)):=unI λ_ _ _ _ _ q=>invert_int q
end
def Zo:V->V->Bool
 |.non,.non=>true|.non,.int _=>true|.int _,.non=>true|.non,.bl _=>true|.bl _,.non=>true|.non,.str _=>true|.str _,.non=>true
 |.int _,.int _=>true|.bl _,.bl _=>true|.str _,.str _=>true|.JX _,.JX _=>true
 |.int _,.str _=>true|.str _,.int _=>true|.bl _,.str _=>true|.str _,.bl _=>true
 |_,_=>false
def Uz:R2:=λx y H Q=>Zo x y=true/\Q (.bl (decide (x=y))) H
def Y3:R2:=λx y H Q=>Zo x y=true/\Q (.bl (!decide (x=y))) H
theorem Pg{i j:Int}:decide (V.int i=V.int j)=(i==j):=by
 rw[dJ];simp
theorem Ts{i j:Bool}:decide (V.bl i=V.bl j)=(i==j):=by
 rw[dJ];simp
theorem Pf{i j:Str}:decide (V.str i=V.str j)=(i==j):=by
 rw[dJ];simp
theorem PL{i j:Array UInt8}:decide (V.JX i=V.JX j)=(i.toList==j.toList):=by
 rw[dJ];cases i;cases j;simp
section
variable{X:Cx}{a b c:Expr}{ta tb tc:TE}{pos:Pos}
theorem gK{d:List (Addr×Obj)}{f:St}{H:Hp}{s:Shared}{Q:VK}{k g:Bool}(I:Inv X d f H s)(q:Q (.bl k) H)(e:k=g):EP X d f Q (.bool g) s:=by
 subst e;exact⟨.bl k,H,I,rfl,q⟩
theorem AA:Cv X (compareOp .Eq) Uz:=by
 intro k s l H x y v u Q I g d h;obtain⟨f,q⟩:=h;cases x with
 |non=>
  cases g;cases y with
  |non=>cases d;exact PySem.EqNone.eq_none_none (gK I q (by simp))
  |bl j=>cases d;exact PySem.EqNone.eq_none_bool (gK I q (by simp))
  |int j=>obtain⟨e,rfl⟩:=d;exact PySem.EqNone.eq_none_int (gK I q (by simp))
  |str j=>obtain⟨e,rfl⟩:=d;exact PySem.EqNone.eq_none_str (gK I q (by simp))
  |_=>exact absurd (show false=true from f) aQ
 |bl i=>
  cases g;cases y with
  |non=>cases d;exact PySem.EqNone.eq_bool_none (gK I q (by simp))
  |bl j=>cases d;exact eq_bool (gK I q Ts)
  |str j=>obtain⟨e,rfl⟩:=d;exact PySem.EqMixed.eq_bool_str (gK I q (by simp))
  |_=>exact absurd (show false=true from f) aQ
 |int i=>
  obtain⟨t,rfl⟩:=g;cases y with
  |non=>cases d;exact PySem.EqNone.eq_int_none (gK I q (by simp))
  |int j=>obtain⟨e,rfl⟩:=d;exact eq_int (gK I q Pg)
  |str j=>obtain⟨e,rfl⟩:=d;exact PySem.EqMixed.eq_int_str (gK I q (by simp))
  |_=>exact absurd (show false=true from f) aQ
 |str i=>
  obtain⟨t,rfl⟩:=g;cases y with
  |non=>cases d;exact PySem.EqNone.eq_str_none (gK I q (by simp))
  |bl j=>cases d;exact PySem.EqMixed.eq_str_bool (gK I q (by simp))
  |int j=>obtain⟨e,rfl⟩:=d;exact PySem.EqMixed.eq_str_int (gK I q (by simp))
  |str j=>obtain⟨e,rfl⟩:=d;exact eq_str (gK I q Pf)
  |_=>exact absurd (show false=true from f) aQ
 |JX i=>
  obtain⟨t,rfl⟩:=g;cases y with
  |JX j=>obtain⟨e,rfl⟩:=d;exact PySem.W.eq_bytes (gK I q PL)
  |_=>exact absurd (show false=true from f) aQ
 |_=>cases y<;>exact absurd (show false=true from f) aQ
theorem L6:Cv X (compareOp .NotEq) Y3:=by
 intro k s l H x y v u Q I g d h;obtain⟨f,q⟩:=h;cases x with
 |non=>
  cases g;cases y with
  |non=>cases d;exact PySem.EqNone.ne_none_none (gK I q (by simp))
  |bl j=>cases d;exact PySem.EqNone.ne_none_bool (gK I q (by simp))
  |int j=>obtain⟨e,rfl⟩:=d;exact PySem.EqNone.ne_none_int (gK I q (by simp))
  |str j=>obtain⟨e,rfl⟩:=d;exact PySem.EqNone.ne_none_str (gK I q (by simp))
  |_=>exact absurd (show false=true from f) aQ
 |bl i=>
  cases g;cases y with
  |non=>cases d;exact PySem.EqNone.ne_bool_none (gK I q (by simp))
  |bl j=>cases d;exact ne_bool (gK I q (cV not Ts))
  |str j=>obtain⟨e,rfl⟩:=d;exact PySem.EqMixed.ne_bool_str (gK I q (by simp))
  |_=>exact absurd (show false=true from f) aQ
 |int i=>
  obtain⟨t,rfl⟩:=g;cases y with
  |non=>cases d;exact PySem.EqNone.ne_int_none (gK I q (by simp))
  |int j=>obtain⟨e,rfl⟩:=d;exact ne_int (gK I q (cV not Pg))
  |str j=>obtain⟨e,rfl⟩:=d;exact PySem.EqMixed.ne_int_str (gK I q (by simp))
  |_=>exact absurd (show false=true from f) aQ
 |str i=>
  obtain⟨t,rfl⟩:=g;cases y with
  |non=>cases d;exact PySem.EqNone.ne_str_none (gK I q (by simp))
  |bl j=>cases d;exact PySem.EqMixed.ne_str_bool (gK I q (by simp))
  |int j=>obtain⟨e,rfl⟩:=d;exact PySem.EqMixed.ne_str_int (gK I q (by simp))
  |str j=>obtain⟨e,rfl⟩:=d;exact ne_str (gK I q (cV not Pf))
  |_=>exact absurd (show false=true from f) aQ
 |JX i=>
  obtain⟨t,rfl⟩:=g;cases y with
  |JX j=>obtain⟨e,rfl⟩:=d;exact PySem.W.ne_bytes (gK I q (cV not PL))
  |_=>exact absurd (show false=true from f) aQ
 |_=>cases y<;>exact absurd (show false=true from f) aQ
theorem Gb:Cv X (compareOp .Lt) (mZ λi j=>.bl (decide (i<j))):=Yv λ_ _ _ _ _ _ _ q=>lt_int q
theorem wX:Cv X (compareOp .LtE) (mZ λi j=>.bl (decide (i<=j))):=Yv λ_ _ _ _ _ _ _ q=>le_int q
theorem QO:Cv X (compareOp .Gt) (mZ λi j=>.bl (decide (j<i))):=Yv λ_ _ _ _ _ _ _ q=>gt_int q
theorem iR(b:Expr){d:CmpOp}(h:d≠.In:=by decide)(e:d≠.NotIn:=by decide):behindInMarks d b=false:=by
 have e1:(d==CmpOp.In)=false:=by cases d<;>first|rfl|exact absurd rfl h
 have e2:(d==CmpOp.NotIn)=false:=by cases d<;>first|rfl|exact absurd rfl e
 cases b<;>simp[behindInMarks,e1,e2]
theorem m6{e:CmpOp}{r:R2}(f:Cv X (compareOp e) r)(g:PE X a ta)(i:PE X b tb)(j:behindInMarks e b=false):PE X (.Compare a [e] [b] pos) (hJ r ta tb):=by
 intro d s k H Q I h;exact wpAny_Compare1 (XY g i I h λv u l x y m n o p q=>f d l k m x y v u Q n o p q) j
def o_(t:TE):TT:=λd H Q=>t d H λx e=>∃k,x=.bl k/\Q k e
theorem lY{f:CmpOp}{r:R2}(i:Cv X (compareOp f) r)(j:PE X a ta)(l:PE X b tb)(m:behindInMarks f b=false):PT X (.Compare a [f] [b] pos) (o_ (hJ r ta tb)):=by
 intro d s g H Q I h;refine nW (iz (j d s g H _ I h) λv n ⟨x,o,p,q,t⟩=>iz (l d n g o _ p t) λu w ⟨y,A,B,C,D⟩=>
  iz (i d w g A x y v u _ B q C D) λc M ⟨z,E,G,J,k,e,L⟩=>?_) m
 subst e;cases J;exact dg ⟨E,G,L⟩
def wH(r f:R2)(ta tb tc:TE):TE:=λd H Q=>ta d H λx g=>tb d g λy h=>r x y h λz e=>∃k,z=.bl k/\
 (if k=true then tc d e λi j=>f y i j Q else Q (.bl false) e)
theorem FD{j g:CmpOp}{r m:R2}(t:Cv X (compareOp j) r)(l:Cv X (compareOp g) m)(w:PE X a ta)(A:PE X b tb)(B:PE X c tc)
 (C:lastMarks [j,g] [b,c]=false:=by with_unfolding_all rfl):PE X (.Compare a [j,g] [b,c] pos) (wH r m ta tb tc):=by
 intro f s i H Q I h;refine Compare_chain (iz (w f s i H _ I h) λv D ⟨x,E,G,J,L⟩=>chain_link (iz (A f D i E _ G L) λu M ⟨y,N,O,n,T⟩=>
  iz (t f M i N x y v u _ O J n T) λd U ⟨z,o,p,Y,k,e,q⟩=>?_)) C
 subst e;cases Y;refine dg ?_;cases k with
 |false=>exact ite_ff ⟨.bl false,o,p,rfl,q⟩
 |true=>exact ite_tt (chain_last (iz (B f U i o _ p q) λZ s4 ⟨z',H4,I4,r4,q4⟩=>l f s4 i H4 y z' u Z Q I4 n r4 q4))
theorem Ck{j g:CmpOp}{r m:R2}(t:Cv X (compareOp j) r)(l:Cv X (compareOp g) m)(w:PE X a ta)(A:PE X b tb)(B:PE X c tc)
 (C:lastMarks [j,g] [b,c]=false:=by with_unfolding_all rfl):PT X (.Compare a [j,g] [b,c] pos) (o_ (wH r m ta tb tc)):=by
 intro f s i H Q I h;refine isTrue_chain (iz (w f s i H _ I h) λv D ⟨x,E,G,J,L⟩=>test_link (iz (A f D i E _ G L) λu M ⟨y,N,O,n,T⟩=>
  iz (t f M i N x y v u _ O J n T) λd U ⟨z,o,p,Y,k,e,q⟩=>?_)) C
 subst e;cases Y;refine dg ?_;cases k with
 |false=>
  obtain⟨k',Z,q'⟩:=q;cases Z;exact ite_ff ⟨o,p,q'⟩
 |true=>
  refine ite_tt (test_last (iz (B f U i o _ p q) ?_));rintro w' s4 ⟨z',H4,I4,r4,q4⟩;refine iz (l f s4 i H4 y z' u w' _ I4 n r4 q4) ?_;rintro d' s5 ⟨z2,H5,I5,r5,k2,e2,q5⟩;subst e2;cases r5;exact dg ⟨H5,I5,q5⟩
def G_(K:Frag)(x:V)(H:Hp)(k:Bool):Prop:=
 match x with
 |.non=>k=false
 |.bl b=>k=b
 |.int i=>k=(i !=0)
 |.str y=>y.length<=sizeLine/\k=((y.length:Int) !=0)
 |.JX y=>y.size<=sizeLine/\k=((y.size:Int) !=0)
 |.ref p=>(∃xs,eD K H p xs/\k= !xs.isEmpty)\/(∃xs,kF K H p xs/\k= !xs.isEmpty)\/∃d,H p=some (.dK d)/\k= !d.isEmpty
 |_=>False
theorem NY{e:Type}{d:List (e×V)}{f:List (e×Value)}(r:KV d f):(!f.isEmpty)= !d.isEmpty:=by
 cases r<;>rfl
theorem GZ{e:List V}{d:List Value}(r:Vals e d):(!d.toArray.isEmpty)= !e.isEmpty:=by
 cases r<;>simp
theorem Ff:(sizeLine:Nat)<2^63:=by rw[bu];decide
theorem Yh:aaa X (λx H Q=>∃k,G_ X.K x H k/\Q k H):=by
 intro A s E H x v Q I l h;obtain⟨k,e,q⟩:=h;have G:=Ff;have J:sizeLine=16777216:=bu;cases x with
 |non=>
  cases l;have d:k=false:=e;subst d;exact truthy_none ⟨H,I,q⟩
 |bl b=>
  cases l;have d:k=b:=e;subst d;exact dg ⟨H,I,q⟩
 |int i=>
  obtain⟨t,rfl⟩:=l;have d:k=(i !=0):=e;subst d;exact PySem.P.truthy_int ⟨H,I,q⟩
 |str y=>
  obtain⟨t,rfl⟩:=l;obtain⟨C,d⟩:y.length<=sizeLine/\k=((y.length:Int) !=0):=e;subst d;exact PySem.P.truthy_str (by omega) ⟨H,I.tok _,q⟩
 |JX y=>
  obtain⟨t,rfl⟩:=l;obtain⟨C,d⟩:y.size<=sizeLine/\k=((y.size:Int) !=0):=e;subst d;exact PySem.W.truthy_bytes (by omega) ⟨H,I.tok _,q⟩
 |ref p=>
  cases l;have d:(∃j,eD X.K H p j/\k= !j.isEmpty)\/(∃j,kF X.K H p j/\k= !j.isEmpty)\/∃f,H p=some (.dK f)/\k= !f.isEmpty:=e;rcases d with⟨j,n,d⟩|⟨j,n,d⟩|⟨f,n,d⟩
  ·subst d;obtain⟨u,r,z,B⟩:=I.list n;have g:=r.length;exact wpAny_truthy_list z.isList (by simp only[aJ];omega) ⟨H,I.tok _,by rw[GZ r];exact q⟩
  ·subst d;obtain⟨u,r,z,B⟩:=I.tuple n;have g:=r.length;exact truthy_tuple z (by simp only[aJ];omega) ⟨H,I.tok _,by rw[GZ r];exact q⟩
  ·subst d;obtain⟨B,D,o,r,m⟩:f.length<=sizeLine/\(p==sysModules)=false/\∃o,KV f o/\s.heap.DictOf (JW X.prog X.w) p o:=I.e_ p _ n;have g:f.length=o.length:=ki r;exact wpAny_truthy_dict D m (by omega) ⟨H,I.tok _,by rw[NY r];exact q⟩
 |_=>exact(show False from e).elim
theorem tO(g:PE X a ta)(i:∀whole,isTrue a X.env whole=(do let v<-whole;standAt a.pos;holding [v] (truthy v))):
 PT X a (λe H Q=>ta e H λx f=>∃k,G_ X.K x f k/\Q k f):=by
 intro d s e H Q I h;exact isTrue_plain (iz (g d s e H _ I h) λv j ⟨x,l,m,n,o⟩=>Yh d j e l x v Q m n o) (i _)
theorem vals1{x:V}{d:List Value}(r:Vals [x] d):∃u,d=[u]/\RelV x u:=by
 cases r with
 |cons e f=>cases f;exact⟨_,rfl,e⟩
end
structure OA(h:Heap)(x a C:Addr)(b:Str->Option Value):Prop where
 obj:h.get? x=some (PySem.W.instObj C a)
 ns:h.Ns1 a b
 ne:a≠x
theorem RR{h:Heap}{c:Addr}{d:Str->Option Value}(n:h.Ns1 c d):∃f,h.get? c=some f/\∀name,PySem.W.lookIn name f=some (d name):=by
 obtain⟨o,g,r,i,j,k,_,l⟩:=n;refine⟨o,i,λname=>?_⟩;have e:=l name;unfold nsFind findBy at e;rw[<-Array.find?_toList]at e;unfold PySem.W.lookIn;rw[j];dsimp only;split
 ·rename_i y q;rw[q]at e;exact cV some e
 ·rename_i q;rw[q]at e;have a:g.toList.any (·.refKey)=false:=by
   rw[mI];intro y m;obtain⟨z,t,b⟩:=k y (Array.mem_toList_iff.mp m);simp[DictEntry.refKey,b]
  have p:¬g.toList.any (·.refKey)=true:=by rw[a];exact aQ
  rw[ah p];exact cV some e
theorem OA.look{h:Heap}{x b C:Addr}{c:Str->Option Value}(I:OA h x b C c):∃a,PySem.W.InstAt h x (PySem.W.instObj C b) C (some a)/\∀name,PySem.W.lookIn name a=some (c name):=
 let ⟨a,d,e⟩:=RR I.ns
 ⟨a,⟨I.obj,rfl,rfl,d⟩,e⟩
section
variable{prog:Program}{w:World}{A:Around}{E:Value->Shared->Prop}{s:Shared}{K:Frag}{x dx C f:Addr}{mA:Str->Option Value}{name:Str}{v:Value}
theorem get_map{a:Bool}{Q:Value->Shared->Prop}(X:K.In s.heap)(I:OA s.heap x dx C mA)(c:PySem.W.plainGet K C name=true)(d:PySem.W.hasDictIn K C=true)
 (e:PySem.W.findIn K (.ref C) name=some none)(g:mA name=some v)(b:PySem.W.handedIn v=true)(h:Q v {s with toks:=s.toks+1}):
 wpAny (model prog w) A (getAttr (.ref x) name a) Q E s:=by
 obtain⟨j,J,i⟩:=I.look;exact PySem.W.get_value X J (kQ c).1 (PySem.W.findObj_own d e rfl (by rw[i,g])) b h
theorem Vp{b:Sem Bool}{Q:Value×List Value->Shared->Prop}(X:K.In s.heap)(I:OA s.heap x dx C mA)(a:PySem.W.plainGet K C name=true)
 (c:PySem.W.findIn K (.ref C) name=some (some (.ref f)))(d:PySem.W.isFn K (.ref f)=true)(e:mA name=none)(h:Q (.ref f,[.ref x]) s):
 wpAny (model prog w) A (getMethod (.ref x) name b) Q E s:=by
 obtain⟨g,J,i⟩:=I.look;exact PySem.W.method_fn X J (kQ a).1 (kQ a).2 c (i9.mp d) (by show(PySem.W.lookIn name g).map (·.isSome)=some false;rw[i,e];rfl) h
theorem Vy{k:List Str}{Q:Unit->Shared->Prop}(X:K.In s.heap)(I:OA s.heap x dx C mA)
 (l:PySem.W.findIn K (.ref C) "__setattr__"=some (some (.builtin "object.__setattr__")))(m:PySem.W.plainOver K C=true)(n:PySem.W.takerIn K C name=some none)(o:PySem.W.hasDictIn K C=true)
 (p:PySem.Within mA k)(q:k.length<=sizeLine)
 (h:∀d,OA d x dx C (λy=>if y=name then some v else mA y)->Heap.SameBut dx s.heap d->Q () {s with heap:=d,toks:=s.toks+2}):
 wpAny (model prog w) A (setAttr (.ref x) name v) Q E s:=by
 obtain⟨D,J,G⟩:=I.look;refine PySem.W.set_plain X J l (PySem.W.osa_open (s:={s with toks:=s.toks+1}) (r:=none) X J m n λb=>?_);obtain⟨H,t,e⟩:=PySem.W.any_some o;have u:s.heap.get? x=some ⟨.ref C,some dx,.plain,#[]⟩:=I.obj;refine aa (ag (aa (aa (wpAny_loadPart u (aa (PySem.W.Looks.here (s:={s with toks:=s.toks+1}) (PySem.W.looks_clsIn X t) ?_))))));rw[e];refine ag (a:=some dx) (aa (ag (aa ?_)));refine wpAny_nsSet1 (s:={s with toks:=s.toks+1}) I.ns λd c Sq=>?_
 obtain⟨L,z,B,g,i,j⟩:=c.count (PySem.Within.cons name v p);refine aa (wpAny_lookBehind g (by rw[i];exact pastItsLine_dict (bh j (by rw[aG];omega))) ?_);exact ag (h _ ⟨(Sq.2 _ (aY I.ne)).trans I.obj,c,I.ne⟩ Sq)
theorem Vd{R:Result->Shared->Prop}{a:List Value}{b:List (Str×Value)}(X:K.In s.heap)(c:PySem.W.makesIn K C=true)
 (e:PySem.W.findIn K (.ref C) "__init__"=some (some (.ref f)))(i:PySem.W.typeIn K (.ref f)=some (.type "function"))
 (h:codeAny (model prog w) (A.under (.builtin "type.__call__" ⟨.ref C::a,b⟩)) (.call (.ref f) ⟨.ref (s.heap.objs.size+1)::a,b⟩) (PySem.W.InitBack (s.heap.objs.size+1) R)
   {s with heap:=(s.heap.push PySem.W.emptyDict).push (PySem.W.instObj C s.heap.objs.size)}):
 codeAny (model prog w) A (.call (.ref C) ⟨a,b⟩) R s:=by
 obtain⟨j,g,d,t,os⟩:=s;exact PySem.W.make_core (PySem.W.makes_of X c) (PySem.W.looks_findIn X e) (λself=>PySem.W.bind_fn X self i) (.inl rfl) h
end
def dD(f:Str)(v:V):List (Str×V)->List (Str×V)
 |[]=>[(f,v)]
 |(g,x)::r=>if g=f then(g,v)::r else(g,x)::dD f v r
theorem cU(f g:Str)(v:V):∀fs:List (Str×V),(dD f v fs).lookup g=if g=f then some v else fs.lookup g
 |[]=>by
  show List.lookup g [(f,v)]=_;by_cases h:g=f
  ·have a:(g==f)=true:=i9.mpr h;simp only[List.lookup,a,az h]
  ·have a:(g==f)=false:=gO.mpr h;simp only[List.lookup,a,ah h]
 |(k,x)::r=>by
  have c:=cU f g v r;rw[show dD f v ((k,x)::r)=(if k=f then(k,v)::r else(k,x)::dD f v r)from rfl];by_cases b:k=f
  ·rw[az b];by_cases h:g=k
   ·have a:(g==k)=true:=i9.mpr h;simp only[List.lookup,a,az (h.trans b)]
   ·have a:(g==k)=false:=gO.mpr h;simp only[List.lookup,a,ah (λe:g=f=>h (e.trans b.symm))]
  ·rw[ah b];by_cases h:g=k
   ·have a:(g==k)=true:=i9.mpr h;simp only[List.lookup,a,ah (λe:g=f=>b (h.symm.trans e))]
   ·have a:(g==k)=false:=gO.mpr h;simp only[List.lookup,a];exact c
theorem CG(f:Str)(v:V):∀fs:List (Str×V),f∈(dD f v fs).map (·.1)/\∀g,g∈fs.map (·.1)->g∈(dD f v fs).map (·.1)
 |[]=>⟨by simp[dD],λg h=>by simp at h⟩
 |(k,x)::r=>by
  obtain⟨b,c⟩:=CG f v r;rw[show dD f v ((k,x)::r)=(if k=f then(k,v)::r else(k,x)::dD f v r)from rfl];by_cases a:k=f
  ·rw[az a];subst a;exact⟨by simp,λg h=>by simpa using h⟩
  ·rw[ah a];refine⟨?_,λg h=>?_⟩
   ·rw[bf];exact aA _ b
   ·rw[bf]at h⊢;rcases af.mp h with e|e
    ·exact af.mpr (.inl e)
    ·exact aA _ (c g e)
theorem DF(f:Str)(v:V):∀fs:List (Str×V),(dD f v fs).length<=fs.length+1
 |[]=>by simp[dD]
 |(k,x)::r=>by
  have b:=DF f v r;rw[show dD f v ((k,x)::r)=(if k=f then(k,v)::r else(k,x)::dD f v r)from rfl];by_cases a:k=f
  ·rw[az a,aG,aG];omega
  ·rw[ah a,aG,aG];omega
theorem zE.some_of{v:V}{o:Option Value}(r:zE (some v) o):∃u,o=some u/\RelV v u:=by
 cases o with
 |none=>exact(show False from r).elim
 |some u=>exact⟨u,rfl,r⟩
theorem zE.none_of{o:Option Value}(r:zE none o):o=none:=by
 cases o with
 |none=>rfl
 |some u=>exact(show False from r).elim
theorem RZ{v:V}{u:Value}(r:RelV v u):PySem.W.handedIn u=true:=by
 cases v with
 |non=>cases(show u=Value.none from r);rfl
 |bl b=>cases(show u=Value.bool b from r);rfl
 |int i=>obtain⟨t,e⟩:=(show∃t,u=Value.int i t from r);cases e;rfl
 |str x=>obtain⟨t,e⟩:=(show∃t,u=Value.str x t from r);cases e;rfl
 |JX b=>obtain⟨t,e⟩:=(show∃t,u=Value.bytes b t from r);cases e;rfl
 |ZH b=>obtain⟨t,e⟩:=(show∃t,u=Value.float b t from r);cases e;rfl
 |ref a=>cases(show u=Value.ref a from r);rfl
 |ty n=>cases(show u=Value.type n from r);rfl
section
variable{P:Program}{w:World}{H H':Hp}{h h':Heap}{a C dx:Addr}{fs YZ:List (Str×V)}
theorem K1(c:Bo P w H h)(e:H a=some (.ins C dx fs)):∃b,OA h a dx C b/\(∀f,zE (fs.lookup f) (b f))/\PySem.Within b (fs.map (·.1))/\fs.length<=1000/\H dx=some (.own a):=by
 obtain⟨d,z,g,i,b,n,r,q⟩:=(show l9 P w H h a (.ins C dx fs)from c a _ e);exact⟨b,⟨i,n,g⟩,r,q,z,d⟩
end
structure Kh(K:Frag)(C:Addr):Prop where
 pg:PySem.W.plainGet K C Str.empty=true
 hd:PySem.W.hasDictIn K C=true
 po:PySem.W.plainOver K C=true
 sa:PySem.W.findIn K (.ref C) "__setattr__"=some (some (.builtin "object.__setattr__"))
theorem Kh.get{K:Frag}{C:Addr}(c:Kh K C)(f:Str):PySem.W.plainGet K C f=true:=c.pg
def gQ(K:Frag)(C:Addr)(f:Str):Prop:=PySem.W.findIn K (.ref C) f=some none
theorem gQ.ZI{K:Frag}{C:Addr}{f:Str}(n:gQ K C f):PySem.W.takerIn K C f=some none:=by
 unfold PySem.W.takerIn;rw[show PySem.W.findIn K (.ref C) f=some none from n];rfl
structure Meth(K:Frag)(C:Addr)(m:Str)(f:Addr):Prop where
 at_:PySem.W.findIn K (.ref C) m=some (some (.ref f))
 fn:PySem.W.isFn K (.ref f)=true
 kp:PySem.W.keepIn K (.ref f)=true
section
variable{X:Cx}{pins:List (Addr×Obj)}{σ:St}{H:Hp}{s:Shared}{a C dx:Addr}{fs:List (Str×V)}{f:Str}{v:V}{A:Around}{E:Value->Shared->Prop}
theorem FN{b:Bool}{Q:Value->Shared->Prop}(I:Inv X pins σ H s)(e:H a=some (.ins C dx fs))(c:Kh X.K C)(n:gQ X.K C f)(l:fs.lookup f=some v)
 (h:∀u d,Inv X pins σ H d->RelV v u->Q u d):wpAny (model X.prog X.w) A (getAttr (.ref a) f b) Q E s:=by
 obtain⟨i,O,r,_,_,_⟩:=K1 I.e_ e;obtain⟨u,j,g⟩:=zE.some_of (v:=v) (o:=i f) (by rw[<-l];exact r f);exact get_map I.MH O (c.get f) c.hd n j (RZ g) (h u _ (I.tok _) g)
theorem Gx{m:Str}{g:Addr}{b:Sem Bool}{Q:Value×List Value->Shared->Prop}(I:Inv X pins σ H s)(e:H a=some (.ins C dx fs))(c:Kh X.K C)(k:Meth X.K C m g)(l:fs.lookup m=none)
 (h:Q (.ref g,[.ref a]) s):wpAny (model X.prog X.w) A (getMethod (.ref a) m b) Q E s:=by
 obtain⟨d,O,r,_,_,_⟩:=K1 I.e_ e;have i:d m=none:=zE.none_of (by rw[<-l];exact r m);exact Vp I.MH O (c.get m) k.at_ k.fn i h
theorem FR{y:V}{u:Value}{Q:Unit->Shared->Prop}(I:Inv X pins σ H s)(e:H a=some (.ins C dx fs))(c:Kh X.K C)(n:gQ X.K C f)(M:fs.length<1000)(m:RelV y u)
 (h:∀i,Inv X pins σ (upd H a (.ins C dx (dD f y fs))) i->Q () i):wpAny (model X.prog X.w) A (setAttr (.ref a) f u) Q E s:=by
 obtain⟨j,O,r,k,_,l⟩:=K1 I.e_ e;have p:(fs.map (·.1)).length<=sizeLine:=by rw[aP,bu];omega
 refine Vy I.MH O c.sa c.po n.ZI c.hd k p λt d B=>h _ ?_
 have D:∃o,t.get? dx=some o:=let ⟨o,_,_,G,_⟩:=d.ns;⟨o,G⟩;refine I.write (x:=a) (e:=dx) (by rw[e];exact True.intro) (.inr l) (λb q J z=>(B.2 b J).trans z) D ?_;refine⟨by rw[aO O.ne];exact l,?_,O.ne,d.obj,_,d.ns,λg=>?_,λg L=>?_⟩
 ·have :=DF f y fs;omega
 ·show zE ((dD f y fs).lookup g) (if g=f then some u else j g);rw[cU];by_cases q:g=f
  ·rw[az q,az q];exact m
  ·rw[ah q,ah q];exact r g
 ·by_cases q:g=f
  ·rw[q];exact(CG f y fs).1
  ·refine(CG f y fs).2 g (k g λz=>L ?_);show(if g=f then some u else j g)=none;rw[ah q];exact z
theorem Inv.made(I:Inv X pins σ H s):Inv X pins σ (upd (upd H s.heap.objs.size (.own (s.heap.objs.size+1))) (s.heap.objs.size+1) (.ins C s.heap.objs.size []))
 {s with heap:=(s.heap.push PySem.W.emptyDict).push (PySem.W.instObj C s.heap.objs.size)}:=by
 have e1:(s.heap.push PySem.W.emptyDict).get? s.heap.objs.size=some PySem.W.emptyDict:=aN s.heap rfl;have e2:((s.heap.push PySem.W.emptyDict).push (PySem.W.instObj C s.heap.objs.size)).get? (s.heap.objs.size+1)=some (PySem.W.instObj C s.heap.objs.size):=by
  have :=aN (s.heap.push PySem.W.emptyDict) (o:=PySem.W.instObj C s.heap.objs.size) rfl
  rwa [c6]at this
 have e3:(s.heap.push PySem.W.emptyDict).Ns s.heap.objs.size (λ_=>none):=⟨PySem.W.emptyDict,#[],_,e1,rfl,(λe d=>absurd d (by simp)),λ_=>rfl⟩;have g:=I.laid (a:=s.heap.objs.size) (o:=.own (s.heap.objs.size+1)) (h':=s.heap.push PySem.W.emptyDict) (t':=s.toks) (λb u q=>aj _ q) (ak _) ⟨_,e1⟩;refine g.laid (a:=s.heap.objs.size+1) (o:=.ins C s.heap.objs.size []) (t':=s.toks) (λb u q=>aj _ q) (ox (c6 _ _)) ?_;have c:s.heap.objs.size≠s.heap.objs.size+1:=bG (eV _);refine⟨by rw[aO c,au],br _,c,e2,λ_=>none,(Heap.Ns1.of_empty e3).at λo q=>aj _ q,λ_=>True.intro,λy h=>absurd rfl h⟩
theorem V6{b:Program}{w:World}{c:Env}{e:Expr}{f:Str}{g:Pos}{s:Shared}{Q:Value->Shared->Prop}(i:attributeBase e f c (eval e c)=eval e c)
 (h:wpAny (model b w) A (eval e c) (λo d=>wpAny (model b w) A (getAttr o f true) Q E d) E s):wpAny (model b w) A (eval (.Attribute e f g) c) Q E s:=
 Attribute_any_ h (by rw[arm_eval_Attribute,i])
end
def cA(K:Frag)(c:TE)(f:Str):TE:=λd H Q=>c d H λx b=>Vu λa C e fs v=>x=.ref a/\b a=some (.ins C e fs)/\Kh K C/\gQ K C f/\fs.lookup f=some v/\Q v b
def mP(K:Frag)(e g:TE)(f:Str):TS:=λD b H=>g b H λy h=>e b h λx c=>AF λa C d fs=>x=.ref a/\c a=some (.ins C d fs)/\Kh K C/\gQ K C f/\fs.length<1000/\
 D.nx b (upd c a (.ins C d (dD f y fs)))
def ZJ(X:Cx)(c:Operator)(d:V->V->Hp->VK->Prop):Prop:=
 ∀(a:List (Addr×Obj)) (s:Shared) (b:St) (H:Hp) (x y:V) (u v:Value) (Q:VK),Inv X a b H s->RelV x u->RelV y v->d x y H Q->wpAny (model X.prog X.w) X.A (inplaceOp c u v) (EP X a b Q) X.xe s
def JK(K:Frag)(h i:TE)(j:V->V->Hp->VK->Prop)(f:Str):TS:=λD d H=>h d H λx e=>Vu λa C k fs v=>x=.ref a/\e a=some (.ins C k fs)/\Kh K C/\gQ K C f/\fs.lookup f=some v/\
 i d e λy l=>j v y l λz g=>om λc b=>g a=some (.ins C c b)/\b.length<1000/\D.nx d (upd g a (.ins C c (dD f z b)))
section
variable{X:Cx}{o e rB:Expr}{f:Str}{pos Ct Ho:Pos}{ta tv:TE}
theorem aU(d:PE X e ta)(g:attributeBase e f X.env (eval e X.env)=eval e X.env):PE X (.Attribute e f pos) (cA X.K ta f):=by
 intro b s i H Q I h;refine V6 g (iz (d b s i H _ I h) ?_);rintro u y ⟨x,j,k,m,a,C,z,fs,v,p,r,c,n,l,q⟩;subst p;obtain rfl:u=Value.ref a:=m;exact FN k r c n l λA B t w=>⟨v,j,t,w,q⟩
theorem gg(g:PE X o ta)(i:PE X rB tv)(j:swapsWith rB (some (.Attribute o f Ct)) pos.line X.env=pure false):PS X (.Assign [.Attribute o f Ct] rB pos) (mP X.K ta tv f):=by
 intro b s d H D I h;refine plainObj_wpAny_Assign_Attribute (iz (i b s d H _ I h) ?_) j;rintro u k ⟨y,m,p,r,q⟩;refine iz (g b k d m _ p q) ?_;rintro t G ⟨x,J,v,w,a,C,L,fs,z,A,c,n,l,B⟩;subst z;obtain rfl:t=Value.ref a:=w;exact FR v A c n l r λM E=>⟨d,_,E,B⟩
theorem IK{j:Operator}{k:V->V->Hp->VK->Prop}(m:PE X o ta)(p:PE X rB tv)(g:ZJ X j k):PS X (.AugAssign (.Attribute o f Ho) j rB pos) (JK X.K ta tv k f):=by
 intro b s d H D I h;refine wpAny_AugAssign_AttributeAny (iz (m b s d H _ I h) ?_);rintro r s1 ⟨x,t,w,A,a,C,dx,fs,v,B,E,c,n,l,q⟩;subst B;obtain rfl:r=Value.ref a:=A;refine FN w E c n l λu G J L=>iz (p b G d t _ J q) ?_
 rintro M N ⟨y,O,Q,T,U⟩;refine iz (g b N d O v y u M _ Q L T U) ?_;rintro w4 s4 ⟨z,H3,Y,Z,x0,x1,i,l',q4⟩;exact FR Y i c n l' Z λs5 I5=>⟨d,_,I5,q4⟩
def Ye:V->V->Hp->VK->Prop:=λx y H Q=>om λi j=>x=.int i/\y=.int j/\Q (.int (i+j)) H
theorem Te:ZJ X .Add Ye:=by
 rintro a s g H x y u v Q I c d ⟨i,j,rfl,rfl,q⟩;obtain⟨t,rfl⟩:=(show∃t,u=Value.int i t from c);obtain⟨b,rfl⟩:=(show∃b,v=Value.int j b from d);exact PyProof.Rows.iadd_int ⟨.int (i+j),H,I.tok _,⟨_,rfl⟩,q⟩
end
structure nA(k:Nat)(A:Around):Prop where
 hd:A.handled=none
 dp:A.depth+3*k+5<recursionLimit
 un:A.units+16*k+200<cLine
theorem nA.mono{j k:Nat}{A:Around}(r:nA k A)(h:j<=k):nA j A:=⟨r.hd,by have :=r.dp;omega,by have :=r.un;omega⟩
theorem nA.deeper{k:Nat}{A:Around}(r:nA (k+1) A)(a:Env):nA k (A.deeper a):=
 ⟨r.hd,by have :=r.dp;show A.depth+1+3*k+5<_;omega,by have :=r.un;show A.units+3+16*k+200<_;omega⟩
theorem OX{A:Around}{C:Addr}{a:List Value}{b:List (Str×Value)}:(A.under (.builtin "type.__call__" ⟨.ref C::a,b⟩)).depth=A.depth+1:=by
 first|rfl|simp[Around.under,Code.weight,Code.isCreation,Code.isGuard,Code.isCaller,Code.frames,Code.isFrame,guardIds]
theorem Oq{A:Around}{C:Addr}{a:List Value}{b:List (Str×Value)}:(A.under (.builtin "type.__call__" ⟨.ref C::a,b⟩)).units=A.units+1:=by
 first|rfl|simp[Around.under,Code.cUnits,Code.frames,Code.isFrame]
theorem nA.make{k:Nat}{A:Around}(r:nA (k+1) A)(C:Addr)(a:List Value)(b:List (Str×Value)):nA k (A.under (.builtin "type.__call__" ⟨.ref C::a,b⟩)):=
 ⟨r.hd,by have :=r.dp;rw[OX];omega,by have :=r.un;rw[Oq];omega⟩
theorem nA.depth{k:Nat}{A:Around}(r:nA k A):A.depth<recursionLimit:=by have :=r.dp;omega
theorem nA.units{k:Nat}{A:Around}(r:nA k A):A.units+64<cLine:=by have :=r.un;omega
def aR:TA:=λ_ H Q=>Q [] H
def aq(b:TE)(c:TA):TA:=λa H Q=>b a H λx d=>c a d λe f=>Q (x::e) f
section
variable{X:Cx}{e:Expr}{es:List Expr}{te:TE}{t:TA}{pos:Pos}
theorem ax:PA X [] aR:=λ_ _ _ _ H Q I h=>gD ⟨[],H,I,.nil,h⟩
theorem ae(c:PE X e te)(d:PA X es t)(f:starEach (e::es) X.env=(false,eval e X.env)::starEach es X.env:=by rfl):PA X (e::es) (aq te t):=by
 intro pos a s b H Q I h;rw[f];show wpAny _ _ (spliced ((false,eval e X.env)::backTo pos (starEach es X.env))) _ _ s;refine fK (iz (c a s b H _ I h) ?_);rintro u g ⟨x,i,j,k,l⟩;exact iz (d pos a g b i _ j l) λr v ⟨m,n,o,p,q⟩=>⟨x::m,n,o,.cons k p,q⟩
def yK(t:TA):TE:=λc H Q=>t c H λa b=>a.length<=sizeLine/\∀p,b p=none->Q (.ref p) (upd b p (.tup a))
def gR(t:TA):TE:=λc H Q=>t c H λa b=>a.length<=sizeLine/\∀p,b p=none->Q (.ref p) (upd b p (.lst a))
theorem nJ{g}(h:PA X es t):PE X (.Tuple es g pos) (yK t):=by
 intro a s i H Q I j;refine wpAny_Tuple_spliced (iz (h pos a s i H _ I j) ?_);rintro k c ⟨l,d,f,r,z,q⟩;refine⟨by rw[<-r.length];exact z,?_⟩;have m:d c.heap.objs.size=none:=f.e_.fresh (ak _);refine⟨.ref c.heap.objs.size,upd d c.heap.objs.size (.tup l),f.laid (t':=c.toks) (λb u e=>aj _ e) (ak _) ?_,rfl,q _ m⟩;exact⟨z,k,r,⟨_,aN _ rfl,rfl,_,rfl⟩⟩
theorem c_(h:PA X es t):PE X (.List es pos) (gR t):=by
 intro a s g H Q I i;refine wpAny_List_spliced (iz (h pos a s g H _ I i) ?_);rintro j c ⟨k,d,f,r,z,q⟩;refine⟨by rw[<-r.length];exact z,?_⟩;have l:d c.heap.objs.size=none:=f.e_.fresh (ak _);refine⟨.ref c.heap.objs.size,upd d c.heap.objs.size (.lst k),f.laid (t':=c.toks) (λb u e=>aj _ e) (ak _) ?_,rfl,q _ l⟩;exact⟨z,j,0,r,aN _ rfl⟩
end
abbrev Sp:=List V->Hp->VK->XK->Prop
abbrev RQ:=List Env->Hp->Shared->XK->Value->Shared->Prop
structure OQ(P:Program)(w:World)(K:Frag)(mg:Str->Option Value)(base:Heap)(A:Around)(outer:List Env)(s:Shared)(H:Hp):Prop where
 frames:A.frames=some outer
 mod:Mod K mg base
 bs:∀b o,base.get? b=some o->s.heap.get? b=some o/\H b=none
 V0:base.objs.size<=s.heap.objs.size
 Et:s.heap.FunFrames base outer
 Yx:∀b∈Uq outer,H b=none
 e_:Bo P w H s.heap
 bare:AllBare s.gens
def CE(a:List Env)(P:Program)(w:World)(H:Hp)(s:Shared)(Q:VK)(u:Value)(b:Shared):Prop:=
 om λv c=>b.os=s.os/\AllBare b.gens/\Un (Uq a) [] H c s.heap b.heap/\Bo P w c b.heap/\RelV v u/\Q v c
def CR(c:RQ)(a:List Env)(P:Program)(w:World)(H:Hp)(s:Shared)(Q:VK)(E:XK)(r:Result)(b:Shared):Prop:=
 match r with
 |.ok (.ret u)=>CE a P w H s Q u b
 |.ok _=>False
 |.error e=>c a H s E e b
structure sN(P:Program)(w:World)(K:Frag)(mg:Str->Option Value)(base:Heap)(d:RQ)(k:Nat)(f:Addr)(e:FuncData)(b:List Str)(c:Sp):Prop where
 len:∀a H Q E,c a H Q E->a.length=b.length
 run:∀(A:Around) (outer:List Env) (s:Shared) (H:Hp) (args:Args) (us:List Value) (a:List V) (Q:VK) (E:XK),nA k A->OQ P w K mg base A outer s H->BindsTo s e args (b.zip us)->Vals a us->c a H Q E->
  codeAny (model P w) A (.call (.ref f) args) (CR d outer P w H s Q E) s
theorem sN.mono{P:Program}{w:World}{K:Frag}{c:Str->Option Value}{a:Heap}{d:RQ}{j k:Nat}{f:Addr}{e:FuncData}{g:List Str}{i:Sp}(F:sN P w K c a d j f e g i)(h:j<=k):
 sN P w K c a d k f e g i:=⟨F.len,λA b s H args l vs Q E m=>F.run A b s H args l vs Q E (m.mono h)⟩
theorem OQ.make{P:Program}{w:World}{K:Frag}{c:Str->Option Value}{b:Heap}{A:Around}{a:List Env}{s:Shared}{H:Hp}(e:OQ P w K c b A a s H)(C:Addr)(d:List Value)(f:List (Str×Value)):
 OQ P w K c b (A.under (.builtin "type.__call__" ⟨.ref C::d,f⟩)) a s H:=⟨by first|exact e.frames|(simpa[Around.under,Code.envs,Code.isFrame,pushEnvs]using e.frames),e.mod,e.bs,e.V0,e.Et,e.Yx,e.e_,e.bare⟩
section
variable{X:Cx}{pins:List (Addr×Obj)}{σ:St}{H:Hp}{s s':Shared}
theorem Inv.Zn(I:Inv X pins σ H s):OQ X.prog X.w X.K X.mg X.base X.A X.stack s H:=
 ⟨I.ok.frames,I.ok.mod,I.bs,bh I.ok.V0 I.sz,I.stack,I.Qj,I.e_,I.bare⟩
theorem Inv.after{Q:VK}{u:Value}(I:Inv X pins σ H s)(h:CE X.stack X.prog X.w H s Q u s'):EP X pins σ Q u s':=by
 obtain⟨v,f,os,a,un,c,r,q⟩:=h;obtain⟨i,g,d,t,e⟩:=s';obtain rfl:e=s.os:=os;exact⟨v,f,I.call (h':=i) (g':=g) (d':=d) (t':=t) (ch:=[]) un c a (λb z=>absurd z (by simp)),r,q⟩
end
def cM(b:Sp)(a:List V)(E:XK)(t:TA):TE:=λc H Q=>t c H λd e=>b (d++a) e Q E
def eC(C:Addr)(m:Str)(e:Sp)(b:List V)(E:XK)(f:TE)(t:TA):TE:=λc H Q=>f c H λx d=>Hl λa g fs=>x=.ref a/\d a=some (.ins C g fs)/\fs.lookup m=none/\
 t c d λh i=>e (x::(h++b)) i Q E
def lu(C:Addr)(d:Sp)(b:List V)(E:XK)(t:TA):TE:=λe H Q=>t e H λf c=>∀x a,c x=none->c a=none->a≠x->
 d (.ref x::(f++b)) (upd (upd c a (.own x)) x (.ins C a [])) (λv g=>v=.non/\Q (.ref x) g) E
def Binds(K:Frag)(d:FuncData)(b:List Str)(c:List Value):Prop:=
 ∀(s:Shared) (a:List Value),K.In s.heap->(a++c).length=b.length->BindsTo s d ⟨a,[]⟩ (b.zip (a++c))
theorem Binds.all{K:Frag}{c:FuncData}{b:List Str}(h:∀a:List Value,a.length=b.length->bindArgs c ⟨a,[]⟩=pure (b.zip a)):Binds K c b []:=λs a _ d=>by
 rw[bQ]at d⊢;exact .of_eq (h a d)
def Passes(c:RQ)(X:Cx)(E:XK):Prop:=∀(a:List (Addr×Obj)) (d:St) (H:Hp) (s:Shared) (e:Value) (b:Shared),Inv X a d H s->c X.stack H s E e b->X.xe e b
section
variable{X:Cx}{CX:RQ}{k:Nat}{f C:Addr}{fd:FuncData}{ps:List Str}{sp:Sp}{dvs:List V}{ds:List Value}{E:XK}{x m:Str}{p pos rA:Pos}{e o:Expr}{es:List Expr}{ta:TE}{t:TA}
theorem Kg{a:List (Addr×Obj)}{c:St}{H:Hp}{s:Shared}{Q:VK}{us:List Value}{vs:List V}(F:sN X.prog X.w X.K X.mg X.base CX k f fd ps sp)(g:nA k X.A)(i:Binds X.K fd ps ds)(j:Vals dvs ds)(l:Passes CX X E)
 (I:Inv X a c H s)(r:Vals vs us)(h:sp (vs++dvs) H Q E):wpAny (model X.prog X.w) X.A (call (.ref f) us) (EP X a c Q) X.xe s:=by
 have d:Vals (vs++dvs) (us++ds):=r.append j;have n:(us++ds).length=ps.length:=by rw[<-d.length];exact F.len _ _ _ _ h
 refine qK (iS (F.run X.A X.stack s H ⟨us,[]⟩ (us++ds) (vs++dvs) Q E g I.Zn (i s us I.MH n) d h) λr q b=>?_);cases r with
 |error e=>exact l a c H s e q I b
 |ok v=>
  cases v with
  |ret u=>exact I.after b
  |next=>exact False.elim b
  |brk=>exact False.elim b
  |cont=>exact False.elim b
theorem VH(F:sN X.prog X.w X.K X.mg X.base CX k f fd ps sp)(g:nA k X.A)(i:Gl X x)(j:X.mg x=some (.ref f))(l:PySem.W.keepIn X.K (.ref f)=true)(n:Binds X.K fd ps ds)(u:Vals dvs ds)(v:Passes CX X E)
 (y:PA X (e::es) t)(b:(x==("__debug__":Str))=false:=by decide)(z:starEach (e::es) X.env=(false,eval e X.env)::starEach es X.env:=by rfl)(c:(backTo pos (starEach es X.env)).any (·.1)=false:=by rfl):
 PE X (.Call (.Name x p) (e::es) [] pos) (cM sp dvs E t):=by
 intro a s B H Q I h;refine dj (EX I i j ?_ b);refine jn (h₀:=X.base) I.ok.mod.Y2 l (iz (y pos a s B H _ I h) ?_) z c;rintro D G ⟨J,L,d,r,q⟩;refine⟨d.MH,?_⟩;exact Kg F g n u v d r q
theorem WO{pl:Sem Bool}(z:PE X o ta)(c:Kh X.K C)(i:Meth X.K C m f)(F:sN X.prog X.w X.K X.mg X.base CX k f fd ps sp)(B:nA k X.A)(D:Binds X.K fd ps ds)(G:Vals dvs ds)(J:Passes CX X E)(L:PA X (e::es) t)
 (d:starEach (e::es) X.env=(false,eval e X.env)::starEach es X.env:=by rfl)(g:(backTo pos (starEach es X.env)).any (·.1)=false:=by rfl)
 (M:eval (.Call (.Attribute o m rA) (e::es) [] pos) X.env=(do
   let j<-eval o X.env
   standAt rA.atName
   let (f,first)<-holding [j] (getMethod j m pl)
   callWith pos f first (backTo pos (starEach (e::es) X.env)) (backToKw pos (keywordEach [] X.env))):=by rfl):
 PE X (.Call (.Attribute o m rA) (e::es) [] pos) (eC C m sp dvs E ta t):=by
 intro b s n H Q I h;refine nS (pl:=pl) (iz (z b s n H _ I h) ?_) M;rintro u N ⟨x,O,v,T,a,dx,fs,U,Y,l,q⟩;subst U;obtain rfl:u=Value.ref a:=T;refine Gx v Y c i l ?_;refine jn (first:=[.ref a]) (h₀:=X.base) I.ok.mod.Y2 i.kp (iz (L pos b N n O _ v q) ?_) d g;rintro us s2 ⟨vs,H2,y,r,Z⟩;refine⟨y.MH,?_⟩;exact Kg (us:=.ref a::us) (vs:=.ref a::vs) F B D G J y (.cons rfl r) Z
theorem U7{pl:Sem Bool}(j:PE X o ta)(c:Kh X.K C)(g:Meth X.K C m f)(F:sN X.prog X.w X.K X.mg X.base CX k f fd ps sp)(n:nA k X.A)(r:Binds X.K fd ps ds)(v:Vals dvs ds)(y:Passes CX X E)
 (z:eval (.Call (.Attribute o m rA) [] [] pos) X.env=(do
   let i<-eval o X.env
   standAt rA.atName
   let (f,first)<-holding [i] (getMethod i m pl)
   callWith pos f first (backTo pos (starEach [] X.env)) (backToKw pos (keywordEach [] X.env))):=by rfl):
 PE X (.Call (.Attribute o m rA) [] [] pos) (eC C m sp dvs E ta aR):=by
 intro b s B H Q I h;refine nS (pl:=pl) (iz (j b s B H _ I h) ?_) z;rintro u L ⟨x,M,d,D,a,N,fs,G,J,l,q⟩;subst G;obtain rfl:u=Value.ref a:=D;refine Gx d J c g l ?_;exact PySem.W.callWith_K0 (first:=[.ref a]) d.MH g.kp (Kg (us:=[.ref a]) (vs:=[.ref a]) F n r v y d (.cons rfl .nil) q)
structure Mk(K:Frag)(C f:Addr):Prop where
 makes:PySem.W.makesIn K C=true
 init:PySem.W.findIn K (.ref C) "__init__"=some (some (.ref f))
 fn:PySem.W.isFn K (.ref f)=true
 kp:PySem.W.keepIn K (.ref C)=true
theorem LI{a:List (Addr×Obj)}{g:St}{H:Hp}{s:Shared}{Q:VK}{us:List Value}{i:List V}(M:Mk X.K C f)(F:sN X.prog X.w X.K X.mg X.base CX k f fd ps sp)(n:nA (k+1) X.A)(q:Binds X.K fd ps ds)(y:Vals dvs ds)
 (z:Passes CX X E)(I:Inv X a g H s)(r:Vals i us)
 (h:∀x c,H x=none->H c=none->c≠x->sp (.ref x::(i++dvs)) (upd (upd H c (.own x)) x (.ins C c [])) (λv B=>v=.non/\Q (.ref x) B) E):
 wpAny (model X.prog X.w) X.A (call (.ref C) us) (EP X a g Q) X.xe s:=by
 have j:=h (s.heap.objs.size+1) s.heap.objs.size (I.e_.fresh (jf _)) (I.e_.fresh (ak _)) (bG (eV _));have d:=Inv.made (C:=C) I;have l:Vals (V.ref (s.heap.objs.size+1)::(i++dvs)) (Value.ref (s.heap.objs.size+1)::(us++ds)):=.cons rfl (r.append y);have D:(Value.ref (s.heap.objs.size+1)::us++ds).length=ps.length:=by
  have e:=l.length;rw[F.len _ _ _ _ j]at e;exact e.symm
 refine qK (Vd (f:=f) I.MH M.makes M.init (i9.mp M.fn) (iS (F.run _ X.stack _ _ ⟨Value.ref (s.heap.objs.size+1)::us,[]⟩ (Value.ref (s.heap.objs.size+1)::(us++ds)) _ _ E (n.make C us [])
  (d.Zn.make C us []) (q _ (Value.ref (s.heap.objs.size+1)::us) d.MH D) l j) λr G b=>?_))
 cases r with
 |error e=>exact z a g _ _ e G d b
 |ok J=>
  cases J with
  |ret u=>
   obtain⟨v,L,N,O,T,U⟩:=d.after b;subst T;exact⟨O,⟨V.ref (s.heap.objs.size+1),L,N,rfl,U⟩⟩
  |next=>exact False.elim b
  |brk=>exact False.elim b
  |cont=>exact False.elim b
theorem VT(M:Mk X.K C f)(F:sN X.prog X.w X.K X.mg X.base CX k f fd ps sp)(g:nA (k+1) X.A)(i:Gl X x)(j:X.mg x=some (.ref C))(l:Binds X.K fd ps ds)(n:Vals dvs ds)(u:Passes CX X E)
 (v:PA X (e::es) t)(b:(x==("__debug__":Str))=false:=by decide)(y:starEach (e::es) X.env=(false,eval e X.env)::starEach es X.env:=by rfl)(c:(backTo pos (starEach es X.env)).any (·.1)=false:=by rfl):
 PE X (.Call (.Name x p) (e::es) [] pos) (lu C sp dvs E t):=by
 intro a s z H Q I h;refine dj (EX I i j ?_ b);refine jn (h₀:=X.base) I.ok.mod.Y2 M.kp (iz (v pos a s z H _ I h) ?_) y c;rintro B D ⟨G,J,d,r,q⟩;refine⟨d.MH,?_⟩;exact LI M F g l n u d r q
theorem UE(M:Mk X.K C f)(F:sN X.prog X.w X.K X.mg X.base CX k f fd ps sp)(c:nA (k+1) X.A)(d:Gl X x)(g:X.mg x=some (.ref C))(i:Binds X.K fd ps ds)(j:Vals dvs ds)(l:Passes CX X E)
 (a:(x==("__debug__":Str))=false:=by decide):PE X (.Call (.Name x p) [] [] pos) (lu C sp dvs E aR):=by
 intro b s n H Q I h;refine dj (EX I d g ?_ a);exact PySem.W.callWith_K0 I.MH M.kp (LI (us:=[]) M F c i j l I .nil h)
end
def PK(X:Cx)(b:List Keyword)(t:TA):Prop:=
 ∀(c:Pos) (a:List (Addr×Obj)) (s:Shared) (d:St) (H:Hp) (Q:List V->Hp->Prop),Inv X a d H s->t d H Q->wpAny (model X.prog X.w) X.A (evalAll ((backToKw c (keywordEach b X.env)).map (·.2))) (AP X a d Q) X.xe s
section
variable{X:Cx}{CX:RQ}{k:Nat}{f C:Addr}{fd:FuncData}{ps ks:List Str}{sp:Sp}{E:XK}{x m:Str}{p pos rA RG:Pos}{e o:Expr}{es:List Expr}{Y8:List Keyword}{te ta:TE}{t tk:TA}{nm:Option Str}
theorem Yc:PK X [] aR:=λ_ _ _ _ H Q I h=>wpAny_evalAll_nil ⟨[],H,I,.nil,h⟩
theorem WI(c:PE X e te)(d:PK X Y8 t):PK X (⟨nm,e,RG⟩::Y8) (aq te t):=by
 intro pos a s b H Q I h;show wpAny _ _ (evalAll ((do let v<-eval e X.env;standAt pos;pure v)::(backToKw pos (keywordEach Y8 X.env)).map (·.2))) _ _ s;refine wpAny_evalAll_cons (aa (iz (c a s b H _ I h) ?_));rintro u g ⟨x,i,j,l,n⟩;refine aa (mR (ag ?_));exact iz (d pos a g b i _ j n) λA B ⟨q,r,w,y,z⟩=>⟨x::q,r,w,.cons l y,z⟩
variable{g:List Value->List Value->List Value}{gV:List V->List V->List V}
end
structure bp(N P:List Str)(a:Scope):Prop where
 kind:a.kind=.function
 co:a.isCoroutine=false
 gen:a.isGenerator=false
 nd:N.Nodup
 pre:N.take P.length=P
 par:∀x∈P,a.names.lookup x=some .local\/a.names.lookup x=some .cell
 Yb:∀y∈a.names,y.2≠.free
theorem IE{kindOf:Str->Option NameKind}{x:Str}:∀{binds:List (Str×Value)} {m:Str->Option Value},(∀v,(x,v)∉binds)->bindL kindOf binds m x=m x
 |[],_,_=>rfl
 |(n,v)::r,m,h=>by
  unfold bindL;rw[IE λw a=>h w (aA _ a)];split
  ·have :x≠n:=by rintro rfl;exact h v aW
   simp[this]
  ·rfl
theorem Ji{kindOf:Str->Option NameKind}{x:Str}:∀{binds:List (Str×Value)} {m:Str->Option Value},(∀v,(x,v)∉binds)->bindC kindOf binds m x=m x
 |[],_,_=>rfl
 |(n,v)::r,m,h=>by
  unfold bindC;rw[Ji λw a=>h w (aA _ a)];split
  ·rfl
  ·have :x≠n:=by rintro rfl;exact h v aW
   simp[this]
theorem Jn{kindOf:Str->Option NameKind}{x:Str}{v:Value}:∀{P:List Str} {a:List Value} {i:Nat} {m:Str->Option Value},P.Nodup->P[i]?=some x->a[i]?=some v->kindOf x=some .local->
 bindL kindOf (P.zip a) m x=some v
 |[],_,_,_,_,h,_,_=>by simp at h
 |_::_,[],_,_,_,_,h,_=>by simp at h
 |p::P,w::a,0,m,d,b,c,e=>by
  simp at b c;subst b;subst c;show bindL kindOf ((p,w)::P.zip a) m p=_;unfold bindL;rw[IE λv f=>(aT.mp d).1 (oH f).1,az e];simp
 |p::P,w::a,i+1,m,d,b,c,e=>by
  show bindL kindOf ((p,w)::P.zip a) m x=_;unfold bindL;exact Jn (i:=i) (aT.mp d).2 (by simpa using b) (by simpa using c) e
theorem IS{kindOf:Str->Option NameKind}{x:Str}{v:Value}:∀{P:List Str} {a:List Value} {i:Nat} {m:Str->Option Value},P.Nodup->P[i]?=some x->a[i]?=some v->kindOf x≠some .local->
 bindC kindOf (P.zip a) m x=some v
 |[],_,_,_,_,h,_,_=>by simp at h
 |_::_,[],_,_,_,_,h,_=>by simp at h
 |p::P,w::a,0,m,d,b,c,e=>by
  simp at b c;subst b;subst c;show bindC kindOf ((p,w)::P.zip a) m p=_;unfold bindC;rw[Ji λv f=>(aT.mp d).1 (oH f).1,ah e];simp
 |p::P,w::a,i+1,m,d,b,c,e=>by
  show bindC kindOf ((p,w)::P.zip a) m x=_;unfold bindC;exact IS (i:=i) (aT.mp d).2 (by simpa using b) (by simpa using c) e
def start(N:List Str)(a:List V):St:=a.map some++List.replicate (N.length-a.length) none
def O3(g:RQ)(P:Program)(w:World)(K:Frag)(mg:Str->Option Value)(base:Heap)(N:List Str)(b:Str)(a:Scope)(f:Addr)(d:Value)(A:Around)(outer:List Env)(s:Shared)(H:Hp)(E:XK):Cx where
 prog:=P
 w:=w
 K:=K
 mg:=mg
 base:=base
 A:=A.deeper (envOfC b a s.heap.objs.size f d)
 N:=N
 IB:=s
 Yw:=H
 env:=envOfC b a s.heap.objs.size f d
 outer:=outer
 stack:=envOfC b a s.heap.objs.size f d::outer
 ex:=[]
 calm:=true
 fn:=λ_=>true
 pn:=[]
 xe:=λe h=>wpAny (model P w) (A.deeper (envOfC b a s.heap.objs.size f d)) (leaving (envOfC b a s.heap.objs.size f d) e) (λ_ c=>g outer H s E e c) (λi c=>g outer H s E i c) h
theorem M0{a:Scope}{n:Nat}{x:Str}(h:a.names.lookup x=some .cell):∃c,(cellsFrom n a.names []).lookup x=some c:=by
 have q:=ni a.names n [] (.inl h);exact Option.isSome_iff_exists.mp q
theorem R6{T:RQ}{P:Program}{w:World}{K:Frag}{O:Str->Option Value}{m:Heap}{N t:List Str}{j:Str}{d:Scope}{f:Addr}{J:Value}{A:Around}{g:List Env}{s U:Shared}{H:Hp}{E:XK}{Q:List Value}{B:List V}
 (S:bp N t d)(hd:A.handled=none)(o:OQ P w K O m A g s H)(hl:B.length=t.length)(r:Vals B Q)
 (x:InCallC s s.heap.objs.size (bindL (envOfC j d s.heap.objs.size f J).kindOf (t.zip Q) λ_=>none) (cellsFrom (s.heap.objs.size+1) d.names []) (bindC (envOfC j d s.heap.objs.size f J).kindOf (t.zip Q) λ_=>none) U):
 Inv (O3 T P w K O m N j d f J A g s H E) [] (start N B) H U:=by
 have x0:t.length<=N.length:=by have :=cV List.length S.pre;rw[cq]at this;omega
 obtain⟨L,tk,rfl,Y⟩:=x.done;have C:∀b:Addr,b∉(O3 T P w K O m N j d f J A g s H E).ex:=λb z=>absurd (show b∈([]:List Addr)from z) (by simp)
 refine⟨⟨o.mod,S.kind,rfl,rfl,ak _,λy z c L l=>?_,λy D=>?_,λy c _ h=>?_,λ_=>hd,Around.frames_deeper o.frames,.inr ⟨rfl,rfl⟩,λb z=>absurd z (C b),o.bs,o.V0,λb _ _=>C b,λb z=>absurd z (C b),o.Et,o.Yx⟩,
  rfl,o.bare,Un.kept Y,⟨_,x.toInCall.ns,λi y v L l h3=>?_⟩,λy c h=>⟨_,x.cell y c h⟩,o.e_.fresh (ak _),λy c h=>?_,λp G=>absurd (show p∈([]:List (Addr×Obj))from G) (by simp),o.e_.kept Y,?_⟩
 ·exact name_of_addr x.apart (cj L) (cj l)
 ·have D:d.names.lookup y=some .cell\/d.names.lookup y=some .free:=D;rcases D with D|D
  ·exact M0 D
  ·exact absurd rfl (S.Yb _ (cj D))
 ·exact oq (x.above y c (cj h))
 ·have M:i<B.length:=by
   unfold start at l;by_cases M:i<B.length
   ·exact M
   ·rw[iA (by simpa using M)]at l;rw[List.getElem?_replicate]at l;split at l<;>cases l
  have ha:B[i]?=some v:=by
   unfold start at l;rw[gw (by simpa using M),cf]at l;cases e:B[i]? with
   |none=>rw[e]at l;cases l
   |some a=>rw[e]at l;cases l;rfl
  obtain⟨u,Z,rv⟩:=r.get ha;have G:t[i]?=some y:=by
   rw[<-S.pre,List.getElem?_take_of_lt (by omega)];exact L
  have I:t.Nodup:=by rw[<-S.pre];exact S.nd.sublist (List.take_sublist _ _)
  refine⟨u,rv,?_⟩;rcases S.par y (bj G)with k|k
  ·exact .inl ⟨k,Jn I G Z k⟩
  ·obtain⟨c,e⟩:=M0 (n:=s.heap.objs.size+1) k;refine .inr ⟨.inl k,c,e,?_⟩;have q:=x.cell y c e;rw[IS I G Z (by show d.names.lookup y≠_;rw[k];decide)]at q;exact q
 ·exact o.e_.fresh (oq (x.above y c (cj h)))
 ·unfold start;show _=N.length;rw[ay,aP,List.length_replicate];omega
theorem Y_{M:RQ}{P:Program}{w:World}{K:Frag}{O:Str->Option Value}{h:Heap}{k:Nat}{f:Addr}{name d:Str}{i:Arguments}{j:List Stmt}{a:Scope}{dV kV D pm g ct oc:Value}{an od:Option Addr}
 {U:Array (Option Value)}{N T:List Str}{Y:Sp}(lk:K.lookup f=some ⟨oc,od,.func (PySem.W.fnOf name d i j a dV kV D pm an g ct),U⟩)(Z:PySem.W.codeIn K g d=true)(S:bp N T a)
 (len:∀l H Q E,Y l H Q E->l.length=T.length)
 (z:∀(A:Around) (c:List Env) (s:Shared) (H:Hp) (l:List V) (Q:VK) (E:XK),nA k (A.deeper (envOfC d a s.heap.objs.size f g))->Y l H Q E->
   ∃t,PM (O3 M P w K O h N d a f g A c s H E) j t/\t {nx:=λ_ p=>Q .non p,rt:=Q} (start N l) H):
 sN P w K O h M (k+1) f (PySem.W.fnOf name d i j a dV kV D pm an g ct) T Y:=by
 refine⟨len,λA c s H args us l Q E hr G hb r L=>?_⟩;have hl:=len _ _ _ _ L;have KX:K.In s.heap:=G.mod.Y2.keeps λb o e=>(G.bs b o e).1
 have x0:s.heap.NoLimit:=G.mod.nolimit.keeps λb o e=>(G.bs b o e).1
 have B:∀y∈T.zip us,a.names.lookup y.1=some .local\/(a.names.lookup y.1=some .cell/\((cellsFrom (s.heap.objs.size+1) a.names []).lookup y.1).isSome=true):=λ⟨n,v⟩ hy=>by
  rcases S.par n (oH hy).1 with q|q
  ·exact .inl q
  ·exact .inr ⟨q,ni _ _ _ (.inl q)⟩
 refine codeAny_call_function hr.depth (KX _ _ lk) rfl S.co S.gen rfl (PySem.W.codeRec_of KX Z) (hb _ _ _ _ ?_);refine wpAny_newFunctionEnv_cells S.kind B λx1 he s1 x=>?_
 subst he;refine⟨x0.keeps x.toInCall.keep,codeAny_func ?_⟩;obtain⟨t,ht,hq⟩:=z A c s H l Q E (hr.deeper _) L;have I:Inv (O3 M P w K O h N d a f g A c s H E) [] (start N l) H s1:=R6 S hr.hd G hl r x;refine eJ (ht [] s1 (start N l) H _ I hq) (λfl s' C=>?_) λe s' C=>C
 have fin:∀{m:St} {p:Hp} {v:V} {u:Value},Inv (O3 M P w K O h N d a f g A c s H E) [] m p s'->RelV v u->Q v p->CE c P w H s Q u s':=
  λ{m p v u} J rv q=>⟨v,p,J.os,J.bare,J.base,J.e_,rv,q⟩
 cases fl with
 |ret u=>
  obtain⟨v,m,p,J,rv,q⟩:=C;exact fin J rv q
 |next=>
  obtain⟨m,p,J,q⟩:=C;exact fin (v:=V.non) (u:=Value.none) J rfl q
 |brk=>
  obtain⟨_,_,_,q⟩:=C;exact False.elim q
 |cont=>
  obtain⟨_,_,_,q⟩:=C;exact False.elim q
section
variable{X:Cx}{x:Str}{p pos:Pos}{e:Expr}{es:List Expr}{t:TA}{id T:String}{r:List V->Hp->VK->Prop}
def Bh(r:List V->Hp->VK->Prop)(t:TA):TE:=λa H Q=>t a H λb c=>r b c Q
theorem f_(f:wV X (.builtin id) r)(g:Gl X x)(i:X.mg x=none)(j:bootBuiltins x=some (.builtin id))(k:PA X (e::es) t)(l:x≠"__name__":=by decide)(b:(x==("__debug__":Str))=false:=by decide)
 (m:starEach (e::es) X.env=(false,eval e X.env)::starEach es X.env:=by rfl)(c:(backTo pos (starEach es X.env)).any (·.1)=false:=by rfl):PE X (.Call (.Name x p) (e::es) [] pos) (Bh r t):=by
 intro a s d H Q I h;refine dj (qC I g i j ?_ l b);exact jv (iz (k pos a s d H _ I h) λn o ⟨q,u,v,w,y⟩=>f a o d u q n Q v w y) m c
theorem qD(f:wV X (.type T) r)(g:Gl X x)(i:X.mg x=none)(j:bootBuiltins x=some (.type T))(k:PA X (e::es) t)(l:x≠"__name__":=by decide)(b:(x==("__debug__":Str))=false:=by decide)
 (m:starEach (e::es) X.env=(false,eval e X.env)::starEach es X.env:=by rfl)(c:(backTo pos (starEach es X.env)).any (·.1)=false:=by rfl):PE X (.Call (.Name x p) (e::es) [] pos) (Bh r t):=by
 intro a s d H Q I h;refine dj (qC I g i j ?_ l b);exact cp (iz (k pos a s d H _ I h) λn o ⟨q,u,v,w,y⟩=>f a o d u q n Q v w y) m c
end
end L2
namespace HT
open PySem PyProof.Rows
section
variable{prog:Program}{w:World}{A:Around}{E:Value->Shared->Prop}{s:Shared}
theorem Wg{t b:Addr}{d a:List Value}{Q:Value->Shared->Prop}(x:IsTup s.heap t d.toArray)(y:IsTup s.heap b a.toArray)(m:d≠[])
 (z:a=[]->Q (.ref t) s)(B:a≠[]->Q (.ref s.heap.objs.size) {s with heap:=s.heap.push {cls:=.type "tuple",data:=.seq (d++a).toArray} })
 (l:d.length+a.length<=sizeLine):wpAny (model prog w) A (binaryOp .Add (.ref t) (.ref b)) Q E s:=by
 obtain⟨⟨cls,o,data,p⟩,j,q,n,r⟩:=id x;obtain⟨⟨u,f,data2,g⟩,c,h,v,i⟩:=id y;simp only at q r h i;subst q r h i;have e:d.toArray++a.toArray=(d++a).toArray:=by simp
 by_cases k:a=[]
 ·exact rH ⟨_,j,rfl⟩ ⟨_,c,rfl⟩ nN qz jB je (i6 _ _)
   (tuple_addW1 t b d.toArray a.toArray n v o f p g (by simpa using m) (by simp[k])) ⟨j,c,z k⟩
 ·refine rH ⟨_,j,rfl⟩ ⟨_,c,rfl⟩ nN qz jB je (i6 _ _)
   (tuple_addW2 t b d.toArray a.toArray n v o f p g (by simpa using m) (by simpa using k) (by rw[aJ,aJ];exact l)) ⟨j,c,?_⟩
  rw[e];exact B k
def oh(n d:Nat):Option Int->Nat
 |none=>d
 |some v=>if v<0 then(v+(n:Int)).toNat else min v.toNat n
theorem vc(n d:Nat):oh n d none=d:=rfl
theorem qJ(n d k:Nat):oh n d (some (k:Int))=min k n:=by
 show(if(k:Int)<0 then((k:Int)+(n:Int)).toNat else min (k:Int).toNat n)=min k n;rw[ah (by omega),dc]
theorem YM(n d:Nat)(b:d<=n)(o:Option Int):oh n d o<=n:=by
 cases o with
 |none=>exact b
 |some v=>
  show(if v<0 then(v+(n:Int)).toNat else min v.toNat n)<=n;by_cases a:v<0
  ·rw[az a];omega
  ·rw[ah a];exact Nat.min_le_right _ _
theorem P_(v:Int)(n d:Nat):(if v<0 then max (v+(n:Int)) 0 else min v (n:Int))=((oh n d (some v):Nat):Int):=by
 show(if v<0 then max (v+(n:Int)) 0 else min v (n:Int))=(((if v<0 then(v+(n:Int)).toNat else min v.toNat n):Nat):Int);by_cases a:v<0
 ·simp only[az a];omega
 ·simp only[ah a];omega
theorem O7(lo a:Option Int)(n:Nat):Builtin.Slice.sliceAdjust lo a 1 (n:Int)=(((oh n 0 lo:Nat):Int),((oh n n a:Nat):Int)):=by
 have b:¬((1:Int)<0):=by omega
 unfold Builtin.Slice.sliceAdjust;simp only[b,g7];refine gB ?_ ?_
 ·cases lo with
  |none=>rfl
  |some v=>exact P_ v n 0
 ·cases a with
  |none=>rfl
  |some v=>exact P_ v n n
theorem Oo(i j:Nat):Builtin.Slice.slicePlaces (i:Int) (j:Int) 1=j-i:=by
 unfold Builtin.Slice.slicePlaces;have a:(1:Int)>0:=by omega
 simp only[a,j0,Int.ediv_one];split<;>omega
theorem Fe{v:Value}{o:Option Int}{Q:Option Int->Shared->Prop}(p:IsPart v o)(h:Q o s):wpAny (model prog w) A (Builtin.Slice.slicePartIndex v) Q E s:=by
 cases p with
 |none=>exact slicePart_none h
 |int i t=>exact slicePart_int h
theorem vB{f:Addr}{d e:Value}{lo a:Option Int}{n:Nat}{Q:Int×Int×Nat->Shared->Prop}(g:s.heap.IsSliceOf f d e .none)(i:IsPart d lo)(j:IsPart e a)
 (h:Q (((oh n 0 lo:Nat):Int),1,oh n n a-oh n 0 lo) s):wpAny (model prog w) A (Builtin.Slice.sliceApplied (.ref f) (pure (n:Int))) Q E s:=by
 obtain⟨os,b,k,c⟩:=id g;unfold Builtin.Slice.sliceApplied Builtin.Slice.sliceFields;refine aa (aa (gu b c (x:=d) rfl (aa (gu b c (x:=e) rfl (aa (gu b c (x:=.none) rfl (ag ?_)))))));refine aa (slicePart_none ?_);show wpAny _ _ (if((1:Int)==0)=true then _ else _) _ _ s;rw[ah (by decide)];refine aa (Fe i (aa (Fe j (aa (ag ?_)))));show wpAny _ _ (match Builtin.Slice.sliceAdjust lo a 1 (n:Int)with |(lo,a)=>pure (lo,(1:Int),Builtin.Slice.slicePlaces lo a 1)) _ _ s;rw[O7 lo a n];show wpAny _ _ (pure (((oh n 0 lo:Nat):Int),(1:Int),Builtin.Slice.slicePlaces ((oh n 0 lo:Nat):Int) ((oh n n a:Nat):Int) 1)) _ _ s;rw[Oo];exact ag h
theorem Tb(a:Array Value)(i k:Nat):((List.range k).filterMap λ(m:Nat)=>a[((i:Int)+(m:Int)*1).toNat]?).toArray=((a.toList.drop i).take k).toArray:=by
 have e:(λ(m:Nat)=>a[((i:Int)+(m:Int)*1).toNat]?)=λm=>a[i+m]?:=by
  funext m;have :((i:Int)+(m:Int)*1).toNat=i+m:=by omega
  rw[this]
 rw[e];have :=pick_run a i k;rw[List.filterMap_map]at this;have e2:((λx=>a[x]?)∘λx=>i+x)=λm=>a[i+m]?:=rfl
 rw[e2]at this;rw[this]
theorem Cj{t e:Addr}{a:Array Value}{k l:Value}{lo c:Option Int}{Q:Value->Shared->Prop}(d:IsTup s.heap t a)(n:s.heap.IsSliceOf e k l .none)(o:IsPart k lo)(p:IsPart l c)
 (r:¬(oh a.size 0 lo=0/\oh a.size a.size c=a.size))
 (h:Q (.ref s.heap.objs.size) {s with heap:=s.heap.push {cls:=.type "tuple",data:=.seq ((a.toList.drop (oh a.size 0 lo)).take (oh a.size a.size c-oh a.size 0 lo)).toArray} })
 (u:a.size<=sizeLine):wpAny (model prog w) A (getItem (.ref t) (.ref e)) Q E s:=by
 have b:sizeOk (.seq ((a.toList.drop (oh a.size 0 lo)).take (oh a.size a.size c-oh a.size 0 lo)).toArray):=by
  show((a.toList.drop (oh a.size 0 lo)).take (oh a.size a.size c-oh a.size 0 lo)).toArray.size<=sizeLine;rw[aJ,cq,fI,bM];omega
 have x:oh a.size a.size c<=a.size:=YM _ _ (ak _) c;obtain⟨os,f,g,v⟩:=id n;have i:s.TypeIs (.ref e) "slice":=⟨os,f,g⟩;unfold getItem
 try with_reducible refine dY ?_
 first|refine aa (ag ?_)|skip
 refine aa (wpAny_sequenceKey d.typeIs (by decide) ?_);refine aa (d6 (name:=Str.ofString "__getitem__") d.typeIs dv
  (c8 dv d.typeIs entry_tuple_getitem ?_ (args_tuple_getitem _ _)))
 show wpAny _ _ (Builtin.Tuple.tupleItemsOf (.ref t)>>=_) _ _ s;refine aa (tupleItemsOf_ d ?_);refine aa (jG i ?_);rw[az (by decide)];refine aa (vB n o p ?_);have j:¬((((oh a.size 0 lo:Nat):Int)==0&&(1:Int)==1&&(oh a.size a.size c-oh a.size 0 lo)==a.size)=true):=by
  intro q;rw[bI,bI]at q;have y:((oh a.size 0 lo:Nat):Int)=0:=eq_of_beq q.1.1;have z:oh a.size a.size c-oh a.size 0 lo=a.size:=eq_of_beq q.2;exact r ⟨by omega,by omega⟩
 show wpAny _ _ (if(((oh a.size 0 lo:Nat):Int)==0&&(1:Int)==1&&(oh a.size a.size c-oh a.size 0 lo)==a.size)=true then _ else _) _ _ s;rw[ah j,Tb]
 first
  |exact aa (m:=Builtin.Tuple.tupleExact _) (bV (ag ⟨_,rfl,ag h⟩) b)
  |exact aa (m:=Builtin.Tuple.tupleExact _) (bV (aa (ag (ag ⟨_,rfl,ag h⟩))) b)
  |exact aa (aa (m:=Builtin.Tuple.tupleExact _) (bV (ag (ag ⟨_,rfl,ag h⟩)) b))
  |exact aa (aa (m:=Builtin.Tuple.tupleExact _) (bV (ag ⟨_,rfl,ag h⟩) b))
end
end HT
namespace L2
open PyProof.Rows PySem PySem.Spec
abbrev TO:=St->Hp->(Option Int->Hp->Prop)->Prop
def PO(X:Cx)(e:Option Expr)(t:TO):Prop:=
 ∀(a:List (Addr×Obj)) (s:Shared) (b:St) (H:Hp) (Q:Option Int->Hp->Prop),Inv X a b H s->t b H Q->
  wpAny (model X.prog X.w) X.A (evalPart e X.env) (λu d=>om λo c=>Inv X a b c d/\IsPart u o/\Q o c) X.xe s
def sf:TO:=λ_ H Q=>Q none H
def vA(t:TE):TO:=λa H Q=>t a H λx b=>∃i,x=.int i/\Q (some i) b
section
variable{X:Cx}{e:Expr}{te:TE}{lo hi:Option Expr}{tl th:TO}{pos p2:Pos}
theorem uz:PO X none sf:=by
 intro a s b H Q I h;rw[evalPart_none];exact ag ⟨none,H,I,.none,h⟩
theorem oz(h:PE X e te):PO X (some e) (vA te):=by
 intro a s b H Q I c;rw[evalPart_some];refine iz (h a s b H _ I c) ?_;rintro u k ⟨x,d,f,g,j⟩;obtain⟨i,rfl,q⟩:=j;obtain⟨t,rfl⟩:=g;exact⟨some i,d,f,.int i t,q⟩
def ZV(X:Cx)(r:V->Option Int->Option Int->Hp->VK->Prop):Prop:=
 ∀(a:List (Addr×Obj)) (s:Shared) (b:St) (H:Hp) (x:V) (v c d:Value) (lo hi:Option Int) (f:Addr) (Q:VK),Inv X a b H s->RelV x v->s.heap.IsSliceOf f c d .none->IsPart c lo->IsPart d hi->r x lo hi H Q->
  om λT id=>typeLookup (.type T) "__getitem__"=pure (some (.builtin id))/\s.TypeIs v T/\wpAny (model X.prog X.w) X.A (getItem v (.ref f)) (EP X a b Q) X.xe s
def Us(r:V->Option Int->Option Int->Hp->VK->Prop)(te:TE)(tl th:TO):TE:=λa H Q=>te a H λx b=>tl a b λl c=>th a c λu d=>r x l u d Q
theorem n_{r:V->Option Int->Option Int->Hp->VK->Prop}(j:ZV X r)(k:PE X e te)(m:PO X lo tl)(n:PO X hi th):PE X (.Subscript e (.Slice lo hi none p2) pos) (Us r te tl th):=by
 intro a s d H Q I h;refine Subscript_ (iz (k a s d H _ I h) ?_);rintro v o ⟨x,p,t,y,z⟩;refine wpAny_Slice (iz (m a o d p _ t z) ?_);rintro f B ⟨l,C,D,E,G⟩;refine iz (n a B d C _ D G) ?_;rintro g c ⟨u,i,J,L,M⟩;rw[evalPart_none];refine ag ?_;have N:Inv X a d i {c with heap:=c.heap.push {cls:=.type "slice",data:=.fields #[f,g,.none]} }:=J.kept (t':=c.toks) λb Y q=>aj _ q
 obtain⟨T,id,hT,O,U⟩:=j a {c with heap:=c.heap.push {cls:=.type "slice",data:=.fields #[f,g,.none]} } d i x v f g l u c.heap.objs.size Q N y (Heap.IsSliceOf.new ..) E L M;show wpAny (model X.prog X.w) X.A (subscriptTail e (.Slice lo hi none p2) v (.ref c.heap.objs.size)) (EP X a d Q) X.xe {c with heap:=c.heap.push {cls:=.type "slice",data:=.fields #[f,g,.none]} };exact tail_any (ops:=[.ref c.heap.objs.size,v]) O hT U (by with_unfolding_all rfl)
def mf(a:List V)(lo hi:Option Int):List V:=(a.drop (HT.oh a.length 0 lo)).take (HT.oh a.length a.length hi-HT.oh a.length 0 lo)
theorem DR(a:List V)(lo hi:Option Int):(mf a lo hi).length<=a.length:=by
 unfold mf;rw[cq,fI];omega
def Z1(K:Frag):V->Option Int->Option Int->Hp->VK->Prop:=λx lo hi H Q=>om λa b=>x=.ref a/\kF K H a b/\
 ¬(HT.oh b.length 0 lo=0/\HT.oh b.length b.length hi=b.length)/\∀p,H p=none->Q (.ref p) (upd H p (.tup (mf b lo hi)))
theorem YT:ZV X (Z1 X.K):=by
 intro g s u H x v w y lo hi z Q I k l m n h;obtain⟨a,d,rfl,p,t,q⟩:=h;cases k;obtain⟨f,r,i,j⟩:=I.tuple p;have c:f.toArray.size=d.length:=by rw[aJ];exact r.length.symm
 refine⟨"tuple",_,dv.lookup,i.typeIs,?_⟩;refine HT.Cj i l m n (by rw[c];exact t) ?_ (by rw[c];exact j);rw[c];refine⟨.ref s.heap.objs.size,_,I.laid (t':=s.toks) (o:=.tup (mf d lo hi)) (λb A q=>aj _ q) (ak _) ?_,rfl,q _ (I.e_.fresh (ak _))⟩;exact⟨bh (DR d lo hi) j,_,(r.drop (HT.oh d.length 0 lo)).take (HT.oh d.length d.length hi-HT.oh d.length 0 lo),IsTup.new _ _⟩
def Y6(K:Frag):R2:=λx y H Q=>AF λa b d c=>x=.ref a/\y=.ref b/\kF K H a d/\kF K H b c/\d≠[]/\d.length+c.length<=sizeLine/\
 (c=[]->Q (.ref a) H)/\(c≠[]->∀p,H p=none->Q (.ref p) (upd H p (.tup (d++c))))
theorem Vals.JG{a:List V}{b:List Value}(r:Vals a b):b=[]↔a=[]:=by
 cases r with
 |nil=>simp
 |cons _ _=>simp
theorem Wh:Cv X (binaryOp .Add) (Y6 X.K):=by
 intro f s D H x y v u Q I j k h;obtain⟨a,b,l,m,rfl,rfl,n,p,r,g,t,A⟩:=h;cases j;cases k;obtain⟨B,d,C,_⟩:=I.tuple n;obtain⟨i,c,p2,_⟩:=I.tuple p;refine HT.Wg C p2 (λz=>r (d.JG.mp z)) (λz=>⟨.ref a,H,I,rfl,t (c.JG.mp z)⟩) (λz=>?_) (by rw[<-d.length,<-c.length];exact g);refine⟨.ref s.heap.objs.size,_,I.laid (t':=s.toks) (o:=.tup (l++m)) (λb E q=>aj _ q) (ak _) ?_,rfl,A (λw=>z (c.JG.mpr w)) _ (I.e_.fresh (ak _))⟩;exact⟨by rw[ay];exact g,_,d.append c,IsTup.new _ _⟩
end
def VL(n:Nat)(i:Int):Option Nat:=if 0<=i then(if i<n then some i.toNat else none)else if -(n:Int)<=i then some (i+n).toNat else none
def YH{a:Type}(b:List a)(i:Int):Option a:=(VL b.length i).bind λj=>b[j]?
theorem PD{n:Nat}{i:Int}{j:Nat}(h:VL n i=some j):seqIndex? i n=some j/\j<n/\ -(n:Int)<=i/\i<n:=by
 unfold VL at h;by_cases b:0<=i
 ·rw[az b]at h;by_cases a:i<n
  ·rw[az a]at h;have e:i.toNat=j:=bR h;exact⟨by rw[seqIndex_of b a,e],by omega,by omega,a⟩
  ·rw[ah a]at h;cases h
 ·rw[ah b]at h;by_cases a: -(n:Int)<=i
  ·rw[az a]at h;have e:(i+n).toNat=j:=bR h;exact⟨by rw[rO (by omega) a,e],by omega,a,by omega⟩
  ·rw[ah a]at h;cases h
theorem KG{a:Type}{xs:List a}{i:Int}{v:a}(h:YH xs i=some v):∃j,seqIndex? i xs.length=some j/\xs[j]?=some v/\j<xs.length/\ -(xs.length:Int)<=i/\i<xs.length:=by
 unfold YH at h;cases e:VL xs.length i with
 |none=>rw[e]at h;cases h
 |some j=>
  rw[e]at h;obtain⟨b,c,d,f⟩:=PD e;exact⟨j,b,h,c,d,f⟩
theorem qb{a:Type}{xs:List a}{j:Nat}{v:a}(h:xs[j]?=some v):YH xs (j:Int)=some v:=by
 have b:j<xs.length:=(ai.mp h).1;have e:VL xs.length (j:Int)=some j:=by
  unfold VL;rw[az (by omega),az (by omega)];simp
 unfold YH;rw[e];exact h
def V1(b:Expr):Prop:=∀o i,subscripted b false o i=operate [o,i] (getItem o i)
def ZW(X:Cx)(r:R2):Prop:=
 ∀(c a:Expr) (b:List (Addr×Obj)) (s:Shared) (d:St) (H:Hp) (x y:V) (v u:Value) (Q:VK),Inv X b d H s->RelV x v->RelV y u->r x y H Q->
  subscripted a false v u=operate [v,u] (getItem v u)->wpAny (model X.prog X.w) X.A (subscriptTail c a v u) (EP X b d Q) X.xe s
def MtR(X:Cx)(id:String)(r:V->List V->Hp->VK->Prop):Prop:=
 ∀(a:List (Addr×Obj)) (s:Shared) (b:St) (H:Hp) (x:V) (c:List V) (v:Value) (d:List Value) (Q:VK),Inv X a b H s->RelV x v->Vals c d->r x c H Q->
  wpAny (model X.prog X.w) X.A (call (.builtin id) (v::d)) (EP X a b Q) X.xe s
section
variable{X:Cx}{a b:Expr}{ta tb:TE}{pos:Pos}
theorem mE{r:R2}(d:ZW X r)(e:PE X a ta)(f:PE X b tb)(g:V1 b):PE X (.Subscript a b pos) (hJ r ta tb):=by
 intro c s i H Q I h;exact Subscript_ (XY e f I h λv u j x y k l m n q=>d a b c j i k x y v u Q l m n q (g _ _))
def Hq(K:Frag):R2:=λx y H Q=>AF λp c i v=>x=.ref p/\y=.int i/\eD K H p c/\YH c i=some v/\Q v H
def Ba(K:Frag):R2:=λx y H Q=>AF λp c i v=>x=.ref p/\y=.int i/\kF K H p c/\YH c i=some v/\Q v H
theorem sm:ZW X (Hq X.K):=by
 intro e f c s n H x y v u Q I C D h o;obtain⟨p,T,i,z,rfl,rfl,E,G,q⟩:=h;cases C;obtain⟨t,rfl⟩:=D;obtain⟨g,r,k,U⟩:=I.list E;obtain⟨j,d,J,Y,L,M⟩:=KG G;obtain⟨w,A,l⟩:=r.get J;have N:=r.length;have Z:=Ff;have fin:EP X c n Q w s:=⟨z,H,I,l,q⟩;by_cases B:0<=i
 ·have m:i.toNat=j:=by
   rw[seqIndex_of B M]at d;exact bR d
  exact item_listR k.isList B (by omega) (by rw[m];simpa using A) fin o
 ·have m:(i+(g.toArray.size:Int)).toNat=j:=by
   rw[rO (by omega) L]at d;rw[aJ,<-N];exact bR d
  exact nq (x:=w) k.isList.typeIs slot_list_getitem.lookup
   (wpAny_getItem_list_neg (Q:=λr O=>r=w/\EP X c n Q r O) k.isList (by omega) (by rw[aJ]<;>omega) (by omega) (by rw[m];simpa using A) ⟨rfl,fin⟩) o
theorem pK:ZW X (Ba X.K):=by
 intro d e c s g H x y v u Q I l m h n;obtain⟨p,L,i,z,rfl,rfl,o,A,q⟩:=h;cases l;obtain⟨t,rfl⟩:=m;obtain⟨B,r,k,M⟩:=I.tuple o;obtain⟨j,C,D,N,O,T⟩:=KG A;obtain⟨w,E,f⟩:=r.get D;have G:=r.length;have U:=Ff;have fin:EP X c g Q w s:=⟨z,H,I,f,q⟩;exact nq (x:=w) k.typeIs lU.lookup
  (getItem_tuple (j:=j) (Q:=λr J=>r=w/\EP X c g Q r J) k (by omega) (by omega) (by rw[aJ,<-G];exact C) (by simpa using E) ⟨rfl,fin⟩) n
theorem OB(c:List Value)(n j:Nat)(u:Value):Obj.mapSeq (·.setIfInBounds j u) {cls:=.type "list",data:=.seq c.toArray n}={cls:=.type "list",data:=.seq (c.set j u).toArray n}:=by
 simp[Obj.mapSeq]
theorem Inv.lst{d:List (Addr×Obj)}{f:St}{H:Hp}{s:Shared}{p:Addr}{xs:List V}(I:Inv X d f H s)(h:H p=some (.lst xs)):
 ∃(c:List Value) (n:Nat),Vals xs c/\s.heap.get? p=some {cls:=.type "list",data:=.seq c.toArray n}/\xs.length<=sizeLine:=by
 obtain⟨z,c,n,r,e⟩:=I.e_ p _ h;exact⟨c,n,r,e,z⟩
theorem Inv.YA{d:List (Addr×Obj)}{k:St}{H:Hp}{s:Shared}{p:Addr}{m i:List V}{g c:List Value}{n j:Nat}{f:Obj->Obj}(I:Inv X d k H s)(h:H p=some (.lst m))
 (o:s.heap.get? p=some {cls:=.type "list",data:=.seq g.toArray n})(l:f {cls:=.type "list",data:=.seq g.toArray n}={cls:=.type "list",data:=.seq c.toArray j})(r:Vals i c)(v:i.length<=sizeLine)(t:Nat):
 Inv X d k (upd H p (.lst i)) {s with heap:=s.heap.update p f,toks:=t}:=by
 have e:(s.heap.update p f).get? p=some {cls:=.type "list",data:=.seq c.toArray j}:=by
  rw[bY f o (by rw[l]<;>rfl),l]
 refine I.write (x:=p) (e:=p) (by rw[h];trivial) (.inl rfl) (λb u w q=>(bA _ _ (aY w)).trans q) ⟨_,e⟩ ?_;exact⟨v,c,j,r,e⟩
def Td:V->V->V->Hp->(Hp->Prop)->Prop:=λo i v H Q=>AF λp c k j=>o=.ref p/\i=.int k/\H p=some (.lst c)/\VL c.length k=some j/\Q (upd H p (.lst (c.set j v)))
theorem set_list:Y9 X Td:=by
 intro c s A H o i v L M u Q I B C D h;obtain⟨p,E,k,j,rfl,rfl,m,G,q⟩:=h;cases B;obtain⟨t,rfl⟩:=C;obtain⟨d,n,r,f,J⟩:=I.lst m;obtain⟨e,N,w,x⟩:=PD G;have g:=r.length;have O:=Ff;have y:Inv X c A (upd H p (.lst (E.set j v))) {s with heap:=s.heap.update p (Obj.mapSeq (·.setIfInBounds j u))}:=
  I.YA m f (OB d n j u) (r.set D j) (by rw[List.length_set];exact J) s.toks
 by_cases z:0<=k
 ·have l:k.toNat=j:=by
   rw[seqIndex_of z x]at e;exact bR e
  exact PySem.W.ki_setAt f z (by omega) (by rw[aJ,<-g];exact x) (by rw[l];exact⟨_,y,q⟩)
 ·have l:(k+(d.toArray.size:Int)).toNat=j:=by
   rw[rO (by omega) w]at e;rw[aJ,<-g];exact bR e
  exact PySem.W.ki_setBack f (by omega) (by rw[aJ,<-g];exact w) (by omega) (by rw[l];exact⟨_,y,q⟩)
theorem K6(lo c:Option Int)(n:Nat):(sliceBounds lo c none n).1=((HT.oh n 0 lo:Nat):Int)/\(sliceBounds lo c none n).2.1=((HT.oh n n c:Nat):Int)/\(sliceBounds lo c none n).2.2=1:=by
 refine⟨?_,?_,rfl⟩
 ·cases lo with
  |none=>simp[sliceBounds,HT.oh]
  |some i=>
   simp only[sliceBounds,HT.oh,Option.getD_none,show(1:Int)>0 by decide,j0];by_cases h:i<0
   ·simp only[h,j0]<;>omega
   ·simp only[h,g7]<;>omega
 ·cases c with
  |none=>simp[sliceBounds,HT.oh]
  |some i=>
   simp only[sliceBounds,HT.oh,Option.getD_none,show(1:Int)>0 by decide,j0];by_cases h:i<0
   ·simp only[h,j0]<;>omega
   ·simp only[h,g7]<;>omega
theorem HC(c:List Value)(lo d:Option Int):slicePick c.toArray lo d none=((c.drop (HT.oh c.length 0 lo)).take (HT.oh c.length c.length d-HT.oh c.length 0 lo)).toArray:=by
 obtain⟨e,f,g⟩:=K6 lo d c.toArray.size;unfold slicePick;rw[e,f,g];simp only[sliceRange_one,pick_run,aJ]<;>rfl
def R5(K:Frag):V->Option Int->Option Int->Hp->VK->Prop:=λx lo d H Q=>om λa c=>x=.ref a/\eD K H a c/\∀p,H p=none->Q (.ref p) (upd H p (.lst (mf c lo d)))
theorem Cf:ZV X (R5 X.K):=by
 intro f s t H x v u w lo e y Q I i j k l h;obtain⟨a,c,rfl,m,q⟩:=h;cases i;obtain⟨n,r,g,p⟩:=I.list m;have d:=r.length;refine⟨"list",_,slot_list_getitem.lookup,g.isList.typeIs,?_⟩;refine wpAny_getItem_list_slice g.isList j k l .none (by simp) ?_ (by rw[aJ]<;>omega);rw[HC,<-d];refine⟨.ref s.heap.objs.size,_,I.laid (t':=s.toks) (o:=.lst (mf c lo e)) (λb z q=>aj _ q) (ak _) ?_,rfl,q _ (I.e_.fresh (ak _))⟩;exact⟨bh (DR c lo e) p,_,0,(r.drop (HT.oh c.length 0 lo)).take (HT.oh c.length c.length e-HT.oh c.length 0 lo),aN _ rfl⟩
def BX:V->Bool
 |.non=>true
 |.bl _=>true
 |.int _=>true
 |.str _=>true
 |_=>false
def Ss:V->V->Bool
 |.non,.non=>true
 |.bl a,.bl b=>a==b
 |.bl a,.int b=>(if a then 1 else 0)==b
 |.int a,.bl b=>a==(if b then 1 else 0)
 |.int a,.int b=>a==b
 |.str a,.str b=>a==b
 |_,_=>false
theorem Ym{A:Around}{s:Shared}{y x:V}{u v:Value}(e:RelV y u)(c:RelV x v)(g:BX y=true)(f:BX x=true):SeqAt.EqAt A s u v (Ss y x):=by
 cases y with
 |non=>
  cases e;cases x with
  |non=>cases c;exact SeqAt.EqAt.same _
  |bl b=>cases c;exact SeqAt.EqAt.none_bool b
  |int b=>obtain⟨t,rfl⟩:=c;exact SeqAt.EqAt.none_int b t
  |str b=>obtain⟨t,rfl⟩:=c;exact SeqAt.EqAt.none_str b t
  |_=>exact absurd (show false=true from f) aQ
 |bl a=>
  cases e;cases x with
  |non=>cases c;exact SeqAt.EqAt.bool_none a
  |bl b=>cases c;exact SeqAt.EqAt.bool_bool a b
  |int b=>obtain⟨t,rfl⟩:=c;exact SeqAt.EqAt.bool_int a b t
  |str b=>obtain⟨t,rfl⟩:=c;exact SeqAt.EqAt.bool_str a b t
  |_=>exact absurd (show false=true from f) aQ
 |int a=>
  obtain⟨d,rfl⟩:=e;cases x with
  |non=>cases c;exact SeqAt.EqAt.int_none a d
  |bl b=>cases c;exact SeqAt.EqAt.int_bool a d b
  |int b=>obtain⟨t,rfl⟩:=c;exact SeqAt.EqAt.int_int a d b t
  |str b=>obtain⟨t,rfl⟩:=c;exact SeqAt.EqAt.int_str a d b t
  |_=>exact absurd (show false=true from f) aQ
 |str a=>
  obtain⟨d,rfl⟩:=e;cases x with
  |non=>cases c;exact SeqAt.EqAt.str_none a d
  |bl b=>cases c;exact SeqAt.EqAt.str_bool a d b
  |int b=>obtain⟨t,rfl⟩:=c;exact SeqAt.EqAt.str_int a d b t
  |str b=>obtain⟨t,rfl⟩:=c;exact SeqAt.EqAt.str_str a d b t
  |_=>exact absurd (show false=true from f) aQ
 |_=>exact absurd (show false=true from g) aQ
def VB(x:V)(u:Value):Bool:=match u with
 |.none=>Ss .non x
 |.bool b=>Ss (.bl b) x
 |.int i _=>Ss (.int i) x
 |.str z _=>Ss (.str z) x
 |_=>false
theorem TX{x y:V}{u:Value}(r:RelV y u)(f:BX y=true):VB x u=Ss y x:=by
 cases y with
 |non=>cases r;rfl
 |bl b=>cases r;rfl
 |int i=>obtain⟨t,rfl⟩:=r;rfl
 |str z=>obtain⟨t,rfl⟩:=r;rfl
 |_=>exact absurd (show false=true from f) aQ
theorem Kz{x:V}:∀{c:List V} {d:List Value},Vals c d->c.all BX=true->d.any (VB x)=c.any λy=>Ss y x
 |_,_,.nil,_=>rfl
 |y::c,u::d,.cons r t,f=>by
  rw[kC,bI]at f;rw[ic,ic,TX r f.1,Kz t f.2]
theorem E9{A:Around}{s:Shared}{x:V}{v:Value}(g:RelV x v)(h:BX x=true):∀{d:List V} {e:List Value},Vals d e->d.all BX=true->∀u∈e,SeqAt.EqAt A s u v (VB x u)
 |_,_,.nil,_=>λu c=>by cases c
 |y::d,u::e,.cons r t,f=>λi c=>by
  rw[kC,bI]at f;rcases af.mp c with rfl|c
  ·rw[TX r f.1];exact Ym r g f.1 h
  ·exact E9 g h t f.2 i c
def X_(x:V)(c:List V):Bool:=c.any λy=>Ss y x
def Z4(K:Frag)(d:Bool):R2:=λx y H Q=>om λp c=>y=.ref p/\(eD K H p c\/kF K H p c)/\BX x=true/\c.all BX=true/\Q (.bl (if d then !X_ x c else X_ x c)) H
theorem Iq:Cv X (compareOp .In) (Z4 X.K false):=by
 intro g s m H x y v u Q I i k h;obtain⟨p,n,rfl,d,j,fs,q⟩:=h;cases k;rcases d with d|d
 ·obtain⟨c,r,e,l⟩:=I.list d;refine SeqAt.in_listAt (VB x) e.isList (λw f=>E9 i j r fs w (by simpa using f)) ⟨.bl _,H,I,rfl,?_⟩;rw[show c.toArray.any (VB x)=c.any (VB x)by simp,Kz r fs];exact q
 ·obtain⟨c,r,e,l⟩:=I.tuple d;refine SeqAt.in_tupleAt (VB x) e (λw f=>E9 i j r fs w (by simpa using f)) ⟨.bl _,H,I,rfl,?_⟩;rw[show c.toArray.any (VB x)=c.any (VB x)by simp,Kz r fs];exact q
theorem d_:wV X (.builtin "len") (λj H Q=>∃p d,j=[.ref p]/\(eD X.K H p d\/kF X.K H p d)/\Q (.int d.length) H):=by
 intro k s n H j o Q I r h;obtain⟨p,d,rfl,e,q⟩:=h;obtain⟨u,rfl,l⟩:=vals1 r;cases l;have t:=Ff;rcases e with e|e
 ·obtain⟨f,g,i,m⟩:=I.list e;have c:=g.length;exact Calls.call_len_list i.isList (by simp only[aJ]<;>omega) ⟨.int d.length,H,I.tok _,⟨s.toks+1,by rw[aJ,c]⟩,q⟩
 ·obtain⟨f,g,i,m⟩:=I.tuple e;have c:=g.length;exact len_tuple i (by simp only[aJ]<;>omega) ⟨.int d.length,H,I.tok _,⟨s.toks+1,by rw[aJ,c]⟩,q⟩
theorem K5:wV X (.type "list") (λB H Q=>∃p f,B=[.ref p]/\(eD X.K H p f\/kF X.K H p f)/\∀l,H l=none->Q (.ref l) (upd H l (.lst f))):=by
 intro j s D H B G Q I r h;obtain⟨p,f,rfl,k,q⟩:=h;obtain⟨u,rfl,E⟩:=vals1 r;cases E;have fin:∀(c:List Value),Vals f c->f.length<=sizeLine->∀(d:Heap) (g:Nat),(∀b C,s.heap.get? b=some C->d.get? b=some C)->
  d.get? s.heap.objs.size=some {cls:=.type "list",dict:=none,data:=.seq c.toArray g,slots:= #[]}->EP X j D Q (.ref s.heap.objs.size) {s with heap:=d}:=λc i m d g t e=>
  ⟨.ref s.heap.objs.size,_,I.laid (t':=s.toks) t (ak _) (show l9 X.prog X.w _ d _ (.lst f)from⟨m,c,g,i,e⟩),rfl,q _ (I.e_.fresh (ak _))⟩
 rcases k with k|k
 ·obtain⟨c,i,x,m⟩:=I.list k;have v:=i.length;obtain⟨o,y,z,n,A⟩:=x.isList;exact call_list_seq p (.inl rfl) y z A (λd g t e=>fin c i m d g t e) (by simp only[aJ]<;>omega)
 ·obtain⟨c,i,x,m⟩:=I.tuple k;have v:=i.length;obtain⟨o,y,z,n,A⟩:=x;exact call_list_seq p (.inr rfl) y z A (λd g t e=>fin c i m d g t e) (by simp only[aJ]<;>omega)
theorem H_:wV X (.type "tuple") (λm H Q=>∃p f,m=[.ref p]/\((eD X.K H p f/\∀l,H l=none->Q (.ref l) (upd H l (.tup f)))\/(kF X.K H p f/\Q (.ref p) H))):=by
 intro c s n H m B Q I r h;obtain⟨p,f,rfl,h⟩:=h;obtain⟨u,rfl,y⟩:=vals1 r;cases y;rcases h with⟨i,q⟩|⟨i,q⟩
 ·obtain⟨d,j,k,t⟩:=I.list i;have v:=j.length;refine call_tuple_list k.isList (λg z=>?_) (by simp only[aJ]<;>omega);have x:Inv X c n H {s with heap:=g}:=I.kept (t':=s.toks) z;have A:Inv X c n (upd H g.objs.size (.tup f)) {s with heap:=g.push {cls:=.type "tuple",data:=.seq d.toArray} }:=
   x.laid (t':=s.toks) (λb o e=>aj _ e) (ak _) (show l9 X.prog X.w _ _ _ (.tup f)from⟨t,d,j,IsTup.new _ _⟩)
  exact⟨.ref g.objs.size,_,A,rfl,q _ (x.e_.fresh (ak _))⟩
 ·obtain⟨d,j,k,t⟩:=I.tuple i;exact call_tuple_same k ⟨.ref p,H,I,rfl,q⟩
def Z0(K:Frag)(T:String)(x:V)(H:Hp):Prop:=match x with
 |.str _=>T="str"
 |.int _=>T="int"
 |.ref p=>(T="list"/\∃d,eD K H p d)\/(T="tuple"/\∃o,K.lookup p=some o/\o.cls=.type "tuple"/\o.dict=none)\/
   (T="dict"/\((∃c,H p=some (.dK c))\/∃c,H p=some (.dT c)))\/(T="set"/\om λS n=>H p=some (.set S n))
 |_=>False
theorem TQ{g:List (Addr×Obj)}{m:St}{H:Hp}{s:Shared}{T:String}{x:V}{v:Value}(I:Inv X g m H s)(r:RelV x v)(ty:Z0 X.K T x H):
 s.TypeIs v T/\∀a,v=.ref a->∃k,s.heap.get? a=some k/\k.dict=none:=by
 cases x with
 |str z=>
  obtain⟨t,rfl⟩:=r;cases(show T="str" from ty);exact⟨typeIs_str s z t,λ_ e=>nomatch e⟩
 |int i=>
  obtain⟨t,rfl⟩:=r;cases(show T="int" from ty);exact⟨typeIs_int s i t,λ_ e=>nomatch e⟩
 |ref p=>
  cases r;rcases ty with⟨rfl,y,q⟩|⟨rfl,o,d,u,h⟩|⟨rfl,d⟩|⟨rfl,S,n,d⟩
  ·obtain⟨w,_,l,_⟩:=I.list q;refine⟨l.isList.typeIs,λa e=>?_⟩;cases e;obtain⟨o,n,e,c,h,_⟩:=l;exact⟨o,e,h⟩
  ·refine⟨⟨o,I.MH p o d,u⟩,λa e=>?_⟩;cases e;exact⟨o,I.MH _ o d,h⟩
  ·have z:∃o,s.heap.get? p=some o/\o.ExactDict:=by
    rcases d with⟨j,d⟩|⟨j,d⟩
    ·obtain⟨_,_,_,_,o,_,_,e,f,_⟩:=I.e_ p _ d;exact⟨o,e,f⟩
    ·obtain⟨_,_,_,_,o,_,_,e,f,_⟩:=I.e_ p _ d;exact⟨o,e,f⟩
   obtain⟨o,e,f⟩:=z;refine⟨⟨o,e,f.1⟩,λa e2=>?_⟩;cases e2;exact⟨o,e,f.2.1⟩
  ·obtain⟨o,_,_,_,e,f,_⟩:=I.e_ p _ d;refine⟨⟨o,e,f.1⟩,λa e2=>?_⟩;cases e2;exact⟨o,e,f.2.1⟩
 |_=>exact False.elim ty
def ZD(K:Frag)(T:String)(r:V->List V->Hp->VK->Prop)(d:TE):TE:=λe H Q=>d e H λx c=>Z0 K T x c/\r x [] c Q
def NM(K:Frag)(T:String)(r:V->List V->Hp->VK->Prop)(e:TE)(t:TA):TE:=λc H Q=>e c H λx d=>Z0 K T x d/\t c d λf g=>r x f g Q
variable{o e:Expr}{es:List Expr}{to:TE}{t:TA}{name:Str}{rA x_:Pos}{T id:String}{r:V->List V->Hp->VK->Prop}
theorem YO(l:PlainAttrs T)(slot:Slot T name id)(g:typeOf (.builtin id)=pure (.type "method_descriptor"))(m:MtR X id r)(n:PE X o to)
 (d:attributeBase o name X.env (eval o X.env)=eval o X.env:=by rfl)(f:(rA.endLine==x_.line)=true:=by rfl):PE X (.Call (.Attribute o name rA) [] [] x_) (ZD X.K T r to):=by
 intro c s i H Q I h;refine wpAny_Call_method0_late d f (iz (n c s i H _ I h) ?_);rintro v p ⟨x,q,j,k,ty,u⟩;obtain⟨w,y⟩:=TQ j k ty;exact⟨T,id,l,slot,g,w,y,jw rfl (PySem.evalArgs_none (m c p i q x [] v [] Q j k .nil u))⟩
theorem ux(p:PlainAttrs T)(slot:Slot T name id)(j:typeOf (.builtin id)=pure (.type "method_descriptor"))(q:MtR X id r)(u:PE X o to)(w:PA X (e::es) t)
 (f:attributeBase o name X.env (eval o X.env)=eval o X.env:=by rfl)
 (i:((backTo x_ (starEach (e::es) X.env)).all (λx=> !x.1)&&(backToKw x_ (keywordEach [] X.env)).all (λx=>x.1.isSome)
   &&decide ((e::es).length+([]:List Keyword).length+(if([]:List Keyword).isEmpty then 0 else 1)<30))=true:=by rfl)
 (g:(rA.endLine==x_.line)=true:=by rfl)(y:starEach (e::es) X.env=(false,eval e X.env)::starEach es X.env:=by rfl)(d:(backTo x_ (starEach es X.env)).any (·.1)=false:=by rfl):
 PE X (.Call (.Attribute o name rA) (e::es) [] x_) (NM X.K T r to t):=by
 intro c s k H Q I h;refine wpAny_Call_method_late f i g rfl (iz (u c s k H _ I h) ?_);rintro v z ⟨x,A,l,m,ty,B⟩;obtain⟨C,D⟩:=TQ l m ty;refine⟨T,id,p,slot,j,C,D,?_⟩;have n:=w x_ c z k A _ l B;rw[y]at n⊢;refine jw (by show(false||(backTo x_ (starEach es X.env)).any (·.1))=false;rw[d]<;>rfl) (oP ?_);exact iz n λE G ⟨J,L,M,N,O⟩=>q c G k L x J v E Q M m N O
end
def ZN(X:Cx)(id:String)(r:V->List V->Hp->VK->Prop):Prop:=
 ∀(a:List (Addr×Obj)) (s:Shared) (b:St) (H:Hp) (x:V) (c:List V) (v:Value) (d:List Value) (Q:VK),Inv X a b H s->RelV x v->Vals c d->r x c H Q->
  wpAny (model X.prog X.w) X.A (call (.builtin id) (v::d)) (EP X a b Q) X.xe s
theorem Vals.one:∀{x:V} {a:List Value},Vals [x] a->∃u,a=[u]/\RelV x u
 |_,_,.cons r .nil=>⟨_,rfl,r⟩
theorem Vals.zero:∀{a:List Value},Vals [] a->a=[]
 |_,.nil=>rfl
theorem Vals.dropLast{a:List V}{b:List Value}(h:Vals a b):Vals a.dropLast b.dropLast:=by
 induction h with
 |nil=>exact .nil
 |cons r t c=>
  cases t with
  |nil=>exact .nil
  |cons q d=>exact .cons r c
theorem Vals.reverse{a:List V}{b:List Value}(h:Vals a b):Vals a.reverse b.reverse:=by
 induction h with
 |nil=>exact .nil
 |cons r t c=>rw[iC,iC];exact Vals.append c (.cons r .nil)
theorem Vals.rep{a:List V}{b:List Value}(h:Vals a b):∀k:Nat,Vals (List.replicate k a).flatten (List.replicate k b).flatten
 |0=>.nil
 |k+1=>by
  rw[gL,gL,jP,jP];exact Vals.append h (Vals.rep h k)
theorem Oz{c:Type}(l:List c):l.eraseIdx (l.length-1)=l.dropLast:=by
 induction l with
 |nil=>rfl
 |cons a r d=>
  cases r with
  |nil=>rfl
  |cons b r=>
   have e:(a::b::r).length-1=((b::r).length-1)+1:=by
    have f:(a::b::r).length=r.length+2:=rfl;have g:(b::r).length=r.length+1:=rfl;omega
   rw[e,mM,d]
   all_goals rfl
theorem foldl_rep(a:List Value):∀(k:Nat) (b:List Value),
 List.foldl (λc d=>c++d) b.toArray (List.replicate k a.toArray)=(b++(List.replicate k a).flatten).toArray
 |0,b=>by simp
 |k+1,b=>by
  have e:b.toArray++a.toArray=(b++a).toArray:=by simp
  have e2:(b++a)++(List.replicate k a).flatten=b++(List.replicate (k+1) a).flatten:=by
   rw[gL,jP,bN]
  rw[<-e2,<-foldl_rep a k (b++a),<-e,gL,ij]
section
variable{X:Cx}{pins:List (Addr×Obj)}{σ:St}{H:Hp}{s:Shared}{l b:Addr}{xs ys zs:List V}
theorem Inv.WN{a its':List Value}{n:Nat}{f:Array Value->Array Value}{c:Nat}(I:Inv X pins σ H s)(d:H l=some (.lst xs))
 (e:s.heap.get? l=some {cls:=.type "list",data:=.seq a.toArray n})(g:f a.toArray=its'.toArray)(h:Vals ys its')(i:ys.length<=sizeLine):
 Inv X pins σ (upd H l (.lst ys)) {s with heap:=s.heap.update l (Obj.mapSeq f),toks:=c}:=by
 have q:=PySem.IsL.update e f;rw[g]at q;refine I.write (x:=l) (e:=l) (by rw[d];exact trivial) (.inl rfl) (λm u j k=>(bA s.heap (Obj.mapSeq f) (aY j)).trans k) ⟨_,q⟩ ?_;exact⟨i,its',_,h,q⟩
theorem Inv.Zv{a:List Value}{t':Nat}(I:Inv X pins σ H s)(c:Vals ys a)(d:ys.length<=sizeLine):
 Inv X pins σ (upd H s.heap.objs.size (.lst ys)) {s with heap:=s.heap.push {cls:=.type "list",data:=.seq a.toArray},toks:=t'}:=
 I.laid (λ_ _ q=>aj _ q) (ak _) ⟨d,a,0,c,aN _ rfl⟩
theorem Inv.fresh(I:Inv X pins σ H s):H s.heap.objs.size=none:=I.e_.fresh (ak _)
theorem Inv.Ms(I:Inv X pins σ H s)(c:H l=some (.lst xs)):xs.length<=sizeLine/\∃(a:List Value) (n:Nat),Vals xs a/\xs.length=a.length/\s.heap.get? l=some {cls:=.type "list",data:=.seq a.toArray n}:=by
 obtain⟨z,a,n,r,e⟩:=I.e_ l _ c;exact⟨z,a,n,r,r.length,e⟩
theorem Bj{n:Nat}(h:n<=sizeLine):Builtin.List.listTooLong n=false:=by
 unfold Builtin.List.listTooLong;exact aM (by omega)
end
section
variable{X:Cx}
def sF:V->List V->Hp->VK->Prop:=λx b H Q=>Hl λl a y=>x=.ref l/\b=[y]/\H l=some (.lst a)/\a.length<sizeLine/\Q .non (upd H l (.lst (a++[y])))
theorem oQ:ZN X "list.append" sF:=by
 intro b s i H x j v k Q I d f h;obtain⟨l,m,y,rfl,rfl,c,o,q⟩:=h;cases d;obtain⟨u,rfl,g⟩:=f.one;obtain⟨z,a,n,r,p,e⟩:=I.Ms c;refine lK F.slot_list_append ⟨_,e,rfl⟩ F.entry_list_append (F.args_list_append_2 _ _) (PySem.list_append l a.toArray n u (by rw[aJ];omega)) ⟨e,?_⟩;refine⟨.non,_,I.WN (its':=a++[u]) c e (by simp) (r.append (.cons g .nil)) ?_,rfl,q⟩;rw[ay,cT];omega
def zp:V->List V->Hp->VK->Prop:=λx d H Q=>AF λl b a c=>x=.ref l/\d=[.ref b]/\H l=some (.lst a)/\H b=some (.lst c)/\a.length+c.length<=sizeLine/\Q .non (upd H l (.lst (a++c)))
theorem vy:ZN X "list.extend" zp:=by
 intro g s w H x y v A Q I j k h;obtain⟨l,b,B,C,rfl,rfl,i,m,D,q⟩:=h;cases j;obtain⟨u,rfl,o⟩:=k.one;cases o;obtain⟨z,c,n,r,E,e⟩:=I.Ms i;obtain⟨G,a,p,t,hl2,e2⟩:=I.Ms m;have f:c.toArray.size+a.toArray.size<=sizeLine:=by rw[aJ,aJ];omega
 have d:¬(!c.toArray.isEmpty&&Builtin.List.listTooLong (c.toArray.size+a.toArray.size))=true:=by
  rw[Bj f,Bool.and_false];exact aQ
 refine lK F.slot_list_extend ⟨_,e,rfl⟩ F.entry_list_extend (oX _ _)
  (AutoSeq1.list_extend_list_list_0 l c.toArray n b a.toArray p d (by rw[aJ];omega) (by omega)) ⟨e,e2,?_⟩
 refine⟨.non,_,I.WN (its':=c++a) i e (by simp) (r.append t) ?_,rfl,q⟩;rw[ay];omega
def ZC:V->List V->Hp->VK->Prop:=λx b H Q=>Hl λl a y=>x=.ref l/\b=[]/\H l=some (.lst a)/\a[a.length-1]?=some y/\Q y (upd H l (.lst a.dropLast))
theorem YR:ZN X "list.pop" ZC:=by
 intro d s p H x t v w Q I g i h;obtain⟨l,A,y,rfl,rfl,f,j,q⟩:=h;cases g;have b:=i.zero;subst b;obtain⟨z,a,n,r,k,e⟩:=I.Ms f;obtain⟨u,m,o⟩:=r.get j;have c:a.toArray[a.toArray.size-1]?=some u:=by
  show a.toArray[a.length-1]?=some u;rw[<-cS,<-k];exact m
 refine lK F.slot_list_pop ⟨_,e,rfl⟩ F.entry_list_pop (F.args_list_pop_1 _) (MeetsSeq.list_pop_last l a.toArray n u c (by rw[aJ];omega)) ⟨e,?_⟩;refine⟨y,_,I.WN (its':=a.dropLast) f e ?_ r.dropLast ?_,o,q⟩
 ·show a.toArray.eraseIdxIfInBounds (a.toArray.size-1)=a.dropLast.toArray;rw[aJ,List.eraseIdxIfInBounds_toArray,Oz]
 ·rw[List.length_dropLast];omega
def xK:R2:=λx y H Q=>AF λl b a c=>x=.ref l/\y=.ref b/\H l=some (.lst a)/\H b=some (.lst c)/\a.length+c.length<=sizeLine/\∀p,H p=none->Q (.ref p) (upd H p (.lst (a++c)))
theorem oJ:Cv X (binaryOp .Add) xK:=by
 intro d s o H x y v u Q I f g h;obtain⟨l,b,p,t,rfl,rfl,i,j,w,q⟩:=h;cases f;cases g;obtain⟨z,c,n,r,A,e⟩:=I.Ms i;obtain⟨B,a,C,k,hl2,e2⟩:=I.Ms j;refine PySem.P.add_list e e2 ?_ (by rw[aJ,aJ];omega);have m:c.toArray++a.toArray=(c++a).toArray:=by simp
 rw[m];exact⟨.ref _,_,I.Zv (t':=s.toks) (r.append k) (by rw[ay];omega),rfl,q _ I.fresh⟩
def Yd:R2:=λx y H Q=>Hl λl k a=>x=.ref l/\y=.int k/\H l=some (.lst a)/\ -(2^63)<=k/\k<2^63/\a.length*k.toNat<=sizeLine/\
 ∀p,H p=none->Q (.ref p) (upd H p (.lst (List.replicate k.toNat a).flatten))
theorem len_rep{b:Type}(a:List b)(k:Nat):(List.replicate k a).flatten.length=k*a.length:=by
 induction k with
 |zero=>simp
 |succ k c=>rw[gL,jP,ay,c,Nat.succ_mul,lI]
theorem UZ:Cv X (binaryOp .Mult) Yd:=by
 intro p s M H x y v u Q I A B h;obtain⟨l,k,N,rfl,rfl,C,D,E,w,q⟩:=h;cases A;obtain⟨t,rfl⟩:=B;obtain⟨z,b,n,r,G,e⟩:=I.Ms C;have d:b.toArray.size*k.toNat<=sizeLine:=by rw[aJ,<-G];exact w
 have f:¬b.toArray.size*k.toNat>(2^63-1)/8:=by
  have :(sizeLine:Nat)<=(2^63-1)/8:=by decide
  omega
 have g:¬(!Builtin.List.listFitsIndex k)=true:=by
  rw[fitsIndex_both D E];exact aQ
 have c:¬Builtin.List.listTooLong (b.toArray.size*k.toNat)=true:=by
  rw[Bj d];exact aQ
 have i:List.foldl (λj o=>j++o) #[] (List.replicate (if b.toArray.isEmpty=true then 0 else k.toNat) b.toArray)=(List.replicate k.toNat b).flatten.toArray:=by
  have J:∀m:Nat,List.foldl (λj o=>j++o) #[] (List.replicate m b.toArray)=(List.replicate m b).flatten.toArray:=λm=>by
   have :=foldl_rep b m [];rw[ff]at this;exact this
  rw[J];cases b with
  |nil=>simp
  |cons a O=>rw[ah (by simp)]
 refine wpAny_binaryOp_repeat_ref (T:="list") (U:="int") (by decide) ⟨_,e,rfl⟩ (λL=>typeIs_int L k t) noFill_list_mul F.fills_int_mul F.slot_int_rmul repeat_list F.slot_int_index.lookup
  (lK F.slot_int_rmul (typeIs_int s k t) F.entry_int_rmul (F.args_int_rmul_2 _ _) (int___rmul___int_list k t l b.toArray n)
    ⟨e,rfl,⟨_,e,rfl⟩,lK F.slot_list_mul ⟨_,e,rfl⟩ F.entry_list_mul (F.args_list_mul_2 _ _) (AutoListH.list___mul___list_int_3 l b.toArray n k t g f c) ⟨e,?_⟩⟩)
 rw[i];exact⟨.ref _,_,I.Zv (t':=s.toks) (r.rep k.toNat) (by rw[len_rep,oo];exact w),rfl,q _ I.fresh⟩
end
theorem Vals.ints:∀{b:List Int} {a:List Value},Vals (b.map V.int) a->IntsAre a b
 |[],a,h=>by
  rw[iT]at h;cases h;exact IntsAre.nil
 |n::b,a,h=>by
  rw[bf]at h;cases h with
  |cons r t=>
   obtain⟨k,rfl⟩:=r;exact IntsAre.cons n k (Vals.ints t)
theorem vU:∀{a:List Value} {b:List Int},IntsAre a b->Vals (b.map V.int) a
 |_,_,.nil=>by rw[iT];exact Paired.nil
 |_,_,.cons n t h=>by rw[bf];exact Paired.cons (show RelV (V.int n) (Value.int n t)from⟨t,rfl⟩) (vU h)
theorem Vals.Z2:∀{bs:List Bool} {a:List Value},Vals (bs.map V.bl) a->a=bs.map Value.bool
 |[],a,h=>by
  rw[iT]at h;cases h;rfl
 |b::bs,a,h=>by
  rw[bf]at h;cases h with
  |cons r t=>
   cases r;rw[Vals.Z2 t,bf]
theorem Vals.Vc{a:Addr}{b:List Value}(r:Vals [V.ref a] b):b=[Value.ref a]:=by
 cases r with
 |cons r t=>
  cases t;cases r;rfl
theorem Vals.Z3{i j:Int}{a:List Value}(r:Vals [V.int i,V.int j] a):∃t u,a=[Value.int i t,Value.int j u]:=by
 cases r with
 |cons r t=>
  cases t with
  |cons b c=>
   cases c;obtain⟨t,rfl⟩:=r;obtain⟨u,rfl⟩:=b;exact⟨t,u,rfl⟩
section
variable{prog:Program}{w:World}{A:Around}{E:Value->Shared->Prop}{s:Shared}{l:Addr}{cQ:List Value}{ns:List Int}{Q:Value->Shared->Prop}
theorem VN(i:A.handled=none)(d:s.heap.IsList l cQ.toArray)(f:IntsAre cQ ns)
 (h:∀a tk c,(∀b o,s.heap.get? b=some o->a.get? b=some o)->Q (.int ns.sum c) {s with heap:=a,toks:=tk}):wpAny (model prog w) A (call (.builtin "sum") [.ref l]) Q E s:=by
 obtain⟨j,e⟩:=f.allInts.items;have g:numsOf (intItems j).toList=ns:=by rw[<-e];exact f.numsOf
 rw[nums_intItems]at g;rw[e]at d;refine PySem.sum_intListG i d λa tk c k=>?_
 have :=h a tk c k;rw[preSum_eq,dM (by simp),g];exact this
end
section
variable{X:Cx}
def ZE(K:Frag):List V->Hp->VK->Prop:=λc H Q=>∃(a:Addr) (b:List Int),c=[V.ref a]/\eD K H a (b.map V.int)/\Q (.int b.sum) H
theorem Yy(c:X.calm=true):wV X (.builtin "sum") (ZE X.K):=by
 intro b s j H k l Q I r h;obtain⟨a,m,rfl,d,q⟩:=h;obtain⟨e,f,g,_⟩:=I.list d;rw[Vals.Vc r];exact VN (I.ok.hd c) g.isList f.ints λn tk o i=>⟨.int _,H,I.kept i,⟨_,rfl⟩,q⟩
end
theorem Nj{c:Program}{w:World}{A:Around}{E:Value->Shared->Prop}{s:Shared}{l:Addr}{b:Array Value}{Q:Value->Shared->Prop}(d:s.heap.IsList l b)
 (h:∀a:Shared,a={s with heap:=s.heap.push {cls:=.type "list_iterator",data:=.fields #[.ref l,.int 0 0]} }->
   (a.heap.IsListIter s.heap.objs.size l 0/\a.heap.IsList l b)->l≠s.heap.objs.size->Q (.ref s.heap.objs.size) a):wpAny (model c w) A (pyIter (.ref l)) Q E s:=by
 have f:l<s.heap.objs.size:=by obtain⟨_,e,_⟩:=d;exact aK e
 exact mK d (h _ rfl ⟨⟨_,aN _ rfl,rfl,rfl⟩,d.push _⟩ (bG f))
theorem DU{c:Program}{w:World}{A:Around}{bs:List Bool}{a:List Value}(e:a=bs.map Value.bool):
 TruthOf c w A (λi v=>a.toArray[i]?=some v) (λi=>bs.getD i false):=λi v s Q E g h=>by
 have d:a[i]?=some v:=by simpa using g
 rw[e,cf]at d;obtain⟨b,j,rfl⟩:=cy.mp d;have k:bs.getD i false=b:=by rw[bC,j]<;>rfl
 have f:Q (bs.getD i false) s:=h;rw[k]at f;exact dg f
theorem any_range:∀bs:List Bool,(List.range bs.length).any (λi=>bs.getD i false)=bs.any id
 |[]=>rfl
 |b::bs=>by
  rw[aG,nc,ic,rE,ic,<-any_range bs]
  all_goals rfl
theorem all_range:∀bs:List Bool,(List.range bs.length).all (λi=>bs.getD i false)=bs.all id
 |[]=>rfl
 |b::bs=>by
  rw[aG,nc,kC,List.all_map,kC,<-all_range bs]
  all_goals rfl
section
variable{X:Cx}
def Zb(K:Frag):List V->Hp->VK->Prop:=λb H Q=>∃(a:Addr) (bs:List Bool),b=[V.ref a]/\eD K H a (bs.map V.bl)/\Q (.bl (bs.any id)) H
def Zk(K:Frag):List V->Hp->VK->Prop:=λb H Q=>∃(a:Addr) (bs:List Bool),b=[V.ref a]/\eD K H a (bs.map V.bl)/\Q (.bl (bs.all id)) H
theorem YC(k:X.calm=true):wV X (.builtin "any") (Zb X.K):=by
 intro f s t H u v Q I r h;obtain⟨a,bs,rfl,l,q⟩:=h;obtain⟨d,m,n,_⟩:=I.list l;rw[Vals.Vc r];have g:=m.Z2;refine call_any_walk (Nj n.isList λi e2 st e=>?_);subst e2;refine⟨_,_,_,_,_,_,_,rfl,qO (A:=X.A.in1) (I.ok.hd k) _ a e d.toArray,st,DU g,λw tk p=>?_⟩;refine⟨.bl _,H,I.kept λb o j=>p b o (λc=>?_) (aj _ j),?_,q⟩
 ·rcases af.mp c with e1|c
  ·exact absurd (e1▸aK j) (cW _)
  ·cases c
 ·show Value.bool _=Value.bool _;rw[<-any_range,g,aJ,aP]
theorem YS(k:X.calm=true):wV X (.builtin "all") (Zk X.K):=by
 intro f s t H u v Q I r h;obtain⟨a,bs,rfl,l,q⟩:=h;obtain⟨d,m,n,_⟩:=I.list l;rw[Vals.Vc r];have g:=m.Z2;refine call_all_walk (Nj n.isList λi e2 st e=>?_);subst e2;refine⟨_,_,_,_,_,_,_,rfl,qO (A:=X.A.in1) (I.ok.hd k) _ a e d.toArray,st,DU g,λw tk p=>?_⟩;refine⟨.bl _,H,I.kept λb o j=>p b o (λc=>?_) (aj _ j),?_,q⟩
 ·rcases af.mp c with e1|c
  ·exact absurd (e1▸aK j) (cW _)
  ·cases c
 ·show Value.bool _=Value.bool _;rw[<-all_range,g,aJ,aP]
end
mutual
inductive Dp(K:Frag)(H:Hp):V->PyData->Prop
 |non:Dp K H .non .none
 |bl (b:Bool):Dp K H (.bl b) (.bool b)
 |int (i:Int):Dp K H (.int i) (.int i)
 |str (x:Str):Dp K H (.str x) (.str x)
 |lst {a:Addr} {c:List V} {d:List PyData}:eD K H a c->Gh K H c d->Dp K H (.ref a) (.list d)
 |tup {a:Addr} {c:List V} {d:List PyData}:kF K H a c->Gh K H c d->Dp K H (.ref a) (.tuple d)
inductive Gh(K:Frag)(H:Hp):List V->List PyData->Prop
 |nil:Gh K H [] []
 |cons {v:V} {a:List V} {d:PyData} {b:List PyData}:Dp K H v d->Gh K H a b->Gh K H (v::a) (d::b)
end
section
variable{X:Cx}{pins:List (Addr×Obj)}{σ:St}{H:Hp}{s:Shared}
mutual
theorem Dp.reads(I:Inv X pins σ H s):∀(d:PyData) (v:V) (u:Value),Dp X.K H v d->RelV v u->∃c,Reads s.heap u d c
 |.none,_,_,h,r=>by
  cases h;cases r;exact⟨_,Reads.none⟩
 |.bool b,_,_,h,r=>by
  cases h;cases r;exact⟨_,Reads.bool b⟩
 |.int i,_,_,h,r=>by
  cases h;obtain⟨t,rfl⟩:=r;exact⟨_,Reads.int i t⟩
 |.str x,_,_,h,r=>by
  cases h;obtain⟨t,rfl⟩:=r;exact⟨_,Reads.str x t⟩
 |.list e,_,_,h,r=>by
  cases h with
  |lst f g=>
   cases r;obtain⟨a,j,⟨o,n,k,l,_,m⟩,_⟩:=I.list f;obtain⟨c,p⟩:=Dp.readsAll I e _ a g j;exact⟨_,Reads.list k l m p⟩
 |.tuple e,_,_,h,r=>by
  cases h with
  |tup f g=>
   cases r;obtain⟨a,j,⟨o,k,l,n,m⟩,_⟩:=I.tuple f;obtain⟨c,p⟩:=Dp.readsAll I e _ a g j;exact⟨_,Reads.tuple k l m p⟩
 |.dict _,_,_,h,_=>by cases h
theorem Dp.readsAll(I:Inv X pins σ H s):∀(a:List PyData) (b:List V) (c:List Value),Gh X.K H b a->Vals b c->∃e,ReadsAll s.heap c a e
 |[],_,_,h,r=>by
  cases h;cases r;exact⟨_,ReadsAll.nil⟩
 |d::a,_,_,h,r=>by
  cases h with
  |cons f g=>
   cases r with
   |cons i j=>
    obtain⟨e,k⟩:=Dp.reads I d _ _ f i;obtain⟨bs,l⟩:=Dp.readsAll I a _ _ g j;exact⟨_,ReadsAll.cons k l⟩
end
end
section
variable{X:Cx}
def Y5(K:Frag):R2:=λx y H Q=>om λd e=>Dp K H x d/\Dp K H y e/\SeqAt.shaped d=true/\SeqAt.shaped e=true/\Q (.bl (PyData.eqv d e)) H
theorem Yk(b:X.A.units+64<cLine):Cv X (compareOp .Eq) (Y5 X.K):=by
 intro a s n H x y v u Q I c f h;obtain⟨d,e,g,i,j,k,q⟩:=h;obtain⟨o,l⟩:=Dp.reads I d x v g c;obtain⟨bs,m⟩:=Dp.reads I e y u i f;exact SeqAt.compareEq_shaped l m j k b ⟨.bl _,H,I,rfl,q⟩
end
abbrev S_(h:Heap)(c:Addr)(v:Option Value):Prop:=h.IsCell c v
def ZZ(a b:Scope):Scope:=
 {a with names:=a.names.map λ(n,k)=>if(k==.free&&b.kind==.function&&b.names.lookup n==some .cell)then(n,.cell)else(n,k)}
def iw(cells:List (Str×Addr)):List (Str×NameKind)->List (Str×Addr)->List (Str×Addr)
 |[],acc=>acc
 |(n,k)::r,acc=>if k==.free then iw cells r ((n,(cells.lookup n).getD 0)::acc)else iw cells r acc
theorem Ci(b:Env)(f:Str×NameKind->List (Str×Addr)->Sem (ForInStep (List (Str×Addr))))
 (i:∀n k c,f (n,k) c=if k==.free then(do let a<-cellOf b n;pure (.yield ((n,a)::c)))else pure (.yield c)):
 ∀(names:List (Str×NameKind)) (d:List (Str×Addr)),(∀y∈names,y.2=.free->∃c,b.cells.lookup y.1=some c)->forIn names d f=pure (iw b.cells names d)
 |[],d,_=>by rw[pS];rfl
 |(n,k)::r,d,h=>by
  rw[List.forIn_cons,i];have j:=λd=>Ci b f i r d λy m=>h y (aA _ m)
  unfold iw;by_cases g:(k==NameKind.free)=true
  ·rw[az g,az g];obtain⟨c,l⟩:=h (n,k) aW (by simpa using g);have e:cellOf b n=pure c:=by unfold cellOf;rw[l]
   rw[e];have e2:(b.cells.lookup n).getD 0=c:=by rw[l];rfl
   rw[e2];exact j _
  ·rw[ah g,ah g];exact j _
theorem N6{a:Scope}{b:Env}(h:∀y∈a.names,y.2=.free->∃c,b.cells.lookup y.1=some c):closureFor a b=pure (iw b.cells a.names []):=by
 simp only[closureFor];rw[Ci b _ (λn k c=>rfl) a.names [] h];rfl
theorem mem_lookup{a:Type}:∀{l:List (Str×a)} {n:Str} {c:a},(n,c)∈l->∃b,l.lookup n=some b
 |(k,v)::r,n,c,h=>by
  rw[gi];cases d:n==k with
  |true=>exact⟨_,rfl⟩
  |false=>
   rcases af.mp h with e|h
   ·cases e;simp at d
   ·exact mem_lookup h
theorem uk{cells:List (Str×Addr)}:∀{names:List (Str×NameKind)} {a:List (Str×Addr)} {n:Str} {c:Addr},(n,c)∈iw cells names a->(n,c)∈a\/((n,.free)∈names/\c=(cells.lookup n).getD 0)
 |[],_,_,_,h=>.inl h
 |(m,k)::r,a,n,c,h=>by
  unfold iw at h;split at h
  ·rename_i b;have b:k=.free:=by simpa using b
   rcases uk h with h|⟨d,f⟩
   ·rcases af.mp h with e|h
    ·cases e;exact .inr ⟨b▸aW,rfl⟩
    ·exact .inl h
   ·exact .inr ⟨aA _ d,f⟩
  ·rcases uk h with h|⟨d,f⟩
   ·exact .inl h
   ·exact .inr ⟨aA _ d,f⟩
theorem yP{cells:List (Str×Addr)}:∀{names:List (Str×NameKind)} {a:List (Str×Addr)} {p:Str×Addr},p∈a->p∈iw cells names a
 |[],_,_,h=>h
 |(m,k)::r,a,p,h=>by
  unfold iw;split
  ·exact yP (aA _ h)
  ·exact yP h
theorem yi{cells:List (Str×Addr)}:∀{names:List (Str×NameKind)} {acc:List (Str×Addr)} {n:Str},(n,.free)∈names->(n,(cells.lookup n).getD 0)∈iw cells names acc
 |(m,k)::r,acc,n,h=>by
  unfold iw;rcases af.mp h with e|h
  ·cases e;exact yP aW
  ·split
   ·exact yi h
   ·exact yi h
theorem vh:∀{names:List (Str×NameKind)} {h:Heap} {b:List (Str×Addr)} {x:Str} {c:Addr},(x,c)∈cellsFrom h.objs.size names b->
 (x,c)∈b\/((x,.cell)∈names/\h.objs.size<=c/\S_ (pushCells h names) c none)
 |[],_,_,_,_,h=>.inl h
 |(n,k)::r,h,b,x,c,a=>by
  unfold cellsFrom at a;unfold pushCells;split at a
  ·rename_i d;rw[az d];have d:k=.cell:=by simpa using d
   rw[<-c6 h {cls:=.type "cell",data:=.cell none}]at a;rcases vh a with a|⟨g,f,i⟩
   ·rcases af.mp a with e|a
    ·cases e;exact .inr ⟨d▸aW,ak _,_,kS r _ _ _ (aN _ rfl),rfl⟩
    ·exact .inl a
   ·rw[c6]at f;exact .inr ⟨aA _ g,jS f,i⟩
  ·rename_i d;rw[ah d];rcases vh a with a|⟨g,f,i⟩
   ·exact .inl a
   ·exact .inr ⟨aA _ g,f,i⟩
theorem zq:∀{names:List (Str×NameKind)} {n:Nat} {acc:List (Str×Addr)} {p:Str×Addr},p∈acc->p∈cellsFrom n names acc
 |[],_,_,_,h=>h
 |(m,k)::r,n,acc,p,h=>by
  unfold cellsFrom;split
  ·exact zq (aA _ h)
  ·exact zq h
theorem CH:∀{names:List (Str×NameKind)} {n:Nat} {acc:List (Str×Addr)} {x:Str},(x,.cell)∈names->∃c,(x,c)∈cellsFrom n names acc
 |(m,k)::r,n,acc,x,h=>by
  unfold cellsFrom;rcases af.mp h with e|h
  ·cases e;exact⟨n,zq aW⟩
  ·split
   ·exact CH h
   ·exact CH h
theorem Dn:∀{names:List (Str×NameKind)} {h:Heap} {d:List (Str×Addr)} {x y:Str} {c:Addr},(∀p∈d,p.2<h.objs.size)->(∀x y c,(x,c)∈d->(y,c)∈d->x=y)->
 (x,c)∈cellsFrom h.objs.size names d->(y,c)∈cellsFrom h.objs.size names d->x=y
 |[],_,_,_,_,_,_,i,g,f=>i _ _ _ g f
 |(n,k)::r,h,d,x,y,c,j,i,g,f=>by
  unfold cellsFrom at g f;split at g
  ·rename_i l;rw[az l]at f;rw[<-c6 h {cls:=.type "cell",data:=.cell none}]at g f;refine Dn (h:=h.push _) (λp m=>?_) (λx y c a b=>?_) g f
   ·rw[c6];rcases af.mp m with rfl|m
    ·exact eV _
    ·exact dB (j p m)
   ·rcases af.mp a with e|a<;>rcases af.mp b with o|b
    ·cases e;cases o;rfl
    ·cases e;exact absurd (j _ b) (cW _)
    ·cases o;exact absurd (j _ a) (cW _)
    ·exact i _ _ _ a b
  ·rename_i l;rw[ah l]at f;exact Dn j i g f
theorem Lk{M:Model}{A:Around}{E:Value->Shared->Prop}{s:Shared}{a:Scope}{globals:Addr}{b:List (Str×Addr)}{f:Str}{g:Option Addr}{code:Value}{e:Env}{d:Addr}{Q:Env->Shared->Prop}
 (h:Q (newEnv a s.heap.objs.size globals (cellsFrom (s.heap.objs.size+1) a.names b) f g code (some e) d)
   {s with heap:=pushCells (s.heap.push {cls:=.type "dict",data:=.dict #[]}) a.names}):
 wpAny M A (newFunctionEnv a globals b [] f g code (some e) d) Q E s:=by
 simp only[newFunctionEnv,Option.isSome_some,j0];refine aa (wpAny_alloc ?_);refine aa (wpAny_layCells _ (λn k c=>rfl) a.names b _ _ ?_);rw[show({s with heap:=s.heap.push {cls:=.type "dict",data:=.dict #[]} }:Shared).heap.objs.size=s.heap.objs.size+1 from c6 ..];rw[pS];exact aa (ag (ag h))
theorem xA{c:Scope}:∀{names:List (Str×NameKind)} {x:Str} {k:NameKind},
 (names.map λ(n,k)=>if(k==NameKind.free&&c.kind==.function&&c.names.lookup n==some .cell)then(n,NameKind.cell)else(n,k)).lookup x=some k->
 ∃f,names.lookup x=some f/\(k=f\/(f=.free/\k=.cell))
 |[],_,_,h=>by simp at h
 |(n,a)::r,x,k,h=>by
  have g:=@xA c r x k;have b:List.lookup x ((if(a==NameKind.free&&c.kind==.function&&c.names.lookup n==some .cell)=true then(n,NameKind.cell)else(n,a))::(r.map _))=some k:=h;cases e:x==n with
  |true=>
   simp only[gi,e];by_cases d:(a==NameKind.free&&c.kind==.function&&c.names.lookup n==some .cell)=true
   ·rw[az d]at b;simp only[gi,e]at b;cases b;simp only[bI,i9]at d;exact⟨a,rfl,.inr ⟨d.1.1,rfl⟩⟩
   ·rw[ah d]at b;simp only[gi,e]at b;cases b;exact⟨_,rfl,.inl rfl⟩
  |false=>
   simp only[gi,e];by_cases d:(a==NameKind.free&&c.kind==.function&&c.names.lookup n==some .cell)=true
   ·rw[az d]at b;simp only[gi,e]at b;exact g b
   ·rw[ah d]at b;simp only[gi,e]at b;exact g b
structure LP(N:List Str)(b a:Scope)(own:List (Str×Nat)):Prop where
 kind:a.kind=.function
 uniq:∀y∈a.names,a.names.lookup y.1=some y.2
 ix:∀p∈own,N[p.2]?=some p.1
 free:∀y∈a.names,y.2=.free->b.names.lookup y.1=some .cell\/b.names.lookup y.1=some .free
 own:∀y∈a.names,y.2=.local\/y.2=.cell->y.1∈own.map (·.1)\/y.1∉N
def wipe(a:St):List Nat->St
 |[]=>a
 |v::b=>(wipe a b).set v none
theorem xQ(a:St):∀b:List Nat,(wipe a b).length=a.length
 |[]=>rfl
 |v::b=>by unfold wipe;rw[List.length_set,xQ a b]
theorem CU{b:St}{i:Nat}{x:V}:∀{a:List Nat},(wipe b a)[i]?=some (some x)->b[i]?=some (some x)/\i∉a
 |[],h=>⟨h,by simp⟩
 |v::a,h=>by
  unfold wipe at h;by_cases c:v=i
  ·subst c;by_cases d:v<(wipe b a).length
   ·rw[jz d]at h;cases h
   ·rw[cR (by simpa using d)]at h;cases h
  ·rw[ke c]at h;obtain⟨f,g⟩:=CU h;exact⟨f,by simp only[af,not_or];exact⟨λe=>c e.symm,g⟩⟩
abbrev Cx.Kv(X:Cx)(s:Shared)(H:Hp)(a:Scope)(b:Env)(c:List Addr):Cx:={X with IB:=s,Yw:=H,env:=b,outer:=X.stack,ex:=c,fn:=λx=>a.names.lookup x==some .cell,pn:=[],xe:=λ_ _=>False}
section
variable{X:Cx}{pins:List (Addr×Obj)}{σ:St}{H:Hp}{s:Shared}
theorem Lg{d:Scope}{own:List (Str×Nat)}{fp:List Addr}(I:Inv X pins σ H s)(ok:LP X.N X.env.scope d own)(hN:X.N.Nodup)(l:∀b∈fp,Ex X pins H b/\b<s.heap.objs.size):
 Inv (X.Kv s H d (compEnvC d (cellsFrom (s.heap.objs.size+1) d.names (iw X.env.cells d.names [])) s.heap.objs.size X.env) fp) [] (wipe σ (own.map (·.2))) H {s with heap:=pushCells (s.heap.push {cls:=.type "dict",data:=.dict #[]}) d.names}:=by
 have E:∀y∈d.names,y.2=.free->∃c,X.env.cells.lookup y.1=some c:=λy x e=>by
  rcases ok.free y x e with k|k
  ·exact I.ok.has _ (.inl k)
  ·exact I.ok.has _ (.inr k)
 generalize g:compEnvC d (cellsFrom (s.heap.objs.size+1) d.names (iw X.env.cells d.names [])) s.heap.objs.size X.env=f;have U:∀b o,s.heap.get? b=some o->(pushCells (s.heap.push {cls:=.type "dict",data:=.dict #[]}) d.names).get? b=some o:=λb o e=>kS _ _ _ _ (aj _ e)
 have Y:f.locals=s.heap.objs.size:=by rw[<-g];rfl
 have j:f.cells=cellsFrom (s.heap.objs.size+1) d.names (iw X.env.cells d.names []):=by rw[<-g];rfl
 have Ir:f.scope=ZZ d X.env.scope:=by rw[<-g];rfl
 rw[<-c6 s.heap {cls:=.type "dict",data:=.dict #[]}]at j;have O:∀{y c},(y,c)∈iw X.env.cells d.names []->X.env.cells.lookup y=some c/\c<s.heap.objs.size:=λ{y c} t=>by
  rcases uk t with t|⟨h,rfl⟩
  ·cases t
  ·obtain⟨c,hc⟩:=E _ h rfl;rw[hc];obtain⟨w,z⟩:=I.cell _ _ hc;exact⟨rfl,z.lt⟩
 have G:∀{y c},f.cells.lookup y=some c->(X.env.cells.lookup y=some c/\c<s.heap.objs.size)\/(s.heap.objs.size+1<=c/\S_ (pushCells (s.heap.push {cls:=.type "dict",data:=.dict #[]}) d.names) c none):=λ{y c} e=>by
  rw[j]at e;rcases vh (cj e)with t|⟨_,A,h3⟩
  ·exact .inl (O t)
  ·rw[c6]at A;exact .inr ⟨A,h3⟩
 have look:∀{y},d.names.lookup y=some .free->∃c,f.cells.lookup y=some c/\X.env.cells.lookup y=some c:=λ{y} Z=>by
  have x:(y,NameKind.free)∈d.names:=cj Z;obtain⟨c',u⟩:=mem_lookup (zq (names:=d.names) (n:=(s.heap.push {cls:=.type "dict",data:=.dict #[]}).objs.size) (yi (cells:=X.env.cells) (acc:=[]) x));rw[<-j]at u;refine⟨c',u,?_⟩;rw[j]at u;rcases vh (cj u)with t|⟨h,_,_⟩
  ·exact(O t).1
  ·have :=ok.uniq _ h;rw[Z]at this;cases this
 have x0:(X.Kv s H d f fp).Ok:=by
  refine⟨I.ok.mod,by show f.scope.kind=_;rw[Ir];exact ok.kind,by show f.globals=_;rw[<-g];exact I.ok.glob,by show f.builtins=_;rw[<-g];exact I.ok.blt,by show s.heap.objs.size<=f.locals;rw[Y];exact ak _,
   λy z c e1 e2=>?_,λy x=>?_,λy c z e=>?_,I.ok.hd,I.ok.frames,.inl rfl,λb C=>⟨?_,λy c e z=>?_⟩,I.bs,bh I.ok.V0 I.sz,λb o e C=>?_,λb C z=>?_,I.stack,I.Qj⟩
  ·have e1:f.cells.lookup y=some c:=e1;have e2:f.cells.lookup z=some c:=e2;rw[j]at e1 e2;refine Dn (λp M=>?_) (λy z c a b=>I.ok.inj y z c (O a).1 (O b).1) (cj e1) (cj e2);rw[c6];exact dB (O (y:=p.1) (c:=p.2) M).2
  ·show∃c,f.cells.lookup y=some c;have v:∀k,f.kindOf y=some k->(k=.cell\/k=.free)->∃c,f.cells.lookup y=some c:=λk J L=>by
    unfold Env.kindOf at J;rw[Ir]at J;obtain⟨D,e,r⟩:=xA J;have :D=.cell\/D=.free:=by
     rcases r with rfl|⟨rfl,_⟩
     ·exact L
     ·exact .inr rfl
    rcases this with rfl|rfl
    ·obtain⟨c,t⟩:=CH (n:=(s.heap.push {cls:=.type "dict",data:=.dict #[]}).objs.size) (acc:=iw X.env.cells d.names []) (cj e);obtain⟨c',u⟩:=mem_lookup t;exact⟨c',by rw[j];exact u⟩
    ·obtain⟨c,h,_⟩:=look e;exact⟨c,h⟩
   rcases x with x|x
   ·exact v _ x (.inl rfl)
   ·exact v _ x (.inr rfl)
  ·have z:(d.names.lookup y==some NameKind.cell)=true:=z;have z:d.names.lookup y=some .cell:=by simpa using z
   have e:f.cells.lookup y=some c:=e;rw[j]at e;rcases vh (cj e)with t|⟨_,A,_⟩
   ·rcases uk t with t|⟨h,_⟩
    ·cases t
    ·have q:=ok.uniq _ h;rw[z]at q;cases q
   ·rw[c6]at A;exact jS A
  ·show b≠f.locals;rw[Y];exact bG (l b C).2
  ·have e:f.cells.lookup y=some c:=e;rcases G e with⟨h,_⟩|⟨h,_⟩
   ·exact(l b C).1.2.2.2.2.1 y c h z
   ·have A:s.heap.objs.size+1<=b:=by rw[<-z];exact h
    exact absurd (bB (l b C).2 (jS A)) (cW _)
  ·rcases(l b C).1.2.2.2.1 with z|z
   ·exact I.ok.Ti b o e z
   ·exact absurd (bB (aK e) (bh I.ok.V0 z)) (cW _)
  ·rcases af.mp (I.OC b z)with z|z
   ·exact(l b C).1.2.1 z
   ·exact(l b C).1.2.2.1 z
 refine⟨x0,rfl,I.bare,Un.kept U,⟨λ_=>none,?_,λi y av e1 e2 e3=>?_⟩,λy c e=>?_,?_,λy c e=>?_,λp M=>?_,I.e_.kept U,by rw[xQ];exact I.len⟩
 ·show Heap.Ns _ f.locals _;rw[Y];exact Heap.Ns.keeps (Heap.Ns.new ..) λb o e=>kS _ _ _ _ e
 ·obtain⟨e2,x1⟩:=CU e2;have B:d.names.lookup y=some .free/\(f.kindOf y=some .cell\/f.kindOf y=some .free):=by
   have v:∀k,f.scope.names.lookup y=some k->k=.local\/k=.cell\/k=.free->d.names.lookup y=some .free/\(f.kindOf y=some .cell\/f.kindOf y=some .free):=λk J L=>by
    have Q:=J;rw[Ir]at J;obtain⟨D,e,r⟩:=xA J;have no:¬(D=.local\/D=.cell):=λhh=>by
     rcases ok.own _ (cj e) hh with u|u
     ·obtain⟨p,M,x2⟩:=bq.mp u;have e3:=ok.ix p M;have :p.1=y:=x2;rw[this]at e3;exact x1 (bq.mpr ⟨p,M,Hd hN e3 e1⟩)
     ·exact u (bj e1)
    rcases r with rfl|⟨rfl,rfl⟩
    ·rcases L with rfl|rfl|rfl
     ·exact absurd (.inl rfl) no
     ·exact absurd (.inr rfl) no
     ·exact⟨e,.inr Q⟩
    ·exact⟨e,.inl Q⟩
   have e3:XJ f.scope y:=e3;rcases e3 with e3|e3|e3
   ·exact v _ e3 (.inl rfl)
   ·exact v _ e3 (.inr (.inl rfl))
   ·exact v _ e3 (.inr (.inr rfl))
  obtain⟨m,hn,Z⟩:=I.loc;have T:XJ X.env.scope y:=(ok.free _ (cj B.1) rfl).elim (λk=>.inr (.inl k)) (λk=>.inr (.inr k));obtain⟨w,r,q⟩:=Z i y av e1 e2 T;refine⟨w,r,.inr ⟨B.2,?_⟩⟩;obtain⟨c,h,A⟩:=look B.1;rcases q with⟨k,_⟩|⟨_,c',u,z⟩
  ·have k:X.env.scope.names.lookup y=some .local:=k;rcases ok.free _ (cj B.1) rfl with D|D<;>rw[show X.env.scope.names.lookup y=_ from D]at k<;>cases k
  ·rw[A]at u;cases u;exact⟨c,h,z.keeps U⟩
 ·have e:f.cells.lookup y=some c:=e;rcases G e with⟨h,_⟩|⟨_,z⟩
  ·obtain⟨w,z⟩:=I.cell y c h;exact⟨w,z.keeps U⟩
  ·exact⟨_,z⟩
 ·show H f.locals=none;rw[Y];exact I.e_.fresh (ak _)
 ·have e:f.cells.lookup y=some c:=e;rcases G e with⟨h,_⟩|⟨h,_⟩
  ·exact I.vo y c h
  ·exact I.e_.fresh (jS h)
 ·exact absurd (show p∈([]:List (Addr×Obj))++[]from M) (by simp)
theorem XX{E:Value->Shared->Prop}{D:Addr}{c:List V}{y:V}{v:Value}{Q:Value->Shared->Prop}(I:Inv X pins σ H s)(f:H D=some (.lst c))(j:c.length<sizeLine)(r:RelV y v)
 (h:∀g,Inv X pins σ (upd H D (.lst (c++[y]))) g->Q .none g):wpAny (model X.prog X.w) X.A (call (.builtin "list.append") [.ref D,v]) Q E s:=by
 obtain⟨k,d,n,i,e⟩:=I.e_ D _ f;have p:=i.length;refine append_at (hsz:=by rw[aJ];omega) e λl m a=>?_
 refine h {s with heap:=l} (I.write (t':=s.toks) (by rw[f];trivial) (.inl rfl) (λb u o q=>(m.2 b o).trans q) ⟨_,a⟩ ⟨by rw[ay];exact j,d++[v],n+1,i.append (.cons r .nil),?_⟩);rw[a];simp
def ZL(X:Cx)(a:List Expr)(t:TT):Prop:=
 ∀(pins:List (Addr×Obj)) (s:Shared) (σ:St) (H:Hp) (Q:Bool->Hp->Prop),Inv X pins σ H s->t σ H Q->
  wpAny (model X.prog X.w) X.A (forIn a true λc r=>if r=true then do let ok<-isTrue c X.env (eval c X.env);pure (ForInStep.yield ok)else pure (ForInStep.yield r)) (TP X pins σ Q) X.xe s
def zR:TT:=λ_ H Q=>Q true H
theorem qI:ZL X [] zR:=λ_ _ _ H _ I h=>wpAny_tests_nil ⟨H,I,h⟩
theorem y_{c:Expr}{t:TT}(h:PT X c t):ZL X [c] t:=λpins s σ H Q I a=>wpAny_tests_one (h pins s σ H Q I a)
end
theorem Q7{b:Type}{t:Sem b}{Q c:b->Shared->Prop}{M:Model}{A:Around}{E:Value->Shared->Prop}{s:Shared}(h:wpAny M A t Q (λ_ _=>False) s)(d:∀a s,Q a s->c a s):wpAny M A t c E s:=eJ h d λ_ _ z=>False.elim z
theorem J5{a:Program}{w:World}{A:Around}{R:Result->Shared->Prop}{s:Shared}{y d iter:Expr}{z:List Expr}{f:Scope}{D:Pos}{L B:Value}{b:Env}(I:Nat->Shared->Prop)
 (E:∀n s,I n s->wpAny (model a w) A (pyNext L) (λr g=>match r with
   |none=>R (.ok .next) g
   |some v=>wpAny (model a w) A (letOwnedTupleGo d L v) (λ_ i=>wpAny (model a w) A (assign d b v) (λ_ o=>
     wpAny (model a w) A (forIn z true λc r=>if r=true then do let ok<-isTrue c b (eval c b);pure (ForInStep.yield ok)else pure (ForInStep.yield r)) (λok j=>
      if ok=true then wpAny (model a w) A (eval y b) (λx p=>
       wpAny (model a w) A (call (.builtin "list.append") [B,x]) (λ_ q=>∃m,m<n/\I m q) (notedBy (model a w) A b λe k=>R (.error e) k) p) (notedBy (model a w) A b λe k=>R (.error e) k) j
      else∃m,m<n/\I m j) (notedBy (model a w) A b λe k=>R (.error e) k) o) (notedBy (model a w) A b λe k=>R (.error e) k) i) (notedBy (model a w) A b λe k=>R (.error e) k) g) (notedBy (model a w) A b λe k=>R (.error e) k) s)
 (n:Nat)(h:I n s):
 codeAny (model a w) A (.compLoop (.ListComp y [⟨d,iter,z,0⟩] f D) 0 L B b) R s:=by
 refine codeAny_loop rfl I (λn s M=>?_) n h;show wpAny _ A ((compTurn (.ListComp y [⟨d,iter,z,0⟩] f D) 0 L B b).onRaise (λx=>do noteFrame x b;theTreesLotGoes x)) _ _ s;refine wpAny_noted ?_;rw[compTurn_list];refine aa (mR (aa (eJ (E n s M) (λr g t=>?_) λ_ _ l=>l)));cases r with
 |none=>exact ag t
 |some v=>
  refine aa (eJ t (λ_ i C=>?_) λ_ _ l=>l);refine aa (eJ C (λ_ o G=>aa (eJ G (λok j u=>?_) λ_ _ l=>l)) λ_ _ l=>l);cases ok with
  |false=>exact ag ⟨rfl,u⟩
  |true=>
   exact aa (aa (eJ u (λx p H=>aa (eJ H (λ_ q J=>ag (ag ⟨rfl,J⟩)) λ_ _ l=>l)) λ_ _ l=>l))
section
variable{X:Cx}
def Jt(o:TI)(g:TG)(p:TT)(q:TE)(e:List Nat):TE:=λf H Q=>o f H λJ j=>∀D,j D=none->∃W:Nat->Nat->Hp->Prop,(∃m,W 0 m (upd j D (.lst [])))/\∀i m H,W i m H->
 (J.stop i H/\Q (.ref D) H)\/(J.go i H/\∃h:Hp->Prop,(∀d,h d->∃k,k<m/\W (i+1) k d)/\∀x d,J.NL i H x d->g x (wipe f e) d λa r=>wipe a e=wipe f e/\p a r λb l=>
   if b=true then q a l λy n=>∃c,n D=some (.lst c)/\c.length<sizeLine/\h (upd n D (.lst (c++[y])))else h l)
theorem PH{pins:List (Addr×Obj)}{s:Shared}{L:St}{H:Hp}{Q:VK}{M tg iter:Expr}{O:List Expr}{a:Scope}{own:List (Str×Nat)}{x2 x5:Pos}{wi:TI}{g:TG}{tt:TT}{te:TE}{use:Option (Value->Sem Unit)}{Qf:Value->Shared->Prop}
 (hc:X.calm=true)(hN:X.N.Nodup)(I:Inv X pins L H s)(hi:PI X tg iter wi)(ok:LP X.N X.env.scope a own)
 (hg:∀(s:Shared) (H:Hp) (C:Addr) (cl:List (Str×Addr)) (f:List Addr),PG (X.Kv s H a (compEnvC a cl C X.env) f) tg g)(ht:∀(s:Shared) (H:Hp) (C:Addr) (cl:List (Str×Addr)) (f:List Addr),ZL (X.Kv s H a (compEnvC a cl C X.env) f) O tt)
 (he:∀(s:Shared) (H:Hp) (C:Addr) (cl:List (Str×Addr)) (f:List Addr),PE (X.Kv s H a (compEnvC a cl C X.env) f) M te)(hs:∀x,foldedSetIterable iter X.env x=pure x)
 (h:Jt wi g tt te (own.map (·.2)) L H Q)
 (y8:∀D C B m t,Inv X pins L t B->Q (.ref D) t->B.heap.Ns C m->Ex X pins t C->compPost (model X.prog X.w) X.A X.xe use Qf (.ref D) C (.ok .next) B):
 wpAny (model X.prog X.w) X.A (comprehension (.ListComp M [⟨tg,iter,O,0⟩] a x2) a X.env x5 (newList []) false (eval iter X.env) use) Qf X.xe s:=by
 have x3:∀y∈a.names,y.2=.free->∃c,X.env.cells.lookup y.1=some c:=λy hy e=>by
  rcases ok.free y hy e with k|k
  ·exact I.ok.has _ (.inl k)
  ·exact I.ok.has _ (.inr k)
 refine wpAny_comprehension_free (use:=use) rfl hs (N6 x3) ok.kind (λy hy e=>by rw[ok.uniq y hy,e])
  (iz (hi pins s L H _ I h) λxv s1 hx=>iz hx λz8 s2 h2=>?_)
 obtain⟨it,f,tn,J,Z,e,I2,T,x6,f2,q⟩:=h2;subst e;refine bV (Lk ?_) (by show 0<=sizeLine;decide);generalize hD:s2.heap.objs.size=D;have y9:Z D=none:=I2.e_.fresh (ox hD);obtain⟨W,⟨m0,w0⟩,x7⟩:=q D y9;generalize x8:({s2 with heap:=s2.heap.push {cls:=.type "list",data:=.seq ([]:List Value).toArray} }:Shared)=d;have I3:Inv X pins L (upd Z D (.lst [])) d:=by
  rw[<-x8];refine I2.laid (t':=s2.toks) (λb o e=>aj _ e) (ox hD) ⟨br _,[],0,.nil,?_⟩;rw[<-hD];exact aN _ rfl
 have h3:d.heap=s2.heap.push {cls:=.type "list",data:=.seq ([]:List Value).toArray}:=by rw[<-x8]
 have sz:∀b∈f,b<s2.heap.objs.size:=λb l=>by
  obtain⟨o,e,_⟩:=T.obj _ _ x6 b l;exact aK e
 have f3:∀b∈f,Ex X pins (upd Z D (.lst [])) b/\b<d.heap.objs.size:=λb l=>by
  have x9:=sz b l;refine⟨⟨?_,(f2 b l).2⟩,by rw[h3,c6];exact dB x9⟩;rw[aO (by rw[<-hD];exact bG x9)];exact(f2 b l).1
 have z0:tn 0 d.heap:=T.keep _ _ _ x6 λb _ o e=>by rw[h3];exact aj _ e
 have I4:=Lg I3 ok hN f3;have pg:=hg d (upd Z D (.lst [])) d.heap.objs.size (cellsFrom (d.heap.objs.size+1) a.names (iw X.env.cells a.names [])) f;have pt:=ht d (upd Z D (.lst [])) d.heap.objs.size (cellsFrom (d.heap.objs.size+1) a.names (iw X.env.cells a.names [])) f;have pe:=he d (upd Z D (.lst [])) d.heap.objs.size (cellsFrom (d.heap.objs.size+1) a.names (iw X.env.cells a.names [])) f;show codeAny _ _ (.compStart (.ListComp M [⟨tg,iter,O,0⟩] a x2) 0 (.ref it) (.ref D) (compEnvC a (cellsFrom (d.heap.objs.size+1) a.names (iw X.env.cells a.names [])) d.heap.objs.size X.env)) (compPost (model X.prog X.w) X.A X.xe use Qf (.ref D) d.heap.objs.size) {d with heap:=pushCells (d.heap.push {cls:=.type "dict",data:=.dict #[]}) a.names};have y0:∀b∈f,(upd Z D (.lst [])) b=none:=λb l=>(f3 b l).1.1
 generalize z1:compEnvC a (cellsFrom (d.heap.objs.size+1) a.names (iw X.env.cells a.names [])) d.heap.objs.size X.env=E at I4 pg pt pe⊢;have cL:E.locals=d.heap.objs.size:=by subst z1;rfl
 generalize z9:upd Z D (.lst [])=U at I3 I4 pg pt pe w0 y0 f3;generalize z2:({d with heap:=pushCells (d.heap.push {cls:=.type "dict",data:=.dict #[]}) a.names}:Shared)=s4 at I4⊢;have y1:tn 0 s4.heap:=T.keep _ _ _ z0 λb _ o e=>by rw[<-z2];exact kS _ _ _ _ (aj _ e)
 have G:∀{y2:St} {t:Hp} {B:Shared},Inv (X.Kv d U a E f) [] y2 t B->(∀b∈f,t b=none)->∀b∈f,Ex (X.Kv d U a E f) [] t b:=λ{y2 t B} I' hn b l=>
  ⟨hn b l,(I'.ok.ZS b l).1,I'.ok.SS b l,.inl l,λx c e=>(I'.ok.ZS b l).2 x c e,λp hp=>absurd (show p∈([]:List (Addr×Obj))++[]from hp) (by simp)⟩
 have x0:codeAny (model X.prog X.w) X.A (.compLoop (.ListComp M [⟨tg,iter,O,0⟩] a x2) 0 (.ref it) (.ref D) E) (compPost (model X.prog X.w) X.A X.xe use Qf (.ref D) d.heap.objs.size) s4:=by
  refine J5 (λn B=>∃i t,Inv (X.Kv d U a E f) [] (wipe L (own.map (·.2))) t B/\tn i B.heap/\(∀b∈f,t b=none)/\W i n t) ?_ m0 ⟨0,U,I4,y1,y0,w0⟩;rintro n s5 ⟨i,H5,I5,y3,n5,w5⟩;rcases x7 i n H5 w5 with⟨stop,qq⟩|⟨go,Nx,z3,step⟩
  ·have td:=T.done (X.Kv d U a E f) rfl rfl rfl hc i [] s5 _ H5 (λ_ _=>False) I5 (G I5 n5) y3 stop;refine Q7 td ?_;rintro r s6 ⟨hr,I6⟩;subst hr;have I7:Inv X pins L H5 s6:=I3.Xr (ch:=f) I6.os I6.base I6.e_ I6.bare λb l=>⟨(f3 b l).1.2.2.2.1,(f3 b l).1.2.1,(f3 b l).1.2.2.2.2.1,(f3 b l).1.2.2.2.2.2⟩
   have nC:H5 d.heap.objs.size=none:=by
    have z:H5 E.locals=none:=I6.free;rw[cL]at z;exact z
   obtain⟨m,hn,_⟩:=I6.loc;have hn:s6.heap.Ns E.locals m:=hn;rw[cL]at hn;exact y8 D d.heap.objs.size s6 m H5 I7 qq hn (I3.NS (ak _) nC)
  ·have ti:=T.item (X.Kv d U a E f) rfl rfl rfl hc i [] s5 _ H5 (λ_ _=>False) I5 (G I5 n5) y3 go;refine Q7 ti ?_;rintro r s6 ⟨u,hr,h6⟩;subst hr;refine Q7 h6 ?_;rintro _ s7 ⟨x,H7,I7,r7,y7,x4,n7⟩;have z4:=I7.pinned (G I7 n7) (T.obj _ _ x4);refine Q7 (pg _ s7 _ H7 x u _ z4 r7 (step x H7 y7)) ?_;rintro _ s8 ⟨Y,H8,I8,y4,q8⟩;refine Q7 (pt _ s8 Y H8 _ I8 q8) ?_;rintro b s9 ⟨H9,I9,q9⟩;have fin:∀{B:Shared} {t:Hp},Inv (X.Kv d U a E f) ([]++FZ f s7.heap) Y t B->Nx t->∃m,m<n/\∃i t,Inv (X.Kv d U a E f) [] (wipe L (own.map (·.2))) t B/\tn i B.heap/\(∀b∈f,t b=none)/\W i m t:=λ{B t} I' nx=>by
    obtain⟨m',hm,w'⟩:=z3 t nx;have x1:∀b∈f,∀o,s7.heap.get? b=some o->B.heap.get? b=some o/\t b=none:=λb l o e=>
     let z:=I'.pin (b,o) (cP _ (cP _ (A7 l e)))
     ⟨z.1,z.2.1⟩
    have hl:(wipe L (own.map (·.2))).length=Y.length:=by rw[<-y4,xQ]
    refine⟨m',hm,i+1,t,(I'.BD (pins:=[])).weak hl (λj v e=>?_),T.keep _ _ _ x4 λb l o e=>(x1 b l o e).1,λb l=>?_,w'⟩
    ·rw[<-y4]at e;exact(CU e).1
    ·obtain⟨o,e,_⟩:=T.obj _ _ x4 b l;exact(x1 b l o e).2
   cases b with
   |false=>
    simp only[eT,g7]at q9⊢;exact fin I9 q9
   |true=>
    simp only[j0]at q9⊢;refine Q7 (pe _ s9 Y H9 _ I9 q9) ?_;rintro z u0 ⟨yv,u1,z5,z6,u2,y5,y6,nx⟩;exact XX (X:=X.Kv d U a E f) z5 y5 y6 z6 λu3 z7=>fin z7 nx
 exact codeAny_compStart_list x0 (T.self X.A 0 _ _ _ y1 x0)
theorem yA{c j iter:Expr}{d:List Expr}{a:Scope}{own:List (Str×Nat)}{k:Pos}{l:TI}{g:TG}{n:TT}{p:TE}(t:X.calm=true)(u:X.N.Nodup)(v:PI X j iter l)(ok:LP X.N X.env.scope a own)
 (w:∀(s:Shared) (H:Hp) (C:Addr) (cl:List (Str×Addr)) (i:List Addr),PG (X.Kv s H a (compEnvC a cl C X.env) i) j g)(y:∀(s:Shared) (H:Hp) (C:Addr) (cl:List (Str×Addr)) (i:List Addr),ZL (X.Kv s H a (compEnvC a cl C X.env) i) d n)
 (z:∀(s:Shared) (H:Hp) (C:Addr) (cl:List (Str×Addr)) (i:List Addr),PE (X.Kv s H a (compEnvC a cl C X.env) i) c p)(A:∀x,foldedSetIterable iter X.env x=pure x:=by intro _;rfl):
 PE X (.ListComp c [⟨j,iter,d,0⟩] a k) (Jt l g n p (own.map (·.2))):=by
 intro r s σ H Q I h;rw[eval_ListComp];refine PH t u I v ok w y z A h λD C B m E G q J f=>⟨m,J,λL M=>?_⟩
 obtain⟨O,f1,f2,T,U,Y⟩:=f;exact⟨.ref D,E,G.turned (t':=B.toks) (λb o Z e=>(M.2 b Z).trans e) O f1 T U Y,rfl,q⟩
theorem yB{i:Nat}{y:Str}{u:Pos}{j n iter:Expr}{d:List Expr}{c:Scope}{own:List (Str×Nat)}{k l:Pos}{w:TI}{g:TG}{B:TT}{E:TE}(Y:X.calm=true)(Q:X.N.Nodup)(Z:X.N[i]?=some y) (p:X.env.scope.names.lookup y=some .local)
 (G:swapsWith (.ListComp j [⟨n,iter,d,0⟩] c k) (some (.Name y u)) l.line X.env=pure true) (hi:PI X n iter w) (ok:LP X.N X.env.scope c own)
 (hg:∀(s:Shared) (H:Hp) (C:Addr) (cl:List (Str×Addr)) (r:List Addr),PG (X.Kv s H c (compEnvC c cl C X.env) r) n g) (ht:∀(s:Shared) (H:Hp) (C:Addr) (cl:List (Str×Addr)) (r:List Addr),ZL (X.Kv s H c (compEnvC c cl C X.env) r) d B)
 (he:∀(s:Shared) (H:Hp) (C:Addr) (cl:List (Str×Addr)) (r:List Addr),PE (X.Kv s H c (compEnvC c cl C X.env) r) j E) (hs:∀x,foldedSetIterable iter X.env x=pure x:=by intro _;rfl):
 PS X (.Assign [.Name y u] (.ListComp j [⟨n,iter,d,0⟩] c k) l) (dN (Jt w g B E (own.map (·.2))) (bw i)):=by
 intro t s T H D I h;rw[exec_Assign_Name_used _ _ _ _ G];refine aa (mR (aa ?_));show wpAny _ X.A (do let _<-comprehension (.ListComp j [⟨n,iter,d,0⟩] c k) c X.env (firstIterPos [⟨n,iter,d,0⟩] k) (newList []) false (eval iter X.env) (some (assign (.Name y u) X.env))) _ _ s;have h:Jt w g B E (own.map (·.2)) T H (λx H1=>bw i x T H1 D.nx):=h;refine aa (iz (PH (Qf:=λ_ J=>SP X t D .next J) Y Q I hi ok hg ht he hs h λL C J m H' I' q hn f=>?_) λ_ J hq=>ag (ag hq));show wpAny _ _ (assign (.Name y u) X.env (.ref L)) _ _ _;refine wpAny_assign_Name (Iy (v:=V.ref L) I' Q Z (.inl p) rfl (?_) (.inr p));rintro s2 I2 ⟨a,sb,ha⟩;obtain⟨f0,f1,f2,f3,U,f5⟩:=f;have M:C≠a:=by
  rcases ha with z|z
  ·rw[z];exact f1
  ·exact λe=>U y a z e.symm
 refine⟨m,hn.sameBut sb M,λh3 O=>?_⟩;exact⟨_,H',I2.turned (t':=s2.toks) (λb o hb e=>(O.2 b hb).trans e) f0 f1 f3 U f5,q⟩
theorem B5{d:Expr}{f:List Comprehension}{a:Scope}{c e:Pos}{y:Str}{l:Nat}{b:Env}(g:b.scope.kind=.function)(h:b.scope.names.lookup y=some .local)(i:(e.line==c.line)=true)
 (j:(a.names.any λ(n,k)=>n==y&&(k==.local||k==.cell))=false):swapsWith (.ListComp d f a c) (some (.Name y e)) l b=pure true:=by
 have m:b.kindOf y=some .local:=h;have o:b.blockKind=.function:=by unfold Env.blockKind;rw[g];rfl
 unfold swapsWith;simp only[o,m,j,Expr.pos,i];rfl
end
theorem Uo{lo:Int}{n:Nat}{g:TG}{r:TT}{s:TE}{h:List Nat}{l:St}{t:Hp}{D:Addr}{u:Hp->Prop}(Pv:Nat->Hp->Prop)(w:Pv 0 (upd t D (.lst [])))
 (z:∀i H,i<n->Pv i H->g (.int (lo+i)) (wipe l h) H λa o=>wipe a h=wipe l h/\r a o λb j=>
   if b=true then s a j λy k=>∃c,k D=some (.lst c)/\c.length<sizeLine/\Pv (i+1) (upd k D (.lst (c++[y])))else Pv (i+1) j)(A:∀H,Pv n H->u H):
 ∃W:Nat->Nat->Hp->Prop,(∃m,W 0 m (upd t D (.lst [])))/\∀i m H,W i m H->
  ((Ra lo n).stop i H/\u H)\/((Ra lo n).go i H/\∃q:Hp->Prop,(∀d,q d->∃v,v<m/\W (i+1) v d)/\∀x d,(Ra lo n).NL i H x d->g x (wipe l h) d λa o=>wipe a h=wipe l h/\r a o λb j=>
    if b=true then s a j λy k=>∃c,k D=some (.lst c)/\c.length<sizeLine/\q (upd k D (.lst (c++[y])))else q j):=by
 refine⟨λi m H=>m=n-i/\i<=n/\Pv i H,⟨n,by simp,br _,w⟩,?_⟩;rintro i m H ⟨rfl,C,p⟩;by_cases f:i<n
 ·refine .inr ⟨f,Pv (i+1),λd B=>⟨n-(i+1),by omega,rfl,f,B⟩,λx d y=>?_⟩;obtain⟨e,y⟩:=y;subst e y;exact z i _ f p
 ·have e:i=n:=by omega
  subst e;exact .inl ⟨ak _,A H p⟩
theorem WL{K:Frag}{a:Addr}{xs:List V}{g:TG}{s:TT}{t:TE}{h:List Nat}{n:St}{u:Hp}{D:Addr}{v:Hp->Prop}(Pv:Nat->Hp->Prop)(z:Pv 0 (upd u D (.lst [])))(A:∀i H,i<=xs.length->Pv i H->eD K H a xs)
 (B:∀i x H,xs[i]?=some x->Pv i H->g x (wipe n h) H λc o=>wipe c h=wipe n h/\s c o λb j=>
   if b=true then t c j λy k=>∃d,k D=some (.lst d)/\d.length<sizeLine/\Pv (i+1) (upd k D (.lst (d++[y])))else Pv (i+1) j) (C:∀H,Pv xs.length H->v H):
 ∃W:Nat->Nat->Hp->Prop,(∃m,W 0 m (upd u D (.lst [])))/\∀i m H,W i m H->
  ((Px K a).stop i H/\v H)\/((Px K a).go i H/\∃r:Hp->Prop,(∀f,r f->∃w,w<m/\W (i+1) w f)/\∀x f,(Px K a).NL i H x f->g x (wipe n h) f λc o=>wipe c h=wipe n h/\s c o λb j=>
    if b=true then t c j λy k=>∃d,k D=some (.lst d)/\d.length<sizeLine/\r (upd k D (.lst (d++[y])))else r j):=by
 refine⟨λi m H=>m=xs.length-i/\i<=xs.length/\Pv i H,⟨xs.length,by simp,br _,z⟩,?_⟩;rintro i m H ⟨rfl,E,p⟩;have q:=A i H E p;by_cases l:i<xs.length
 ·refine .inr ⟨⟨xs,xs[i],q,by simp[l]⟩,Pv (i+1),λf G=>⟨xs.length-(i+1),by omega,rfl,l,G⟩,λx f y=>?_⟩;obtain⟨e,y⟩:=y;subst e;exact B i x _ (y xs q) p
 ·have e:i=xs.length:=by omega
  subst e;exact .inl ⟨⟨xs,q,ak _⟩,C H p⟩
theorem Yq{K:Frag}{a:Addr}{xs:List V}{g:TG}{s:TT}{t:TE}{h:List Nat}{n:St}{u:Hp}{D:Addr}{v:Hp->Prop}(Pv:Nat->Hp->Prop)(z:Pv 0 (upd u D (.lst [])))(A:∀i H,i<=xs.length->Pv i H->kF K H a xs)
 (B:∀i x H,xs[i]?=some x->Pv i H->g x (wipe n h) H λc o=>wipe c h=wipe n h/\s c o λb j=>
   if b=true then t c j λy k=>∃d,k D=some (.lst d)/\d.length<sizeLine/\Pv (i+1) (upd k D (.lst (d++[y])))else Pv (i+1) j) (C:∀H,Pv xs.length H->v H):
 ∃W:Nat->Nat->Hp->Prop,(∃m,W 0 m (upd u D (.lst [])))/\∀i m H,W i m H->
  ((S6 K a).stop i H/\v H)\/((S6 K a).go i H/\∃r:Hp->Prop,(∀f,r f->∃w,w<m/\W (i+1) w f)/\∀x f,(S6 K a).NL i H x f->g x (wipe n h) f λc o=>wipe c h=wipe n h/\s c o λb j=>
    if b=true then t c j λy k=>∃d,k D=some (.lst d)/\d.length<sizeLine/\r (upd k D (.lst (d++[y])))else r j):=by
 refine⟨λi m H=>m=xs.length-i/\i<=xs.length/\Pv i H,⟨xs.length,by simp,br _,z⟩,?_⟩;rintro i m H ⟨rfl,E,p⟩;have q:=A i H E p;by_cases l:i<xs.length
 ·refine .inr ⟨⟨xs,xs[i],q,by simp[l]⟩,Pv (i+1),λf G=>⟨xs.length-(i+1),by omega,rfl,l,G⟩,λx f y=>?_⟩;obtain⟨e,y⟩:=y;subst e;exact B i x _ (y xs q) p
 ·have e:i=xs.length:=by omega
  subst e;exact .inl ⟨⟨xs,q,ak _⟩,C H p⟩
def xF(N:List Str)(b a:Scope)(own:List (Str×Nat)):Bool:=
 (match a.kind with |.function=>true|_=>false)&&(a.names.all λy=>decide (a.names.lookup y.1=some y.2))&&(own.all λp=>decide (N[p.2]?=some p.1))&&
   (a.names.all λy=>match y.2 with
     |.free=>(match b.names.lookup y.1 with |some .cell=>true|some .free=>true|_=>false)
     |.local=>decide (y.1∈own.map (·.1))||decide (y.1∉N)
     |.cell=>decide (y.1∈own.map (·.1))||decide (y.1∉N)
     |_=>true)
theorem iX{N:List Str}{c a:Scope}{own:List (Str×Nat)}(h:xF N c a own=true):LP N c a own:=by
 unfold xF at h;simp only[bI,fG,dA]at h;obtain⟨⟨⟨d,g⟩,i⟩,f⟩:=h;refine⟨?_,g,i,λy b e=>?_,λy b e=>?_⟩
 ·split at d
  ·assumption
  ·cases d
 ·have q:=f y b;simp only[e]at q;split at q<;>first|exact .inl (by assumption)|exact .inr (by assumption)|cases q
 ·have q:=f y b;rcases e with e|e<;>(simp only[e,Bool.or_eq_true,dA]at q;exact q)
section
variable{κ:Type}[DecidableEq κ]
theorem zE.Dj{o:Option V}{u:Option Value}(r:zE o u):o.isSome=u.isSome:=by
 cases o with
 |none=>cases u with
  |none=>rfl
  |some _=>exact(show False from r).elim
 |some _=>cases u with
  |none=>exact(show False from r).elim
  |some _=>rfl
theorem zE.getD{o:Option V}{u:Option Value}{d:V}{a:Value}(r:zE o u)(b:RelV d a):RelV (o.getD d) (u.getD a):=by
 cases o with
 |none=>cases u with
  |none=>exact b
  |some _=>exact(show False from r).elim
 |some _=>cases u with
  |none=>exact(show False from r).elim
  |some _=>exact r
end
section
variable{X:Cx}{pins:List (Addr×Obj)}{σ:St}{H:Hp}{s:Shared}{a:Addr}{y v:V}{u r:Value}{o:Option V}{A:Around}{E:Value->Shared->Prop}
theorem Inv.big(I:Inv X pins σ H s):sysModules<s.heap.objs.size:=by
 have h:mainGlobals<s.heap.objs.size:=(I.mod.glob.keeps I.bk).lt;exact lA (by decide) h
theorem WH{c:Heap}{g:Nat}{d:HO}(I:Inv X pins σ H s)(h:V8 (H a))(i:Heap.SameBut a s.heap c)(j:∃q,c.get? a=some q)(f:l9 X.prog X.w (upd H a d) c a d):
 Inv X pins σ (upd H a d) {s with heap:=c,toks:=g}:=
 I.write (x:=a) (e:=a) h (.inl rfl) (λb q k z=>(i.2 b k).trans z) j f
end
def YJ(i:Expr):Prop:=∀a b,subscripted i false a b=operate [a,b] (getItem a b)
theorem PZ{a:Program}{w:World}{A:Around}{E:Value->Shared->Prop}{s:Shared}{j:Env}{c b:Expr}{m:Pos}{T id:String}{Q:Value->Shared->Prop}
 (n:typeLookup (.type T) "__getitem__"=pure (some (.builtin id)))(p:YJ b)
 (h:wpAny (model a w) A (eval c j) (λo f=>wpAny (model a w) A (eval b j) (λi d=>d.TypeIs o T/\wpAny (model a w) A (getItem o i) Q E d) E f) E s):
 wpAny (model a w) A (eval (.Subscript c b m) j) Q E s:=by
 refine Subscript_ (eJ h (λo f k=>eJ k (λi d e=>?_) λ_ _ x=>x) λ_ _ x=>x);obtain⟨hT,e⟩:=e;unfold subscriptTail;refine aa ?_;rw[getitemInPython_of_ne hT.not_modules];refine aa (eM hT n ?_);have fin:wpAny (model a w) A (subscripted b false o i) (λr g=>wpAny (model a w) A (letTemporaryGo c o r>>=λ_=>pure r) Q E g) E d:=by
  rw[p o i];exact wpAny_operating (eJ e (λr g l=>aa (wpAny_letTemporaryGo (ag l))) λ_ _ x=>x)
 first
  |exact ag (aa fin)
  |exact aa (ag (aa fin))
  |exact aa fin
structure M2(X:Cx)(o:Expr)(m:Str)(b:Pos)(e f:Expr)(a:Pos):Prop where
 base:attributeBase o m X.env (eval o X.env)=eval o X.env
 few:((backTo a (starEach [e,f] X.env)).all (λx=> !x.1)&&(backToKw a (keywordEach [] X.env)).all (λx=>x.1.isSome)
  &&decide (([e,f]:List Expr).length+([]:List Keyword).length+(if([]:List Keyword).isEmpty then 0 else 1)<30))=true
 line:(b.endLine==a.line)=true
 trees:backTo a (starEach [e,f] X.env)=[(false,eval e X.env),(false,eval f X.env)]
section
variable{X:Cx}{pins:List (Addr×Obj)}{σ:St}{H:Hp}{s:Shared}{h':Heap}
theorem Inv.V3{t':Nat}{ch:List Addr}(I:Inv X pins σ H s)(k:∀b o,b∉ch->s.heap.get? b=some o->h'.get? b=some o)(d:∀b∈ch,Ex X pins H b):Inv X pins σ H {s with heap:=h',toks:=t'}:=by
 have f:∀b u,H b=some u->b∉ch:=λb u e z=>by
  have q:=(d b z).1;rw[q]at e;cases e
 refine I.step (g':=s.gens) (d':=s.drawn) (ch:=ch) (λb g=>⟨(d b g).2.2.2.1,(d b g).2.1,(d b g).2.2.2.2.1,(d b g).2.2.2.2.2⟩) (λb o _ _ a e _=>k b o a e) (λb o _ _ a e _=>⟨o.slots,k b o a e⟩)
  (λ_ _ _ _ n=>n) (λb o a e=>⟨o,k b o a e⟩) (λ_ _ e=>e) (λ_ _ _ e=>e) (λb p e=>⟨#[],by rw[e];simp⟩) (λm h=>?_) (λb u e=>?_) I.bare
 ·obtain⟨o,i,j,l,r⟩:=h;exact⟨o,i,j,k _ o (λz=>(d _ z).2.1 rfl) l,r⟩
 ·refine(I.e_ b u e).HW (λc v a q=>k c v ?_ q) (λ_ q=>q) λ_ _ q=>q
  rcases a with z|z
  ·rw[z];exact f b u e
  ·exact f c _ z
theorem Inv.IM{t':Nat}{ch:List Addr}{T:Addr}{i:HO}(I:Inv X pins σ H s)(k:∀b o,b∉ch->s.heap.get? b=some o->h'.get? b=some o)(f:∀b∈ch,Ex X pins H b)(hT:s.heap.objs.size<=T)
 (j:l9 X.prog X.w (upd H T i) h' T i):Inv X pins σ (upd H T i) {s with heap:=h',toks:=t'}:=by
 have g:H T=none:=I.e_.fresh hT;have h:∀b u,H b=some u->b∉ch:=λb u e z=>by
  have q:=(f b z).1;rw[q]at e;cases e
 refine I.step (g':=s.gens) (d':=s.drawn) (ch:=ch) (λb a=>⟨(f b a).2.2.2.1,(f b a).2.1,(f b a).2.2.2.2.1,(f b a).2.2.2.2.2⟩) (λb o _ _ d e _=>k b o d e) (λb o _ _ d e _=>⟨o.slots,k b o d e⟩)
  (λb o _ e n=>?_) (λb o d e=>⟨o,k b o d e⟩) (λb l e=>?_) (λb o u e=>?_) (λb A e=>⟨#[],?_⟩) (λm p=>?_) (λb u e=>?_) I.bare
 ·rw[aO (bG (bB (aK e) hT))];exact n
 ·rw[aO (cZ e g)];exact e
 ·rw[aO (cZ e g)];exact e
 ·rw[aO (cZ e g),e];simp
 ·obtain⟨o,t,x,y,r⟩:=p;exact⟨o,t,x,k _ o (λz=>(f _ z).2.1 rfl) y,r⟩
 ·by_cases a:b=T
  ·subst a;rw[au]at e;cases e;exact j
  ·rw[aO a]at e;refine(I.e_ b u e).HW (λc v d q=>k c v ?_ q) (λc q=>by rw[aO (cZ q g)];exact q) λc l q=>by rw[aO (cZ q g)];exact q
   rcases d with z|z
   ·rw[z];exact h b u e
   ·exact h c _ z
theorem Inv.lock{d:Addr}{u:HO}(I:Inv X pins σ H s)(h:H d=some u)(c:V8 (some u)):∃a,Inv X pins σ (upd H d (.zJ a u)) s:=by
 have x:=I.e_ d u h;have i:∃a,s.heap.get? d=some a:=by
  cases u with
  |lst j=>obtain⟨_,_,_,_,e⟩:=x;exact⟨_,e⟩
  |dK f=>obtain⟨_,_,_,_,o,_,_,e,_⟩:=x;exact⟨o,e⟩
  |dT f=>obtain⟨_,_,_,_,o,_,_,e,_⟩:=x;exact⟨o,e⟩
  |set S n=>obtain⟨o,_,_,_,e,_⟩:=x;exact⟨o,e⟩
  |ins C k fs=>obtain⟨_,_,_,e,_⟩:=x;exact⟨_,e⟩
  |ext l=>obtain⟨_,⟨_,e⟩,_⟩:=x;exact⟨_,e⟩
  |_=>exact False.elim c
 obtain⟨a,e⟩:=i;have g:l9 X.prog X.w (upd H d (.zJ a u)) s.heap d (.zJ a u):=by
  refine⟨e,x.HW (λb v _ q=>q) (λb q=>?_) λb j q=>?_⟩
  ·rw[aO (λz=>by rw[z,h]at q;cases q;exact c)];exact q
  ·rw[aO (λz=>by rw[z,h]at q;cases q;exact c)];exact q
 exact⟨a,I.write (x:=d) (e:=d) (t':=s.toks) (h':=s.heap) (by rw[h];exact c) (.inl rfl) (λb v _ q=>q) ⟨a,e⟩ g⟩
theorem Inv.Qm{d:Addr}{u:HO}(I:Inv X pins σ H s)(h:H d=some u)(c:V8 (some u)):∀a b,X.Yw d≠some (.zJ a b):=λa b e=>by
 have q:=I.base.Hc d a b e;rw[h]at q;cases q;exact c
theorem Inv.unlock{d:Addr}{t:Obj}{u:HO}(I:Inv X pins σ H s)(h:H d=some (.zJ t u))(w:∀f g,X.Yw d≠some (.zJ f g)):Inv X pins σ (upd H d u) s:=by
 have a:∀b o,H b=some o->(∀f g,o≠.zJ f g)->b≠d:=λb o e i z=>by
  rw[z,h]at e;cases e;exact i _ _ rfl
 have neN:∀b,H b=none->b≠d:=λb e z=>by rw[z,h]at e;cases e
 refine⟨I.ok,I.os,I.bare,⟨I.base.keep,I.base.slot,λb o e n l=>?_,I.base.there,λb j e=>?_,λb o x e=>?_,λb y e=>?_⟩,I.loc,I.cell,?_,λx c e=>?_,λp A=>?_,λb o e=>?_,I.len⟩
 ·rw[aO (neN b (I.base.free b o e n l))];exact I.base.free b o e n l
 ·have q:=I.base.K9 b j e;rw[aO (a b _ q (λ_ _ z=>nomatch z))];exact q
 ·have q:=I.base.Hc b o x e;rw[aO (λz=>by rw[z]at e;exact w _ _ e)];exact q
 ·obtain⟨m,q⟩:=I.base.KJ b y e;exact⟨m,by rw[aO (a b _ q (λ_ _ z=>nomatch z))];exact q⟩
 ·rw[aO (neN _ I.free)];exact I.free
 ·rw[aO (neN c (I.vo x c e))];exact I.vo x c e
 ·obtain⟨e,n,r⟩:=I.pin p A;exact⟨e,by rw[aO (neN _ n)];exact n,r⟩
 ·by_cases k:b=d
  ·rw[k,au]at e;cases e;rw[k];obtain⟨_,x⟩:=I.e_ d _ h;exact x.HW (λc v _ q=>q) (λc q=>by rw[aO (a c _ q (λ_ _ z=>nomatch z))];exact q) λc j q=>by rw[aO (a c _ q (λ_ _ z=>nomatch z))];exact q
  ·rw[aO k]at e;exact(I.e_ b o e).HW (λc v _ q=>q) (λc q=>by rw[aO (a c _ q (λ_ _ z=>nomatch z))];exact q) λc j q=>by rw[aO (a c _ q (λ_ _ z=>nomatch z))];exact q
end
def Xa(t:TS):TS:=λD e H=>om λd u=>H d=some u/\V8 (some u)/\∀c,t ⟨λa b=>b d=some (.zJ c u)/\D.nx a (upd b d u),λv b=>b d=some (.zJ c u)/\D.rt v (upd b d u),λa b=>b d=some (.zJ c u)/\D.bk a (upd b d u),λa b=>b d=some (.zJ c u)/\D.ct a (upd b d u)⟩ e (upd H d (.zJ c u))
section
variable{X:Cx}
theorem WA{st:Stmt}{t:TS}(h:PS X st t):PS X st (Xa t):=by
 intro c s l H D I j;obtain⟨d,u,g,i,j⟩:=j;obtain⟨m,n⟩:=I.lock g i;refine iz (h c s l _ _ n (j m)) λf o q=>?_
 cases f with
 |next=>obtain⟨a,k,b,e,q⟩:=q;exact⟨a,_,b.unlock e (I.Qm g i),q⟩
 |brk=>obtain⟨a,k,b,e,q⟩:=q;exact⟨a,_,b.unlock e (I.Qm g i),q⟩
 |cont=>obtain⟨a,k,b,e,q⟩:=q;exact⟨a,_,b.unlock e (I.Qm g i),q⟩
 |ret v=>obtain⟨x,a,k,b,r,e,q⟩:=q;exact⟨x,a,_,b.unlock e (I.Qm g i),r,q⟩
end
def Zy(K:Frag)(a:Addr):It:=
 ⟨λi H=>∃(b:List V) (x:V),eD K H a b/\b[i]?=some x,λi H v c=>om λT x=>v=.ref T/\H T=none/\c=upd H T (.tup [.int (i:Nat),x])/\∀b,eD K H a b->b[i]?=some x,λi H=>∃b:List V,eD K H a b/\b.length<=i⟩
theorem Rj{P:Program}{w:World}{K:Frag}{r:List Expr}{kk:Nat}{t:Pos}(a e f:Addr):
 Turn P w K (.Tuple r kk t) (Zy K a) [e,f] e (λi h=>(∃c,IsEnum h e f ((i:Nat):Int) c)/\h.IsListIter f a i/\e≠f) where
 mem:=by simp
 obj:=λi h st b g=>by
  obtain⟨⟨c,j⟩,⟨o,G,J,hd⟩,_⟩:=st;have L:b=e\/b=f:=by simpa using g
  rcases L with z|z
  ·rw[z];exact⟨_,j,λv q=>nomatch q⟩
  ·rw[z];exact⟨o,G,λv q=>by rw[hd]at q;cases q⟩
 keep:=λi h M st k=>let ⟨⟨c,j⟩,hi,d⟩:=st;⟨⟨c,k e (by simp) _ j⟩,hi.at λo q=>k f (by simp) o q,d⟩
 item:=by
  intro X N O T J i m s σ H E I C st U;subst N O T;obtain⟨⟨c,j⟩,l,d⟩:=st;obtain⟨xs,x,D,Y⟩:=U;obtain⟨Z,rv,p,hz⟩:=I.list D;obtain⟨u,hu,ru⟩:=rv.get Y;have y:e<s.heap.objs.size:=aK j;have x0:f<s.heap.objs.size:=by obtain⟨_,q,_⟩:=l;exact aK q
  refine wpAny_pyNext_enum_item j l p.isList (x:=u) (by simpa using hu) d λM G B hT x5 hk=>?_
  refine⟨_,rfl,wpAny_letOwnedTupleGo_enum (s:={s with heap:=M,toks:=s.toks+1}) G λn x1 sb=>?_⟩;have x2:n.get? s.heap.objs.size=some {cls:=.type "tuple",data:=.seq #[.int i s.toks,u]}:=(sb.2 _ (lx y)).trans hT;have x3:l9 X.prog X.w (upd H s.heap.objs.size (.tup [.int (i:Nat),x])) n s.heap.objs.size (.tup [.int (i:Nat),x]):=
   ⟨by show 2<=sizeLine;decide,[.int i s.toks,u],.cons ⟨_,rfl⟩ (.cons ru .nil),⟨_,x2,rfl,_,rfl⟩⟩
  have I1:Inv X m σ (upd H s.heap.objs.size (.tup [.int (i:Nat),x])) {s with heap:=n,toks:=s.toks+1}:=
   I.IM (ch:=[e,f]) (λb ob g q=>(sb.2 b (λz=>g (by simp[z]))).trans (hk b ob (λz=>g (by simp[z])) (λz=>g (by simp[z])) q)) C (ak _) x3
  refine⟨.ref s.heap.objs.size,_,I1,rfl,⟨_,x,rfl,I.e_.fresh (ak _),rfl,λys hy=>by rw[I.BI hy D];exact Y⟩,⟨⟨u,?_⟩,B.at λo q=>(sb.2 f (aY d)).trans q,d⟩,λb g=>?_⟩
  ·have e1:((i+1:Nat):Int)=(i:Int)+1:=by omega
   rw[e1];exact x1
  ·have x4:b<s.heap.objs.size:=by
    have L:b=e\/b=f:=by simpa using g
    rcases L with z|z
    ·rw[z];exact y
    ·rw[z];exact x0
   rw[aO (bG x4)];exact(C b g).1
 done:=by
  intro X N O T J i m s σ H E I C st U;subst N O T;obtain⟨⟨c,j⟩,l,d⟩:=st;obtain⟨xs,D,Y⟩:=U;obtain⟨Z,rv,p,hz⟩:=I.list D;obtain⟨f0,f1,f2,f3,f4,f5⟩:=C f (by simp);have hl:=rv.length;exact wpAny_pyNext_enum_end (I.ok.hd J) j l p.isList (by simp;omega) λM eb=>⟨rfl,I.turned (t':=s.toks) (λb o g q=>eb b o g q) f0 f1 f3 f4 f5⟩
 self:=λA i s Q E st h=>let ⟨⟨_,j⟩,_⟩:=st;wpAny_pyIter_enum j h
def Va(K:Frag)(c:TA):TI:=λd H R=>c d H λe b=>om λa f=>e=[.ref a]/\eD K b a f/\R (Zy K a) b
theorem PB{X:Cx}{e:Expr}{m:TA}{p f g:Pos}{i:List Expr}{u:Nat}(v:Gl X "enumerate")(w:X.mg "enumerate"=none)(x:PA X [e] m)(y:starEach [e] X.env=[(false,eval e X.env)]:=by rfl):
 PI X (.Tuple i u g) (.Call (.Name "enumerate" p) [e] [] f) (Va X.K m):=by
 intro d s n H R I h;refine Call_ (qC I v w boot_enumerate (cp (iz (x f d s n H _ I h) ?_) y rfl));rintro U c ⟨Y,o,k,A,B⟩;obtain⟨a,Z,C,D,q⟩:=B;subst C;cases A with
 |cons r E=>
  cases E;cases r;obtain⟨G,rv,J,hz⟩:=k.list D;refine call_enumerate_list J.isList λL t l M N=>wpAny_pyIter_enum t ?_
  have O:Inv X d n o {c with heap:=L}:=k.kept (t':=c.toks) N;refine⟨c.heap.objs.size+1,[c.heap.objs.size+1,c.heap.objs.size],_,_,o,rfl,O,Rj a (c.heap.objs.size+1) c.heap.objs.size,⟨⟨.none,t⟩,l,nu _⟩,λb Q=>?_,q⟩;have T:b=c.heap.objs.size+1\/b=c.heap.objs.size:=by simpa using Q
  have j:c.heap.objs.size<=b:=by
   rcases T with z|z
   ·rw[z];exact gZ _ _
   ·rw[z];exact ak _
  exact k.NS j (k.e_.fresh j)
theorem Sb:bootBuiltins "zip"=some (.type "zip"):=by decide+kernel
def Zt(K:Frag)(a b:Addr):It:=
 ⟨λi H=>∃(c d:List V) (x y:V),eD K H a c/\eD K H b d/\c[i]?=some x/\d[i]?=some y,
  λi H v e=>Hl λT x y=>v=.ref T/\H T=none/\e=upd H T (.tup [x,y])/\(∀c,eD K H a c->c[i]?=some x)/\∀d,eD K H b d->d[i]?=some y,
  λi H=>om λ(c d:List V)=>eD K H a c/\eD K H b d/\(c.length<=i\/d.length<=i)⟩
theorem UK{P:Program}{w:World}{K:Frag}{O:List Expr}{kk:Nat}{T:Pos}{a b z TI TO j m:Addr}(D:ZipApart z TI TO j m a b):
 Turn P w K (.Tuple O kk T) (Zt K a b) [z,TI,TO,j,m] z (λi h=>IsZip h z TI TO .none/\IsPair h TI (.ref j) (.ref m)/\(∃x y,IsPair h TO x y)/\h.IsListIter j a i/\h.IsListIter m b i) where
 mem:=by simp
 obj:=λi h st c hc=>by
  obtain⟨t,d,⟨x,y,e⟩,⟨o1,e1,_,d1⟩,⟨o2,e2,_,d2⟩⟩:=st;have e':c=z\/c=TI\/c=TO\/c=j\/c=m:=by simpa using hc
  rcases e' with q|q|q|q|q
  ·rw[q];exact⟨_,t,λv q=>nomatch q⟩
  ·rw[q];exact⟨_,d,λv q=>nomatch q⟩
  ·rw[q];exact⟨_,e,λv q=>nomatch q⟩
  ·rw[q];exact⟨o1,e1,λv q=>by rw[d1]at q;cases q⟩
  ·rw[q];exact⟨o2,e2,λv q=>by rw[d2]at q;cases q⟩
 keep:=λi h h' st k=>by
  obtain⟨t,d,⟨x,y,e⟩,L,M⟩:=st;exact⟨k z (by simp) _ t,k TI (by simp) _ d,⟨x,y,k TO (by simp) _ e⟩,L.at λo q=>k j (by simp) o q,M.at λo q=>k m (by simp) o q⟩
 item:=by
  intro X hP hw hK hc i B s σ H E I hf st hg;subst hP hw hK;obtain⟨t,d,⟨x0,y0,e⟩,L,M⟩:=st;obtain⟨xs,ys,x,y,n,r,hx,hy⟩:=hg;obtain⟨U,rv,p,_⟩:=I.list n;obtain⟨C,G,p2,_⟩:=I.list r;obtain⟨u,hu,ru⟩:=rv.get hx;obtain⟨u2,x2,x3⟩:=G.get hy;have Y:z<s.heap.objs.size:=aK t;refine wpAny_pyNext_zip_item D t d e L M p.isList p2.isList (x:=u) (y:=u2) (by simpa using hu) (by simpa using x2) λh' z' x4 x5 x6 hT y2 hk=>?_
  refine⟨_,rfl,wpAny_letOwnedTupleGo_zip (s:={s with heap:=h'}) z' λJ x7 N=>?_⟩;have x8:J.get? s.heap.objs.size=some {cls:=.type "tuple",data:=.seq #[u,u2]}:=(N.2 _ (lx Y)).trans hT;have x9:l9 X.prog X.w (upd H s.heap.objs.size (.tup [x,y])) J s.heap.objs.size (.tup [x,y]):=
   ⟨by show 2<=sizeLine;decide,[u,u2],.cons ru (.cons x3 .nil),⟨_,x8,rfl,_,rfl⟩⟩
  have I1:Inv X B σ (upd H s.heap.objs.size (.tup [x,y])) {s with heap:=J}:=
   I.IM (t':=s.toks) (ch:=[z,TI,TO,j,m]) (λc o g q=>(N.2 c (λf=>g (by simp[f]))).trans (hk c o (λf=>g (by simp[f])) (λf=>g (by simp[f])) (λf=>g (by simp[f])) (λf=>g (by simp[f])) q)) hf (ak _) x9
  refine⟨.ref s.heap.objs.size,_,I1,rfl,⟨_,x,y,rfl,I.e_.fresh (ak _),rfl,λl hl=>by rw[I.BI hl n];exact hx,λl hl=>by rw[I.BI hl r];exact hy⟩,⟨x7,?_,⟨u,u2,?_⟩,?_,?_⟩,λc Z=>?_⟩
  ·exact(N.2 _ D.TIz).trans (hk _ _ D.TIz D.TITO D.TIi1 D.TIi2 d)
  ·exact(N.2 _ D.TOz).trans x4
  ·exact x5.at λo q=>(N.2 _ D.i1z).trans q
  ·exact x6.at λo q=>(N.2 _ D.i2z).trans q
  ·have y1:c<s.heap.objs.size:=by
    have e':c=z\/c=TI\/c=TO\/c=j\/c=m:=by simpa using Z
    rcases e' with q|q|q|q|q
    ·rw[q];exact Y
    ·rw[q];exact aK d
    ·rw[q];exact aK e
    ·rw[q];obtain⟨_,e1,_⟩:=L;exact aK e1
    ·rw[q];obtain⟨_,e2,_⟩:=M;exact aK e2
   rw[aO (bG y1)];exact(hf c Z).1
 done:=by
  intro X hP hw hK hc i B s σ H E I hf st hg;subst hP hw hK;obtain⟨t,d,⟨x0,y0,e⟩,L,M⟩:=st;obtain⟨xs,ys,n,r,x1⟩:=hg;obtain⟨U,rv,p,_⟩:=I.list n;obtain⟨C,G,p2,_⟩:=I.list r;have l1:=rv.length;have l2:=G.length;have he:U.toArray[i]?=none\/C.toArray[i]?=none:=by
   rcases x1 with q|q
   ·exact .inl (by simp;omega)
   ·exact .inr (by simp;omega)
  exact wpAny_pyNext_zip_end (I.ok.hd hc) D t d e L M p.isList p2.isList he λh' hk=>⟨rfl,I.V3 (t':=s.toks) (ch:=[z,TI,TO,j,m]) (λc o g q=>
   hk c o (λf=>g (by simp[f])) (λf=>g (by simp[f])) (λf=>g (by simp[f])) (λf=>g (by simp[f])) q) hf⟩
 self:=λA i s Q E st h=>wpAny_pyIter_zip st.1 h
def ZK(K:Frag)(d:TA):TI:=λe H R=>d e H λf c=>AF λa b g h=>f=[.ref a,.ref b]/\eD K c a g/\eD K c b h/\R (Zt K a b) c
theorem Yo{X:Cx}{e e2:Expr}{x:TA}{p g i:Pos}{j:List Expr}{G:Nat}(J:Gl X "zip")(L:X.mg "zip"=none)(M:PA X [e,e2] x)
 (N:starEach [e,e2] X.env=(false,eval e X.env)::starEach [e2] X.env:=by rfl)(m:(backTo g (starEach [e2] X.env)).any (·.1)=false:=by rfl):
 PI X (.Tuple j G i) (.Call (.Name "zip" p) [e,e2] [] g) (ZK X.K x):=by
 intro f s y H R I h;refine Call_ (qC I J L Sb (cp (iz (M g f s y H _ I h) ?_) N m));rintro us d ⟨vs,A,k,O,Q⟩;obtain⟨a,b,xs,ys,T,n,o,q⟩:=Q;subst T;cases O with
 |cons r t=>
  cases t with
  |cons U t=>
   cases t;cases r;cases U;obtain⟨Y,rv,B,_⟩:=k.list n;obtain⟨C,Z,D,_⟩:=k.list o;have la:a<d.heap.objs.size:=B.lt;have lb:b<d.heap.objs.size:=D.lt;refine call_zip_2 B.isList D.isList λh' E u v h1 h2 x0 hk=>wpAny_pyIter_zip E ?_
   have I2:Inv X f y A {d with heap:=h'}:=k.kept (t':=d.toks) hk;refine⟨d.heap.objs.size+4,[d.heap.objs.size+4,d.heap.objs.size+2,d.heap.objs.size+3,d.heap.objs.size,d.heap.objs.size+1],_,_,A,rfl,I2,UK (PySem.W.ktu_apart d.heap.objs.size a b la lb),⟨E,u,⟨_,_,v⟩,h1,h2⟩,λc w=>?_,q⟩;have e':c=d.heap.objs.size+4\/c=d.heap.objs.size+2\/c=d.heap.objs.size+3\/c=d.heap.objs.size\/c=d.heap.objs.size+1:=by simpa using w
   have l:d.heap.objs.size<=c:=by
    rcases e' with z|z|z|z|z
    ·rw[z];exact gZ _ _
    ·rw[z];exact gZ _ _
    ·rw[z];exact gZ _ _
    ·rw[z];exact ak _
    ·rw[z];exact gZ _ _
   exact k.NS l (k.e_.fresh l)
end L2
section
end
section
namespace TL
open PySem PySem.Builtin PySem.Builtin.Str PySem.StrLaws
end TL
end
namespace L2
open PyProof.Rows PySem PySem.Spec
section
variable{X:Cx}
end
end L2
namespace Att
open PySem PySem.W PySem.Calls PyProof.Rows
section
variable{prog:Program}{w:World}{A:Around}{E:Value->Shared->Prop}{s:Shared}{K:Frag}
end
end Att
namespace L2
open PyProof.Rows PySem PySem.Spec
abbrev Ph:RQ:=λ_ _ _ _ _ _=>False
abbrev E0:XK:=λ_ _ _=>False
theorem IZ{X:Cx}:Passes Ph X E0:=λ_ _ _ _ _ _ _ h=>h.elim
structure WX(K:Frag)(x a:Str)(st:Stmt)(f:Addr)(e:FuncData):Prop where
 ex:∃(g:Value) (h:Option Addr) (kV c i:Value) (j:Option Addr) (b ct:Value) (d:Array (Option Value)),
  e=PySem.W.fnOf x a (pY st) (m7 st) (aI st) .none kV c i j b ct/\K.lookup f=some ⟨g,h,.func e,d⟩/\PySem.W.codeIn K b a=true
 kp:PySem.W.keepIn K (.ref f)=true
section
variable{P:Program}{w:World}{K:Frag}{mg:Str->Option Value}{base:Heap}
theorem WX.ok{x b:Str}{st:Stmt}{f:Addr}{m:FuncData}{N g:List Str}{k:Nat}{i:Sp}(F:WX K x b st f m)(S:bp N g (aI st))(len:∀d H Q E,i d H Q E->d.length=g.length)
 (e:∀(c:Value) (A:Around) (a:List Env) (s:Shared) (H:Hp) (d:List V) (Q:VK) (E:XK),nA k (A.deeper (envOfC b (aI st) s.heap.objs.size f c))->i d H Q E->
   ∃t,PM (O3 Ph P w K mg base N b (aI st) f c A a s H E).Zc (m7 st) t/\t {nx:=λ_ n=>Q .non n,rt:=Q} (start N d) H):sN P w K mg base Ph (k+1) f m g i:=by
 obtain⟨u,v,kV,o,y,z,c,B,p,rfl,lk,j⟩:=F.ex;refine Y_ lk j S len λA a s H d Q E r l=>?_
 obtain⟨t,h,q⟩:=e c A a s H d Q E r l;exact⟨t,h.Zc,q⟩
theorem WX.binds{x a:Str}{st:Stmt}{f:Addr}{k:FuncData}{d:List Str}(F:WX K x a st f k)
 (h:∀(kV b e:Value) (g:Option Addr) (c i:Value) (j:List Value),j.length=d.length->bindArgs (PySem.W.fnOf x a (pY st) (m7 st) (aI st) .none kV b e g c i) ⟨j,[]⟩=pure (d.zip j)):Binds K k d []:=by
 obtain⟨n,o,kV,b,e,g,c,i,l,rfl,lk,m⟩:=F.ex;exact .all (h kV b e g c i)
theorem CZ{x a:Str}{st:Stmt}{f:Addr}{j:Value}{m g:Option Addr}{e:Array (Option Value)}{kV d h b i:Value}(l:K.lookup f=some ⟨j,m,.func (PySem.W.fnOf x a (pY st) (m7 st) (aI st) .none kV d h g b i),e⟩)
 (c:PySem.W.codeIn K b a=true)(k:PySem.W.keepIn K (.ref f)=true):WX K x a st f (PySem.W.fnOf x a (pY st) (m7 st) (aI st) .none kV d h g b i):=⟨⟨j,m,kV,d,h,g,b,i,e,rfl,l,c⟩,k⟩
end
section
variable{X:Cx}
theorem pv(i:Nat){x:Str}{a:Pos}(c:X.N[i]?=some x:=by rfl) (d:XJ X.env.scope x:=by first|exact Or.inl rfl|exact Or.inr (Or.inl rfl)|exact Or.inr (Or.inr rfl)) (e:(x==("__debug__":Str))=false:=by decide)
 (b:(x==("__classdict__":Str))=false:=by decide):PE X (.Name x a) (ao i):=Sz c d e b
end
theorem rj{A B:Prop}(h:B):if false=true then A else B:=by
 rw[ah aQ];exact h
theorem pM{A B:Prop}(h:A):if true=true then A else B:=by
 rw[az rfl];exact h
theorem oI{c A B:Prop}[Decidable c](a:c->A)(b:¬c->B):if c then A else B:=by
 by_cases h:c
 ·rw[az h];exact a h
 ·rw[ah h];exact b h
def aZ(H a:Hp):Prop:=∀b o,H b=some o->a b=some o
theorem aZ.refl(H:Hp):aZ H H:=λ_ _ h=>h
theorem aZ.trans{H d e:Hp}(a:aZ H d)(b:aZ d e):aZ H e:=λc o h=>b c o (a c o h)
theorem aZ.free{H a:Hp}(e:aZ H a){l:Addr}(h:a l=Option.none):H l=Option.none:=by
 cases q:H l with
 |none=>rfl
 |some o=>
  rw[e l o q]at h;cases h
theorem aZ.seq{K:Frag}{H b:Hp}{a:Addr}{xs:List V}(e:aZ H b)(h:eD K H a xs):eD K b a xs:=by
 rcases h with(h|⟨o,h⟩)|h
 ·exact .inl (.inl (e _ _ h))
 ·exact .inl (.inr ⟨o,e _ _ h⟩)
 ·exact .inr h
theorem at_of{a:List V}{z:Int}{j:Nat}{v:V}(e:z=(j:Int))(h:a[j]?=some v):YH a z=some v:=by
 rw[e];exact qb h
open PySem.W (Codec OpenSpec ReadsAllW ReadsW WData Well WellAll)
mutual
inductive Dw(K:Frag)(H:Hp):V->WData->Prop
 |non:Dw K H .non .none
 |bl (b:Bool):Dw K H (.bl b) (.bool b)
 |int (i:Int):Dw K H (.int i) (.int i)
 |str (x:Str):Dw K H (.str x) (.str x)
 |JX (b:Array UInt8):Dw K H (.JX b) (.bytes b.toList)
 |lst {a:Addr} {c:List V} {d:List WData}:eD K H a c->wM K H c d->Dw K H (.ref a) (.list d)
 |tup {a:Addr} {c:List V} {d:List WData}:kF K H a c->wM K H c d->Dw K H (.ref a) (.tuple d)
inductive wM(K:Frag)(H:Hp):List V->List WData->Prop
 |nil:wM K H [] []
 |cons {v:V} {a:List V} {d:WData} {b:List WData}:Dw K H v d->wM K H a b->wM K H (v::a) (d::b)
end
theorem PW{K:Frag}{H:Hp}:∀a:List Int,wM K H (a.map V.int) (a.map WData.int)
 |[]=>.nil
 |n::r=>.cons (.int n) (PW r)
theorem Qs{K:Frag}{H:Hp}:∀(b:List Int) (a:List V),wM K H a (b.map WData.int)->a=b.map V.int
 |[],a,h=>by
  cases h;rfl
 |n::r,a,h=>by
  cases h with
  |cons c d=>
   cases c;rw[Qs r _ d]<;>rfl
section
variable{P:Program}{w:World}{K:Frag}{H:Hp}{h:Heap}{R:PySem.W.WRecords}{cl:Str->Option Addr}
theorem YE{a:Addr}{c:List V}(d:Bo P w H h)(g:K.In h)(q:eD K H a c):∃(b:List Value) (o:Obj) (n:Nat),Vals c b/\h.get? a=some o/\o.cls=.type "list"/\o.data=.seq b.toArray n:=by
 rcases q with q|⟨o,b,n,e,i,_,j,_,f⟩
 ·obtain⟨_,b,n,f,e⟩:=(show l9 P w H h a (.lst c)from q.ok d);exact⟨b,_,n,f,e,rfl,rfl⟩
 ·exact⟨b.toList,o,n,f,g _ _ e,i,by simp[j]⟩
theorem XU{a:Addr}{c:List V}(d:Bo P w H h)(j:K.In h)(q:kF K H a c):∃(b:List Value) (o:Obj) (n:Nat),Vals c b/\h.get? a=some o/\o.cls=.type "tuple"/\o.data=.seq b.toArray n:=by
 rcases q with q|⟨o,b,n,e,f,g,_,i⟩
 ·obtain⟨_,b,i,o,e,f,n,g⟩:=(show l9 P w H h a (.tup c)from q.ok d);exact⟨b,o,n,i,e,f,g⟩
 ·exact⟨b.toList,o,n,i,j _ _ e,f,by simp[g]⟩
mutual
theorem Dw.reads(a:Bo P w H h)(e:K.In h):∀(d:WData) (v:V) (u:Value),Dw K H v d->RelV v u->∃f,ReadsW R cl h u d f
 |.none,_,_,x,r=>by
  cases x;cases r;exact⟨_,ReadsW.none⟩
 |.bool b,_,_,x,r=>by
  cases x;cases r;exact⟨_,ReadsW.bool b⟩
 |.int i,_,_,x,r=>by
  cases x;obtain⟨t,rfl⟩:=r;exact⟨_,ReadsW.int i t⟩
 |.str s,_,_,x,r=>by
  cases x;obtain⟨t,rfl⟩:=r;exact⟨_,ReadsW.str s t⟩
 |.bytes b,_,_,x,r=>by
  cases x;obtain⟨t,rfl⟩:=r;exact⟨_,ReadsW.bytes _ t⟩
 |.list g,_,_,x,r=>by
  cases x with
  |lst j k=>
   cases r;obtain⟨c,o,n,l,m,p,q⟩:=YE a e j;obtain⟨f,y⟩:=Dw.readsAll a e g _ c k l;exact⟨_,ReadsW.list m p q y⟩
 |.tuple g,_,_,x,r=>by
  cases x with
  |tup j k=>
   cases r;obtain⟨c,o,n,l,m,p,q⟩:=XU a e j;obtain⟨f,y⟩:=Dw.readsAll a e g _ c k l;exact⟨_,ReadsW.tuple m p q y⟩
 |.float _,_,_,x,_=>by cases x
 |.dict _,_,_,x,_=>by cases x
 |.bytearray _,_,_,x,_=>by cases x
 |.set _,_,_,x,_=>by cases x
 |.frozenset _,_,_,x,_=>by cases x
 |.obj _ _,_,_,x,_=>by cases x
theorem Dw.readsAll(a:Bo P w H h)(c:K.In h):∀(b:List WData) (e:List V) (f:List Value),wM K H e b->Vals e f->∃g,ReadsAllW R cl h f b g
 |[],_,_,x,r=>by
  cases x;cases r;exact⟨_,ReadsAllW.nil⟩
 |d::b,_,_,x,r=>by
  cases x with
  |cons i j=>
   cases r with
   |cons k l=>
    obtain⟨g,m⟩:=Dw.reads a c d _ _ i k;obtain⟨bs,n⟩:=Dw.readsAll a c b _ _ j l;exact⟨_,ReadsAllW.cons m n⟩
end
end
mutual
def Qy:WData->Bool
 |.none=>true
 |.bool _=>true
 |.int _=>true
 |.str _=>true
 |.bytes _=>true
 |.list a=>Eu a
 |.tuple a=>Eu a
 |_=>false
def Eu:List WData->Bool
 |[]=>true
 |x::r=>Qy x&&Eu r
end
theorem LY{b:Type}{f:b->WData}(h:∀a,Qy (f a)=true):∀l:List b,Eu (l.map f)=true
 |[]=>rfl
 |x::r=>by
  show(Qy (f x)&&Eu (r.map f))=true;rw[h x,LY h r]<;>rfl
theorem yj:∀(c:Codec) (a:c.denote),Qy (c.enc a)=true
 |.unit,_=>rfl
 |.bool,_=>rfl
 |.int _ _,_=>rfl
 |.nat _ _,_=>rfl
 |.u8,_=>rfl
 |.bytes _ _,_=>rfl
 |.text _ _ _ _,_=>rfl
 |.list _ _ c,a=>LY (λx=>yj c x) a
 |.pair c d,a=>by
  show(Qy (c.enc a.1)&&(Qy (d.enc a.2)&&true))=true;rw[yj c a.1,yj d a.2]<;>rfl
 |.triple c d e,a=>by
  show(Qy (c.enc a.1)&&(Qy (d.enc a.2.1)&&(Qy (e.enc a.2.2)&&true)))=true;rw[yj c a.1,yj d a.2.1,yj e a.2.2]<;>rfl
 |.option c,none=>rfl
 |.option c,some x=>yj c x
theorem Jj:∀(b:List Codec) (a:Codec.denoteAll b),Eu (Codec.encAll b a)=true
 |[],_=>rfl
 |c::b,a=>by
  show(Qy (c.enc a.1)&&Eu (Codec.encAll b a.2))=true;rw[yj c a.1,Jj b a.2]<;>rfl
theorem AO:∀{a:List WData} {d:WData},d∈a->d.weight<=WData.weightAll a
 |[],d,h=>absurd h (by simp)
 |x::r,d,h=>by
  show d.weight<=x.weight+1+WData.weightAll r;rcases af.mp h with e|m
  ·rw[e];omega
  ·have z:=AO m;omega
def toV:Value->V
 |.none=>.non
 |.bool b=>.bl b
 |.int i _=>.int i
 |.str x _=>.str x
 |.bytes b _=>.JX b
 |.ref a=>.ref a
 |_=>.non
def QX(A:List Addr):Value->Prop
 |.none=>True
 |.bool _=>True
 |.int _ _=>True
 |.str _ _=>True
 |.bytes _ _=>True
 |.ref a=>a∈A
 |_=>False
theorem QX.mono{A B:List Addr}(h:∀a∈A,a∈B):∀{u:Value},QX A u->QX B u:=λ{u} x=>by
 cases u with
 |ref a=>exact h a x
 |none=>trivial
 |bool b=>trivial
 |int i t=>trivial
 |str s t=>trivial
 |bytes b t=>trivial
 |_=>exact False.elim x
theorem SV{A:List Addr}{u:Value}(x:QX A u):RelV (toV u) u:=by
 cases u with
 |ref a=>rfl
 |none=>rfl
 |bool b=>rfl
 |int i t=>exact⟨t,rfl⟩
 |str s t=>exact⟨t,rfl⟩
 |bytes b t=>exact⟨t,rfl⟩
 |_=>exact False.elim x
theorem vK{A:List Addr}:∀{a:List Value},(∀u∈a,QX A u)->Vals (a.map toV) a
 |[],_=>.nil
 |u::r,h=>.cons (SV (h u (aW ..))) (vK λx b=>h x (aA _ b))
def wR(h:Heap)(A:List Addr)(a:Addr):Prop:=∃b:List Value,b.length<=sizeLine/\(∀u∈b,QX A u)/\
 (h.get? a=some {cls:=.type "list",data:=.seq b.toArray}\/h.get? a=some {cls:=.type "tuple",data:=.seq b.toArray})
theorem wR.mono{h:Heap}{A B:List Addr}{a:Addr}(k:∀a∈A,a∈B)(x:wR h A a):wR h B a:=by
 obtain⟨vs,b,c,d⟩:=x;exact⟨vs,b,λu e=>(c u e).mono k,d⟩
theorem ur{P:Params}{h:Heap}:∀{a:List Value} {c:List WData},WellAll P h a c->a.length=c.length
 |_,_,.nil=>rfl
 |_,_,.cons _ b=>by
  show _+1=_+1;rw[ur b]
theorem Jg{P:Params}{h:Heap}{v:Value}{c:List WData}(x:Well P h v (.list c)):∃(a:Addr) (d:List Value),v=.ref a/\h.get? a=some {cls:=.type "list",data:=.seq d.toArray}/\WellAll P h d c:=by
 cases x with
 |list e b=>exact⟨_,_,rfl,e,b⟩
theorem FC{P:Params}{h:Heap}{v:Value}{c:List WData}(x:Well P h v (.tuple c)):∃(a:Addr) (d:List Value),v=.ref a/\h.get? a=some {cls:=.type "tuple",data:=.seq d.toArray}/\WellAll P h d c:=by
 cases x with
 |tuple e b=>exact⟨_,_,rfl,e,b⟩
theorem Ih{P:Params}{h:Heap}{c:List Value}{d:WData}{e:List WData}(x:WellAll P h c (d::e)):∃(v:Value) (f:List Value),c=v::f/\Well P h v d/\WellAll P h f e:=by
 cases x with
 |cons a b=>exact⟨_,_,rfl,a,b⟩
theorem QP{n:Nat}(h:n<=1048576):n<=sizeLine:=bh h (by decide)
section
variable{P:Params}{h:Heap}
mutual
theorem TZ:∀(d:WData) (v:Value),Well P h v d->Qy d=true->d.weight<=1048576->∃A:List Addr,QX A v/\∀a∈A,wR h A a
 |.none,_,x,_,_=>by
  cases x;exact⟨[],trivial,λa m=>absurd m (by simp)⟩
 |.bool b,_,x,_,_=>by
  cases x;exact⟨[],trivial,λa m=>absurd m (by simp)⟩
 |.int i,_,x,_,_=>by
  cases x;exact⟨[],trivial,λa m=>absurd m (by simp)⟩
 |.str s,_,x,_,_=>by
  cases x;exact⟨[],trivial,λa m=>absurd m (by simp)⟩
 |.bytes b,_,x,_,_=>by
  cases x;exact⟨[],trivial,λa m=>absurd m (by simp)⟩
 |.list f,_,x,p,z=>by
  obtain⟨a,l,rfl,n,c⟩:=Jg x;have j:WData.weightAll f<=1048576:=z;obtain⟨A,o,q⟩:=Bx f _ c p λd r=>bh (AO r) j
  have k:∀b∈A,b∈a::A:=λb g=>aA _ g
  refine⟨a::A,aW ..,λb g=>?_⟩;rcases af.mp g with e|m
  ·rw[e];exact⟨l,QP (by rw[ur c];exact bh (j2 f) j),λu t=>(o u t).mono k,.inl n⟩
  ·exact(q b m).mono k
 |.tuple f,_,x,p,z=>by
  obtain⟨a,l,rfl,n,c⟩:=FC x;have j:WData.weightAll f<=1048576:=z;obtain⟨A,o,q⟩:=Bx f _ c p λd r=>bh (AO r) j
  have k:∀b∈A,b∈a::A:=λb g=>aA _ g
  refine⟨a::A,aW ..,λb g=>?_⟩;rcases af.mp g with e|m
  ·rw[e];exact⟨l,QP (by rw[ur c];exact bh (j2 f) j),λu t=>(o u t).mono k,.inr n⟩
  ·exact(q b m).mono k
 |.float _,_,_,p,_=>Bool.noConfusion (show false=true from p)
 |.dict _,_,_,p,_=>Bool.noConfusion (show false=true from p)
 |.bytearray _,_,_,p,_=>Bool.noConfusion (show false=true from p)
 |.set _,_,_,p,_=>Bool.noConfusion (show false=true from p)
 |.frozenset _,_,_,p,_=>Bool.noConfusion (show false=true from p)
 |.obj _ _,_,_,p,_=>Bool.noConfusion (show false=true from p)
theorem Bx:∀(c:List WData) (g:List Value),WellAll P h g c->Eu c=true->(∀d∈c,d.weight<=1048576)->∃A:List Addr,(∀u∈g,QX A u)/\∀a∈A,wR h A a
 |[],_,x,_,_=>by
  cases x;exact⟨[],λu m=>absurd m (by simp),λa m=>absurd m (by simp)⟩
 |d::c,_,x,p,z=>by
  obtain⟨v,g,rfl,k,l⟩:=Ih x;have q:Qy d=true/\Eu c=true:=gH.mp p;obtain⟨A,n,o⟩:=TZ d v k q.1 (z d (aW ..));obtain⟨B,r,s⟩:=Bx c g l q.2 λe t=>z e (aA _ t)
  have i:∀b∈A,b∈A++B:=λb f=>bg.mpr (.inl f)
  have j:∀b∈B,b∈A++B:=λb f=>bg.mpr (.inr f)
  refine⟨A++B,λu w=>?_,λb f=>?_⟩
  ·rcases af.mp w with e|m
   ·rw[e];exact n.mono i
   ·exact(r u m).mono j
  ·rcases bg.mp f with m|m
   ·exact(o b m).mono i
   ·exact(s b m).mono j
end
end
def Ww(o:Obj):Option HO:=match o.data with
 |.seq a _=>if(o.cls==Value.type "list")=true then some (.zJ o (.lst (a.toList.map toV)))else some (.zJ o (.tup (a.toList.map toV)))
 |_=>none
def vT(K:Frag)(h:Heap)(A:List Addr):Hp:=λb=>if b∈A then(if(K.lookup b).isNone=true then(h.get? b).bind Ww else none)else none
def M4(H:Hp):Prop:=∀b,H b=none\/om λo u=>H b=some (.zJ o u)
theorem Nc(a:List Value):Ww {cls:=.type "list",data:=.seq a.toArray}=some (.zJ {cls:=.type "list",data:=.seq a.toArray} (.lst (a.map toV))):=by
 show(if(Value.type "list"==Value.type "list")=true then some (HO.zJ {cls:=.type "list",data:=.seq a.toArray} (.lst (a.toArray.toList.map toV)))else some (HO.zJ {cls:=.type "list",data:=.seq a.toArray} (.tup (a.toArray.toList.map toV))))=_;rw[az (beq_self_eq_true _)]
theorem L1(a:List Value):Ww {cls:=.type "tuple",data:=.seq a.toArray}=some (.zJ {cls:=.type "tuple",data:=.seq a.toArray} (.tup (a.map toV))):=by
 show(if(Value.type "tuple"==Value.type "list")=true then some (HO.zJ {cls:=.type "tuple",data:=.seq a.toArray} (.lst (a.toArray.toList.map toV)))else some (HO.zJ {cls:=.type "tuple",data:=.seq a.toArray} (.tup (a.toArray.toList.map toV))))=_;rw[ah (by decide)]
section
variable{P:Program}{w:World}{K:Frag}{h:Heap}{A:List Addr}
theorem EN{b:Addr}{o:Obj}(a:b∈A)(c:K.lookup b=none)(e:h.get? b=some o):vT K h A b=Ww o:=by
 unfold vT;rw[az a,c,az (show(none:Option Obj).isNone=true from rfl),e]<;>rfl
theorem VX{b:Addr}{u:HO}(q:vT K h A b=some u):b∈A/\K.lookup b=none:=by
 unfold vT at q;by_cases a:b∈A
 ·rw[az a]at q;cases c:K.lookup b with
  |none=>exact⟨a,rfl⟩
  |some o=>
   rw[c,ah (by simp)]at q;cases q
 ·rw[ah a]at q;cases q
theorem ER(g:∀a∈A,wR h A a){b:Addr}{u:HO}(q:vT K h A b=some u):K.lookup b=none/\∃c:List Value,c.length<=sizeLine/\(∀u∈c,QX A u)/\
 ((h.get? b=some {cls:=.type "list",data:=.seq c.toArray}/\u=.zJ {cls:=.type "list",data:=.seq c.toArray} (.lst (c.map toV)))\/
  (h.get? b=some {cls:=.type "tuple",data:=.seq c.toArray}/\u=.zJ {cls:=.type "tuple",data:=.seq c.toArray} (.tup (c.map toV)))):=by
 obtain⟨d,f⟩:=VX q;obtain⟨c,i,j,k⟩:=g b d;refine⟨f,c,i,j,?_⟩;rcases k with e|e
 ·rw[EN d f e,Nc]at q;exact .inl ⟨e,(bR q).symm⟩
 ·rw[EN d f e,L1]at q;exact .inr ⟨e,(bR q).symm⟩
theorem RA(c:∀a∈A,wR h A a):M4 (vT K h A):=λb=>by
 cases q:vT K h A b with
 |none=>exact .inl rfl
 |some u=>
  obtain⟨_,d,_,_,⟨_,e⟩|⟨_,e⟩⟩:=ER c q
  ·exact .inr ⟨_,_,by rw[e]⟩
  ·exact .inr ⟨_,_,by rw[e]⟩
theorem WJ(g:∀a∈A,wR h A a):Bo P w (vT K h A) h:=λb u q=>by
 obtain⟨_,c,d,f,⟨e,rfl⟩|⟨e,rfl⟩⟩:=ER g q
 ·exact⟨e,by rw[aP];exact d,c,_,vK f,e⟩
 ·exact⟨e,by rw[aP];exact d,c,vK f,_,e,rfl,_,rfl⟩
theorem EO{c a:Value}{b d:List Value}(e:(some {cls:=c,data:=.seq b.toArray}:Option Obj)=some {cls:=a,data:=.seq d.toArray}):c=a/\b=d:=by
 have e1:=bR e;have e2:c=a:=cV Obj.cls e1;have e3:Data.seq b.toArray=Data.seq d.toArray:=cV Obj.data e1;injection e3 with f
 refine⟨e2,?_⟩;have g:=cV Array.toList f;simpa using g
theorem Z_(i:K.In h)(j:∀a∈A,wR h A a){a:Addr}{b:List Value}(d:a∈A)(e:h.get? a=some {cls:=.type "list",data:=.seq b.toArray}):(∀u∈b,QX A u)/\eD K (vT K h A) a (b.map toV):=by
 obtain⟨f,k,g,l⟩:=j a d;have m:f=b:=by
  rcases l with q|q
  ·rw[e]at q;exact(EO q).2.symm
  ·rw[e]at q;exact absurd (Value.type.inj (EO q).1) (by decide)
 subst m;refine⟨g,?_⟩;cases c:K.lookup a with
 |none=>exact .inl (.inr ⟨_,by rw[EN d c e,Nc]⟩)
 |some o=>
  have e2:=i a o c;rw[e]at e2;obtain rfl:=bR e2;exact .inr ⟨_,f.toArray,_,c,rfl,rfl,rfl,by rw[aJ];exact k,by simpa using vK g⟩
theorem aae(i:K.In h)(j:∀a∈A,wR h A a){a:Addr}{b:List Value}(d:a∈A)(e:h.get? a=some {cls:=.type "tuple",data:=.seq b.toArray}):(∀u∈b,QX A u)/\kF K (vT K h A) a (b.map toV):=by
 obtain⟨f,k,g,l⟩:=j a d;have m:f=b:=by
  rcases l with q|q
  ·rw[e]at q;exact absurd (Value.type.inj (EO q).1) (by decide)
  ·rw[e]at q;exact(EO q).2.symm
 subst m;refine⟨g,?_⟩;cases c:K.lookup a with
 |none=>exact .inl (.inr ⟨_,by rw[EN d c e,L1]⟩)
 |some o=>
  have e2:=i a o c;rw[e]at e2;obtain rfl:=bR e2;exact .inr ⟨_,f.toArray,_,c,rfl,rfl,by rw[aJ];exact k,by simpa using vK g⟩
mutual
theorem YK{n:Params}(e:K.In h)(f:∀a∈A,wR h A a):∀(d:WData) (v:Value),Well n h v d->Qy d=true->QX A v->Dw K (vT K h A) (toV v) d
 |.none,_,x,_,_=>by
  cases x;exact .non
 |.bool b,_,x,_,_=>by
  cases x;exact .bl b
 |.int i,_,x,_,_=>by
  cases x;exact .int i
 |.str s,_,x,_,_=>by
  cases x;exact .str s
 |.bytes b,_,x,_,_=>by
  cases x;have z:=Dw.JX (K:=K) (H:=vT K h A) b.toArray;exact z
 |.list g,_,x,p,j=>by
  obtain⟨a,o,rfl,k,c⟩:=Jg x;obtain⟨l,m⟩:=Z_ e f j k;exact .lst m (Le e f g _ c p l)
 |.tuple g,_,x,p,j=>by
  obtain⟨a,o,rfl,k,c⟩:=FC x;obtain⟨l,m⟩:=aae e f j k;exact .tup m (Le e f g _ c p l)
 |.float _,_,_,p,_=>Bool.noConfusion (show false=true from p)
 |.dict _,_,_,p,_=>Bool.noConfusion (show false=true from p)
 |.bytearray _,_,_,p,_=>Bool.noConfusion (show false=true from p)
 |.set _,_,_,p,_=>Bool.noConfusion (show false=true from p)
 |.frozenset _,_,_,p,_=>Bool.noConfusion (show false=true from p)
 |.obj _ _,_,_,p,_=>Bool.noConfusion (show false=true from p)
theorem Le{i:Params}(e:K.In h)(f:∀a∈A,wR h A a):∀(b:List WData) (c:List Value),WellAll i h c b->Eu b=true->(∀u∈c,QX A u)->wM K (vT K h A) (c.map toV) b
 |[],_,x,_,_=>by
  cases x;exact .nil
 |d::b,_,x,p,g=>by
  obtain⟨v,c,rfl,j,k⟩:=Ih x;have q:Qy d=true/\Eu b=true:=gH.mp p;exact .cons (YK e f d v j q.1 (g _ (aW ..))) (Le e f b c k q.2 λu m=>g u (aA _ m))
end
end
theorem RM{P:Program}{w:World}{K:Frag}{D T:Str->Option Value}{CX:RQ}{k:Nat}{fa:Addr}{fd:FuncData}{E:List Str}{sp:Sp}{a:Shared}{c:List Value}{l:List WData}{R:PySem.W.WRecords}{cl:Str->Option Addr}{d0:WData}
 (U:K.In a.heap)(G:a.heap.Ns mainGlobals D)(Y:a.heap.Ns builtinsNs T)(Z:∀x:Str,x≠"__name__"->T x=bootBuiltins x)(I:a.heap.NoLimit)(hg:a.gens= #[])
 (p:WellAll w.params a.heap c l)(J:Eu l=true)(x0:∀d∈l,d.weight<=1048576)(hr:nA k callerA)
 (F:∀g:Heap,K.In g->g.Ns mainGlobals D->sN P w K D g CX k fa fd E sp)(t:∀(s:Shared) (us:List Value),us.length=E.length->BindsTo s fd ⟨us,[]⟩ (E.zip us))(L:l.length=E.length)
 (x1:∀(H:Hp) (xs:List V),M4 H->wM K H xs l->sp xs H (λv H'=>Dw K H' v d0) λ_ _ _=>False)
 (x2:∀H e h,CX [] H a (λ_ _ _=>False) e h->False):
 codeAny (model P w) callerA (.call (.ref fa) ⟨c,[]⟩) (λr h=>∃u as,r=.ok (.ret u)/\ReadsW R cl h.heap u d0 as/\OldK a.heap h.heap/\h.os=a.os/\AllBare h.gens) a:=by
 obtain⟨A,ho,M⟩:=Bx l c p J x0;have hO:M4 (vT K a.heap A):=RA M;have y:Bo P w (vT K a.heap A) a.heap:=WJ M;have hS:=Le U M l c p J ho;have hV:=vK ho;have hK:∀b u,vT K a.heap A b=some u->K.lookup b=none:=λb u q=>(ER M q).1
 have N:∀{b:Addr} {o:Obj} {B:Array DictEntry} {C:Nat},a.heap.get? b=some o->o.data=.dict B C->vT K a.heap A b=none:=λ{b o B C} e d=>by
  cases q:vT K a.heap A b with
  |none=>rfl
  |some u=>
   obtain⟨_,vs,_,_,⟨e2,_⟩|⟨e2,_⟩⟩:=ER M q
   ·rw[e2]at e;cases e;have d':Data.seq vs.toArray _=Data.dict B C:=d;cases d'
   ·rw[e2]at e;cases e;have d':Data.seq vs.toArray _=Data.dict B C:=d;cases d'
 generalize vT K a.heap A=H at hO y hS hK N;have f:∀{b:Addr} {o:Obj},a.heap.get? b=some o->H b=none->(J0 a.heap H).get? b=some o:=λe n=>SF e n
 have i:∀{b:Addr} {m:Str->Option Value},a.heap.Ns b m->(J0 a.heap H).Ns b m:=λ{b m} ⟨o,B,C,e,d,r⟩=>⟨o,B,C,f e (N e d),d,r⟩
 have nK:∀b o,K.lookup b=some o->H b=none:=λb o e=>by
  cases q:H b with
  |none=>rfl
  |some u=>
   rw[hK b u q]at e;cases e
 have O:K.In (J0 a.heap H):=λb o e=>f (U b o e) (nK b o e)
 have hM:Mod K D (J0 a.heap H):=⟨O,i G,⟨T,i Y,Z⟩,let ⟨mc,h1,h2⟩:=I;⟨mc,i h1,h2⟩⟩;have e0:OQ P w K D (J0 a.heap H) callerA [] a H:=⟨rfl,hM,λb o e=>VQ e,ox (R0 _ _),trivial,λb Y=>absurd (show b∈([]:List Addr)from Y) (by simp),y,.of_eq hg⟩;have hl:c.length=E.length:=by rw[ur p];exact L
 refine iS ((F _ O (i G)).run callerA [] a H ⟨c,[]⟩ c (c.map toV) _ _ hr e0 (t a c hl) hV (x1 H _ hO hS)) λr h x=>?_
 cases r with
 |error e=>exact(x2 H e h x).elim
 |ok fl=>
  cases fl with
  |next=>exact False.elim x
  |brk=>exact False.elim x
  |cont=>exact False.elim x
  |ret u=>
   obtain⟨v,H',os,Q,un,j,r',q⟩:=x;have kept:∀b o,a.heap.get? b=some o->h.heap.get? b=some o:=λb o e=>by
    cases q2:H b with
    |none=>exact un.keep b o e q2 (by intro z;exact absurd (show b∈([]:List Addr)from z) (by simp)) (by simp)
    |some u2=>
     rcases hO b with z|⟨ob,u3,z⟩
     ·rw[q2]at z;cases z
     ·have z2:=un.Hc b ob _ z;obtain⟨e1,_⟩:=y b _ z;obtain⟨e2,_⟩:=j b _ z2;rw[e]at e1;cases e1;exact e2
   have x3:K.In h.heap:=λb o e=>kept b o (U b o e)
   obtain⟨as,x4⟩:=Dw.reads (R:=R) (cl:=cl) j x3 d0 v u q r';exact⟨u,as,rfl,x4,OldK.of_keep kept,os,Q⟩
theorem GU{a:List WData}(h:WData.layableAll a=true):∀d∈a,d.weight<=1048576:=λd b=>
 (PySem.W.layableW_iff.mp (fG.mp h d b)).2.2
theorem Gj:∀(b:List Codec) (a:Codec.denoteAll b),(Codec.encAll b a).length=b.length
 |[],_=>rfl
 |c::b,a=>by
  show(Codec.encAll b a.2).length+1=b.length+1;rw[Gj b a.2]
theorem Q0{r:OpenSpec}{k:Nat}{q:Program}{i:List Str}{XP:(Str->Option Value)->Heap->Prop}{D:World->Heap->Prop}{d:DefRec}{K:Params->Frag}{CX:World->RQ}{y:List Str}{sp:World->Sp}
 (j:r.wellSaid=true)(x0:d.params.defaults=[])(m:r.args.length=y.length)(hr:nA k callerA)
 (hY:∀(w:World) (h:Heap),D w h->(K w.params).In h)
 (F:∀(w:World) (l:Str->Option Value) (A:Addr) (h:Heap),D w h->(K w.params).In h->h.Ns mainGlobals l->l d.name=some (.ref A)->
   ∃E:FuncData,(∀(s:Shared) (I:List Value),I.length=y.length->BindsTo s E ⟨I,[]⟩ (y.zip I))/\
    ∀c:Heap,(K w.params).In c->c.Ns mainGlobals l->sN r.prog w (K w.params) l c (CX w) k A E y (sp w))
 (J:∀(w:World) (H:Hp) (B:List V) (a:Codec.denoteAll r.args),M4 H->Codec.withinAll r.args a=true->Codec.app r.args r.asked a=true->wM (K w.params) H B (Codec.encAll r.args a)->
   sp w B H (λv H'=>Dw (K w.params) H' v (r.ret.enc (Codec.app r.args r.f a))) λ_ _ _=>False)
 (L:∀(w:World) (H:Hp) (s:Shared) (e:Value) (C:Shared),CX w [] H s (λ_ _ _=>False) e C->False):
 PySem.W.WalkOS q i XP D r d [] (λf vs=>PySem.call f vs):=by
 intro w M n l mb G Y A o pm cd x1 dV kV ho hd x2 hD N hg args U as p t x3 O x4;obtain⟨a,e1,e2⟩:=PySem.W.os_pre_some p;obtain⟨e3,x⟩:=Codec.encAll_of_decAll r.args args a e1;subst e3;have Z:=hY w _ Y;obtain⟨E,hb,hF⟩:=F w l A _ Y Z G.T.g N;refine PySem.W.enter_call (iS (RM (R:=[]) (cl:=classAt M.heap) (d0:=r.ret.enc (Codec.app r.args r.f a)) Z G.T.g G.T.b G.T.builtins G.T.nolimit hg O (Jj _ _) (GU t) hr hF hb (by rw[Gj];exact m)
  (λH B hO hS=>J w H B a hO x e2 hS) λH e C=>L w H n e C) λr' C hq=>?_)
 obtain⟨u,Q,rfl,h1,h2,h3,h4⟩:=hq;exact⟨.inl ⟨u,_,Q,rfl,λ_=>rfl,h1,(OpenSpec.post_iff j x _ _).mpr rfl,λz=>Bool.noConfusion (show false=true from z)⟩,h2,h3,h4⟩
theorem Nq{r:OpenSpec}{k:Nat}{q:Program}{c:List Str}{z:(Str->Option Value)->Heap->Prop}{m:World->Heap->Prop}{d:DefRec}{K:Params->Frag}{CX:RQ}{ps:List Str}{sp:Frag->Sp}
 (g:r.wellSaid=true)(n:d.params.defaults=[])(i:r.args.length=ps.length)(A:nA k callerA)
 (B:∀(w:World) (h:Heap),m w h->(K w.params).In h)
 (F:∀(w:World) (j:Str->Option Value) (x:Addr) (h:Heap),m w h->(K w.params).In h->h.Ns mainGlobals j->j d.name=some (.ref x)->
   ∃y:FuncData,(∀(s:Shared) (o:List Value),o.length=ps.length->BindsTo s y ⟨o,[]⟩ (ps.zip o))/\
    ∀b:Heap,(K w.params).In b->b.Ns mainGlobals j->sN r.prog w (K w.params) j b CX k x y ps (sp (K w.params)))
 (p:∀(K:Frag) (H:Hp) (l:List V) (a:Codec.denoteAll r.args),M4 H->Codec.withinAll r.args a=true->Codec.app r.args r.asked a=true->wM K H l (Codec.encAll r.args a)->
   sp K l H (λv C=>Dw K C v (r.ret.enc (Codec.app r.args r.f a))) λ_ _ _=>False)
 (t:∀(H:Hp) (s:Shared) (e:Value) (u:Shared),CX [] H s (λ_ _ _=>False) e u->False):
 PySem.W.WalkOS q c z m r d [] (λf D=>PySem.call f D):=
 Q0 (K:=K) (CX:=λ_=>CX) (sp:=λw=>sp (K w.params)) g n i A B F (λw H l a E G I J=>p (K w.params) H l a E G I J) λ_ H s e u=>t H s e u
end L2
namespace Gp
open Vaglrc (Grammar Node Rule Spans Sym Text covers ends has nothing put round rowEnds settle spansOf symEnds union)
theorem pI{x:Nat}{l:List Nat}:has x l=true↔x∈l:=by
 simp[has,dP]
theorem OU{x:Nat}{l:List Nat}:has x l=decide (x∈l):=by
 by_cases h:x∈l
 ·rw[aF h];exact pI.mpr h
 ·rw[aM h];cases q:has x l
  ·rfl
  ·exact absurd (pI.mp q) h
theorem Cc{x y:Nat}:∀{l:List Nat},y∈put x l↔y=x\/y∈l
 |[]=>by simp[put]
 |z::r=>by
  unfold put;split
  ·simp
  ·split
   ·rename_i c a;have e:x=z:=by simpa using a
    subst e;simp
   ·have b:=Cc (x:=x) (y:=y) (l:=r);simp only[af,b];constructor
    ·rintro(h|h|h)<;>simp[h]
    ·rintro(h|h|h)<;>simp[h]
theorem vg{y:Nat}:∀{a b:List Nat},y∈union a b↔y∈a\/y∈b
 |[],b=>by simp[union]
 |x::a,b=>by
  have e:union (x::a) b=union a (put x b):=rfl;rw[e,vg,Cc,af];constructor
  ·rintro(h|h|h)<;>simp[h]
  ·rintro((h|h)|h)<;>simp[h]
abbrev EM(l:List Nat):Prop:=l.Pairwise (·<·)
theorem E4{x:Nat}:∀{l:List Nat},EM l->EM (put x l)
 |[],_=>by simp[put,EM]
 |z::r,h=>by
  have b:=d9.mp h;unfold put;split
  ·rename_i q;refine d9.mpr ⟨λy a=>?_,h⟩;rcases af.mp a with rfl|a
   ·exact q
   ·exact lA q (b.1 y a)
  ·split
   ·exact h
   ·rename_i d c;have e:x≠z:=by simpa using c
    refine d9.mpr ⟨λy a=>?_,E4 b.2⟩;rcases Cc.mp a with rfl|a
    ·omega
    ·exact b.1 y a
theorem Jy:∀{a b:List Nat},EM b->EM (union a b)
 |[],b,h=>h
 |x::a,b,h=>by
  have e:union (x::a) b=union a (put x b):=rfl;rw[e];exact Jy (E4 h)
theorem yX:∀{c l:List Nat},EM l->EM c->(∀y∈l,y∈c)->l.Sublist c
 |[],l,_,_,h=>by
  cases l with
  |nil=>exact List.Sublist.refl _
  |cons x l=>exact absurd (h x (by simp)) (by simp)
 |y::c,[],_,_,_=>List.nil_sublist _
 |y::c,x::l,a,i,h=>by
  have q:=d9.mp a;have f:=d9.mp i;rcases af.mp (h x (by simp))with e|j
  ·subst e;refine List.Sublist.cons₂ _ (yX q.2 f.2 λz d=>?_);rcases af.mp (h z (by simp[d]))with e|b
   ·have :=q.1 z d;omega
   ·exact b
  ·refine List.Sublist.cons _ (yX a f.2 λz d=>?_);rcases af.mp (h z d)with e|b
   ·subst e;have k:=f.1 x j;rcases af.mp d with e|g
    ·omega
    ·have :=q.1 z g;omega
   ·exact b
theorem KW{l b:List Nat}(a:EM l)(d:EM b)(h:∀y,y∈l↔y∈b):l=b:=by
 have e:=yX a d λy c=>(h y).mp c
 have f:=yX d a λy c=>(h y).mpr c
 exact e.eq_of_length (Nat.le_antisymm e.length_le f.length_le)
theorem vz(n:Nat):EM (List.range n):=hG
theorem We{l:List Nat}{n:Nat}(a:EM l)(h:∀y∈l,y<n):l.length<=n:=by
 have :=(yX a (vz n) λy b=>bS.mpr (h y b)).length_le;simpa using this
def Rel(x:Text)(t:Spans):List Sym->Nat->Nat->Prop
 |[],i,j=>i=j
 |s::r,i,j=>∃k,k∈symEnds x t s i/\Rel x t r k j
theorem J8{x:Text}{t:Spans}{s:Sym}{m:Nat}:∀{e b:List Nat},m∈e.foldl (λa j=>union (symEnds x t s j) a) b↔m∈b\/∃i∈e,m∈symEnds x t s i
 |[],b=>by simp
 |i::e,b=>by
  rw[ij,J8,vg];constructor
  ·rintro((h|h)|⟨k,c,d⟩)
   ·exact .inr ⟨i,by simp,h⟩
   ·exact .inl h
   ·exact .inr ⟨k,by simp[c],d⟩
  ·rintro(h|⟨k,c,d⟩)
   ·exact .inl (.inr h)
   ·rcases af.mp c with e|c
    ·subst e;exact .inl (.inl d)
    ·exact .inr ⟨k,c,d⟩
theorem DQ{x:Text}{t:Spans}{j:Nat}:∀{l:List Sym} {e:List Nat},j∈l.foldl (λe s=>e.foldl (λa j=>union (symEnds x t s j) a) []) e↔∃i∈e,Rel x t l i j
 |[],e=>by simp[Rel]
 |s::l,e=>by
  rw[ij,DQ];constructor
  ·rintro⟨k,d,h⟩;rcases J8.mp d with b|⟨i,b,c⟩
   ·simp at b
   ·exact⟨i,b,k,c,h⟩
  ·rintro⟨i,f,k,b,c⟩;exact⟨k,J8.mpr (.inr ⟨i,f,b⟩),c⟩
theorem mF{x:Text}{t:Spans}{j i:Nat}{l:List Sym}:j∈rowEnds x t l i↔Rel x t l i j:=by
 unfold rowEnds;rw[DQ];simp
def tabOf(g:Grammar)(x:Text)(f:Nat->Nat->List Nat):Spans:=(List.range g.nons).map λa=>(List.range (x.length+1)).map λi=>f a i
theorem uX{g:Grammar}{x:Text}{f:Nat->Nat->List Nat}{a i:Nat}(b:a<g.nons)(d:i<=x.length):ends (tabOf g x f) a i=f a i:=by
 unfold ends tabOf;have c:i<x.length+1:=by omega
 simp[List.getD,b,c]
theorem Bi{g:Grammar}{x:Text}{f:Nat->Nat->List Nat}{a i:Nat}(h:¬(a<g.nons/\i<=x.length)):ends (tabOf g x f) a i=[]:=by
 unfold ends tabOf;by_cases b:a<g.nons
 ·have c:¬i<x.length+1:=λq=>h ⟨b,by omega⟩
  simp[List.getD,b,c]
 ·simp[List.getD,b]
theorem C_{g:Grammar}{x:Text}{f b:Nat->Nat->List Nat}(h:∀a i,a<g.nons->i<=x.length->f a i=b a i):tabOf g x f=tabOf g x b:=by
 unfold tabOf;refine bL λa c=>bL λi d=>?_
 exact h a i (bS.mp c) (by have :=bS.mp d;omega)
theorem Cz(g:Grammar)(x:Text)(t:Spans):round g x t=tabOf g x (λa i=>g.rules.foldl (λl r=>if r.lhs==a then union (rowEnds x t r.rhs i) l else l) (ends t a i)):=rfl
theorem xT(g:Grammar)(x:Text):nothing g x=tabOf g x (λ_ _=>[]):=rfl
theorem An{x:Text}{t:Spans}{a i j:Nat}:∀{f:List Rule} {l:List Nat},j∈f.foldl (λl r=>if r.lhs==a then union (rowEnds x t r.rhs i) l else l) l↔j∈l\/∃r∈f,r.lhs=a/\Rel x t r.rhs i j
 |[],l=>by simp
 |r::f,l=>by
  rw[ij,An];by_cases h:r.lhs=a
  ·have e:(r.lhs==a)=true:=by simpa using h
   rw[az e,vg,mF];constructor
   ·rintro((q|q)|⟨k,b,c⟩)
    ·exact .inr ⟨r,by simp,h,q⟩
    ·exact .inl q
    ·exact .inr ⟨k,by simp[b],c⟩
   ·rintro(q|⟨k,b,c,d⟩)
    ·exact .inl (.inr q)
    ·rcases af.mp b with z|b
     ·subst z;exact .inl (.inl d)
     ·exact .inr ⟨k,b,c,d⟩
  ·have e:¬(r.lhs==a)=true:=by simpa using h
   rw[ah e];constructor
   ·rintro(q|⟨k,b,c⟩)
    ·exact .inl q
    ·exact .inr ⟨k,by simp[b],c⟩
   ·rintro(q|⟨k,b,c,d⟩)
    ·exact .inl q
    ·rcases af.mp b with z|b
     ·subst z;exact absurd c h
     ·exact .inr ⟨k,b,c,d⟩
theorem Aq{x:Text}{t:Spans}{a i:Nat}:∀{b:List Rule} {l:List Nat},EM l->EM (b.foldl (λl r=>if r.lhs==a then union (rowEnds x t r.rhs i) l else l) l)
 |[],l,h=>h
 |r::b,l,h=>by
  rw[ij];refine Aq ?_;split
  ·exact Jy h
  ·exact h
structure Good(g:Grammar)(x:Text)(t:Spans):Prop where
 tab:t=tabOf g x (ends t)
 asc:∀a i,EM (ends t a i)
 le:∀a i j,j∈ends t a i->j<=x.length
theorem K3(g:Grammar)(x:Text):Good g x (nothing g x):=by
 have e:∀a i,ends (nothing g x) a i=[]:=λa i=>by
  rw[xT];by_cases h:a<g.nons/\i<=x.length
  ·rw[uX h.1 h.2]
  ·rw[Bi h]
 refine⟨?_,λa i=>by rw[e];exact List.Pairwise.nil,λa i j h=>by rw[e]at h;simp at h⟩;rw[xT];exact C_ λa i b c=>by rw[uX b c]
theorem XQ{g:Grammar}{x:Text}{t:Spans}(G:Good g x t){s:Sym}{i j:Nat}(h:j∈symEnds x t s i):j<=x.length:=by
 cases s with
 |non k=>exact G.le k i j h
 |range lo c=>
  unfold symEnds at h;cases q:x[i]? with
  |none=>simp[q]at h
  |some b=>
   have a:i<x.length:=(ai.mp q).1;simp only[q]at h;split at h
   ·split at h
    ·simp at h;omega
    ·simp at h
   ·simp at h
theorem T6{g:Grammar}{x:Text}{t:Spans}(G:Good g x t):∀{l:List Sym} {i j:Nat},i<=x.length->Rel x t l i j->j<=x.length
 |[],i,j,a,h=>by cases h;exact a
 |s::l,i,j,a,⟨k,b,c⟩=>T6 G (XQ G b) c
theorem qB{g:Grammar}{x:Text}{t:Spans}{a i j:Nat}:j∈ends (round g x t) a i↔(a<g.nons/\i<=x.length)/\(j∈ends t a i\/∃r∈g.rules,r.lhs=a/\Rel x t r.rhs i j):=by
 rw[Cz];by_cases h:a<g.nons/\i<=x.length
 ·rw[uX h.1 h.2,An];exact⟨λq=>⟨h,q⟩,λq=>q.2⟩
 ·rw[Bi h];exact⟨λq=>by simp at q,λq=>absurd q.1 h⟩
theorem Fb{g:Grammar}{x:Text}{t:Spans}(G:Good g x t):Good g x (round g x t):=by
 refine⟨?_,λa i=>?_,λa i j h=>?_⟩
 ·rw[Cz];exact C_ λa i c d=>by rw[uX c d]
 ·rw[Cz];by_cases h:a<g.nons/\i<=x.length
  ·rw[uX h.1 h.2];exact Aq (G.asc a i)
  ·rw[Bi h];exact List.Pairwise.nil
 ·obtain⟨e,b⟩:=qB.mp h;rcases b with b|⟨r,_,_,b⟩
  ·exact G.le a i j b
  ·exact T6 G e.2 b
def size(t:Spans):Nat:=(t.map λrow=>(row.map List.length).sum).sum
theorem Ge{c:Type}{f d:c->Nat}:∀{l:List c},(∀a∈l,f a<=d a)->(l.map f).sum<=(l.map d).sum
 |[],_=>ak _
 |a::l,h=>by
  simp only[bf,ia];have g:=h a (by simp);have i:=Ge (l:=l) λb e=>h b (by simp[e])
  omega
theorem Nz{g:Type}{f d:g->Nat}:∀{l:List g},(∀a∈l,f a<=d a)->(l.map f).sum=(l.map d).sum->∀a∈l,f a=d a
 |[],_,_=>by simp
 |a::l,h,e=>by
  simp only[bf,ia]at e;have i:=h a (by simp);have j:=Ge (l:=l) λb c=>h b (by simp[c])
  intro b c;rcases af.mp c with z|c
  ·subst z;omega
  ·exact Nz (l:=l) (λb c=>h b (by simp[c])) (by omega) b c
theorem zd{d:Type}{c:Nat}{f:d->Nat}:∀{l:List d},(∀a∈l,f a<=c)->(l.map f).sum<=l.length*c
 |[],_=>by simp
 |a::l,h=>by
  simp only[bf,ia,aG];have g:=h a (by simp);have i:=zd (l:=l) (c:=c) λb e=>h b (by simp[e])
  rw[Nat.add_mul];omega
theorem FL(g:Grammar)(x:Text)(f:Nat->Nat->List Nat):size (tabOf g x f)=((List.range g.nons).map λa=>((List.range (x.length+1)).map λi=>(f a i).length).sum).sum:=by
 unfold size tabOf;rw[d4];refine cV List.sum (bL λa _=>?_);simp only[Function.comp,d4];rfl
theorem size_le{g:Grammar}{x:Text}{t:Spans}(G:Good g x t):size t<=g.nons*(x.length+1)*(x.length+1):=by
 rw[G.tab,FL];have h:∀a∈List.range g.nons,((List.range (x.length+1)).map λi=>(ends t a i).length).sum<=(x.length+1)*(x.length+1):=λa _=>by
  have :=zd (l:=List.range (x.length+1)) (c:=x.length+1) (f:=λi=>(ends t a i).length) λi _=>We (G.asc a i) λy b=>by have :=G.le a i y b;omega
  simpa using this
 have :=zd h;simp only[df]at this;rw[Nat.mul_assoc];exact this
theorem Nr{g:Grammar}{x:Text}{t:Spans}(G:Good g x t):size t<=size (round g x t)/\(size t=size (round g x t)->round g x t=t):=by
 have f:=Fb G;have sub:∀a i,a<g.nons->i<=x.length->(ends t a i).Sublist (ends (round g x t) a i):=λa i c d=>
  yX (G.asc a i) (f.asc a i) λy h=>qB.mpr ⟨⟨c,d⟩,.inl h⟩
 have e1:size t=((List.range g.nons).map λa=>((List.range (x.length+1)).map λi=>(ends t a i).length).sum).sum:=by
  conv=>lhs;rw[G.tab]
  exact FL g x _
 have e2:size (round g x t)=((List.range g.nons).map λa=>((List.range (x.length+1)).map λi=>(ends (round g x t) a i).length).sum).sum:=by
  conv=>lhs;rw[f.tab]
  exact FL g x _
 have inner:∀a∈List.range g.nons,∀i∈List.range (x.length+1),(ends t a i).length<=(ends (round g x t) a i).length:=λa c i d=>
  (sub a i (bS.mp c) (by have :=bS.mp d;omega)).length_le
 have b:∀a∈List.range g.nons,((List.range (x.length+1)).map λi=>(ends t a i).length).sum<=((List.range (x.length+1)).map λi=>(ends (round g x t) a i).length).sum:=λa c=>Ge (inner a c)
 refine⟨by rw[e1,e2];exact Ge b,λe=>?_⟩;rw[e1,e2]at e;have q:=Nz b e
 conv=>rhs;rw[G.tab]
 conv=>lhs;rw[f.tab]
 refine C_ λa i c d=>?_
 have j:=Nz (inner a (bS.mpr c)) (q a (bS.mpr c)) i (bS.mpr (by omega));exact((sub a i c d).eq_of_length j).symm
theorem GS{g:Grammar}{x:Text}:∀(k:Nat) (t:Spans),Good g x t->g.nons*(x.length+1)*(x.length+1)<size t+k->Good g x (settle g x k t)/\round g x (settle g x k t)=settle g x k t
 |0,t,G,h=>by have :=size_le G;omega
 |k+1,t,G,h=>by
  unfold settle;dsimp only;split
  ·rename_i e;exact⟨G,by simpa using e⟩
  ·rename_i e;have m:=Nr G;have a:size t≠size (round g x t):=λz=>e (by rw[m.2 z];simp)
   exact GS k _ (Fb G) (by omega)
theorem Dd(g:Grammar)(x:Text):round g x (spansOf g x)=spansOf g x:=(GS _ _ (K3 g x) (by omega)).2
theorem FY{g:Grammar}{x:Text}{P:Spans->Prop}(step:∀t,P t->P (round g x t)):∀(k:Nat) (t:Spans),P t->P (settle g x k t)
 |0,t,h=>h
 |k+1,t,h=>by
  unfold settle;dsimp only;split
  ·exact h
  ·exact FY step k _ (step t h)
inductive Row(g:Grammar)(x:Text):List Sym->Nat->Nat->Prop
 |nil (i:Nat):Row g x [] i i
 |byte {lo a b i j:Nat} {r:List Sym}:x[i]?=some b->lo<=b->b<=a->Row g x r (i+1) j->Row g x (.range lo a::r) i j
 |non {q:Rule} {i m j:Nat} {r:List Sym}:q∈g.rules->Row g x q.rhs i m->Row g x r m j->Row g x (.non q.lhs::r) i j
def Nl(g:Grammar)(x:Text)(a i j:Nat):Prop:=∃q∈g.rules,q.lhs=a/\Row g x q.rhs i j
theorem EV{g:Grammar}{x:Text}{k i j:Nat}{r:List Sym}:Row g x (.non k::r) i j↔∃m,Nl g x k i m/\Row g x r m j:=by
 constructor
 ·intro h;cases h with
  |non a b c=>exact⟨_,⟨_,a,rfl,b⟩,c⟩
 ·rintro⟨m,⟨q,a,rfl,b⟩,c⟩;exact .non a b c
theorem CP{g:Grammar}{x:Text}{lo f i j:Nat}{r:List Sym}:Row g x (.range lo f::r) i j↔(∃b,x[i]?=some b/\lo<=b/\b<=f)/\Row g x r (i+1) j:=by
 constructor
 ·intro h;cases h with
  |byte a c d e=>exact⟨⟨_,a,c,d⟩,e⟩
 ·rintro⟨⟨b,a,c,d⟩,e⟩;exact .byte a c d e
theorem zy{g:Grammar}{x:Text}{i j:Nat}:Row g x [] i j↔i=j:=by
 constructor
 ·intro h;cases h;rfl
 ·rintro rfl;exact .nil _
theorem mq{g:Grammar}{x:Text}{l:List Sym}{i j:Nat}(h:Row g x l i j):i<=j/\(i<=x.length->j<=x.length):=by
 induction h with
 |nil i=>exact⟨ak _,λq=>q⟩
 |byte c d f k e=>
  have :=(ai.mp c).1;exact⟨by omega,λ_=>e.2 (by omega)⟩
 |non m c d a b=>exact⟨by omega,λq=>b.2 (a.2 q)⟩
theorem qt{g:Grammar}{x:Text}:∀{l l':List Sym} {i j:Nat},Row g x (l++l') i j↔∃m,Row g x l i m/\Row g x l' m j
 |[],l',i,j=>by
  simp only[ff,zy];exact⟨λh=>⟨i,rfl,h⟩,λ⟨m,e,h⟩=>by subst e;exact h⟩
 |.range lo d::l,l',i,j=>by
  simp only[iY,CP,qt (l:=l)];exact⟨λ⟨a,m,b,c⟩=>⟨m,⟨a,b⟩,c⟩,λ⟨m,⟨a,b⟩,c⟩=>⟨a,m,b,c⟩⟩
 |.non k::l,l',i,j=>by
  simp only[iY,EV,qt (l:=l)];exact⟨λ⟨p,a,m,b,c⟩=>⟨m,⟨p,a,b⟩,c⟩,λ⟨m,⟨p,a,b⟩,c⟩=>⟨p,a,m,b,c⟩⟩
theorem ua{x:Text}{t:Spans}{lo d i j:Nat}:j∈symEnds x t (.range lo d) i↔(∃b,x[i]?=some b/\lo<=b/\b<=d)/\j=i+1:=by
 unfold symEnds;cases q:x[i]? with
 |none=>simp
 |some b=>
  dsimp only;by_cases a:lo<=b
  ·by_cases f:b<=d
   ·simp[a,f]
   ·rw[az a,ah f];exact⟨λz=>by simp at z,λ⟨⟨c,e,_,h⟩,_⟩=>by cases e;exact absurd h f⟩
  ·rw[ah a];exact⟨λz=>by simp at z,λ⟨⟨c,e,h,_⟩,_⟩=>by cases e;exact absurd h a⟩
theorem zj{g:Grammar}{x:Text}{t:Spans}(P:∀a i j,j∈ends t a i->Nl g x a i j):∀{l:List Sym} {i j:Nat},Rel x t l i j->Row g x l i j
 |[],i,j,h=>zy.mpr h
 |.non k::l,i,j,⟨m,b,c⟩=>EV.mpr ⟨m,P k i m b,zj P c⟩
 |.range lo e::l,i,j,⟨m,b,c⟩=>by
  obtain⟨d,rfl⟩:=ua.mp b;exact CP.mpr ⟨d,zj P c⟩
theorem Dr{g:Grammar}{x:Text}:∀a i j,j∈ends (spansOf g x) a i->Nl g x a i j:=by
 refine FY (P:=λt=>∀a i j,j∈ends t a i->Nl g x a i j) (λt P a i j h=>?_) _ _ ?_
 ·rcases(qB.mp h).2 with h|⟨r,b,e,h⟩
  ·exact P a i j h
  ·exact⟨r,b,e,zj P h⟩
 ·intro a i j h;have e:ends (nothing g x) a i=[]:=by
   rw[xT];by_cases q:a<g.nons/\i<=x.length
   ·rw[uX q.1 q.2]
   ·rw[Bi q]
  rw[e]at h;simp at h
def MB(g:Grammar):Prop:=∀r∈g.rules,r.lhs<g.nons
theorem Qx{g:Grammar}{x:Text}(L:MB g){l:List Sym}{i j:Nat}(h:Row g x l i j):i<=x.length->Rel x (spansOf g x) l i j:=by
 induction h with
 |nil i=>exact λ_=>rfl
 |byte a e k n m=>
  intro b;have :=(ai.mp a).1;exact⟨_,ua.mpr ⟨⟨_,a,e,k⟩,rfl⟩,m (by omega)⟩
 |non f a e c d=>
  intro b;refine⟨_,?_,d ((mq a).2 b)⟩;show _∈ends (spansOf g x) _ _;rw[<-Dd];exact qB.mpr ⟨⟨L _ f,b⟩,.inr ⟨_,f,rfl,c b⟩⟩
theorem vG{g:Grammar}{x:Text}(L:MB g){a i j:Nat}:j∈ends (spansOf g x) a i↔i<=x.length/\Nl g x a i j:=by
 constructor
 ·intro h;refine⟨?_,Dr a i j h⟩;rw[<-Dd]at h;exact(qB.mp h).1.2
 ·rintro⟨b,q,c,rfl,h⟩;rw[<-Dd];exact qB.mpr ⟨⟨L _ c,b⟩,.inr ⟨_,c,rfl,Qx L h b⟩⟩
theorem zo{g:Grammar}{x:Text}(L:MB g){l:List Sym}{i j:Nat}(a:i<=x.length):Rel x (spansOf g x) l i j↔Row g x l i j:=
 ⟨zj Dr,λh=>Qx L h a⟩
theorem Sk{g:Grammar}{x:Text}(L:MB g):Vaglrc.reads g x=true↔Nl g x 0 0 x.length:=by
 unfold Vaglrc.reads covers;rw[pI,vG L];exact⟨λh=>h.2,λh=>⟨br _,h⟩⟩
end Gp
namespace Gp
open Vaglrc (Grammar Link Node Rule Spans Sym Text below children childrenAt covers ends has hasNode links nodesOf numbered onceNodes put rowEnds sameNode spansOf symEnds union)
theorem BQ{a:Type}{l:List a}{p:Nat×a}:p∈(List.range l.length).zip l↔l[p.1]?=some p.2:=by
 rw[bZ];constructor
 ·rintro⟨i,h⟩;obtain⟨b,c⟩:=fB.mp h;have d:=ai.mp b;obtain⟨f,e⟩:=d;simp at e;rw[<-e];exact c
 ·intro h;refine⟨p.1,fB.mpr ⟨?_,h⟩⟩;have :=(ai.mp h).1;rw[cF this]
theorem sC{g:Grammar}{p:Nat×Rule}:p∈numbered g↔g.rules[p.1]?=some p.2:=BQ
theorem Tw{t:Spans}{a i j:Nat}:j∈ends t a i↔∃row,t[a]?=some row/\∃l,row[i]?=some l/\j∈l:=by
 unfold ends;rw[bC,bC];cases h:t[a]? with
 |none=>simp
 |some row=>
  simp only[kb];cases b:row[i]? with
  |none=>simp[b]
  |some l=>simp[b]
theorem Ly{t:Spans}{n:Node}:n∈nodesOf t↔n.2.2∈ends t n.1 n.2.1:=by
 obtain⟨a,i,j⟩:=n;unfold nodesOf;rw[Tw,cJ];constructor
 ·rintro⟨p,b,h⟩;obtain⟨q,c,h⟩:=cJ.mp h;obtain⟨k,d,e⟩:=bq.mp h;cases e;exact⟨p.2,BQ.mp b,q.2,BQ.mp c,d⟩
 ·rintro⟨row,f,l,g,m⟩;exact⟨(a,row),BQ.mpr f,cJ.mpr ⟨(i,l),BQ.mpr g,bq.mpr ⟨j,m,rfl⟩⟩⟩
theorem sv{m n:Node}:sameNode m n=true↔m=n:=by
 obtain⟨a,b,c⟩:=m;obtain⟨d,e,f⟩:=n;simp[sameNode,Prod.ext_iff]
theorem yp{n:Node}{l:List Node}:hasNode n l=true↔n∈l:=by
 unfold hasNode;rw[dP];exact⟨λ⟨m,a,b⟩=>by rw[sv.mp b];exact a,λh=>⟨n,h,sv.mpr rfl⟩⟩
def gG(b l:List Node):List Node:=l.foldl (λa n=>if hasNode n a then a else a++[n]) b
theorem QG(l:List Node):onceNodes l=gG [] l:=rfl
theorem Gd{m:Node}:∀{l a:List Node},m∈gG a l↔m∈a\/m∈l
 |[],a=>by simp[gG]
 |n::l,a=>by
  have e:gG a (n::l)=gG (if hasNode n a then a else a++[n]) l:=rfl;rw[e,Gd];split
  ·rename_i h;have b:=yp.mp h;constructor
   ·rintro(q|q)<;>simp[q]
   ·rintro(q|q)
    ·exact .inl q
    ·rcases af.mp q with z|q
     ·subst z;exact .inl b
     ·exact .inr q
  ·simp only[bg,af,aS,cC];constructor
   ·rintro((q|q)|q)<;>simp[q]
   ·rintro(q|q|q)<;>simp[q]
theorem G3:∀{l c:List Node},c.Nodup->(gG c l).Nodup
 |[],c,h=>h
 |n::l,c,h=>by
  have e:gG c (n::l)=gG (if hasNode n c then c else c++[n]) l:=rfl;rw[e];refine G3 ?_;split
  ·exact h
  ·rename_i q;rw[jV];refine⟨h,by simp,λa f b d=>?_⟩;simp at d;subst d;intro z;subst z;exact q (yp.mpr f)
theorem F3:∀{l acc:List Node},∃e,gG acc l=acc++e
 |[],acc=>⟨[],by simp[gG]⟩
 |n::l,acc=>by
  have e:gG acc (n::l)=gG (if hasNode n acc then acc else acc++[n]) l:=rfl;rw[e];split
  ·exact F3
  ·obtain⟨e2,h⟩:=F3 (l:=l) (acc:=acc++[n]);exact⟨[n]++e2,by rw[h,bN]⟩
theorem Nh:∀{l a:List Node},(a++l).Nodup->gG a l=a++l
 |[],a,_=>by simp[gG]
 |n::l,a,h=>by
  have e:gG a (n::l)=gG (if hasNode n a then a else a++[n]) l:=rfl;have b:¬hasNode n a=true:=λq=>by
   have c:=yp.mp q;rw[jV]at h;exact h.2.2 n c n (by simp) rfl
  rw[e,ah b,Nh (by rw[bN];exact h),bN];rfl
theorem Uw{s l:List Node}(h:s.Nodup):∃e,onceNodes (s++l)=s++e:=by
 have e1:onceNodes (s++l)=gG (gG [] s) l:=by
  unfold onceNodes gG;rw[mB]
 have e2:gG [] s=s:=by rw[Nh (by simpa using h),ff]
 rw[e1,e2];exact F3
theorem vw{a:Type}[BEq a][LawfulBEq a]:∀{s l:List a},s.Nodup->(∀y∈s,y∈l)->s.length<=l.length
 |[],_,_,_=>br _
 |x::s,l,h,sub=>by
  have b:=aT.mp h;have c:x∈l:=sub x (by simp);have q:=vw (s:=s) (l:=l.erase x) b.2 λy d=>by
   have e:y≠x:=λz=>b.1 (z▸d)
   exact(o4 e).mpr (sub y (by simp[d]))
  rw[l_ c]at q;have :0<l.length:=List.length_pos_of_mem c;simp only[aG];omega
theorem Km{g:Grammar}{x:Text}{t:Spans}{a i j:Nat}{n:Node}:n∈children g x t (a,i,j)↔
 ∃r∈g.rules,r.lhs=a/\∃pre post,r.rhs=pre++Sym.non n.1::post/\Rel x t pre i n.2.1/\n.2.2∈ends t n.1 n.2.1/\Rel x t post n.2.2 j:=by
 unfold children;rw[QG,Gd,cJ];simp only[aS,false_or];constructor
 ·rintro⟨r,c,h⟩;split at h
  ·rename_i e;obtain⟨m,y,h⟩:=cJ.mp h;unfold childrenAt at h;split at h
   ·rename_i b q;obtain⟨p,k,h⟩:=cJ.mp h;obtain⟨e2,d,rfl⟩:=bq.mp h;obtain⟨l,o⟩:=cK.mp d;refine⟨r,c,by simpa using e,r.rhs.take m,r.rhs.drop (m+1),?_,mF.mp k,l,mF.mp (pI.mp o)⟩;obtain⟨f,e3⟩:=ai.mp q;rw[<-e3,ng];exact(eL m r.rhs).symm
   ·simp at h
  ·simp at h
 ·rintro⟨r,c,e,pre,post,e2,s,u,d⟩;refine⟨r,c,?_⟩;rw[az (by simpa using e)];have f:pre.length<r.rhs.length:=by rw[e2];simp
  refine cJ.mpr ⟨pre.length,bS.mpr f,?_⟩;unfold childrenAt;have q:r.rhs[pre.length]?=some (Sym.non n.1):=by rw[e2];simp
  rw[q];have v:r.rhs.take pre.length=pre:=by rw[e2];simp
  have w:r.rhs.drop (pre.length+1)=post:=by rw[e2];simp
  dsimp only;rw[v,w];exact cJ.mpr ⟨n.2.1,mF.mpr s,bq.mpr ⟨n.2.2,cK.mpr ⟨u,pI.mpr (mF.mpr d)⟩,rfl⟩⟩
theorem L5{g:Grammar}{x:Text}{t:Spans}{n:Node}(h:n∈nodesOf t):below (links g x t) n=children g x t n:=by
 unfold below links;rw[List.find?_map];have :∃m,(nodesOf t).find? ((λk:Link=>sameNode k.1 n)∘λn=>(n,children g x t n))=some m/\m=n:=by
  cases q:(nodesOf t).find? ((λk:Link=>sameNode k.1 n)∘λn=>(n,children g x t n))with
  |none=>
   have :=lV.mp q n h;exact absurd (sv.mpr rfl) this
  |some m=>
   have a:=List.find?_some q;exact⟨m,rfl,sv.mp a⟩
 obtain⟨m,e1,e2⟩:=this;rw[e1,e2];rfl
def Child(g:Grammar)(x:Text)(n m:Node):Prop:=∃r∈g.rules,r.lhs=n.1/\∃pre post,r.rhs=pre++Sym.non m.1::post/\Row g x pre n.2.1 m.2.1/\Nl g x m.1 m.2.1 m.2.2/\Row g x post m.2.2 n.2.2
inductive Reach(g:Grammar)(x:Text):Node->Prop
 |root:Reach g x (0,0,x.length)
 |down {n m:Node}:Reach g x n->Child g x n m->Reach g x m
def NodeOk(g:Grammar)(x:Text)(n:Node):Prop:=n.2.1<=x.length/\Nl g x n.1 n.2.1 n.2.2
theorem Jk{g:Grammar}{x:Text}(L:MB g){n:Node}:n∈nodesOf (spansOf g x)↔NodeOk g x n:=by
 rw[Ly,vG L];rfl
theorem ML{g:Grammar}{x:Text}{n m:Node}(a:n.2.1<=x.length)(h:Child g x n m):NodeOk g x m:=by
 obtain⟨r,_,_,pre,post,_,b,c,_⟩:=h;exact⟨(mq b).2 a,c⟩
theorem N8{g:Grammar}{x:Text}{a i j:Nat}(h:Nl g x a i j)(b:i<=x.length):j<=x.length:=by
 obtain⟨r,_,_,h⟩:=h;exact(mq h).2 b
theorem IV{g:Grammar}{x:Text}(L:MB g){n m:Node}(o:NodeOk g x n):m∈below (links g x (spansOf g x)) n↔Child g x n m:=by
 rw[L5 ((Jk L).mpr o)];obtain⟨a,i,j⟩:=n;rw[Km];have f:i<=x.length:=o.1;constructor
 ·rintro⟨r,h,e,pre,post,e2,c,d,k⟩;have l:=(zo L f).mp c;have b:=(vG L).mp d;exact⟨r,h,e,pre,post,e2,l,b.2,(zo L (N8 b.2 b.1)).mp k⟩
 ·rintro⟨r,h,e,pre,post,e2,c,d,k⟩;have p:=(mq c).2 f;exact⟨r,h,e,pre,post,e2,(zo L f).mpr c,(vG L).mpr ⟨p,d⟩,(zo L (N8 d p)).mpr k⟩
theorem Al{g:Grammar}{x:Text}(L:MB g):∀(k:Nat) (s:List Node),s.Nodup->(∀n∈s,NodeOk g x n)->(∀n∈s,Reach g x n)->(nodesOf (spansOf g x)).length<s.length+k->
 let u:=Vaglrf.nodesBelow (links g x (spansOf g x)) k s
 (∀n∈s,n∈u)/\(∀n∈u,Reach g x n)/\(∀n∈u,NodeOk g x n)/\∀n∈u,∀m,Child g x n m->m∈u
 |0,s,i,ok,c,h=>by
  have :=vw i λn a=>(Jk L).mpr (ok n a)
  omega
 |k+1,s,i,ok,c,h=>by
  have d:∀m,m∈onceNodes (s++s.flatMap (below (links g x (spansOf g x))))↔m∈s\/∃n∈s,Child g x n m:=λm=>by
   rw[QG,Gd,bg,cJ];simp only[aS,false_or];constructor
   ·rintro(q|⟨n,b,j⟩)
    ·exact .inl q
    ·exact .inr ⟨n,b,(IV L (ok n b)).mp j⟩
   ·rintro(q|⟨n,b,j⟩)
    ·exact .inl q
    ·exact .inr ⟨n,b,(IV L (ok n b)).mpr j⟩
  obtain⟨e,f⟩:=Uw (s:=s) (l:=s.flatMap (below (links g x (spansOf g x)))) i;unfold Vaglrf.nodesBelow;dsimp only;split
  ·rename_i q;have o:(onceNodes (s++s.flatMap (below (links g x (spansOf g x))))).length=s.length:=by simpa using q
   have w:e=[]:=by
    rw[f,ay]at o;exact d7.mp (by omega)
   rw[w,bQ]at f;refine⟨λn a=>a,c,ok,λn a m y=>?_⟩;have :=(d m).mpr (.inr ⟨n,a,y⟩);rw[f]at this;exact this
  ·rename_i q;have o:¬(onceNodes (s++s.flatMap (below (links g x (spansOf g x))))).length=s.length:=by simpa using q
   have A:s.length<(onceNodes (s++s.flatMap (below (links g x (spansOf g x))))).length:=by
    rw[f,ay]at o⊢;omega
   have v:=Al L k (onceNodes (s++s.flatMap (below (links g x (spansOf g x))))) (G3 jM)
    (λn a=>by
      rcases(d n).mp a with z|⟨p,r,t⟩
      ·exact ok n z
      ·exact ML (ok p r).1 t)
    (λn a=>by
      rcases(d n).mp a with z|⟨p,r,t⟩
      ·exact c n z
      ·exact .down (c p r) t) (by omega)
   exact⟨λn a=>v.1 n ((d n).mpr (.inl a)),v.2⟩
theorem Am{g:Grammar}{x:Text}(L:MB g){n:Node}:n∈Vaglrn.treeNodes g x↔Nl g x 0 0 x.length/\Reach g x n:=by
 unfold Vaglrn.treeNodes;dsimp only;have d:covers (spansOf g x) 0 0 x.length=true↔Nl g x 0 0 x.length:=by
  unfold covers;rw[pI,vG L];exact⟨λh=>h.2,λh=>⟨br _,h⟩⟩
 split
 ·rename_i h;have c:=d.mp h;have q:=Al L ((nodesOf (spansOf g x)).length+1) [(0,0,x.length)] (by simp) (by intro n a;simp at a;subst a;exact⟨br _,c⟩) (by intro n a;simp at a;subst a;exact .root) (by simp only[aG,fS];omega);refine⟨λa=>⟨c,q.2.1 n a⟩,λa=>?_⟩;have r:=a.2
  induction r with
  |root=>exact q.1 _ (by simp)
  |down e b f=>exact q.2.2.2 _ (f ⟨c,e⟩) _ b
 ·rename_i h;exact⟨λa=>by simp at a,λa=>absurd (d.mpr a.1) h⟩
theorem FU{g:Grammar}{x:Text}(a:Nl g x 0 0 x.length){n:Node}(h:Reach g x n):NodeOk g x n:=by
 induction h with
 |root=>exact⟨br _,a⟩
 |down _ b c=>exact ML c.1 b
def Uses(g:Grammar)(x:Text)(r:Nat):Prop:=Nl g x 0 0 x.length/\∃q,g.rules[r]?=some q/\∃i j,Reach g x (q.lhs,i,j)/\Row g x q.rhs i j
theorem Fu{g:Grammar}{x:Text}(L:MB g){r:Nat}:r∈Vaglrn.usedRules g x↔Uses g x r:=by
 unfold Vaglrn.usedRules;dsimp only;rw[bq];constructor
 ·rintro⟨p,f,rfl⟩;obtain⟨h,k⟩:=cK.mp f;obtain⟨n,l,b⟩:=dP.mp k;rw[bI]at b;have e:n.1=p.2.lhs:=by simpa using b.1
  have a:=(Am L).mp l;have ok:=FU a.1 a.2;refine⟨a.1,p.2,sC.mp h,n.2.1,n.2.2,?_,(zo L ok.1).mp (mF.mp (pI.mp b.2))⟩;rw[<-e];exact a.2
 ·rintro⟨c,q,m,i,j,d,o⟩;have ok:=FU c d;refine⟨(r,q),cK.mpr ⟨sC.mpr m,dP.mpr ⟨(q.lhs,i,j),(Am L).mpr ⟨c,d⟩,?_⟩⟩,rfl⟩;rw[bI];exact⟨by simp,pI.mpr (mF.mpr ((zo L ok.1).mpr o))⟩
theorem Lr{a:Type}(l:List a)(p:Nat×a->Bool):EM ((((List.range l.length).zip l).filter p).map (·.1)):=by
 have h:((List.range l.length).zip l).map (·.1)=List.range l.length:=by
  rw[List.map_fst_zip];simp
 have b:EM (((List.range l.length).zip l).map (·.1)):=by rw[h];exact vz _
 exact b.sublist (List.Sublist.map _ fk)
theorem Ui(g:Grammar)(x:Text):EM (Vaglrn.usedRules g x):=Lr _ _
theorem Wj{g:Grammar}{x:Text}{r:Nat}(h:Uses g x r):r<g.rules.length:=by
 obtain⟨_,q,a,_⟩:=h;exact(ai.mp a).1
end Gp
namespace Gp
open Vaglrc (Grammar Node Rule Spans Sym Text has put union)
open Vaglrd (classesOf cutsOf inRange partsOf rangesIn)
open Vaglrh (allTexts digitsOf signsOf textAt)
theorem Dz{c:Nat}:∀{l:List (Nat×Nat)} {a:List Nat},c∈l.foldl (λl p=>put p.1 (put (p.2+1) l)) a↔c∈a\/∃p∈l,c=p.1\/c=p.2+1
 |[],a=>by simp
 |p::l,a=>by
  rw[ij,Dz,Cc,Cc];constructor
  ·rintro((h|h|h)|⟨q,d,b⟩)
   ·exact .inr ⟨p,by simp,.inl h⟩
   ·exact .inr ⟨p,by simp,.inr h⟩
   ·exact .inl h
   ·exact .inr ⟨q,by simp[d],b⟩
  ·rintro(h|⟨q,d,b⟩)
   ·exact .inl (.inr (.inr h))
   ·rcases af.mp d with z|d
    ·subst z;rcases b with b|b
     ·exact .inl (.inl b)
     ·exact .inl (.inr (.inl b))
    ·exact .inr ⟨q,d,b⟩
theorem D5:∀{l:List (Nat×Nat)} {a:List Nat},EM a->EM (l.foldl (λl p=>put p.1 (put (p.2+1) l)) a)
 |[],a,h=>h
 |p::l,a,h=>D5 (l:=l) (E4 (E4 h))
theorem Mn{g:Grammar}{c:Nat}:c∈cutsOf g↔∃p∈rangesIn g,c=p.1\/c=p.2+1:=by
 unfold cutsOf;rw[Dz];simp
theorem LR(g:Grammar):EM (cutsOf g):=D5 List.Pairwise.nil
def Be(a:List (Nat×Nat))(c:Nat):Bool:=a.any λp=>decide (p.1<=c)&&decide (c<=p.2)
theorem Bg{a:List (Nat×Nat)}{c:Nat}:Be a c=true↔∃p∈a,p.1<=c/\c<=p.2:=by
 unfold Be;rw[dP];simp
theorem D3(f:List (Nat×Nat)):∀(l:List Nat),EM l->(∀c∈l,∀p∈f,p.1<=c->c<=p.2->p.2+1∈l)->
 ((partsOf l).filter (λp=>f.any (inRange p))).map (·.1)=l.filter (Be f)
 |[],_,_=>rfl
 |[a],_,h=>by
  have :¬Be f a=true:=λq=>by
   obtain⟨p,g,d,i⟩:=Bg.mp q;have :=h a (by simp) p g d i;simp at this;omega
  rw[ck this];rfl
 |a::b::l,j,h=>by
  have q:=d9.mp j;have r:=q.1 b (by simp);have k:=D3 f (b::l) q.2 λc m p g d i=>by
   have n:=q.1 c m;have :=h c (aA _ m) p g d i;rcases af.mp this with z|z
   ·omega
   ·exact z
  have e:f.any (inRange (a,b-1))=Be f a:=by
   rw[dJ,dP,Bg];constructor
   ·rintro⟨p,g,d⟩;simp only[inRange,bI,dA]at d;exact⟨p,g,d.1,by omega⟩
   ·rintro⟨p,g,d,i⟩;refine⟨p,g,?_⟩;simp only[inRange,bI,dA];refine⟨d,?_⟩;have o:=h a (by simp) p g d i;rcases af.mp o with z|z
    ·omega
    ·rcases af.mp z with z|z
     ·omega
     ·have :=(d9.mp q.2).1 _ z;omega
  have e2:partsOf (a::b::l)=(a,b-1)::partsOf (b::l):=rfl;rw[e2];by_cases c:Be f a=true
  ·rw[bX (by rw[e];exact c),bX c,bf,k]
  ·rw[ck (by rw[e];exact c),ck c,k]
theorem vD(g:Grammar):signsOf g=(cutsOf g).filter (Be (rangesIn g)):=by
 unfold signsOf classesOf;exact D3 _ _ (LR g) λc _ p a _ _=>Mn.mpr ⟨p,a,.inr rfl⟩
theorem Se(g:Grammar):EM (signsOf g):=by
 rw[vD];exact(LR g).sublist fk
theorem Sg{g:Grammar}{c:Nat}:c∈signsOf g↔(∃p∈rangesIn g,c=p.1\/c=p.2+1)/\∃p∈rangesIn g,p.1<=c/\c<=p.2:=by
 rw[vD,cK,Mn,Bg]
theorem ko{c d:Type}{f g:c->List d}:∀{l:List c},(∀a∈l,f a=g a)->l.flatMap f=l.flatMap g
 |[],_=>rfl
 |a::l,h=>by
  rw[cb,cb,h a (by simp),ko λb e=>h b (by simp[e])]
def level(signs:List Nat)(k:Nat):List Text:=(List.range (signs.length^k)).map (textAt signs k)
theorem wC(signs:List Nat):level signs 0=[[]]:=by
 simp[level,textAt,digitsOf,fi]
theorem IX(m:Nat):∀n:Nat,List.range (n*m)=(List.range n).flatMap λq=>(List.range m).map λd=>q*m+d
 |0=>by simp
 |n+1=>by
  rw[Nat.add_mul,Nat.one_mul,List.range_add,IX m n,fi,cx];simp[cb]
theorem map_getD(signs:List Nat)(f:Nat->Text):(List.range signs.length).map (λd=>f (signs.getD d 0))=signs.map f:=by
 refine List.ext_getElem (by simp) λi a b=>?_
 simp at a;simp[List.getD,a]
theorem qm(signs:List Nat)(k:Nat):level signs (k+1)=(level signs k).flatMap λt=>signs.map λs=>t++[s]:=by
 unfold level;rw[jD,IX,List.map_flatMap,List.flatMap_map];refine ko λq _=>?_
 rw[d4,<-map_getD signs];refine bL λd b=>?_
 have a:=bS.mp b;simp only[Function.comp,textAt,digitsOf,dq,bf,iT];have e1:(q*signs.length+d)/signs.length=q:=by
  rw[oo,Nat.mul_add_div (by omega),Nat.div_eq_of_lt a];omega
 have e2:(q*signs.length+d)% signs.length=d:=by
  rw[oo,Nat.mul_add_mod,Nat.mod_eq_of_lt a]
 rw[e1,e2]
theorem Bf(signs:List Nat):∀k:Nat,level signs (k+1)=signs.flatMap λs=>(level signs k).map λt=>s::t
 |0=>by
  rw[qm,wC];simp[cb,List.map_eq_flatMap]
 |k+1=>by
  rw[qm,Bf signs k,List.flatMap_assoc];refine ko λs _=>?_
  rw[<-Bf signs k,qm,List.map_flatMap,List.flatMap_map];refine ko λt _=>?_
  simp
theorem Iv(signs:List Nat)(k:Nat):(level signs k).length=signs.length^k:=by simp[level]
def upTo(signs:List Nat)(a:Nat):List Text:=(List.range (a+1)).flatMap (level signs)
theorem count_eq(signs:List Nat):∀n:Nat,(List.range n).foldl (λs k=>s+signs.length^k) 0=((List.range n).flatMap (level signs)).length
 |0=>rfl
 |n+1=>by
  rw[fi,mB,count_eq signs n,cx,ay];simp[Iv]
theorem Dt(signs:List Nat)(a b:Nat):allTexts signs a b=if b<(upTo signs a).length then none else some (upTo signs a):=by
 unfold allTexts upTo;dsimp only;rw[count_eq];rfl
theorem o8{signs:List Nat}:∀{k:Nat} {t:Text},t∈level signs k->t.length=k/\∀b∈t,b∈signs
 |0,t,h=>by rw[wC]at h;simp at h;subst h;simp
 |k+1,t,h=>by
  rw[qm]at h;obtain⟨u,a,h⟩:=cJ.mp h;obtain⟨s,c,rfl⟩:=bq.mp h;obtain⟨d,e⟩:=o8 a;refine⟨by simp[d],λb f=>?_⟩;rcases bg.mp f with z|z
  ·exact e b z
  ·simp at z;subst z;exact c
end Gp
namespace Gp
open Vaglrc (Grammar Rule Sym readGrammar readRules readSyms)
structure RS where
 place:Nat
 sound:Bool
def tk(row:List Int)(r:RS)(least most:Int):Int×RS:=
 if r.place=row.length then(least,⟨r.place,false⟩)
 else if r.sound=false then(least,r)
 else if least<=row.getD r.place 0/\row.getD r.place 0<=most then(row.getD r.place 0,⟨r.place+1,true⟩)else(least,⟨r.place+1,false⟩)
def rD(row:List Int)(n:Int)(r:RS):Sym×RS:=
 if(tk row r 0 1).1=0 then(.non (tk row (tk row r 0 1).2 0 (n-1)).1.toNat,(tk row (tk row r 0 1).2 0 (n-1)).2)
 else(.range (tk row (tk row r 0 1).2 0 255).1.toNat (tk row (tk row (tk row r 0 1).2 0 255).2 (tk row (tk row r 0 1).2 0 255).1 255).1.toNat,
  (tk row (tk row (tk row r 0 1).2 0 255).2 (tk row (tk row r 0 1).2 0 255).1 255).2)
def times{a:Type}(f:RS->a×RS):Nat->RS->List a×RS
 |0,r=>([],r)
 |k+1,r=>((f r).1::(times f k (f r).2).1,(times f k (f r).2).2)
def pk(row:List Int)(n:Int)(r:RS):Rule×RS:=
 ({lhs:=(tk row r 0 (n-1)).1.toNat,rhs:=(times (rD row n) (tk row (tk row r 0 (n-1)).2 0 8).1.toNat (tk row (tk row r 0 (n-1)).2 0 8).2).1},
   (times (rD row n) (tk row (tk row r 0 (n-1)).2 0 8).1.toNat (tk row (tk row r 0 (n-1)).2 0 8).2).2)
def isDone(row:List Int)(r:RS):Bool:=r.sound&&decide (r.place=row.length)
def pf(row:List Int):Grammar×RS:=
 ({nons:=(tk row ⟨0,true⟩ 1 20).1.toNat,rules:=(times (pk row (tk row ⟨0,true⟩ 1 20).1) (tk row (tk row ⟨0,true⟩ 1 20).2 0 60).1.toNat (tk row (tk row ⟨0,true⟩ 1 20).2 0 60).2).1},
   (times (pk row (tk row ⟨0,true⟩ 1 20).1) (tk row (tk row ⟨0,true⟩ 1 20).2 0 60).1.toNat (tk row (tk row ⟨0,true⟩ 1 20).2 0 60).2).2)
def uT(row:List Int):Option Grammar:=if isDone row (pf row).2 then some (pf row).1 else none
theorem oF{row:List Int}{r:RS}{least most:Int}(h:least<=most):least<=(tk row r least most).1/\(tk row r least most).1<=most:=by
 unfold tk;split
 ·exact⟨Int.le_refl _,h⟩
 ·split
  ·exact⟨Int.le_refl _,h⟩
  ·split
   ·assumption
   ·exact⟨Int.le_refl _,h⟩
theorem gS{row:List Int}{r:RS}{least most:Int}(h:r.place<=row.length):(tk row r least most).2.place<=row.length:=by
 unfold tk;split
 ·exact h
 ·split
  ·exact h
  ·split
   ·show r.place+1<=row.length;omega
   ·show r.place+1<=row.length;omega
theorem kR{row:List Int}{r:RS}{a b:Int}(h:r.sound=false):(tk row r a b).2.sound=false:=by
 unfold tk;split
 ·rfl
 ·exact h
def left(row:List Int)(r:RS):List Nat:=(row.drop r.place).map Int.toNat
theorem yH{row:List Int}{r:RS}{least most:Int}(a:r.place<=row.length)(h:left row r=[]):(tk row r least most).2.sound=false:=by
 have :r.place=row.length:=by
  unfold left at h;have :=cV List.length h;simp at this;omega
 unfold tk;rw[az this]
theorem Wf{row:List Int}{r:RS}{v:Nat}{a:List Nat}(h:left row r=v::a):r.place<row.length/\(row.getD r.place 0).toNat=v/\(row.drop (r.place+1)).map Int.toNat=a:=by
 unfold left at h;have b:r.place<row.length:=by
  have :=cV List.length h;simp at this;omega
 rw[fA b,bf]at h;injection h with c d
 refine⟨b,?_,d⟩;rw[bC,aB b,kb];exact c
theorem uh{row:List Int}{r:RS}{least most:Int}{v:Nat}{a:List Nat}(c:∀x∈row,0<=x)(d:r.sound=true)(h:left row r=v::a):
 (least<=v/\(v:Int)<=most->(tk row r least most).1=v/\(tk row r least most).2.sound=true/\left row (tk row r least most).2=a)/\
 (¬(least<=v/\(v:Int)<=most)->(tk row r least most).2.sound=false):=by
 obtain⟨b,e,f⟩:=Wf h;have k:0<=row.getD r.place 0:=by
  rw[bC,aB b,kb];exact c _ (j3 b)
 have g:row.getD r.place 0=(v:Int):=by omega
 have i:¬r.place=row.length:=by omega
 have j:¬r.sound=false:=by rw[d];simp
 unfold tk;rw[ah i,ah j,g];constructor
 ·intro q;rw[az q];exact⟨rfl,rfl,f⟩
 ·intro q;rw[ah q]
def Agree{a:Type}(row:List Int)(spec:Option (a×List Nat))(m:a×RS):Prop:=match spec with
 |some y=>m.1=y.1/\m.2.sound=true/\left row m.2=y.2
 |none=>m.2.sound=false
structure FE{a:Type}(row:List Int)(f:RS->a×RS):Prop where
 place:∀r,r.place<=row.length->(f r).2.place<=row.length
 bad:∀r,r.sound=false->(f r).2.sound=false
theorem iq{a:Type}{row:List Int}{f:RS->a×RS}(h:FE row f):∀k,FE row (times f k)
 |0=>⟨λ_ q=>q,λ_ q=>q⟩
 |k+1=>⟨λr q=>(iq h k).place _ (h.place r q),λr q=>(iq h k).bad _ (h.bad r q)⟩
theorem qr(row:List Int)(n:Int):FE row (rD row n):=by
 refine⟨λr h=>?_,λr h=>?_⟩
 ·unfold rD;split
  ·exact gS (gS h)
  ·exact gS (gS (gS h))
 ·unfold rD;split
  ·exact kR (kR h)
  ·exact kR (kR (kR h))
theorem o9(row:List Int)(n:Int):FE row (pk row n):=
 ⟨λr h=>(iq (qr row n) _).place _ (gS (gS h)),λr h=>(iq (qr row n) _).bad _ (kR (kR h))⟩
def iM(n:Nat)(x:List Nat):Option (Sym×List Nat):=match x with
 |0::a::r=>if a<n then some (.non a,r)else none
 |1::lo::b::r=>if lo<=b then(if b<256 then some (.range lo b,r)else none)else none
 |_=>none
theorem Aj(n k:Nat)(x:List Nat):readSyms n (k+1) x=(iM n x).bind λy=>(readSyms n k y.2).map λz=>(y.1::z.1,z.2):=by
 unfold iM;split
 ·rw[readSyms];split<;>rfl
 ·rw[readSyms];split
  ·split<;>rfl
  ·rfl
 ·rename_i b c;rw[readSyms]
  ·rfl
  ·intro a r e;exact b a r e
  ·intro lo d r e;exact c lo d r e
theorem Ri{row:List Int}{n:Nat}{r:RS}(i:∀x∈row,0<=x)(z:r.sound=true)(s:r.place<=row.length)(G:1<=n):Agree row (iM n (left row r)) (rD row n r):=by
 cases t:left row r with
 |nil=>
  have b:=yH (least:=0) (most:=1) s t;show(rD row n r).2.sound=false;unfold rD;split
  ·exact kR b
  ·exact kR (kR b)
 |cons v c=>
  have q:=uh (least:=0) (most:=1) i z t;by_cases u:(0:Int)<=v/\(v:Int)<=1
  ·obtain⟨e1,e2,e3⟩:=q.1 u;have g:=gS (row:=row) (r:=r) (least:=0) (most:=1) s;have l:v=0\/v=1:=by omega
   rcases l with rfl|rfl
   ·
    have em:rD row n r=(.non (tk row (tk row r 0 1).2 0 ((n:Int)-1)).1.toNat,(tk row (tk row r 0 1).2 0 ((n:Int)-1)).2):=by
     unfold rD;exact az e1
    rw[em];cases c with
    |nil=>
     exact yH g e3
    |cons a c=>
     have h:=uh (least:=0) (most:=(n:Int)-1) i e2 e3;by_cases w:a<n
     ·obtain⟨f1,m,j⟩:=h.1 ⟨by omega,by omega⟩;have d:iM n (0::a::c)=some (.non a,c):=by
       unfold iM;exact az w
      rw[d];exact⟨by show Sym.non _=Sym.non a;rw[f1];rfl,m,j⟩
     ·have d:iM n (0::a::c)=none:=by
       unfold iM;exact ah w
      rw[d];exact h.2 (by omega)
   ·
    have A:¬(tk row r 0 1).1=0:=by rw[e1];decide
    have em:rD row n r=(.range (tk row (tk row r 0 1).2 0 255).1.toNat (tk row (tk row (tk row r 0 1).2 0 255).2 (tk row (tk row r 0 1).2 0 255).1 255).1.toNat,
     (tk row (tk row (tk row r 0 1).2 0 255).2 (tk row (tk row r 0 1).2 0 255).1 255).2):=by
     unfold rD;rw[ah A]
    rw[em];cases c with
    |nil=>exact kR (yH g e3)
    |cons lo c=>
     have h:=uh (least:=0) (most:=255) i e2 e3;by_cases B:lo<=255
     ·obtain⟨f1,m,j⟩:=h.1 ⟨by omega,by omega⟩;have o:=gS (row:=row) (r:=(tk row r 0 1).2) (least:=0) (most:=255) g;cases c with
      |nil=>exact yH o j
      |cons f c=>
       have k:=uh (least:=(tk row (tk row r 0 1).2 0 255).1) (most:=255) i m j;rw[f1]at k;by_cases p:lo<=f
       ·by_cases y:f<256
        ·obtain⟨C,D,E⟩:=k.1 ⟨by omega,by omega⟩;have d:iM n (1::lo::f::c)=some (.range lo f,c):=by
          unfold iM;show(if lo<=f then _ else _)=_;rw[az p,az y]
         rw[d];refine⟨?_,?_,?_⟩
         ·show Sym.range _ _=Sym.range lo f;rw[f1,C];rfl
         ·rw[f1];exact D
         ·rw[f1];exact E
        ·have d:iM n (1::lo::f::c)=none:=by
          unfold iM;show(if lo<=f then _ else _)=_;rw[az p,ah y]
         rw[d];show(tk row (tk row (tk row r 0 1).2 0 255).2 (tk row (tk row r 0 1).2 0 255).1 255).2.sound=false;rw[f1];exact k.2 (by omega)
       ·have d:iM n (1::lo::f::c)=none:=by
         unfold iM;show(if lo<=f then _ else _)=_;rw[ah p]
        rw[d];show(tk row (tk row (tk row r 0 1).2 0 255).2 (tk row (tk row r 0 1).2 0 255).1 255).2.sound=false;rw[f1];exact k.2 (by omega)
     ·have b:=h.2 (by omega);have d:iM n (1::lo::c)=none:=by
       unfold iM;cases c with
       |nil=>rfl
       |cons f c=>
        show(if lo<=f then(if f<256 then _ else none)else none)=none;split
        ·rw[ah (by omega)]
        ·rfl
      rw[d];exact kR b
  ·have b:=q.2 u;have d:iM n (v::c)=none:=by
    unfold iM;split
    ·rename_i e;injection e with e _;omega
    ·rename_i e;injection e with e _;omega
    ·rfl
   rw[d];show(rD row n r).2.sound=false;unfold rD;split
   ·exact kR b
   ·exact kR (kR b)
theorem GQ{row:List Int}{n:Nat}(f:∀x∈row,0<=x)(g:1<=n):∀(k:Nat) (r:RS),r.sound=true->r.place<=row.length->Agree row (readSyms n k (left row r)) (times (rD row n) k r)
 |0,r,c,d=>⟨rfl,c,rfl⟩
 |k+1,r,c,d=>by
  have b:=Ri f c d g;rw[Aj];cases e:iM n (left row r)with
  |none=>
   rw[e]at b;exact(iq (qr row n) k).bad _ b
  |some y=>
   rw[e]at b;obtain⟨h,i,j⟩:=b;have a:=GQ f g k (rD row n r).2 i ((qr row n).place r d);rw[j]at a;show Agree row ((readSyms n k y.2).map λz=>(y.1::z.1,z.2)) _;cases e2:readSyms n k y.2 with
   |none=>rw[e2]at a;exact a
   |some z=>
    rw[e2]at a;obtain⟨l,m,o⟩:=a;exact⟨by show(rD row n r).1::_=y.1::z.1;rw[h,l],m,o⟩
def jb(n:Nat)(x:List Nat):Option (Rule×List Nat):=match x with
 |a::m::r=>if a<n then(if m<=8 then(readSyms n m r).map λy=>({lhs:=a,rhs:=y.1},y.2)else none)else none
 |_=>none
theorem tN(n k:Nat)(x:List Nat):readRules n (k+1) x=(jb n x).bind λy=>(readRules n k y.2).map λz=>(y.1::z.1,z.2):=by
 unfold jb;split
 ·rename_i a m r;rw[readRules];split
  ·show(if m<=Vaglrc.SYMS then _ else _)=_;have e:(Vaglrc.SYMS:Nat)=8:=rfl;rw[e];split
   ·cases readSyms n m r<;>rfl
   ·rfl
  ·rfl
 ·rename_i h;rw[readRules]
  ·rfl
  ·intro a m r e;exact h a m r e
theorem GP{row:List Int}{n:Nat}{r:RS}(f:∀x∈row,0<=x)(s:r.sound=true)(j:r.place<=row.length)(t:1<=n):Agree row (jb n (left row r)) (pk row n r):=by
 have st:=iq (qr row n);cases k:left row r with
 |nil=>exact(st _).bad _ (kR (yH j k))
 |cons a b=>
  have q:=uh (least:=0) (most:=(n:Int)-1) f s k;by_cases g:a<n
  ·obtain⟨e1,e2,e3⟩:=q.1 ⟨by omega,by omega⟩;have c:=gS (row:=row) (r:=r) (least:=0) (most:=(n:Int)-1) j;cases b with
   |nil=>exact(st _).bad _ (yH c e3)
   |cons m b=>
    have l:=uh (least:=0) (most:=8) f e2 e3;by_cases o:m<=8
    ·obtain⟨f1,u,v⟩:=l.1 ⟨by omega,by omega⟩;have i:=gS (row:=row) (r:=(tk row r 0 ((n:Int)-1)).2) (least:=0) (most:=8) c;have h:=GQ f t m _ u i;rw[v]at h;have d:jb n (a::m::b)=(readSyms n m b).map λy=>({lhs:=a,rhs:=y.1},y.2):=by
      unfold jb;show(if a<n then _ else _)=_;rw[az g,az o]
     have em:pk row n r=({lhs:=a,rhs:=(times (rD row n) m (tk row (tk row r 0 ((n:Int)-1)).2 0 8).2).1},(times (rD row n) m (tk row (tk row r 0 ((n:Int)-1)).2 0 8).2).2):=by
      unfold pk;rw[f1,e1];rfl
     rw[d,em];cases p:readSyms n m b with
     |none=>rw[p]at h;exact h
     |some y=>
      rw[p]at h;obtain⟨w,z,A⟩:=h;exact⟨by show Rule.mk a _=Rule.mk a y.1;rw[w],z,A⟩
    ·have d:jb n (a::m::b)=none:=by
      unfold jb;show(if a<n then _ else _)=_;rw[az g,ah o]
     rw[d];exact(st _).bad _ (l.2 (by omega))
  ·have d:jb n (a::b)=none:=by
    unfold jb;split
    ·rename_i e;injection e with e _;subst e;exact ah g
    ·rfl
   rw[d];exact(st _).bad _ (kR (q.2 (by omega)))
theorem DY{row:List Int}{n:Nat}(f:∀x∈row,0<=x)(g:1<=n):∀(k:Nat) (r:RS),r.sound=true->r.place<=row.length->Agree row (readRules n k (left row r)) (times (pk row n) k r)
 |0,r,c,d=>⟨rfl,c,rfl⟩
 |k+1,r,c,d=>by
  have b:=GP f c d g;rw[tN];cases e:jb n (left row r)with
  |none=>
   rw[e]at b;exact(iq (o9 row n) k).bad _ b
  |some y=>
   rw[e]at b;obtain⟨h,i,j⟩:=b;have a:=DY f g k (pk row n r).2 i ((o9 row n).place r d);rw[j]at a;show Agree row ((readRules n k y.2).map λz=>(y.1::z.1,z.2)) _;cases e2:readRules n k y.2 with
   |none=>rw[e2]at a;exact a
   |some z=>
    rw[e2]at a;obtain⟨l,m,o⟩:=a;exact⟨by show(pk row n r).1::_=y.1::z.1;rw[h,l],m,o⟩
theorem Cp{row:List Int}{r:RS}(a:r.place<=row.length):left row r=[]↔r.place=row.length:=by
 unfold left;rw[List.map_eq_nil_iff,List.drop_eq_nil_iff];omega
theorem Nk{row:List Int}(g:∀x∈row,0<=x):uT row=readGrammar (row.map Int.toNat):=by
 have st:=λn k=>iq (o9 row n) k
 have c:∀{k:Nat} {n:Int} {r:RS},r.sound=false->(times (pk row n) k r).2.sound=false:=λ{k n r} h=>(st n k).bad r h
 have b:(pf row).2.sound=false->uT row=none:=λh=>by
  unfold uT isDone;rw[h];rfl
 have hl0:left row ⟨0,true⟩=row.map Int.toNat:=rfl;cases j:row.map Int.toNat with
 |nil=>rw[b (c (kR (yH (br _) (hl0.trans j))))];rfl
 |cons n a=>
  have q:=uh (r:=⟨0,true⟩) (least:=1) (most:=20) g rfl (hl0.trans j);by_cases i:1<=n/\n<=20
  ·obtain⟨e1,e2,e3⟩:=q.1 ⟨by omega,by omega⟩;have d:=gS (row:=row) (r:=⟨0,true⟩) (least:=1) (most:=20) (br _);cases a with
   |nil=>rw[b (c (yH d e3))];rfl
   |cons m a=>
    have o:=uh (least:=0) (most:=60) g e2 e3;have w:readGrammar (n::m::a)=if m<=60 then(match readRules n m a with
     |some (l,[])=>some {nons:=n,rules:=l}
     |_=>none)else none:=by
     unfold readGrammar;show(if 1<=n then(if n<=20 then _ else none)else none)=_;rw[az i.1,az i.2];rfl
    rw[w];by_cases p:m<=60
    ·obtain⟨f1,A,B⟩:=o.1 ⟨by omega,by omega⟩;have f:=gS (row:=row) (r:=(tk row ⟨0,true⟩ 1 20).2) (least:=0) (most:=60) d;have h:=DY g i.1 m _ A f;have s:=(st n m).place _ f;rw[B]at h;rw[az p];have em:pf row=({nons:=n,rules:=(times (pk row n) m (tk row (tk row ⟨0,true⟩ 1 20).2 0 60).2).1},(times (pk row n) m (tk row (tk row ⟨0,true⟩ 1 20).2 0 60).2).2):=by
      unfold pf;rw[f1,e1];rfl
     cases t:readRules n m a with
     |none=>
      rw[t]at h;exact b (by rw[em];exact h)
     |some y=>
      rw[t]at h;obtain⟨C,D,u⟩:=h;obtain⟨l,z⟩:=y;unfold uT isDone;rw[em];dsimp only;rw[D];cases z with
      |nil=>
       rw[az (by rw[fY];exact aF ((Cp s).mp u))];show some (Grammar.mk n _)=some (Grammar.mk n l);rw[C]
      |cons z E=>
       rw[ah];rw[fY];intro e;have :=(Cp s).mpr (bU e);rw[u]at this;cases this
    ·rw[ah p,b (c (o.2 (by omega)))]
  ·rw[b (c (kR (q.2 (by omega))))];cases a with
   |nil=>rfl
   |cons m a=>
    unfold readGrammar;show none=(if 1<=n then(if n<=20 then _ else none)else none);by_cases v:1<=n
    ·rw[az v,ah (by omega)]
    ·rw[ah v]
open Vaglrn (State)
def Gv(n:Nat):Sym->Prop
 |.non k=>k<n
 |.range lo a=>lo<=a/\a<256
structure k_(n:Nat)(r:Rule):Prop where
 lhs:r.lhs<n
 len:r.rhs.length<=8
 sym:∀s∈r.rhs,Gv n s
structure mr(g:Grammar):Prop where
 pos:1<=g.nons
 nons:g.nons<=20
 len:g.rules.length<=60
 rule:∀r∈g.rules,k_ g.nons r
theorem mr.lhs{g:Grammar}(h:mr g):MB g:=λr a=>(h.rule r a).lhs
theorem IH:mr Vaglrn.empty:=⟨by decide,by decide,by decide,λr h=>by cases h⟩
theorem N2{n:Nat}{x:List Nat}{y:Sym×List Nat}(h:iM n x=some y):Gv n y.1:=by
 unfold iM at h;split at h
 ·split at h
  ·cases h;assumption
  ·cases h
 ·split at h
  ·split at h
   ·cases h;exact⟨by assumption,by assumption⟩
   ·cases h
  ·cases h
 ·cases h
theorem D9{n:Nat}:∀{k:Nat} {x:List Nat} {y:List Sym×List Nat},readSyms n k x=some y->y.1.length=k/\∀s∈y.1,Gv n s
 |0,x,y,h=>by
  have :y=([],x):=by unfold readSyms at h;exact(bR h).symm
  subst this;simp
 |k+1,x,y,h=>by
  rw[Aj]at h;obtain⟨z,d,f⟩:=jh.mp h;obtain⟨u,g,rfl⟩:=cy.mp f;obtain⟨a,b⟩:=D9 g;refine⟨by simp[a],λs c=>?_⟩;rcases af.mp c with e|c
  ·subst e;exact N2 d
  ·exact b s c
theorem JB{n:Nat}{x:List Nat}{y:Rule×List Nat}(h:jb n x=some y):k_ n y.1:=by
 unfold jb at h;split at h
 ·split at h
  ·split at h
   ·obtain⟨u,c,rfl⟩:=cy.mp h;obtain⟨a,b⟩:=D9 c;exact⟨by assumption,by rw[a];assumption,b⟩
   ·cases h
  ·cases h
 ·cases h
theorem vV{n:Nat}:∀{k:Nat} {x:List Nat} {y:List Rule×List Nat},readRules n k x=some y->y.1.length=k/\∀r∈y.1,k_ n r
 |0,x,y,h=>by
  have :y=([],x):=by unfold readRules at h;exact(bR h).symm
  subst this;simp
 |k+1,x,y,h=>by
  rw[tN]at h;obtain⟨z,d,f⟩:=jh.mp h;obtain⟨u,g,rfl⟩:=cy.mp f;obtain⟨a,b⟩:=vV g;refine⟨by simp[a],λs c=>?_⟩;rcases af.mp c with e|c
  ·subst e;exact JB d
  ·exact b s c
theorem Vg{x:List Nat}{g:Grammar}(h:readGrammar x=some g):mr g:=by
 unfold readGrammar at h;split at h
 ·split at h
  ·split at h
   ·split at h
    ·split at h
     ·rename_i l e;cases h;obtain⟨a,b⟩:=vV e;dsimp only at a b;exact⟨by assumption,by assumption,by rw[a];assumption,b⟩
     ·cases h
    ·cases h
   ·cases h
  ·cases h
 ·cases h
theorem xW{n m:Nat}{f:Nat->Nat}(a:∀k,k<n->f k<m){r:Rule}(h:k_ n r):k_ m (Vaglrn.shiftRule f r):=by
 refine⟨a _ h.lhs,by show(r.rhs.map _).length<=8;rw[aP];exact h.len,λs b=>?_⟩;obtain⟨u,c,rfl⟩:=bq.mp b;have :=h.sym u c;cases u with
 |non k=>exact a k this
 |range lo d=>exact this
theorem M8{g:Grammar}:Vaglrn.fits g=true↔g.nons<=20/\g.rules.length<=60:=by
 unfold Vaglrn.fits;rw[bI,dA,dA];rfl
theorem X7{g:Grammar}(p:1<=g.nons)(f:Vaglrn.fits g=true)(h:∀r∈g.rules,k_ g.nons r):mr g:=⟨p,(M8.mp f).1,(M8.mp f).2,h⟩
theorem Tg{g h:Grammar}(b:mr g)(c:mr h):∀r∈Vaglrn.leftRules g++Vaglrn.rightRules g h,k_ (1+g.nons+h.nons) r:=λr d=>by
 rcases bg.mp d with q|q
 ·obtain⟨u,a,rfl⟩:=bq.mp q;exact xW (λk e=>by omega) (b.rule u a)
 ·obtain⟨u,a,rfl⟩:=bq.mp q;exact xW (λk e=>by omega) (c.rule u a)
theorem JY{g h:Grammar}(c:mr g)(d:mr h):∀r∈(Vaglrn.choice g h).rules,k_ (Vaglrn.choice g h).nons r:=λr a=>by
 have p:=c.pos;have q:=d.pos;rcases af.mp a with rfl|a
 ·exact⟨by show 0<1+g.nons+h.nons;omega,by decide,λs b=>by simp at b;subst b;show 1<1+g.nons+h.nons;omega⟩
 ·rcases af.mp a with rfl|a
  ·exact⟨by show 0<1+g.nons+h.nons;omega,by show 1<=8;decide,λs b=>by simp at b;subst b;show 1+g.nons<1+g.nons+h.nons;omega⟩
  ·exact Tg c d r a
theorem JT{g h:Grammar}(b:mr g)(c:mr h):∀r∈(Vaglrn.behind g h).rules,k_ (Vaglrn.behind g h).nons r:=λr a=>by
 have p:=b.pos;have q:=c.pos;rcases af.mp a with rfl|a
 ·refine⟨by show 0<1+g.nons+h.nons;omega,by show 2<=8;decide,λs d=>?_⟩;simp at d;rcases d with rfl|rfl
  ·show 1<1+g.nons+h.nons;omega
  ·show 1+g.nons<1+g.nons+h.nons;omega
 ·exact Tg b c r a
theorem Nu{g:Grammar}(c:mr g):∀r∈(Vaglrn.many g).rules,k_ (Vaglrn.many g).nons r:=λr a=>by
 have p:=c.pos;rcases af.mp a with rfl|a
 ·exact⟨by show 0<1+g.nons;omega,by show 0<=8;decide,λs b=>by simp at b⟩
 ·rcases af.mp a with rfl|a
  ·refine⟨by show 0<1+g.nons;omega,by show 2<=8;decide,λs b=>?_⟩;simp at b;rcases b with rfl|rfl
   ·show 0<1+g.nons;omega
   ·show 1<1+g.nons;omega
  ·obtain⟨u,d,rfl⟩:=bq.mp a;exact xW (λk e=>by show k+1<1+g.nons;omega) (c.rule u d)
theorem k_.mono{n m:Nat}{r:Rule}(h:k_ n r)(q:n<=m):k_ m r:=⟨bB h.lhs q,h.len,λs a=>by
 have :=h.sym s a;cases s with
 |non k=>exact bB this q
 |range lo b=>exact this⟩
theorem RO{g h:Grammar}{a:Nat}(e:mr g)(c:mr h)(i:a<g.nons):∀r∈(Vaglrn.putIn g h a).rules,k_ (Vaglrn.putIn g h a).nons r:=λr b=>by
 have q:=c.pos;rcases bg.mp b with b|b
 ·exact(e.rule r (cK.mp b).1).mono (by show g.nons<=g.nons+h.nons;omega)
 ·rcases af.mp b with rfl|b
  ·exact⟨by show a<g.nons+h.nons;omega,by show 1<=8;decide,λs d=>by simp at d;subst d;show g.nons<g.nons+h.nons;omega⟩
  ·obtain⟨u,f,rfl⟩:=bq.mp b;exact xW (λk j=>by show k+g.nons<g.nons+h.nons;omega) (c.rule u f)
theorem GA{g:Grammar}(a:mr g):mr (Vaglrn.turned g):=by
 refine⟨a.pos,a.nons,by show(g.rules.map _).length<=60;rw[aP];exact a.len,λr b=>?_⟩;obtain⟨u,c,rfl⟩:=bq.mp b;have h:=a.rule u c;exact⟨h.lhs,by show u.rhs.reverse.length<=8;rw[List.length_reverse];exact h.len,λs d=>h.sym s (List.mem_reverse.mp d)⟩
theorem LZ{n:Nat}{p:List Nat}(h:Vaglrn.isOrder n p=true):p.length=n/\∀k,k<n->p.getD k k<n:=by
 unfold Vaglrn.isOrder at h;simp only[bI]at h;have f:p.length=n:=by simpa using h.1
 refine⟨f,λk g=>?_⟩;have a:∀y∈List.range n,y∈p:=λy b=>pI.mp (fG.mp h.2.2 y b)
 have c:k<p.length:=by omega
 rw[bC,aB c,kb];refine Nat.lt_of_not_le λq=>?_
 have d:=vw (s:=p[k]::List.range n) (l:=p) (aT.mpr ⟨λm=>by have :=bS.mp m;omega,List.nodup_range⟩) λy b=>by
  rcases af.mp b with e|b
  ·subst e;exact j3 c
  ·exact a y b
 simp at d;omega
theorem DP{g:Grammar}{p:List Nat}(a:mr g)(h:Vaglrn.isOrder g.nons p=true):mr (Vaglrn.renamed g p):=by
 refine⟨a.pos,a.nons,by show(g.rules.map _).length<=60;rw[aP];exact a.len,λr b=>?_⟩;obtain⟨u,c,rfl⟩:=bq.mp b;exact xW (LZ h).2 (a.rule u c)
theorem DB{g:Grammar}(a:mr g)(r:Nat):mr (Vaglrn.without g r):=
 ⟨a.pos,a.nons,bh (List.length_eraseIdx_le ..) a.len,λq b=>a.rule q (List.mem_of_mem_eraseIdx b)⟩
structure Ok(s:State):Prop where
 left:mr s.left
 right:mr s.right
 past:∀g∈s.past,mr g
 len:s.past.length<=16
theorem S3:Ok Vaglrn.start:=⟨IH,IH,λg h=>(by cases h),by decide⟩
theorem QM{s:State}(h:Ok s){g:Grammar}(a:mr g){r:Grammar}(b:mr r):Ok {s with left:=g,right:=r,past:=(s.left::s.past).take Vaglrn.PAST}:=by
 refine⟨a,b,λq c=>?_,by show((s.left::s.past).take 16).length<=16;rw[cq];omega⟩;rcases af.mp (gC c)with e|e
 ·subst e;exact h.left
 ·exact h.past q e
theorem sj{s:State}(h:Ok s){g:Grammar}(p:1<=g.nons)(a:∀r∈g.rules,k_ g.nons r):Ok (Vaglrn.hold s g).1:=by
 unfold Vaglrn.hold;split
 ·rename_i f;exact QM h (X7 p f a) h.right
 ·exact h
theorem M9{n:Nat}{x:List Nat}{r:Rule}(h:Vaglrn.readRule n x=some r):k_ n r:=by
 unfold Vaglrn.readRule at h;split at h
 ·rename_i e;cases h;exact(vV e).2 r (by simp)
 ·cases h
theorem WU{s:State}(h:Ok s)(c:Vaglrn.Call):Ok (Vaglrn.step s c).1:=by
 cases c with
 |load k x=>
  show Ok (Vaglrn.loading s k x).1;unfold Vaglrn.loading;split
  ·exact h
  ·split
   ·exact h
   ·rename_i g e;have b:=Vg e;split
    ·exact sj h b.pos b.rule
    ·split
     ·exact⟨h.left,b,h.past,h.len⟩
     ·exact h
 |held k=>exact h
 |choice=>exact sj h (by show 1<=1+_+_;omega) (JY h.left h.right)
 |behind=>exact sj h (by show 1<=1+_+_;omega) (JT h.left h.right)
 |many=>exact sj h (by show 1<=1+_;omega) (Nu h.left)
 |put a=>
  show Ok (if a<0 then _ else _:State×Vaglrn.Answer).1;split
  ·exact h
  ·split
   ·exact h
   ·exact sj h (by have :=h.left.pos;show 1<=s.left.nons+_;omega) (RO h.left h.right (by omega))
 |turn=>exact sj h (GA h.left).pos (GA h.left).rule
 |rename p=>
  show Ok (if Vaglrn.negative p then _ else _:State×Vaglrn.Answer).1;split
  ·exact h
  ·split
   ·rename_i q;exact sj h (DP h.left q).pos (DP h.left q).rule
   ·exact h
 |drop r=>
  show Ok (Vaglrn.dropping s r).1;unfold Vaglrn.dropping;split
  ·exact h
  ·split
   ·exact h
   ·exact sj h (DB h.left _).pos (DB h.left _).rule
 |add x=>
  show Ok (Vaglrn.adding s x).1;unfold Vaglrn.adding;split
  ·exact h
  ·split
   ·exact h
   ·rename_i r e;refine sj h h.left.pos λq d=>?_
    rcases bg.mp d with z|z
    ·exact h.left.rule q z
    ·simp at z;subst z;exact M9 e
 |undo=>
  show Ok (match s.past with |[]=>_|g::l=>_:State×Vaglrn.Answer).1;cases e:s.past with
  |nil=>exact h
  |cons g l=>
   have f:=h.past;have i:=h.len;rw[e]at f i;exact⟨f g (by simp),h.right,λq d=>f q (by simp[d]),by simp at i;show l.length<=16;omega⟩
 |swap=>exact QM h h.right h.left
 |reads k x=>exact h
 |changed=>exact h
 |within m=>exact h
 |same m=>exact h
 |sentence r m=>exact h
 |cover m=>exact h
theorem ja{d e:Type}{f:d->List e}{c:Nat}:∀{l:List d},(∀a∈l,(f a).length<=c)->(l.flatMap f).length<=l.length*c
 |[],_=>by simp
 |a::l,h=>by
  rw[cb,ay,aG,Nat.add_mul];have i:=h a (by simp);have j:=ja (l:=l) λb g=>h b (by simp[g])
  omega
theorem LA{g:Grammar}(h:mr g):(Vaglrc.flatGrammar g).length<=1562:=by
 have a:∀r∈g.rules,(Vaglrc.flatRule r).length<=26:=λr a=>by
  have :=ja (f:=Vaglrc.flatSym) (c:=3) (l:=r.rhs) λs _=>by cases s<;>simp[Vaglrc.flatSym]
  have d:=(h.rule r a).len;show(r.rhs.flatMap Vaglrc.flatSym).length+1+1<=26;omega
 have :=ja a;have b:=h.len;show(g.rules.flatMap Vaglrc.flatRule).length+1+1<=1562;have :g.rules.length*26<=60*26:=gF _ b;omega
end Gp
namespace Gp
open PyFlat (call calls played row rows told)
open PyVaglrn (shape whole)
theorem Su(c:List (List Int)):whole c=c:=by
 rcases c with _|⟨_|⟨n|n,_|⟨x,_|⟨y,_|⟨z,r⟩⟩⟩⟩,_|⟨a,_|⟨b,t⟩⟩⟩<;>first|rfl|((iterate 18 (first|rfl|rcases n with _|n;rfl));rfl)
theorem Js(a:List (List (List Int))):a.map whole=a:=by
 have :whole=id:=funext Su;rw[this,List.map_id]
theorem Of{f:Nat}{l:List Int}{b:List (List (List Int))}(d:l≠[])(h:calls shape f l=some b):
 ∃g c t a,call shape l=some (c,t)/\calls shape g t=some a/\b=c::a:=by
 cases l with
 |nil=>exact absurd rfl d
 |cons p r=>
  cases f with
  |zero=>simp[calls]at h
  |succ f=>
   rw[calls]at h;split at h
   ·cases h
   ·rename_i c t e;split at h
    ·cases h
    ·rename_i a e2;cases h;exact⟨f,c,t,a,e,e2,rfl⟩
theorem QW{f:Nat}{a:List (List (List Int))}(h:calls shape f []=some a):a=[]:=by
 cases f<;>(unfold calls at h;cases h;rfl)
theorem vC{p:Int}{r:List Int}{c:List (List Int)}{t:List Int}(h:call shape (p::r)=some (c,t)):
 ∃n k a,shape p=some (n,k)/\n<=r.length/\rows k (r.drop n)=some (a,t)/\c=(p::r.take n)::a:=by
 rw[call]at h;split at h
 ·cases h
 ·rename_i n k e;split at h
  ·cases h
  ·split at h
   ·cases h
   ·rename_i b _ a d e2;cases h;exact⟨n,k,a,e,by omega,e2,rfl⟩
theorem zw{r t:List Int}{a:List (List Int)}(h:rows 0 r=some (a,t)):a=[]/\t=r:=by
 unfold rows at h;cases h;exact⟨rfl,rfl⟩
theorem VF{r x t:List Int}(h:row r=some (x,t)):∃m q,r=m::q/\0<=m/\m.toNat<=q.length/\x=q.take m.toNat/\t=q.drop m.toNat:=by
 cases r with
 |nil=>simp[row]at h
 |cons m q=>
  rw[row]at h;split at h
  ·rename_i e;cases h;exact⟨m,q,rfl,e.1,e.2,rfl,rfl⟩
  ·cases h
theorem Lh{r t:List Int}{a:List (List Int)}(h:rows 1 r=some (a,t)):∃m q,r=m::q/\0<=m/\m.toNat<=q.length/\a=[q.take m.toNat]/\t=q.drop m.toNat:=by
 rw[rows]at h;split at h
 ·cases h
 ·rename_i x s e;split at h
  ·cases h
  ·rename_i b j e2;obtain⟨rfl,rfl⟩:=zw e2;cases h;obtain⟨m,q,c,d,f,g,i⟩:=VF e;exact⟨m,q,c,d,f,by rw[g],i⟩
theorem Md{p:Int}{n k:Nat}(h:shape p=some (n,k)):0<=p/\p<=17:=by
 refine ft λq=>?_
 have e:shape p=none:=by
  unfold shape
  repeat rw[ah (by omega)]
 rw[e]at h;cases h
theorem Qp{p:Int}{r t:List Int}{c:List (List Int)}(s:shape p=some (0,0))(h:call shape (p::r)=some (c,t)):c=[[p]]/\t=r:=by
 obtain⟨n,k,b,e,d,a,rfl⟩:=vC h;rw[s]at e;cases e;obtain⟨rfl,rfl⟩:=zw a;exact⟨rfl,rfl⟩
theorem M7{p:Int}{r t:List Int}{c:List (List Int)}(s:shape p=some (1,0))(h:call shape (p::r)=some (c,t)):∃a,r=a::t/\c=[[p,a]]:=by
 obtain⟨n,k,f,e,b,d,rfl⟩:=vC h;rw[s]at e;cases e;obtain⟨rfl,rfl⟩:=zw d;cases r with
 |nil=>simp at b
 |cons a r=>exact⟨a,rfl,rfl⟩
theorem Zg{p:Int}{r t:List Int}{c:List (List Int)}(s:shape p=some (2,0))(h:call shape (p::r)=some (c,t)):∃a b,r=a::b::t/\c=[[p,a,b]]:=by
 obtain⟨n,k,g,e,d,f,rfl⟩:=vC h;rw[s]at e;cases e;obtain⟨rfl,rfl⟩:=zw f
 match r,d with
 |a::b::r,_=>exact⟨a,b,rfl,rfl⟩
theorem W6{p:Int}{r t:List Int}{c:List (List Int)}(s:shape p=some (0,1))(h:call shape (p::r)=some (c,t)):
 ∃m q,r=m::q/\0<=m/\m.toNat<=q.length/\c=[[p],q.take m.toNat]/\t=q.drop m.toNat:=by
 obtain⟨n,k,j,e,l,a,rfl⟩:=vC h;rw[s]at e;cases e;obtain⟨m,q,b,d,f,g,i⟩:=Lh a;exact⟨m,q,b,d,f,by rw[g];rfl,i⟩
theorem W2{p:Int}{r t:List Int}{c:List (List Int)}(s:shape p=some (1,1))(h:call shape (p::r)=some (c,t)):
 ∃a m q,r=a::m::q/\0<=m/\m.toNat<=q.length/\c=[[p,a],q.take m.toNat]/\t=q.drop m.toNat:=by
 obtain⟨n,k,u,e,d,f,rfl⟩:=vC h;rw[s]at e;cases e;cases r with
 |nil=>simp at d
 |cons a r=>
  obtain⟨m,q,g,i,j,l,o⟩:=Lh f;have b:r=m::q:=g;exact⟨a,m,q,by rw[b],i,j,by rw[l];rfl,o⟩
theorem RD(a:List Int)(l:List (List Int)):told (a::l)=(a.length:Int)::(a++told l):=by
 unfold told;rw[cb];rfl
theorem Mp{S:Type}(step:S->List (List Int)->S×List Int)(s:S)(c:List (List Int))(r:List (List (List Int))):played step s (c::r)=(step s c).2::played step (step s c).1 r:=rfl
theorem O_{l:List Int}{a:List (List (List Int))}(h:calls shape l.length l=some a):PyVaglrn.answers l=told (played VaglrnNeutral.step VaglrnNeutral.start a):=by
 unfold PyVaglrn.answers PyVaglrn.calls;rw[h];dsimp only;rw[Js]
theorem MN{l:List Int}(h:PyVaglrn.answers_asked l=true):∃a,calls shape l.length l=some a/\a.length<=60/\∀c∈a,VaglrnNeutral.asked1 c=true:=by
 unfold PyVaglrn.answers_asked PyVaglrn.calls at h;cases e:calls shape l.length l with
 |none=>rw[e]at h;cases h
 |some a=>
  rw[e]at h;dsimp only at h;rw[Js,bI]at h;refine⟨a,rfl,bU h.1,?_⟩;have b:=h.2;unfold VaglrnNeutral.asked at b;rw[bI]at b;exact fG.mp b.1
end Gp
namespace Gp
theorem DS{b:Type}[BEq b][LawfulBEq b]:∀{s l:List b},s.Nodup->(∀y∈s,y∈l)->l.length<=s.length->s.Perm l
 |[],l,_,_,h=>by
  have :l=[]:=d7.mp (by simpa using h);rw[this]
 |x::s,l,e,sub,h=>by
  have a:=aT.mp e;have c:x∈l:=sub x (by simp);have f:l.Perm (x::l.erase x):=List.perm_cons_erase c;have j:(l.erase x).length=l.length-1:=l_ c;have g:s.Perm (l.erase x):=DS a.2 (λy d=>by
   have i:y≠x:=λz=>a.1 (z▸d)
   exact(o4 i).mpr (sub y (by simp[d]))) (by simp at h;omega)
  exact(g.cons x).trans f.symm
theorem As:∀{a b:List Int},a.Perm b->a.Pairwise (·<=·)->b.Pairwise (·<=·)->a=b
 |[],b,p,_,_=>by rw[List.nil_perm.mp p]
 |x::a,[],p,_,_=>absurd p.symm (by simp)
 |x::a,y::b,p,f,g=>by
  have c:=d9.mp f;have d:=d9.mp g;have h:x<=y:=by
   rcases af.mp (p.symm.mem_iff.mp (aW (a:=y) (l:=b)))with e|e
   ·omega
   ·exact c.1 y e
  have i:y<=x:=by
   rcases af.mp (p.mem_iff.mp (aW (a:=x) (l:=a)))with e|e
   ·omega
   ·exact d.1 x e
  have e:x=y:=by omega
  subst e;rw[As (List.perm_cons x|>.mp p) c.2 d.2]
def pL(n:Nat):List Int:=(List.range n).map λ(k:Nat)=>(k:Int)
theorem HR(n:Nat):(pL n).Pairwise (·<=·):=by
 unfold pL;rw[List.pairwise_map];exact(hG (n:=n)).imp λh=>by omega
theorem Mx{a:List Int}(b:∀x∈a,0<=x):(a.map Int.toNat).map (λ(k:Nat)=>(k:Int))=a:=by
 rw[d4]
 conv=>rhs;rw[<-List.map_id a]
 refine bL λx c=>?_
 have :=b x c;show((x.toNat:Nat):Int)=x;omega
theorem Rw{n:Nat}{a b:List Int}(g:∀x∈a,0<=x)(q:1<=n)(p:b.Perm a)(o:b.Pairwise (·<=·)):
 Vaglrn.isOrder n (Vaglrn.toNats a)=true↔b=pL n/\a.headD 1=0:=by
 unfold Vaglrn.isOrder Vaglrn.toNats;simp only[bI];have h:((a.map Int.toNat).headD 1==0)=true↔a.headD 1=0:=by
  cases a with
  |nil=>simp
  |cons x a=>
   have :=g x (by simp);simp;omega
 rw[h];constructor
 ·rintro⟨i,d,j⟩;refine⟨?_,d⟩;have l:(a.map Int.toNat).length=n:=by simpa using i
  have sub:∀y∈List.range n,y∈a.map Int.toNat:=λy f=>pI.mp (fG.mp j y f)
  have c:(List.range n).Perm (a.map Int.toNat):=DS List.nodup_range sub (by rw[l,df];exact ak _);have m:(pL n).Perm a:=by
   have :=c.map (λ(k:Nat)=>(k:Int));rw[Mx g]at this;exact this
  exact As (p.trans m.symm) o (HR n)
 ·rintro⟨e,d⟩;subst e;have c:((pL n).map Int.toNat).Perm (a.map Int.toNat):=p.map _;have e2:(pL n).map Int.toNat=List.range n:=by
   unfold pL;rw[d4]
   conv=>rhs;rw[<-List.map_id (List.range n)]
   exact bL λk _=>rfl
  rw[e2]at c;refine⟨?_,d,?_⟩
  ·have :=c.length_eq;simp at this⊢;omega
  ·exact fG.mpr λy f=>pI.mpr (c.mem_iff.mp f)
open Vaglrc (Grammar Rule Sym Text)
open Vaglrn (State)
theorem uw(l:List Nat):(Vaglrn.toInts l).length=l.length:=aP _
theorem T3(g:Grammar)(x:Text):(Vaglrn.usedRules g x).length<=g.rules.length:=by
 unfold Vaglrn.usedRules;dsimp only;rw[aP];refine bh (dz _ _) ?_;unfold Vaglrc.numbered;rw[oK,df];omega
theorem E7(g h:Grammar):(Vaglrn.newRules g h).length<=g.rules.length:=by
 unfold Vaglrn.newRules;rw[aP];refine bh (dz _ _) ?_;unfold Vaglrc.numbered;rw[oK,df];omega
theorem J9{signs:List Nat}{a:Nat}{x:Text}(h:x∈upTo signs a):x.length<=a:=by
 unfold upTo at h;obtain⟨k,b,c⟩:=cJ.mp h;have :=(o8 c).1;have :=bS.mp b;omega
theorem yS(g:Grammar):∀(l:List Text) (done:List Nat) {m:Nat},(∀x∈l,x.length<=m)->
 (Vaglrn.coverOf g l done).length<=l.length/\∀p∈Vaglrn.coverOf g l done,p.1.length<=m/\p.2.length<=g.rules.length
 |[],done,m,_=>by simp[Vaglrn.coverOf]
 |x::l,done,m,h=>by
  unfold Vaglrn.coverOf;dsimp only;have c:∀y∈l,y.length<=m:=λy d=>h y (by simp[d])
  split
  ·obtain⟨f,a⟩:=yS g l done c;exact⟨by simp;omega,a⟩
  ·obtain⟨f,a⟩:=yS g l (Vaglrc.union ((Vaglrn.usedRules g x).filter λr=> !(Vaglrc.has r done)) done) c;refine⟨by simp;omega,λp b=>?_⟩;rcases af.mp b with e|b
   ·subst e;exact⟨h x (by simp),bh (dz _ _) (T3 g x)⟩
   ·exact a p b
theorem CM{o:Option Text}{m:Nat}(h:∀y,o=some y->y.length<=m):(Vaglrn.shownText o).length<=m+2:=by
 cases o with
 |none=>simp[Vaglrn.shownText]
 |some y=>
  have :=h y rfl;simp[Vaglrn.shownText,Vaglrn.toInts];omega
theorem JI{signs:List Nat}{a:Int}{f:List Text->Vaglrn.Answer}{B:Nat}(b:1<=B)(h:∀l,l.length<=300->(∀x∈l,x.length<=8)->(f l).length<=B):(Vaglrn.onTexts signs a f).length<=B:=by
 unfold Vaglrn.onTexts;split
 ·exact b
 ·split
  ·exact b
  ·rename_i j c;rw[Dt];split
   ·exact b
   ·rename_i l e;split at e
    ·cases e
    ·rename_i d;cases e;have g:a<=8:=by
      have :¬(8:Int)<a:=c;omega
     exact h _ (by have :¬300<(upTo signs a.toNat).length:=d;omega) λx i=>bh (J9 i) (by omega)
theorem ph(s:State)(g:Grammar):(Vaglrn.hold s g).2.length<=3:=by
 unfold Vaglrn.hold;split<;>simp
theorem O0{s:State}(i:Ok s)(c:Vaglrn.Call):(Vaglrn.step s c).2.length<=30000:=by
 have b:∀{n:Nat},n<=3->n<=30000:=λh=>by omega
 cases c with
 |load k x=>
  show(Vaglrn.loading s k x).2.length<=30000;unfold Vaglrn.loading;split
  ·simp
  ·split
   ·simp
   ·split
    ·exact b (ph ..)
    ·split<;>simp
 |held k=>
  show(match Vaglrn.side s k with |none=>[-5]|some g=>0::Vaglrn.toInts (Vaglrc.flatGrammar g):List Int).length<=30000;split
  ·simp
  ·rename_i g e;have j:mr g:=by
    unfold Vaglrn.side at e;split at e
    ·cases e;exact i.left
    ·split at e
     ·cases e;exact i.right
     ·cases e
   have :=LA j;rw[aG,uw];omega
 |choice=>exact b (ph ..)
 |behind=>exact b (ph ..)
 |many=>exact b (ph ..)
 |put a=>
  show(if a<0 then _ else _:State×Vaglrn.Answer).2.length<=30000;split
  ·simp
  ·split
   ·simp
   ·exact b (ph ..)
 |turn=>exact b (ph ..)
 |rename p=>
  show(if Vaglrn.negative p then _ else _:State×Vaglrn.Answer).2.length<=30000;split
  ·simp
  ·split
   ·exact b (ph ..)
   ·simp
 |drop r=>
  show(Vaglrn.dropping s r).2.length<=30000;unfold Vaglrn.dropping;split
  ·simp
  ·split
   ·simp
   ·exact b (ph ..)
 |add x=>
  show(Vaglrn.adding s x).2.length<=30000;unfold Vaglrn.adding;split
  ·simp
  ·split
   ·simp
   ·exact b (ph ..)
 |undo=>
  show(match s.past with |[]=>_|g::l=>_:State×Vaglrn.Answer).2.length<=30000;cases s.past<;>simp
 |swap=>show[_,_,_].length<=30000;simp
 |reads k x=>
  show(Vaglrn.readsAnswer s k x).length<=30000;unfold Vaglrn.readsAnswer;split
  ·simp
  ·split
   ·simp
   ·split<;>simp
 |changed=>
  have z:=E7 s.left s.right;have A:=E7 s.right s.left;have o:=i.left.len;have B:=i.right.len;show(0::Vaglrn.toInts ((Vaglrn.newRules s.left s.right).length::Vaglrn.newRules s.left s.right++((Vaglrn.newRules s.right s.left).length::Vaglrn.newRules s.right s.left))).length<=30000;rw[aG,uw,ay,aG,aG];omega
 |within m=>
  refine JI (by decide) λl _ d=>bh (CM (m:=8) λy e=>d y (fz e)) (by decide)
 |same m=>
  refine JI (by decide) λl _ d=>bh (CM (m:=8) λy e=>d y (fz e)) (by decide)
 |sentence r m=>
  show(if r<0 then _ else _:List Int).length<=30000;split
  ·simp
  ·split
   ·simp
   ·exact JI (by decide) λl _ d=>bh (CM (m:=8) λy e=>d y (fz e)) (by decide)
 |cover m=>
  refine JI (by decide) λl o d=>?_
  obtain⟨C,q⟩:=yS s.left l [] d;have t:=i.left.len;rw[aG,uw];unfold Vaglrn.shownCover;rw[aG];have u:=ja (f:=λp:Text×List Nat=>p.1.length::(p.1++(p.2.length::p.2))) (c:=80) (l:=Vaglrn.coverOf s.left l []) λp v=>by
   obtain⟨D,E⟩:=q p v;simp only[aG,ay];omega
  have w:(Vaglrn.coverOf s.left l []).length*80<=300*80:=gF _ (by omega);exact bh (oY (oY (bh u w) 1) 1) (by decide)
theorem UI{s:State}(a:Ok s)(c:List (List Int)):(VaglrnNeutral.step s c).2.length<=30000/\Ok (VaglrnNeutral.step s c).1:=by
 unfold VaglrnNeutral.step;split
 ·exact⟨O0 a _,WU a _⟩
 ·exact⟨by simp,a⟩
open Classical
noncomputable def bits (P:Nat->Prop):Nat->Nat
 |0=>0
 |n+1=>bits P n+if P n then 2^n else 0
theorem zk(P:Nat->Prop):∀n,bits P n<2^n
 |0=>by simp[bits]
 |n+1=>by
  have :=zk P n;rw[bits,jD];split<;>omega
theorem kv(P:Nat->Prop):∀(n m:Nat),(bits P n).testBit m=true↔m<n/\P m
 |0,m=>by simp[bits]
 |n+1,m=>by
  have a:=kv P n m;have c:=zk P n;rw[bits];by_cases h:P n
  ·rw[az h,lI];by_cases e:m=n
   ·subst e;rw[kH,gc c];simp[h]
   ·by_cases b:m<n
    ·rw[kI b,a];exact⟨λq=>⟨by omega,q.2⟩,λq=>⟨b,q.2⟩⟩
    ·have :2^n+bits P n<2^m:=by
      have d:2^(n+1)<=2^m:=kd (by omega) (by omega);rw[jD]at d;omega
     rw[gc this];exact⟨λq=>by simp at q,λq=>absurd q.1 (by omega)⟩
  ·rw[ah h,ly,a];refine⟨λq=>⟨by omega,q.2⟩,λq=>⟨?_,q.2⟩⟩;have :m≠n:=λe=>h (by rw[<-e];exact q.2)
   omega
theorem Ka{P:Nat->Prop}{n a:Nat}(h:∀m,a.testBit m=true↔m<n/\P m):a=bits P n:=by
 refine dH λm=>?_
 rw[dJ,h m,kv]
theorem OF{P Q:Nat->Prop}{n:Nat}(h:∀m,m<n->(P m↔Q m)):bits P n=bits Q n:=
 Ka λm=>by
  rw[kv];exact⟨λq=>⟨q.1,(h m q.1).mp q.2⟩,λq=>⟨q.1,(h m q.1).mpr q.2⟩⟩
theorem xy{a b m:Nat}:(a|||b).testBit m=true↔a.testBit m=true\/b.testBit m=true:=by rw[Nat.testBit_or];simp
theorem g_{a b m:Nat}:(a&&&b).testBit m=true↔a.testBit m=true/\b.testBit m=true:=by rw[oA];simp
theorem zu{a m:Nat}:(2*a).testBit m=true↔∃k,m=k+1/\a.testBit k=true:=by
 cases m with
 |zero=>simp[Nat.testBit_zero]
 |succ m=>rw[Nat.testBit_succ];simp
theorem QD{a m:Nat}:(a/2).testBit m=true↔a.testBit (m+1)=true:=by rw[Nat.testBit_succ]
theorem Kb{n m:Nat}:(2^n).testBit m=true↔m=n:=by
 rw[kP];simp;exact⟨λh=>h.symm,λh=>h.symm⟩
def iP(a b:Nat):Nat:=a-(a&&&b)
theorem VS(a b:Nat):iP a b=a^^^(a&&&b):=by
 have h:∀a b:Nat,(a^^^(a&&&b))+(a&&&b)=a:=by
  intro a
  induction a using Nat.strongRecOn with
  |_ a d=>
   intro b;by_cases f:a=0
   ·subst f;simp
   ·have e:=d (a/2) (by omega) (b/2);have g:(a^^^(a&&&b))/2=(a/2)^^^((a/2)&&&(b/2)):=by rw[Nat.xor_div_two,Nat.and_div_two]
    have i:(a&&&b)/2=(a/2)&&&(b/2):=Nat.and_div_two;have j:(a^^^(a&&&b))% 2+(a&&&b)% 2=a% 2:=by
     have c:∀n:Nat,n% 2=if n.testBit 0=true then 1 else 0:=λn=>by
      rw[Nat.testBit_zero];rcases Nat.mod_two_eq_zero_or_one n with h|h<;>simp[h]
     rw[c,c,c a,Nat.testBit_xor,oA];cases a.testBit 0<;>cases b.testBit 0<;>rfl
    omega
 have :=h a b;unfold iP;omega
theorem vd{a b m:Nat}:(iP a b).testBit m=true↔a.testBit m=true/\¬b.testBit m=true:=by
 rw[VS,Nat.testBit_xor,oA];cases a.testBit m<;>cases b.testBit m<;>simp
theorem wF{a:Nat}:a≠0↔∃m,a.testBit m=true:=by
 constructor
 ·intro h;apply byContradiction;intro q;refine h (dH λm=>?_);have :¬a.testBit m=true:=λz=>q ⟨m,z⟩
  simp at this;simp[this]
 ·rintro⟨m,h⟩ e;subst e;simp at h
def Sub(a b:Nat):Prop:=∀m,a.testBit m=true->b.testBit m=true
theorem Sub.refl(a:Nat):Sub a a:=λ_ h=>h
theorem Sub.trans{a b c:Nat}(h:Sub a b)(d:Sub b c):Sub a c:=λm q=>d m (h m q)
theorem Sub.or{a b c:Nat}(h:Sub a c)(d:Sub b c):Sub (a|||b) c:=λm q=>(xy.mp q).elim (h m) (d m)
theorem zc(a b:Nat):Sub a (a|||b):=λ_ h=>xy.mpr (.inl h)
theorem BA(a b:Nat):Sub b (a|||b):=λ_ h=>xy.mpr (.inr h)
theorem Sub.antisymm{a b:Nat}(h:Sub a b)(c:Sub b a):a=b:=dH λm=>by
 rw[dJ];exact⟨h m,c m⟩
theorem Sub.le{a b:Nat}(h:Sub a b):a<=b:=by
 have :b=a|||b:=Sub.antisymm (BA a b) (Sub.or h (Sub.refl b));rw[this];exact Nat.left_le_or
inductive pE where
 |sym (s:Sym)
 |fin (k:Nat)
def kl(q:Rule):List pE:=q.rhs.map pE.sym++[.fin q.lhs]
def cells(a:List Rule):List pE:=a.flatMap kl
def off(a:List Rule)(r:Nat):Nat:=(cells (a.take r)).length
theorem zi(a b:List Rule):cells (a++b)=cells a++cells b:=cx
theorem sX(q:Rule):(kl q).length=q.rhs.length+1:=by simp[kl]
theorem Ds{a:List Rule}{r:Nat}{q:Rule}(h:a[r]?=some q):cells a=cells (a.take r)++(kl q++cells (a.drop (r+1))):=by
 have e:a=a.take r++(q::a.drop (r+1)):=by
  obtain⟨c,b⟩:=ai.mp h;rw[<-b,ng,eL]
 have :=zi (a.take r) (q::a.drop (r+1));rw[<-e]at this;rw[this];rfl
theorem Pd{a:List Rule}{r d:Nat}{q:Rule}(h:a[r]?=some q) (b:d<=q.rhs.length):(cells a)[off a r+d]?=(kl q)[d]?:=by
 rw[Ds h,iA (by unfold off;omega)];have e:off a r+d-(cells (a.take r)).length=d:=by unfold off;omega
 rw[e,gw (by rw[sX];omega)]
theorem rk{a:List Rule}{r d:Nat}{q:Rule}{s:Sym}(h:a[r]?=some q) (b:q.rhs[d]?=some s):(cells a)[off a r+d]?=some (.sym s):=by
 have c:=(ai.mp b).1;rw[Pd h (by omega),kl,gw (by simpa using c),cf,b];rfl
theorem nX{a:List Rule}{r:Nat}{q:Rule}(h:a[r]?=some q):(cells a)[off a r+q.rhs.length]?=some (.fin q.lhs):=by
 rw[Pd h (ak _),kl,iA (by simp)];simp
theorem EY:∀{rs:List Rule} {m:Nat},m<(cells rs).length->∃r d q,rs[r]?=some q/\d<=q.rhs.length/\m=off rs r+d
 |[],m,h=>by simp[cells]at h
 |q::rs,m,h=>by
  by_cases a:m<=q.rhs.length
  ·exact⟨0,m,q,rfl,a,by simp[off,cells]⟩
  ·have e:(cells (q::rs)).length=q.rhs.length+1+(cells rs).length:=by
    show(kl q++cells rs).length=_;rw[ay,sX]
   obtain⟨r,d,b,c,f,g⟩:=EY (rs:=rs) (m:=m-(q.rhs.length+1)) (by omega);refine⟨r+1,d,b,by simpa using c,f,?_⟩;have e2:off (q::rs) (r+1)=q.rhs.length+1+off rs r:=by
    show(kl q++cells (rs.take r)).length=_;rw[ay,sX];rfl
   omega
theorem SE{a:List Rule}{m:Nat}{s:Sym}(h:(cells a)[m]?=some (.sym s)):m+1<(cells a).length:=by
 have c:=(ai.mp h).1;obtain⟨r,d,q,b,f,rfl⟩:=EY c;by_cases e:d=q.rhs.length
 ·subst e;rw[nX b]at h;cases h
 ·have :=(ai.mp (nX b)).1;omega
def SI(a:List Rule)(m:Nat):Prop:=∃r,r<a.length/\m=off a r
inductive Fact where
 |W4 (m:Nat) (p:Text)
 |Y0 (s:Sym) (p:Text)
inductive LG(a:List Rule):Fact->Prop
 |first {m:Nat}:SI a m->LG a (.W4 m [])
 |step {m:Nat} {s:Sym} {p q:Text}:(cells a)[m]?=some (.sym s)->LG a (.W4 m p)->LG a (.Y0 s q)->LG a (.W4 (m+1) (p++q))
 |Jz {lo c b:Nat}:lo<=b->b<=c->LG a (.Y0 (.range lo c) [b])
 |non {m k:Nat} {p:Text}:(cells a)[m]?=some (.fin k)->LG a (.W4 m p)->LG a (.Y0 (.non k) p)
abbrev Rc(a:List Rule)(m:Nat)(p:Text):Prop:=LG a (.W4 m p)
abbrev Ps(a:List Rule)(s:Sym)(p:Text):Prop:=LG a (.Y0 s p)
theorem Ub{a:List Rule}{r:Nat}(h:r<a.length):off a r<(cells a).length:=by
 have :=(ai.mp (nX (aB h))).1;omega
theorem Zd{b:List Rule}{f:Fact}(h:LG b f):∀m p,f=.W4 m p->m<(cells b).length:=by
 cases h with
 |first h=>rintro m p e;cases e;obtain⟨r,a,rfl⟩:=h;exact Ub a
 |step a c d=>rintro m p e;cases e;exact SE a
 |Jz a c=>rintro m p e;cases e
 |non a c=>rintro m p e;cases e
theorem LG.lt{rs:List Rule}{m:Nat}{p:Text}(h:Rc rs m p):m<(cells rs).length:=Zd h m p rfl
noncomputable def RB (rs:List Rule) (p:Text):Nat:=bits (λm=>Rc rs m p) (cells rs).length
noncomputable def SB (rs:List Rule) (p:Text):Nat:=bits (λm=>∃s,(cells rs)[m]?=some (.sym s)/\Ps rs s p) (cells rs).length
theorem nO{a:List Rule}{p:Text}{m:Nat}:(RB a p).testBit m=true↔Rc a m p:=by
 unfold RB;rw[kv];exact⟨λh=>h.2,λh=>⟨h.lt,h⟩⟩
theorem xB{a:List Rule}{p:Text}{m:Nat}:(SB a p).testBit m=true↔∃s,(cells a)[m]?=some (.sym s)/\Ps a s p:=by
 unfold SB;rw[kv];exact⟨λh=>h.2,λh=>⟨by obtain⟨s,e,_⟩:=h;exact(ai.mp e).1,h⟩⟩
end Gp
namespace Gp
open Vaglrc (Grammar Node Rule Sym Text)
theorem L0{rs:List Rule}{r:Nat}{q:Rule}(h:rs[r]?=some q):off rs (r+1)=off rs r+q.rhs.length+1:=by
 unfold off;rw[iI,h,zi,ay];show _+(kl q++[]).length=_;rw[bQ,sX];omega
theorem Ul{rs:List Rule}:∀{r a:Nat},r<=a->off rs r<=off rs a:=by
 intro r a h;unfold off;have :rs.take a=rs.take r++(rs.take a).drop r:=by
  have :=eL r (rs.take a);rw[List.take_take,c7 h]at this;exact this.symm
 rw[this,zi,ay];omega
theorem xZ{rs:List Rule}{r a d b:Nat}{q q':Rule}(h:rs[r]?=some q) (i:rs[a]?=some q') (g:d<=q.rhs.length) (f:b<=q'.rhs.length) (e:off rs r+d=off rs a+b):r=a/\d=b:=by
 have c:∀{r a d b:Nat} {q q':Rule},rs[r]?=some q->d<=q.rhs.length->off rs r+d=off rs a+b->¬r<a:=by
  intro r a d b q q' h g e lt;have j:=L0 h;have k:=Ul (rs:=rs) (show r+1<=a from lt);omega
 have j:=c (q':=q') h g e;have k:=c (q':=q) i f e.symm;have :r=a:=by omega
 subst this;exact⟨rfl,by omega⟩
def pc(x:Text)(i j:Nat):Text:=(x.drop i).take (j-i)
theorem EZ(x:Text)(i:Nat):pc x i i=[]:=by simp[pc]
theorem Fl(x:Text):pc x 0 x.length=x:=by simp[pc]
theorem Gz{x:Text}{i j:Nat}(h:i<=j)(a:j<=x.length):(pc x i j).length=j-i:=by
 unfold pc;rw[cq,fI];exact c7 (Nat.sub_le_sub_right a i)
theorem ya{x:Text}{i j k:Nat}(h:i<=j)(a:j<=k):pc x i k=pc x i j++pc x j k:=by
 unfold pc;have e:k-i=(j-i)+(k-j):=by rw[lI,Nat.sub_add_sub_cancel a h]
 rw[e,List.take_add,qa];congr 3;omega
theorem Hg{x:Text}{i k:Nat}{p q:Text}(c:i<=k)(d:k<=x.length)(e:pc x i k=p++q):p=pc x i (i+p.length)/\q=pc x (i+p.length) k/\i+p.length<=k:=by
 have f:=Gz c d;rw[e,ay]at f;have b:i+p.length<=k:=by omega
 rw[ya (show i<=i+p.length by omega) b]at e;have a:(pc x i (i+p.length)).length=p.length:=by rw[Gz (by omega) (by omega)];omega
 obtain⟨e1,e2⟩:=List.append_inj e a;exact⟨e1.symm,e2.symm,b⟩
theorem E2{x:Text}{i j b:Nat}(h:x[i]?=some b) (a:i+1<=j):pc x i j=b::pc x (i+1) j:=by
 obtain⟨c,e⟩:=ai.mp h;rw[ya (show i<=i+1 by omega) a];have :pc x i (i+1)=[b]:=by
  unfold pc;rw[fA c,e];have :i+1-i=1:=by omega
  rw[this];rfl
 rw[this];rfl
theorem X6{x:Text}{i k b:Nat}(d:i<=k)(f:k<=x.length)(e:pc x i k=[b]):x[i]?=some b/\k=i+1:=by
 have c:=Gz d f;rw[e]at c;have g:k=i+1:=by simp at c;omega
 refine⟨?_,g⟩;have a:i<x.length:=by omega
 have :=E2 (j:=k) (aB a) (by omega);rw[e]at this;injection this with h _
 rw[h];exact aB a
theorem OM{a:Type}{l:List a}{d:Nat}{s:a}(h:l[d]?=some s):l.take (d+1)=l.take d++[s]:=by
 rw[iI,h];rfl
theorem zl{a:Type}{l:List a}{d:Nat}{s:a}(h:l[d]?=some s):l.drop d=s::l.drop (d+1):=by
 obtain⟨b,c⟩:=ai.mp h;rw[fA b,c]
theorem OL{b:List Rule}{m:Nat}{s:Sym}(h:(cells b)[m]?=some (.sym s)):∃r d q,b[r]?=some q/\q.rhs[d]?=some s/\m=off b r+d:=by
 obtain⟨r,d,q,c,f,rfl⟩:=EY (ai.mp h).1;by_cases e:d=q.rhs.length
 ·subst e;rw[nX c]at h;cases h
 ·have a:d<q.rhs.length:=by omega
  have :=rk c (aB a);rw[this]at h;cases h;exact⟨r,d,q,c,aB a,rfl⟩
theorem Gm{a:List Rule}{m k:Nat}(h:(cells a)[m]?=some (.fin k)):∃r q,a[r]?=some q/\q.lhs=k/\m=off a r+q.rhs.length:=by
 obtain⟨r,d,q,b,f,rfl⟩:=EY (ai.mp h).1;by_cases e:d=q.rhs.length
 ·subst e;rw[nX b]at h;cases h;exact⟨r,q,b,rfl,rfl⟩
 ·have c:d<q.rhs.length:=by omega
  have :=rk b (aB c);rw[this]at h;cases h
section
variable{g:Grammar}{x:Text}
theorem QF{f:Fact}(h:LG g.rules f):∀i k,i<=k->k<=x.length->match f with
 |.W4 m p=>p=pc x i k->∀r d q,g.rules[r]?=some q->d<=q.rhs.length->m=off g.rules r+d->Row g x (q.rhs.take d) i k
 |.Y0 s p=>p=pc x i k->Row g x [s] i k:=by
 induction h with
 |first h=>
  intro i k j c e r d q n t z;obtain⟨A,D,rfl⟩:=h;obtain⟨e1,e2⟩:=xZ (d:=0) (aB D) n (br _) t z;subst e1 e2;have :=Gz j c;rw[<-e]at this;have :k=i:=by simp at this;omega
  subst this;exact .nil _
 |@step m s p q o u I v w=>
  intro i k j c e r d E n t z;obtain⟨A,B,J,l,C,rfl⟩:=OL o;have G:=(ai.mp C).1;obtain⟨e1,e2⟩:=xZ (d:=B+1) l n (by omega) t (by omega);subst e1;rw[l]at n;cases n;subst e2;obtain⟨e1,e2,e3⟩:=Hg j c e.symm;rw[OM C];exact qt.mpr ⟨_,v i _ (by omega) (by omega) e1 A B E l (by omega) rfl,w _ k e3 c e2⟩
 |@Jz lo j b o u=>
  intro i k y c e;obtain⟨e1,e2⟩:=X6 y c e.symm;subst e2;exact .byte e1 o u (.nil _)
 |@non m a p o u H=>
  intro i k j c e;obtain⟨r,q,l,rfl,rfl⟩:=Gm o;have :=H i k j c e r _ q l (ak _) rfl;rw[bP]at this;exact .non (bj l) this (.nil _)
theorem GL{r d:Nat}{q:Rule}{i k:Nat}(a:g.rules[r]?=some q) (b:d<=q.rhs.length) (h:Rc g.rules (off g.rules r+d) (pc x i k)) (c:i<=k) (e:k<=x.length):Row g x (q.rhs.take d) i k:=
 QF h i k c e rfl r d q a b rfl
theorem X1{s:Sym}{i k:Nat}(h:Ps g.rules s (pc x i k))(a:i<=k)(b:k<=x.length):Row g x [s] i k:=QF h i k a b rfl
theorem WV{l:List Sym}{i j:Nat}(h:Row g x l i j):i<=x.length->∀r d q p,g.rules[r]?=some q->d<=q.rhs.length->q.rhs.drop d=l->Rc g.rules (off g.rules r+d) p->Rc g.rules (off g.rules r+q.rhs.length) (p++pc x i j):=by
 induction h with
 |nil i=>
  intro _ r d q p k B e h;have :d=q.rhs.length:=by
   have :=cV List.length e;simp at this;omega
  subst this;rw[EZ,bQ];exact h
 |@byte lo E b i j G n u t H I=>
  intro f r d q p k B e h;have a:d<q.rhs.length:=by
   have :=cV List.length e;simp at this;omega
  have o:=zl (aB a);rw[e]at o;injection o with e1 e2
  have v:q.rhs[d]?=some (.range lo E):=by rw[e1];exact aB a
  have w:=LG.step (rk k v) h (.Jz u t);have C:=(ai.mp n).1;have :=I (by omega) r (d+1) q _ k a e2.symm w;rw[bN]at this;rw[E2 n (mq H).1];exact this
 |@non D i m j G y n u z A=>
  intro f r d q p k B e h;have a:d<q.rhs.length:=by
   have :=cV List.length e;simp at this;omega
  have o:=zl (aB a);rw[e]at o;injection o with e1 e2
  have v:q.rhs[d]?=some (.non D.lhs):=by rw[e1];exact aB a
  obtain⟨s,c⟩:=bZ.mp y;have t:=z f s 0 D [] c (br _) rfl (.first ⟨s,(ai.mp c).1,rfl⟩);rw[ff]at t;have w:=LG.step (rk k v) h (.non (nX c) t);have J:=(mq n).2 f;have :=A J r (d+1) q _ k a e2.symm w;rw[bN]at this;rw[ya (mq n).1 (mq u).1];exact this
theorem JA{r:Nat}{q:Rule}{i j:Nat}(a:g.rules[r]?=some q) (b:i<=x.length) (h:Row g x q.rhs i j):Rc g.rules (off g.rules r+q.rhs.length) (pc x i j):=by
 have :=WV h b r 0 q [] a (br _) rfl (.first ⟨r,(ai.mp a).1,rfl⟩)
 rwa [ff]at this
theorem Wl{r:Nat}{q:Rule}{l:List Sym}{i j:Nat}(h:Row g x l i j):i<=x.length->∀d p,g.rules[r]?=some q->l<+:q.rhs.drop d->Rc g.rules (off g.rules r+d) p->Rc g.rules (off g.rules r+(d+l.length)) (p++pc x i j):=by
 induction h with
 |nil i=>intro _ d p _ _ h;rw[EZ,bQ];exact h
 |@byte lo A b i j c k s u B C=>
  rintro f d p n ⟨t,e⟩ h;have o:q.rhs[d]?=some (.range lo A):=by
   have :=cV (·[0]?) e;simpa using this.symm
  have e2:q.rhs.drop (d+1)=c++t:=by
   have :=zl o;rw[<-e]at this;injection this with _ e3
   exact e3.symm
  have z:=(ai.mp k).1;have :=C (by omega) (d+1) _ n ⟨t,e2.symm⟩ (.step (rk n o) h (.Jz s u));rw[bN]at this;rw[E2 k (mq B).1,aG];have v:d+(c.length+1)=d+1+c.length:=by omega
  rw[v];exact this
 |@non D i m j c w k s E y=>
  rintro f d p n ⟨t,e⟩ h;have o:q.rhs[d]?=some (.non D.lhs):=by
   have :=cV (·[0]?) e;simpa using this.symm
  have e2:q.rhs.drop (d+1)=c++t:=by
   have :=zl o;rw[<-e]at this;injection this with _ e3
   exact e3.symm
  obtain⟨G,a⟩:=bZ.mp w;have u:=JA a f k;have :=y ((mq k).2 f) (d+1) _ n ⟨t,e2.symm⟩ (.step (rk n o) h (.non (nX a) u));rw[bN]at this;rw[ya (mq k).1 (mq s).1,aG];have v:d+(c.length+1)=d+1+c.length:=by omega
  rw[v];exact this
theorem P6{a i j:Nat}(d:i<=j)(e:j<=x.length):Nl g x a i j↔∃m,(cells g.rules)[m]?=some (.fin a)/\Rc g.rules m (pc x i j):=by
 constructor
 ·rintro⟨q,f,rfl,h⟩;obtain⟨r,b⟩:=bZ.mp f;exact⟨_,nX b,JA b (by omega) h⟩
 ·rintro⟨m,k,l⟩;obtain⟨r,q,c,rfl,rfl⟩:=Gm k;have :=GL c (ak _) l d e;rw[bP]at this;exact⟨q,bj c,rfl,this⟩
theorem Rq(L:MB g):Vaglrc.reads g x=true↔∃m,(cells g.rules)[m]?=some (.fin 0)/\Rc g.rules m x:=by
 rw[Sk L,P6 (br _) (ak _),Fl]
end
inductive Std(a:List Rule)(T:Text->Prop):Nat->Text->Prop
 |root {m:Nat} {x:Text}:T x->(cells a)[m]?=some (.fin 0)->Rc a m x->Std a T m x
 |back {m:Nat} {s:Sym} {p q:Text}:Std a T (m+1) (p++q)->(cells a)[m]?=some (.sym s)->Rc a m p->Ps a s q->Std a T m p
 |down {m k b:Nat} {p q:Text}:Std a T (m+1) (p++q)->(cells a)[m]?=some (.sym (.non k))->Rc a m p->(cells a)[b]?=some (.fin k)->Rc a b q->Std a T b q
theorem ES{j:List Rule}{T:Text->Prop}{m:Nat}{p:Text}:Std j T m p↔∃x,T x/\Std j (·=x) m p:=by
 constructor
 ·intro h
  induction h with
  |root g c d=>exact⟨_,g,.root rfl c d⟩
  |back _ c d e f=>obtain⟨x,a,b⟩:=f;exact⟨x,a,.back b c d e⟩
  |down _ c d e i f=>obtain⟨x,a,b⟩:=f;exact⟨x,a,.down b c d e i⟩
 ·rintro⟨x,k,h⟩
  induction h with
  |root g c d=>subst g;exact .root k c d
  |back _ c d e f=>exact .back f c d e
  |down _ c d e i f=>exact .down f c d e i
section
variable{g:Grammar}{x:Text}
theorem L9{r:Nat}{q:Rule}{i j:Nat}(w:g.rules[r]?=some q) (E:j<=x.length):∀(post pre:List Sym) (k:Nat),q.rhs=pre++post->i<=k->Row g x post k j->Rc g.rules (off g.rules r+pre.length) (pc x i k)->
 Std g.rules (·=x) (off g.rules r+q.rhs.length) (pc x i j)->Std g.rules (·=x) (off g.rules r+pre.length) (pc x i k)
 |[],pre,k,e,n,h,t,u=>by
  rw[zy]at h;subst h;have :q.rhs.length=pre.length:=by rw[e];simp
  rw[<-this];exact u
 |s::post,pre,k,e,n,h,t,u=>by
  obtain⟨y,v,z⟩:=(qt (l:=[s]) (l':=post)).mp h;have c:=mq v;have G:=mq z;have A:(cells g.rules)[off g.rules r+pre.length]?=some (.sym s):=rk w (by rw[e];simp);have d:Ps g.rules s (pc x k y):=by
   cases s with
   |range lo n=>
    obtain⟨⟨b,o,p,H⟩,B⟩:=CP.mp v;rw[zy]at B;subst B;have C:=(ai.mp o).1;rw[E2 o (ak _),EZ];exact .Jz p H
   |non a=>
    obtain⟨m,o,p⟩:=EV.mp v;rw[zy]at p;subst p;obtain⟨L,I,J⟩:=(P6 c.1 (by omega)).mp o;exact .non I J
  have f:=LG.step A t d;rw[<-ya n c.1]at f;have D:=L9 w E post (pre++[s]) y (by rw[e];simp) (by omega) z (by rw[ay,cT,<-gE];exact f) u;rw[ay,cT,<-gE,ya n c.1]at D;exact .back D A t d
theorem Rz(D:Nl g x 0 0 x.length){n:Node}(h:Reach g x n):∀r q,g.rules[r]?=some q->q.lhs=n.1->Row g x q.rhs n.2.1 n.2.2->Std g.rules (·=x) (off g.rules r+q.rhs.length) (pc x n.2.1 n.2.2):=by
 induction h with
 |root=>
  intro r q i e h;refine .root (by rw[Fl]) ?_ (JA i (br _) h);rw[nX i,e]
 |down E p G=>
  rename_i n m;intro r q i e h;obtain⟨u,v,H,pre,post,s,w,y,z⟩:=p;obtain⟨t,a⟩:=bZ.mp v;have d:=FU D E;have c:=mq w;have I:=N8 y (c.2 d.1);obtain⟨N,J,_,f⟩:=id y;have j:=mq f;have A:=mq z;have L:n.2.2<=x.length:=A.2 I;have k:Row g x u.rhs n.2.1 n.2.2:=by
   rw[s];exact qt.mpr ⟨_,w,EV.mpr ⟨_,y,z⟩⟩
  have M:=G t u a H k;have b:=Wl (r:=t) (q:=u) w d.1 0 [] a ⟨_,by rw[jJ,s]⟩ (.first ⟨t,(ai.mp a).1,rfl⟩);rw[ff,iU]at b;have p:(cells g.rules)[off g.rules t+pre.length]?=some (.sym (.non m.1)):=rk a (by rw[s];simp);have l:=JA i (c.2 d.1) h;have B:(cells g.rules)[off g.rules r+q.rhs.length]?=some (.fin m.1):=by rw[nX i,e]
  have o:=LG.step p b (.non B l);rw[<-ya c.1 j.1]at o;have C:=L9 a L post (pre++[.non m.1]) m.2.2 (by rw[s];simp) (by omega) z (by rw[ay,cT,<-gE];exact o) M;rw[ay,cT,<-gE,ya c.1 j.1]at C;exact .down C p b B l
theorem Ro{m:Nat}{p:Text}(h:Std g.rules (·=x) m p):Nl g x 0 0 x.length/\∃r d q i k j,g.rules[r]?=some q/\d<=q.rhs.length/\m=off g.rules r+d/\p=pc x i k/\i<=k/\k<=x.length/\Reach g x (q.lhs,i,j)/\Row g x (q.rhs.take d) i k/\Row g x (q.rhs.drop d) k j:=by
 induction h with
 |@root m y T v n=>
  subst T;obtain⟨r,q,b,t,rfl⟩:=Gm v;have w:=n;rw[<-Fl y]at w;have C:=GL (x:=y) b (ak _) w (br _) (ak _);refine⟨⟨q,bj b,t,by rw[bP]at C;exact C⟩,r,_,q,0,y.length,y.length,b,ak _,rfl,(Fl y).symm,br _,ak _,by rw[t];exact .root,C,by rw[ka];exact .nil _⟩
 |@back m s p q _ v n B D=>
  obtain⟨E,r,d,o,i,k,j,b,t,U,G,H,u,I,Y,J⟩:=D;obtain⟨N,f,Z,e,z,rfl⟩:=OL v;have L:=(ai.mp z).1;obtain⟨e1,e2⟩:=xZ (d:=f+1) e b (by omega) t (by omega);subst e1;rw[e]at b;cases b;subst e2;obtain⟨e1,e2,e3⟩:=Hg H u G.symm;rw[e1]at n;rw[e2]at B;refine⟨E,N,f,o,i,_,j,e,by omega,rfl,e1,by omega,by omega,I,GL e (by omega) n (by omega) (by omega),?_⟩;rw[zl z];exact(qt (l:=[s])).mpr ⟨k,X1 B e3 u,J⟩
 |@down m a m' p q _ v n B O D=>
  obtain⟨E,r,d,o,i,k,j,b,t,U,G,H,u,I,Y,J⟩:=D;obtain⟨N,f,Z,e,z,rfl⟩:=OL v;have L:=(ai.mp z).1;obtain⟨e1,e2⟩:=xZ (d:=f+1) e b (by omega) t (by omega);subst e1;rw[e]at b;cases b;subst e2;obtain⟨e1,e2,e3⟩:=Hg H u G.symm;rw[e1]at n;rw[e2]at O;obtain⟨r2,Q,M,c2,rfl⟩:=Gm B;have c:=GL M (ak _) O e3 u;refine⟨E,r2,_,Q,_,k,k,M,ak _,rfl,e2,e3,u,?_,c,by rw[ka];exact .nil _⟩;rw[bP]at c;have A:=GL (x:=x) e (show f<=o.rhs.length by omega) n (by omega) (by omega);refine .down I ⟨o,bj e,rfl,o.rhs.take f,o.rhs.drop (f+1),?_,A,⟨Q,bj M,rfl,c⟩,J⟩;have :=eL f o.rhs;rw[zl z]at this;rw[c2];exact this.symm
theorem Mh{r:Nat}:Uses g x r↔∃q p,g.rules[r]?=some q/\Std g.rules (·=x) (off g.rules r+q.rhs.length) p:=by
 constructor
 ·rintro⟨f,q,a,i,j,l,m⟩;exact⟨q,_,a,Rz f l r q a rfl m⟩
 ·rintro⟨q,p,a,h⟩;obtain⟨n,u,d,v,i,k,j,b,o,s,w,y,z,t,c,e⟩:=Ro h;obtain⟨e1,e2⟩:=xZ a b (ak _) o s;subst e1;rw[a]at b;cases b;subst e2;rw[ka,zy]at e;subst e;rw[bP]at c;exact⟨n,q,a,i,k,t,c⟩
end
end Gp
namespace Gp
open Classical
open Vaglrc (Grammar Rule Sym Text)
noncomputable def IA (a:List pE) (k:Nat):Nat:=bits (λm=>a[m]?=some (.sym (.non k))) a.length
noncomputable def uR (a:List pE) (k:Nat):Nat:=bits (λm=>a[m]?=some (.fin k)) a.length
noncomputable def SM (a:List pE) (b:Nat):Nat:=bits (λm=>∃lo c,a[m]?=some (.sym (.range lo c))/\lo<=b/\b<=c) a.length
noncomputable def CT (a:List Rule):Nat:=bits (SI a) (cells a).length
theorem OG{a:List pE}{c:pE}{m:Nat}(h:m<a.length):(a++[c])[m]?=a[m]?:=gw h
theorem OV{a:List pE}{c:pE}:(a++[c])[a.length]?=some c:=by simp
theorem Df{P:List pE->Nat->Prop}{a:List pE}{c:pE}(h:∀m,m<a.length->(P (a++[c]) m↔P a m)):
 bits (P (a++[c])) (a++[c]).length=bits (P a) a.length+if P (a++[c]) a.length then 2^a.length else 0:=by
 rw[ay,cT,bits,OF h]
theorem Ua{a n:Nat}(h:a<2^n):a+2^n=a|||2^n:=by
 refine dH λm=>?_
 rw[Nat.testBit_or,lI];by_cases e:m=n
 ·subst e;rw[kH,gc h,Nat.testBit_two_pow_self];rfl
 ·by_cases b:m<n
  ·rw[kI b,kP];have :decide (n=m)=false:=by simp;omega
   rw[this];simp
  ·have c:2^(n+1)<=2^m:=kd (by omega) (by omega);have d:2^n+a<2^m:=by rw[jD]at c;omega
   have f:a<2^m:=by omega
   rw[gc d,gc f,kP];have :decide (n=m)=false:=by simp;omega
   rw[this];rfl
theorem Gy(a:List pE)(c:pE)(k:Nat):IA (a++[c]) k=if c=.sym (.non k)then IA a k|||2^a.length else IA a k:=by
 unfold IA;rw[Df (P:=λa m=>a[m]?=some (.sym (.non k))) (λm h=>by rw[OG h])];rw[OV];by_cases e:c=.sym (.non k)
 ·rw[az e,az (by rw[e]),Ua (zk _ _)]
 ·rw[ah e,ah (λz=>e (bR z)),ly]
theorem MR(a:List pE)(c:pE)(k:Nat):uR (a++[c]) k=if c=.fin k then uR a k|||2^a.length else uR a k:=by
 unfold uR;rw[Df (P:=λa m=>a[m]?=some (.fin k)) (λm h=>by rw[OG h])];rw[OV];by_cases e:c=.fin k
 ·rw[az e,az (by rw[e]),Ua (zk _ _)]
 ·rw[ah e,ah (λz=>e (bR z)),ly]
theorem J4{a:List pE}{k m:Nat}:(IA a k).testBit m=true↔a[m]?=some (.sym (.non k)):=by
 unfold IA;rw[kv];exact⟨λh=>h.2,λh=>⟨(ai.mp h).1,h⟩⟩
theorem yw{a:List pE}{k m:Nat}:(uR a k).testBit m=true↔a[m]?=some (.fin k):=by
 unfold uR;rw[kv];exact⟨λh=>h.2,λh=>⟨(ai.mp h).1,h⟩⟩
theorem U_{c:List pE}{b m:Nat}:(SM c b).testBit m=true↔∃lo a,c[m]?=some (.sym (.range lo a))/\lo<=b/\b<=a:=by
 unfold SM;rw[kv];exact⟨λh=>h.2,λh=>⟨by obtain⟨lo,a,e,_⟩:=h;exact(ai.mp e).1,h⟩⟩
theorem La{a:List Rule}{m:Nat}:(CT a).testBit m=true↔SI a m:=by
 unfold CT;rw[kv];exact⟨λh=>h.2,λh=>⟨by obtain⟨r,b,rfl⟩:=h;exact Ub b,h⟩⟩
theorem zz{a:List Rule}{q:Rule}{r:Nat}(h:r<=a.length):off (a++[q]) r=off a r:=by
 unfold off;rw[List.take_append_of_le_length h]
theorem K8(a:List Rule):off a a.length=(cells a).length:=by unfold off;rw[bP]
theorem VM(a:List Rule)(q:Rule):CT (a++[q])=CT a|||2^(cells a).length:=by
 refine dH λm=>?_
 rw[dJ,xy,La,La,Kb];constructor
 ·rintro⟨r,h,rfl⟩;rw[ay,cT]at h;by_cases e:r=a.length
  ·subst e;exact .inr (by rw[zz (ak _),K8])
  ·exact .inl ⟨r,by omega,zz (by omega)⟩
 ·rintro(⟨r,h,rfl⟩|rfl)
  ·exact⟨r,by rw[ay];omega,(zz (by omega)).symm⟩
  ·exact⟨a.length,by simp,by rw[zz (ak _),K8]⟩
def hZ:Nat->List pE->List (Nat×Nat×Nat)
 |_,[]=>[]
 |o,.sym (.range lo b)::a=>(2^o,lo,b)::hZ (o+1) a
 |o,_::a=>hZ (o+1) a
theorem Kx:∀(a b:List pE) (o:Nat),hZ o (a++b)=hZ o a++hZ (o+a.length) b
 |[],b,o=>rfl
 |c::a,b,o=>by
  have d:=Kx a b (o+1);have e:o+1+a.length=o+(c::a).length:=by rw[aG];omega
  rw[e]at d;cases c with
  |fin k=>exact d
  |sym s=>cases s with
   |non k=>exact d
   |range lo f=>rw[iY,hZ,d];rfl
theorem Ow:∀(a:List pE) (o:Nat),(hZ o a).length<=a.length
 |[],o=>ak _
 |c::a,o=>by
  have :=Ow a (o+1);cases c with
  |fin k=>simp only[hZ,aG];omega
  |sym s=>cases s with
   |non k=>simp only[hZ,aG];omega
   |range lo b=>simp only[hZ,aG];omega
def T7(b:Nat)(t:Nat×Nat×Nat):Bool:=decide (t.2.1<=b)&&decide (b<=t.2.2)
theorem YI(b:Nat)(d:List pE):(((hZ 0 d).filter (T7 b)).map (·.1)).sum=SM d b:=by
 have f:∀(l:List pE),(((hZ 0 l.reverse).filter (T7 b)).map (·.1)).sum=SM l.reverse b:=by
  intro l
  induction l with
  |nil=>rfl
  |cons c l g=>
   rw[iC,Kx,hW,dq,List.sum_append,g];unfold SM;rw[Df (P:=λd m=>∃lo a,d[m]?=some (.sym (.range lo a))/\lo<=b/\b<=a) (λm h=>by rw[OG h])];congr 1;rw[OV,iU];cases c with
   |fin k=>rw[ah (by rintro⟨lo,a,e,_⟩;cases e)];rfl
   |sym s=>cases s with
    |non k=>rw[ah (by rintro⟨lo,a,e,_⟩;cases e)];rfl
    |range lo a=>
     rw[hZ];by_cases h:lo<=b/\b<=a
     ·rw[az ⟨lo,a,rfl,h⟩,bX (by simp[T7,h])];simp[hZ]
     ·rw[ah (by rintro⟨i,j,e,n⟩;cases e;exact h n),ck (by simp[T7];intro o;have :=λp=>h ⟨o,p⟩;omega)];simp[hZ]
 have :=f d.reverse
 rwa [List.reverse_reverse]at this
def MK(a:List Rule)(r:Nat):Nat:=off a (r+1)-1
theorem QS{a:List Rule}{r:Nat}{q:Rule}(h:a[r]?=some q):MK a r=off a r+q.rhs.length:=by unfold MK;rw[L0 h];omega
def MO(a:List Rule):List Nat:=(List.range a.length).map λr=>2^MK a r
theorem Wc(a:List Rule)(q:Rule):MO (a++[q])=MO a++[2^((cells a).length+q.rhs.length)]:=by
 unfold MO;rw[ay,cT,fi,dq];congr 1
 ·refine bL λr b=>?_
  have :=bS.mp b;unfold MK;rw[zz (by omega)]
 ·simp only[bf,iT];rw[QS (q:=q) (by simp),zz (ak _),K8]
def xo(B:Nat)(l:List (Nat×Nat))(j:Nat):Nat:=l.foldl (λj p=>if B&&&p.1=0 then j else j|||p.2) j
theorem GB{B m:Nat}:∀{l:List (Nat×Nat)} {j:Nat},(xo B l j).testBit m=true↔j.testBit m=true\/∃p∈l,B&&&p.1≠0/\p.2.testBit m=true
 |[],j=>by simp[xo]
 |p::l,j=>by
  show(xo B l (if B&&&p.1=0 then j else j|||p.2)).testBit m=true↔_;rw[GB];by_cases h:B&&&p.1=0
  ·rw[az h];constructor
   ·rintro(a|⟨q,a,b⟩)
    ·exact .inl a
    ·exact .inr ⟨q,aA _ a,b⟩
   ·rintro(a|⟨q,a,b,c⟩)
    ·exact .inl a
    ·rcases af.mp a with e|a
     ·subst e;exact absurd h b
     ·exact .inr ⟨q,a,b,c⟩
  ·rw[ah h,xy];constructor
   ·rintro((a|a)|⟨q,a,b⟩)
    ·exact .inl a
    ·exact .inr ⟨p,aW,h,a⟩
    ·exact .inr ⟨q,aA _ a,b⟩
   ·rintro(a|⟨q,a,b,c⟩)
    ·exact .inl (.inl a)
    ·rcases af.mp a with e|a
     ·subst e;exact .inl (.inr c)
     ·exact .inr ⟨q,a,b,c⟩
noncomputable def Wm (a:List Rule) (B:Nat):Nat:=bits (λm=>∃k,(cells a)[m]?=some (.sym (.non k))/\∃b,B.testBit b=true/\(cells a)[b]?=some (.fin k)) (cells a).length
noncomputable def XA (a:List Rule) (B:Nat):Nat:=bits (λm=>∃k,(cells a)[m]?=some (.fin k)/\∃b,B.testBit b=true/\(cells a)[b]?=some (.sym (.non k))) (cells a).length
theorem Ob{a:List Rule}{B m:Nat}:(Wm a B).testBit m=true↔∃k,(cells a)[m]?=some (.sym (.non k))/\∃b,B.testBit b=true/\(cells a)[b]?=some (.fin k):=by
 unfold Wm;rw[kv];exact⟨λh=>h.2,λh=>⟨by obtain⟨k,e,_⟩:=h;exact(ai.mp e).1,h⟩⟩
theorem NJ{a:List Rule}{B m:Nat}:(XA a B).testBit m=true↔∃k,(cells a)[m]?=some (.fin k)/\∃b,B.testBit b=true/\(cells a)[b]?=some (.sym (.non k)):=by
 unfold XA;rw[kv];exact⟨λh=>h.2,λh=>⟨by obtain⟨k,e,_⟩:=h;exact(ai.mp e).1,h⟩⟩
def iJ(f:Nat->Nat)(n:Nat):List Nat:=(List.range n).map f
theorem B6{f e:Nat->Nat}{n:Nat}{p:Nat×Nat}:p∈(iJ f n).zip (iJ e n)↔∃k,k<n/\p=(f k,e k):=by
 unfold iJ;rw[List.zip_map,bq];constructor
 ·rintro⟨⟨a,b⟩,h,rfl⟩;have :a=b/\a<n:=by
   rw[bZ]at h;obtain⟨i,h⟩:=h;obtain⟨d,g⟩:=fB.mp h;have c:=(ai.mp d).1;rw[df]at c;rw[cF c]at d g;cases d;cases g;exact⟨rfl,c⟩
  obtain⟨rfl,c⟩:=this;exact⟨a,c,rfl⟩
 ·rintro⟨k,j,rfl⟩;refine⟨(k,k),?_,rfl⟩;rw[bZ];exact⟨k,fB.mpr ⟨cF j,cF j⟩⟩
theorem Pj{g:Grammar}(L:MB g){m k:Nat}(h:(cells g.rules)[m]?=some (.fin k)):k<g.nons:=by
 obtain⟨r,q,a,rfl,_⟩:=Gm h;exact L q (bj a)
theorem Wb{g:Grammar}(L:MB g)(B:Nat):xo B ((iJ (uR (cells g.rules)) g.nons).zip (iJ (IA (cells g.rules)) g.nons)) 0=Wm g.rules B:=by
 refine dH λm=>?_
 rw[dJ,GB,Ob];constructor
 ·rintro(h|⟨p,i,c,d⟩)
  ·simp at h
  ·obtain⟨k,l,rfl⟩:=B6.mp i;obtain⟨e,j⟩:=wF.mp c;obtain⟨a,b⟩:=g_.mp j;exact⟨k,J4.mp d,e,a,yw.mp b⟩
 ·rintro⟨k,c,e,d,f⟩;exact .inr ⟨_,B6.mpr ⟨k,Pj L f,rfl⟩,wF.mpr ⟨e,g_.mpr ⟨d,yw.mpr f⟩⟩,J4.mpr c⟩
theorem VV{g:Grammar}(L:MB g)(B:Nat):xo B ((iJ (IA (cells g.rules)) g.nons).zip (iJ (uR (cells g.rules)) g.nons)) 0=XA g.rules B:=by
 refine dH λm=>?_
 rw[dJ,GB,NJ];constructor
 ·rintro(h|⟨p,f,c,d⟩)
  ·simp at h
  ·obtain⟨k,l,rfl⟩:=B6.mp f;obtain⟨e,i⟩:=wF.mp c;obtain⟨a,b⟩:=g_.mp i;exact⟨k,yw.mp d,e,a,J4.mp b⟩
 ·rintro⟨k,c,e,d,j⟩;exact .inr ⟨_,B6.mpr ⟨k,Pj L c,rfl⟩,wF.mpr ⟨e,g_.mpr ⟨d,J4.mpr j⟩⟩,yw.mpr c⟩
section
variable{rs:List Rule}{p:Text}{R S:Nat}
noncomputable def W5 (rs:List Rule) (p:Text) (R:Nat):Nat:=if p=[]then R else RB rs []
noncomputable def W3 (rs:List Rule) (p:Text) (S:Nat):Nat:=if p=[]then S else SB rs []
noncomputable def kG (rs:List Rule) (p:Text) (R S:Nat):Nat:=R|||2*(W5 rs p R&&&S)|||2*(R&&&W3 rs p S)
noncomputable def xa (rs:List Rule) (S a:Nat):Nat:=S|||Wm rs a
def Sound(rs:List Rule)(p:Text)(R S:Nat):Prop:=Sub R (RB rs p)/\Sub S (SB rs p)
def Based(rs:List Rule)(p:Text)(R S:Nat):Prop:=(p=[]->Sub (CT rs) R)/\(∀a b,a≠[]->b≠[]->p=a++b->Sub (2*(RB rs a&&&SB rs b)) R)/\∀b,p=[b]->Sub (SM (cells rs) b) S
theorem step_sound{a b:Text}:Sub (2*(RB rs a&&&SB rs b)) (RB rs (a++b)):=λm h=>by
 obtain⟨k,rfl,c⟩:=zu.mp h;obtain⟨d,e⟩:=g_.mp c;obtain⟨s,f,g⟩:=xB.mp e;exact nO.mpr (.step f (nO.mp d) g)
theorem MX{a b:Nat}(h:Sub a b):Sub (2*a) (2*b):=λm q=>by
 obtain⟨k,rfl,c⟩:=zu.mp q;exact zu.mpr ⟨k,rfl,h k c⟩
theorem and_mono{a b c d:Nat}(h:Sub a c)(e:Sub b d):Sub (a&&&b) (c&&&d):=λm q=>by
 obtain⟨f,g⟩:=g_.mp q;exact g_.mpr ⟨h m f,e m g⟩
theorem Qi(h:Sub R (RB rs p)):Sub (W5 rs p R) (RB rs []):=by
 unfold W5;split
 ·rename_i e;subst e;exact h
 ·exact Sub.refl _
theorem V9(h:Sub S (SB rs p)):Sub (W3 rs p S) (SB rs []):=by
 unfold W3;split
 ·rename_i e;subst e;exact h
 ·exact Sub.refl _
theorem RX(h:Sound rs p R S):Sound rs p (kG rs p R S) (xa rs S (kG rs p R S)):=by
 have d:Sub (kG rs p R S) (RB rs p):=by
  refine Sub.or (Sub.or h.1 ?_) ?_
  ·have :=(MX (and_mono (Qi h.1) h.2)).trans (step_sound (rs:=rs) (a:=[]) (b:=p))
   rwa [ff]at this
  ·have :=(MX (and_mono h.1 (V9 h.2))).trans (step_sound (rs:=rs) (a:=p) (b:=[]))
   rwa [bQ]at this
 refine⟨d,Sub.or h.2 λm q=>?_⟩;obtain⟨k,a,e,b,c⟩:=Ob.mp q;exact xB.mpr ⟨_,a,.non c (nO.mp (d e b))⟩
theorem TH(q:Sound rs p R S)(n:Based rs p R S)(e1:kG rs p R S=R)(e2:xa rs S R=S):R=RB rs p/\S=SB rs p:=by
 have v:Sub (2*(W5 rs p R&&&S)) R:=by
  have :Sub (2*(W5 rs p R&&&S)) (kG rs p R S):=(BA _ _).trans (zc _ _)
  rwa [e1]at this
 have w:Sub (2*(R&&&W3 rs p S)) R:=by
  have :Sub (2*(R&&&W3 rs p S)) (kG rs p R S):=BA _ _
  rwa [e1]at this
 have c3:Sub (Wm rs R) S:=by
  have :Sub (Wm rs R) (xa rs S R):=BA _ _
  rwa [e2]at this
 have g:∀{f:Fact},LG rs f->match f with
  |.W4 m l=>l=p->R.testBit m=true
  |.Y0 s l=>l=p->∀m,(cells rs)[m]?=some (.sym s)->S.testBit m=true:=by
  intro f h
  induction h with
  |first h=>intro e;exact n.1 e.symm _ (La.mpr h)
  |@step m s a b c d r i j=>
   intro e;by_cases t:a=[]
   ·subst t;rw[ff]at e;have x:=j e m c;refine v _ (zu.mpr ⟨m,rfl,g_.mpr ⟨?_,x⟩⟩);unfold W5;split
    ·rename_i o;exact i o.symm
    ·exact nO.mpr d
   ·by_cases u:b=[]
    ·subst u;rw[bQ]at e;refine w _ (zu.mpr ⟨m,rfl,g_.mpr ⟨i e,?_⟩⟩);unfold W3;split
     ·rename_i o;exact j o.symm m c
     ·exact xB.mpr ⟨s,c,r⟩
    ·exact n.2.1 a b t u e.symm _ (zu.mpr ⟨m,rfl,g_.mpr ⟨nO.mpr d,xB.mpr ⟨s,c,r⟩⟩⟩)
  |@Jz lo y b c d=>intro e m h;exact n.2.2 b e.symm m (U_.mpr ⟨lo,y,h,c,d⟩)
  |@non m k l c d z=>intro e A h;exact c3 _ (Ob.mpr ⟨k,h,m,z e,c⟩)
 exact⟨q.1.antisymm λm h=>g (nO.mp h) rfl,q.2.antisymm λm h=>by
  obtain⟨s,c,d⟩:=xB.mp h;exact g d rfl m c⟩
theorem Xq:RB rs p<2^(cells rs).length:=zk _ _
theorem Zq:SB rs p<2^(cells rs).length:=zk _ _
theorem SH{b:Nat}:Sub (SM (cells rs) b) (SB rs [b]):=λm h=>by
 obtain⟨lo,e,a,c,d⟩:=U_.mp h;exact xB.mpr ⟨_,a,.Jz c d⟩
theorem UM:Sub (CT rs) (RB rs []):=λm h=>nO.mpr (.first (La.mp h))
end
theorem OH{g:Grammar}{x:Text}(L:MB g):(RB g.rules x&&&uR (cells g.rules) 0≠0)↔Vaglrc.reads g x=true:=by
 rw[Rq L,wF];constructor
 ·rintro⟨m,h⟩;obtain⟨a,b⟩:=g_.mp h;exact⟨m,yw.mp b,nO.mp a⟩
 ·rintro⟨m,a,b⟩;exact⟨m,g_.mpr ⟨nO.mpr b,yw.mpr a⟩⟩
structure US where
 st:Text->Nat
 wt:List (Text×Nat)
 us:Nat
noncomputable def vL (f:Text->Nat) (p:Text) (v:Nat):Text->Nat:=λq=>if q=p then v else f q
noncomputable def eZ (p:Text) (b:Nat) (s:US):US:=if iP b (s.st p)=0 then s else⟨vL s.st p (s.st p|||iP b (s.st p)),s.wt++[(p,iP b (s.st p))],s.us|||iP b (s.st p)⟩
noncomputable def oC (a:List Rule) (p:Text) (b i:Nat):Nat:=b/2&&&RB a (p.take i)&&&SB a (p.drop i)
noncomputable def i7 (a:List Rule) (p:Text) (b i:Nat) (s:US):US:=
 if oC a p b i=0 then s else eZ (p.drop i) (XA a (oC a p b i)&&&RB a (p.drop i)) (eZ (p.take i) (oC a p b i) s)
noncomputable def j9 (a:List Rule) (p:Text) (b:Nat):Nat->US->US
 |0,s=>s
 |n+1,s=>i7 a p b n (j9 a p b n s)
theorem FW{a:List Rule}{T:Text->Prop}{m:Nat}{p:Text}(h:Std a T m p):Rc a m p:=by
 cases h with
 |root _ _ h=>exact h
 |back _ _ h _=>exact h
 |down _ _ _ _ h=>exact h
def Zp(b:List Rule)(st:Text->Nat)(p:Text)(m:Nat):Prop:=∀d s a c,m=d+1->p=a++c->(cells b)[d]?=some (.sym s)->Rc b d a->Ps b s c->
 (st a).testBit d=true/\∀k e,s=.non k->(cells b)[e]?=some (.fin k)->Rc b e c->(st c).testBit e=true
structure C9(c:List Rule)(T:Text->Prop)(a:Text->Nat->Prop)(s:US):Prop where
 sound:∀p m,(s.st p).testBit m=true->Std c T m p
 used:∀m,s.us.testBit m=true↔∃p,(s.st p).testBit m=true
 pend:∀p m,(s.st p).testBit m=true->Zp c s.st p m\/(∃b,(p,b)∈s.wt/\b.testBit m=true)\/a p m
 RI:∀p b,(p,b)∈s.wt->Sub b (s.st p)
section
variable{rs:List Rule}{T:Text->Prop}{Vq:Text->Nat->Prop}{s:US}{p:Text}{b:Nat}
theorem Zp.mono{st d:Text->Nat}{m:Nat}(h:∀q,Sub (st q) (d q))(f:Zp rs st p m):Zp rs d p m:=λe s a c e1 e2 e3 g i=>by
 obtain⟨j,l⟩:=f e s a c e1 e2 e3 g i;exact⟨h a _ j,λk n o r t=>h c _ (l k n o r t)⟩
theorem qx(q:Text):Sub (s.st q) ((eZ p b s).st q):=by
 unfold eZ;split
 ·exact Sub.refl _
 ·show Sub _ (vL s.st p _ q);unfold vL;split
  ·rename_i e;subst e;exact zc _ _
  ·exact Sub.refl _
theorem vq:Sub b ((eZ p b s).st p):=λm h=>by
 unfold eZ;split
 ·rename_i e;apply byContradiction;intro q;have :=(wF (a:=iP b (s.st p))).mpr ⟨m,vd.mpr ⟨h,q⟩⟩;exact this e
 ·show(vL s.st p _ p).testBit m=true;unfold vL;rw[az rfl,xy];by_cases q:(s.st p).testBit m=true
  ·exact .inl q
  ·exact .inr (vd.mpr ⟨h,q⟩)
theorem CV(I:C9 rs T Vq s)(i:∀m,b.testBit m=true->Std rs T m p):C9 rs T Vq (eZ p b s):=by
 have mono:=λq=>qx (s:=s) (p:=p) (b:=b) q
 by_cases e:iP b (s.st p)=0
 ·have :eZ p b s=s:=by unfold eZ;rw[az e]
  rw[this];exact I
 ·have f:eZ p b s=⟨vL s.st p (s.st p|||iP b (s.st p)),s.wt++[(p,iP b (s.st p))],s.us|||iP b (s.st p)⟩:=by unfold eZ;rw[ah e]
  have a:∀q m,((eZ p b s).st q).testBit m=true->(s.st q).testBit m=true\/(q=p/\(iP b (s.st p)).testBit m=true):=by
   intro q m h;rw[f]at h;change(vL s.st p _ q).testBit m=true at h;unfold vL at h;split at h
   ·rename_i e1;subst e1;rcases xy.mp h with h|h
    ·exact .inl h
    ·exact .inr ⟨rfl,h⟩
   ·exact .inl h
  have d:∀m,(iP b (s.st p)).testBit m=true->((eZ p b s).st p).testBit m=true:=λm h=>vq m (vd.mp h).1
  refine⟨λq m h=>?_,λm=>?_,λq m h=>?_,λq c h=>?_⟩
  ·rcases a q m h with h|⟨rfl,h⟩
   ·exact I.sound q m h
   ·exact i m (vd.mp h).1
  ·have j:(eZ p b s).us=s.us|||iP b (s.st p):=by rw[f]
   rw[j,xy,I.used];constructor
   ·rintro(⟨q,h⟩|h)
    ·exact⟨q,mono q m h⟩
    ·exact⟨p,d m h⟩
   ·rintro⟨q,h⟩;rcases a q m h with h|⟨rfl,h⟩
    ·exact .inl ⟨q,h⟩
    ·exact .inr h
  ·have g:(eZ p b s).wt=s.wt++[(p,iP b (s.st p))]:=by rw[f]
   rw[g];rcases a q m h with h|⟨rfl,h⟩
   ·rcases I.pend q m h with h|⟨c,k,l⟩|h
    ·exact .inl (h.mono mono)
    ·exact .inr (.inl ⟨c,gA _ k,l⟩)
    ·exact .inr (.inr h)
   ·exact .inr (.inl ⟨_,cP _ (aE.mpr rfl),h⟩)
  ·have g:(eZ p b s).wt=s.wt++[(p,iP b (s.st p))]:=by rw[f]
   rw[g]at h;rcases bg.mp h with h|h
   ·exact(I.RI q c h).trans (mono q)
   ·cases aE.mp h;exact λm h=>d m h
theorem Bk{i m:Nat}(e:∀m,b.testBit m=true->Std rs T m p)(h:(oC rs p b i).testBit m=true):Std rs T m (p.take i)/\Std rs T (m+1) (p.take i++p.drop i)/\Rc rs m (p.take i):=by
 unfold oC at h;obtain⟨c,f⟩:=g_.mp h;obtain⟨c,d⟩:=g_.mp c;obtain⟨s,g,j⟩:=xB.mp f;have k:=e _ (QD.mp c);have a:Std rs T (m+1) (p.take i++p.drop i):=by rw[eL];exact k
 exact⟨.back a g (nO.mp d) j,a,nO.mp d⟩
theorem MU{i m:Nat}(a:∀m,b.testBit m=true->Std rs T m p)(h:(XA rs (oC rs p b i)&&&RB rs (p.drop i)).testBit m=true):Std rs T m (p.drop i):=by
 obtain⟨c,d⟩:=g_.mp h;obtain⟨k,e,n,f,g⟩:=NJ.mp c;obtain⟨_,j,l⟩:=Bk a f;exact .down j g l e (nO.mp d)
theorem xG(i:Nat)(q:Text):Sub (s.st q) ((i7 rs p b i s).st q):=by
 unfold i7;split
 ·exact Sub.refl _
 ·exact(qx q).trans (qx q)
theorem DV(q:Text):∀n,Sub (s.st q) ((j9 rs p b n s).st q)
 |0=>Sub.refl _
 |n+1=>(DV q n).trans (xG n q)
theorem Mu{i:Nat}(I:C9 rs T Vq s)(a:∀m,b.testBit m=true->Std rs T m p):C9 rs T Vq (i7 rs p b i s):=by
 unfold i7;split
 ·exact I
 ·exact CV (CV I λm h=>(Bk a h).1) λm h=>MU a h
theorem Du(I:C9 rs T Vq s)(a:∀m,b.testBit m=true->Std rs T m p):∀n,C9 rs T Vq (j9 rs p b n s)
 |0=>I
 |n+1=>Mu (Du I a n) a
theorem OY{i a k:Nat}{d:Sym}(h:b.testBit (a+1)=true)(g:(cells rs)[a]?=some (.sym d)) (j:Rc rs a (p.take i)) (l:Ps rs d (p.drop i)):
 ((i7 rs p b i s).st (p.take i)).testBit a=true/\∀k f,d=.non k->(cells rs)[f]?=some (.fin k)->Rc rs f (p.drop i)->((i7 rs p b i s).st (p.drop i)).testBit f=true:=by
 have c:(oC rs p b i).testBit a=true:=by
  unfold oC;exact g_.mpr ⟨g_.mpr ⟨QD.mpr h,nO.mpr j⟩,xB.mpr ⟨d,g,l⟩⟩
 have e:i7 rs p b i s=eZ (p.drop i) (XA rs (oC rs p b i)&&&RB rs (p.drop i)) (eZ (p.take i) (oC rs p b i) s):=by
  unfold i7;rw[ah (wF.mpr ⟨a,c⟩)]
 rw[e];refine⟨qx _ _ (vq a c),λk f e1 e2 e3=>vq _ (g_.mpr ⟨NJ.mpr ⟨k,e2,a,c,by rw[<-e1];exact g⟩,nO.mpr e3⟩)⟩
theorem Dx:∀(n:Nat) {d:Nat} {g:Sym} {i:Nat},i<n->b.testBit (d+1)=true->(cells rs)[d]?=some (.sym g)->Rc rs d (p.take i)->Ps rs g (p.drop i)->
 ((j9 rs p b n s).st (p.take i)).testBit d=true/\∀k f,g=.non k->(cells rs)[f]?=some (.fin k)->Rc rs f (p.drop i)->((j9 rs p b n s).st (p.drop i)).testBit f=true
 |0,_,_,i,j,_,_,_,_=>absurd j (oN _)
 |n+1,d,g,i,j,h,l,m,o=>by
  by_cases e:i=n
  ·subst e;exact OY (k:=0) h l m o
  ·obtain⟨a,c⟩:=Dx n (i:=i) (by omega) h l m o;exact⟨xG n _ _ a,λk f e1 e2 e3=>xG n _ _ (c k f e1 e2 e3)⟩
theorem OW{e:List (Text×Nat)}{st:Text->Nat}{f:Nat}(I:C9 rs T (λ_ _=>False) ⟨st,e++[(p,b)],f⟩):C9 rs T (λ_ _=>False) (j9 rs p b (p.length+1) ⟨st,e,f⟩):=by
 have n:∀m,b.testBit m=true->Std rs T m p:=λm h=>I.sound p m (I.RI p b (cP _ (aE.mpr rfl)) m h)
 have o:C9 rs T (λq m=>q=p/\b.testBit m=true) ⟨st,e,f⟩:=by
  refine⟨I.sound,I.used,λq m h=>?_,λq c h=>I.RI q c (gA _ h)⟩;rcases I.pend q m h with h|⟨c,d,j⟩|h
  ·exact .inl h
  ·rcases bg.mp d with d|d
   ·exact .inr (.inl ⟨c,d,j⟩)
   ·cases aE.mp d;exact .inr (.inr ⟨rfl,j⟩)
  ·exact h.elim
 have g:=Du o n (p.length+1);refine⟨g.sound,g.used,λq m h=>?_,g.RI⟩;rcases g.pend q m h with h|h|⟨rfl,r⟩
 ·exact .inl h
 ·exact .inr (.inl h)
 ·refine .inl λw x a c e1 e2 e3 t u=>?_
  have k:q.take a.length=a:=by rw[e2];simp
  have l:q.drop a.length=c:=by rw[e2];simp
  have v:a.length<q.length+1:=by rw[e2,ay];omega
  have :=Dx (b:=b) (s:=⟨st,e,f⟩) (q.length+1) (i:=a.length) v (by rw[<-e1];exact r) e3 (by rw[k];exact t) (by rw[l];exact u);rw[k,l]at this;exact this
noncomputable def XC (rs:List Rule) (T:Text->Prop) (p:Text):Nat:=bits (λm=>Std rs T m p) (cells rs).length
noncomputable def Vb (rs:List Rule) (T:Text->Prop):Nat:=bits (λm=>∃p,Std rs T m p) (cells rs).length
theorem yz{m:Nat}:(XC rs T p).testBit m=true↔Std rs T m p:=by
 unfold XC;rw[kv];exact⟨λh=>h.2,λh=>⟨(FW h).lt,h⟩⟩
theorem NW{m:Nat}:(Vb rs T).testBit m=true↔∃p,Std rs T m p:=by
 unfold Vb;rw[kv];exact⟨λh=>h.2,λh=>⟨by obtain⟨p,h⟩:=h;exact(FW h).lt,h⟩⟩
theorem Sv{st:Text->Nat}{j:Nat}(I:C9 rs T (λ_ _=>False) ⟨st,[],j⟩)(a:∀x,T x->Sub (RB rs x&&&uR (cells rs) 0) (st x)):(∀p,st p=XC rs T p)/\j=Vb rs T:=by
 have all:∀{m:Nat} {p:Text},Std rs T m p->(st p).testBit m=true:=by
  intro m p h;have c:∀{m:Nat} {p:Text},(st p).testBit m=true->Zp rs st p m:=λh=>by
   rcases I.pend _ _ h with h|⟨b,g,_⟩|h
   ·exact h
   ·simp at g
   ·exact h.elim
  induction h with
  |root g d e=>exact a _ g _ (g_.mpr ⟨nO.mpr e,yw.mpr d⟩)
  |back _ d e f i=>exact(c i _ _ _ _ rfl rfl d e f).1
  |down _ d e f k i=>exact(c i _ _ _ _ rfl rfl d e (.non f k)).2 _ _ rfl f k
 refine⟨λp=>Ka λm=>⟨λh=>⟨(FW (I.sound p m h)).lt,I.sound p m h⟩,λh=>all h.2⟩,Ka λm=>?_⟩;rw[I.used];exact⟨λ⟨p,h⟩=>⟨(FW (I.sound p m h)).lt,p,I.sound p m h⟩,λ⟨_,p,h⟩=>⟨p,all h⟩⟩
theorem Ue{f:Text->Prop}(h:∀x,T x->f x){m:Nat}{p:Text}(q:Std rs T m p):Std rs f m p:=by
 induction q with
 |root g a c=>exact .root (h _ g) a c
 |back _ a c d e=>exact .back e a c d
 |down _ a c d i e=>exact .down e a c d i
theorem RV{d:Text->Prop}(h:∀x,T x->d x):C9 rs d (λ_ _=>False) ⟨XC rs T,[],Vb rs T⟩:=by
 refine⟨λp m q=>Ue h (yz.mp q),λm=>?_,λp m q=>.inl λn s a c e1 e2 e3 e g=>?_,λp b q=>by simp at q⟩
 ·rw[NW];exact⟨λ⟨p,q⟩=>⟨p,yz.mpr q⟩,λ⟨p,q⟩=>⟨p,yz.mp q⟩⟩
 ·subst e1 e2;have f:=yz.mp q;exact⟨yz.mpr (.back f e3 e g),λk o i j l=>yz.mpr (by subst i;exact .down f e3 e j l)⟩
def cnt(n a:Nat):Nat:=((List.range n).filter λm=>a.testBit m).length
theorem filter_le{c:Type}{p q:c->Bool}:∀{l:List c},(∀x∈l,p x=true->q x=true)->(l.filter p).length<=(l.filter q).length
 |[],_=>ak _
 |x::l,h=>by
  have e:=filter_le (l:=l) λy f=>h y (aA _ f)
  have g:=h x aW;cases a:p x with
  |true=>rw[bX a,bX (g a),aG,aG];omega
  |false=>
   rw[ck (by rw[a];simp)];have :=dz q (x::l);cases d:q x with
   |true=>rw[bX d,aG];omega
   |false=>rw[ck (by rw[d];simp)];exact e
theorem filter_lt{c:Type}{p q:c->Bool}{y:c}:∀{l:List c},(∀x∈l,p x=true->q x=true)->y∈l->p y=false->q y=true->(l.filter p).length<(l.filter q).length
 |x::l,h,a,f,g=>by
  have j:=h x aW;have m:=filter_le (l:=l) λy a=>h y (aA _ a)
  rcases af.mp a with e|a
  ·subst e;rw[ck (by rw[f];simp),bX g,aG];omega
  ·have k:=filter_lt (l:=l) (λy a=>h y (aA _ a)) a f g;cases d:p x with
   |true=>rw[bX d,bX (j d),aG,aG];omega
   |false=>
    rw[ck (by rw[d];simp)];cases i:q x with
    |true=>rw[bX i,aG];omega
    |false=>rw[ck (by rw[i];simp)];exact k
theorem Yn(n a:Nat):cnt n a<=n:=by
 unfold cnt;have :=dz (λm=>a.testBit m) (List.range n);rw[df]at this;exact this
theorem Ve{n a b:Nat}(h:Sub a b):cnt n a<=cnt n b:=filter_le λm _ q=>h m q
theorem YV{n a b m:Nat}(h:Sub a b)(c:m<n)(d:¬a.testBit m=true)(e:b.testBit m=true):cnt n a<cnt n b:=filter_lt (λm _ q=>h m q) (bS.mpr c) (by simpa using d) e
noncomputable def free (rs:List Rule) (U:List Text) (s:US):Nat:=(U.map λp=>(cells rs).length-cnt (cells rs).length (s.st p)).sum
theorem Qb{d:Type}{f g:d->Nat}{a:d}:∀{l:List d},(∀b∈l,g b<=f b)->a∈l->g a<f a->(l.map g).sum<(l.map f).sum
 |b::l,h,i,j=>by
  rw[bf,bf,ia,ia];have m:=h b aW;have n:=Ge (l:=l) λc k=>h c (aA _ k)
  rcases af.mp i with e|i
  ·subst e;omega
  ·have :=Qb (λc k=>h c (aA _ k)) i j;omega
theorem Pa{U:List Text}(d:∀m,b.testBit m=true->Std rs T m p)(f:p∈U):(eZ p b s=s)\/((eZ p b s).wt.length=s.wt.length+1/\free rs U (eZ p b s)<free rs U s):=by
 by_cases e:iP b (s.st p)=0
 ·exact .inl (by unfold eZ;rw[az e])
 ·right;have g:(eZ p b s).wt=s.wt++[(p,iP b (s.st p))]:=by unfold eZ;rw[ah e]
  refine⟨by rw[g,ay,cT],?_⟩;unfold free;obtain⟨m,h⟩:=wF.mp e;obtain⟨c,i⟩:=vd.mp h;have a:=(FW (d m c)).lt;have j:=YV (n:=(cells rs).length) (qx (s:=s) (p:=p) (b:=b) p) a i (vq m c);refine Qb (λq _=>?_) f ?_
  ·have :=Ve (n:=(cells rs).length) (qx (s:=s) (p:=p) (b:=b) q);show _-_<=_-_;omega
  ·have :=Yn (cells rs).length ((eZ p b s).st p);show _-_<_-_;omega
def uc(rs:List Rule)(U:List Text)(s:US):Prop:=s.wt.length+free rs U s<=U.length*(cells rs).length
theorem V2(rs:List Rule)(U:List Text)(s:US):free rs U s<=U.length*(cells rs).length:=zd λp _=>Nat.sub_le _ _
theorem wy{U:List Text}(a:∀m,b.testBit m=true->Std rs T m p)(c:p∈U)(h:uc rs U s):uc rs U (eZ p b s)/\2*free rs U (eZ p b s)+(eZ p b s).wt.length<=2*free rs U s+s.wt.length:=by
 unfold uc at *;rcases Pa a c with e|⟨e1,e2⟩
 ·rw[e];exact⟨h,ak _⟩
 ·rw[e1];omega
theorem KH{U:List Text}{i:Nat}(a:∀m,b.testBit m=true->Std rs T m p)(c:p.take i∈U)(d:p.drop i∈U)(h:uc rs U s):uc rs U (i7 rs p b i s)/\2*free rs U (i7 rs p b i s)+(i7 rs p b i s).wt.length<=2*free rs U s+s.wt.length:=by
 unfold i7;split
 ·exact⟨h,ak _⟩
 ·obtain⟨e,f⟩:=wy (λm h=>(Bk (i:=i) a h).1) c h;obtain⟨g,j⟩:=wy (λm h=>MU a h) d e;exact⟨g,bh j f⟩
theorem wk{U:List Text}(c:∀m,b.testBit m=true->Std rs T m p)(a:∀i,p.take i∈U/\p.drop i∈U)(h:uc rs U s):∀n,uc rs U (j9 rs p b n s)/\2*free rs U (j9 rs p b n s)+(j9 rs p b n s).wt.length<=2*free rs U s+s.wt.length
 |0=>⟨h,ak _⟩
 |n+1=>by
  obtain⟨d,e⟩:=wk c a h n;obtain⟨f,g⟩:=KH c (a n).1 (a n).2 d;exact⟨f,bh g e⟩
end
section
variable{g:Grammar}
theorem FF{T:Text->Prop}{r:Nat}(a:r<g.rules.length):(Vb g.rules T).testBit (MK g.rules r)=true↔∃x,T x/\Uses g x r:=by
 rw[NW,QS (aB a)];constructor
 ·rintro⟨p,h⟩;obtain⟨x,b,h⟩:=ES.mp h;exact⟨x,b,Mh.mpr ⟨_,p,aB a,h⟩⟩
 ·rintro⟨x,b,h⟩;obtain⟨q,p,c,h⟩:=Mh.mp h;rw[aB a]at c;cases c;exact⟨p,ES.mpr ⟨x,b,h⟩⟩
noncomputable def ig (g:Grammar) (T:Text->Prop) (x:Text):List Nat:=
 (List.range g.rules.length).filter λr=>decide (iP (Vb g.rules λy=>T y\/y=x) (Vb g.rules T)&&&2^MK g.rules r≠0)
theorem VO{a n:Nat}:a&&&2^n≠0↔a.testBit n=true:=by
 rw[wF];constructor
 ·rintro⟨m,h⟩;obtain⟨c,b⟩:=g_.mp h;rw[Kb]at b;subst b;exact c
 ·intro h;exact⟨n,g_.mpr ⟨h,Kb.mpr rfl⟩⟩
theorem CN{T:Text->Prop}{x:Text}{r:Nat}:r∈ig g T x↔Uses g x r/\¬∃y,T y/\Uses g y r:=by
 unfold ig;rw[cK,bS,dA,VO,vd];constructor
 ·rintro⟨a,b,c⟩;rw[FF a]at b c;obtain⟨y,e|rfl,d⟩:=b
  ·exact absurd ⟨y,e,d⟩ c
  ·exact⟨d,c⟩
 ·rintro⟨b,c⟩;have a:=Wj b;refine⟨a,?_⟩;rw[FF a,FF a];exact⟨⟨x,.inr rfl,b⟩,c⟩
theorem Sj(T:Text->Prop)(x:Text):EM (ig g T x):=(vz _).sublist fk
theorem TK(L:MB g){T:Text->Prop}{x:Text}{done:List Nat}(h:∀r,r∈done↔∃y,T y/\Uses g y r):ig g T x=(Vaglrn.usedRules g x).filter λr=> !(Vaglrc.has r done):=by
 refine KW (Sj T x) ((Ui g x).sublist fk) λr=>?_
 rw[CN,cK,Fu L,OU];simp only[Bool.not_eq_true',mL,h]
end
end Gp
namespace Gp
open Vaglrc (Grammar Rule Sym Text readRules)
open Vaglrn (State)
def Bd(row:List Int)(n:Int):Option Rule:=if isDone row (pk row n ⟨0,true⟩).2 then some (pk row n ⟨0,true⟩).1 else none
theorem RE{row:List Int}{n:Nat}(g:∀x∈row,0<=x)(h:1<=n):Bd row n=Vaglrn.readRule n (row.map Int.toNat):=by
 have a:=GP (r:=⟨0,true⟩) g rfl (br _) h;have hl0:left row ⟨0,true⟩=row.map Int.toNat:=rfl;have f:=(o9 row n).place ⟨0,true⟩ (br _);unfold Vaglrn.readRule;rw[tN,<-hl0];cases e:jb n (left row ⟨0,true⟩)with
 |none=>
  rw[e]at a;unfold Bd isDone;rw[show(pk row n ⟨0,true⟩).2.sound=false from a];rfl
 |some y=>
  rw[e]at a;obtain⟨i,j,d⟩:=a;obtain⟨q,c⟩:=y;show _=match(readRules n 0 c).map (λz=>(q::z.1,z.2))with |some ([r],[])=>some r|_=>none
  unfold Bd isDone;rw[j];simp only[readRules,ll,fY];cases c with
  |nil=>rw[aF ((Cp f).mp d),i];rfl
  |cons b l=>
   rw[aM (λz=>by rw[(Cp f).mpr z]at d;cases d)];rfl
structure Ou(a:List Text):Prop where
 part:∀i x,a[i]?=some x->∀j,0<j->j<x.length->x.take j∈a.take i/\x.drop j∈a.take i
 len:a.length<=300
 short:∀x∈a,x.length<=8
theorem LU{signs:List Nat}:∀{t:Text},(∀b∈t,b∈signs)->t∈level signs t.length
 |[],_=>by rw[fS,wC];simp
 |b::t,h=>by
  rw[aG,Bf];exact cJ.mpr ⟨b,h b aW,bq.mpr ⟨t,LU λc a=>h c (aA _ a),rfl⟩⟩
theorem DH(signs:List Nat):∀n,((List.range n).flatMap (level signs)).Pairwise λa b=>a.length<=b.length
 |0=>List.Pairwise.nil
 |n+1=>by
  rw[fi,cx,kD];refine⟨DH signs n,?_,λa c b d=>?_⟩
  ·simp only[cb,ef,bQ];refine List.pairwise_iff_forall_sublist.mpr λ{a b} h=>?_
   have c:=(o8 (h.subset (aW (a:=a)))).1;have d:=(o8 (h.subset (aA _ (aW (a:=b))))).1;omega
  ·simp only[cb,ef,bQ]at d;obtain⟨k,e,c⟩:=cJ.mp c;have f:=(o8 c).1;have g:=(o8 d).1;have i:=bS.mp e;omega
theorem JE{signs:List Nat}{most:Nat}(o:most<=8)(n:(upTo signs most).length<=300):Ou (upTo signs most):=by
 have d:∀x∈upTo signs most,∀b∈x,b∈signs:=λx c=>by
  obtain⟨k,_,h⟩:=cJ.mp c;exact(o8 h).2
 have g:∀{x:Text},(∀b∈x,b∈signs)->x.length<=most->x∈upTo signs most:=λh n=>cJ.mpr ⟨_,bS.mpr (by omega),LU h⟩
 refine⟨λi x c j w A=>?_,n,λx c=>bh (J9 c) o⟩;have a:=bj c;have p:=J9 a;have e:∀y:Text,(∀b∈y,b∈signs)->y.length<x.length->y∈(upTo signs most).take i:=by
  intro y q r;obtain⟨k,f⟩:=bZ.mp (g q (by omega));have :k<i:=by
   apply ft;intro z;have l:i<=k:=by omega
   rcases Nat.lt_or_eq_of_le l with h|h
   ·obtain⟨s,t⟩:=ai.mp c;obtain⟨u,v⟩:=ai.mp f;have :=lz.mp (DH signs (most+1)) i k s u h;change((upTo signs most)[i]).length<=((upTo signs most)[k]).length at this;rw[t,v]at this;omega
   ·subst h;rw[c]at f;cases f;omega
  exact bZ.mpr ⟨k,by rw[lN,az this];exact f⟩
 exact⟨e _ (λb m=>d x a b (gC m)) (by rw[cq];omega),e _ (λb m=>d x a b (List.mem_of_mem_drop m)) (by rw[fI];omega)⟩
def fZ(ks:List Text)(p:Text):List Text:=if p∈ks then ks else ks++[p]
def EL(a:List Text)(p:Text):Prop:=∀j,0<j->j<p.length->p.take j∈a/\p.drop j∈a
theorem dt{ks:List Text}{p q:Text}:q∈fZ ks p↔q∈ks\/q=p:=by
 unfold fZ;split
 ·rename_i h;exact⟨.inl,λz=>z.elim id λe=>by rw[e];exact h⟩
 ·rw[bg,aE]
theorem vM{ks:List Text}{p:Text}(h:ks.Nodup):(fZ ks p).Nodup:=by
 unfold fZ;split
 ·exact h
 ·rename_i c;rw[jV];exact⟨h,by simp,λa d b f e=>c (by rw[aE.mp f]at e;rw[<-e];exact d)⟩
theorem vN{ks:List Text}{p:Text}:(fZ ks p).length<=ks.length+1:=by
 unfold fZ;split<;>simp
def CS(a:List Text):Prop:=∀p∈a,∀i,p.take i∈a/\p.drop i∈a
theorem Ae{ks:List Text}{p:Text}(b:[]∈ks)(h:CS ks)(l:EL ks p):CS (fZ ks p):=by
 intro q a i;rcases dt.mp a with a|rfl
 ·exact⟨dt.mpr (.inl (h q a i).1),dt.mpr (.inl (h q a i).2)⟩
 ·by_cases d:i=0
  ·subst d;rw[px,jJ];exact⟨dt.mpr (.inl b),a⟩
  ·by_cases c:i<q.length
   ·exact⟨dt.mpr (.inl (l i (by omega) c).1),dt.mpr (.inl (l i (by omega) c).2)⟩
   ·rw[dM (by omega),jy (by omega)];exact⟨a,dt.mpr (.inl b)⟩
structure N3(a:List Text)(i:Nat)(ks:List Text):Prop where
 all:∀x∈a.take i,x∈ks
 none:[]∈ks
 nodup:ks.Nodup
 len:ks.length<=i+1
 closed:CS ks
theorem Cw(a:List Text):N3 a 0 [[]]:=⟨λx h=>by simp at h,by simp,by simp,by simp,λp b i=>by
 rw[aE.mp b];simp⟩
theorem we{c ks:List Text}{i:Nat}{x:Text}(o:Ou c)(h:N3 c i ks)(d:c[i]?=some x):EL ks x:=λj e f=>by
 obtain⟨a,b⟩:=o.part i x d j e f;exact⟨h.all _ a,h.all _ b⟩
theorem Dc{b ks:List Text}{i:Nat}{x:Text}(o:Ou b)(h:N3 b i ks)(c:b[i]?=some x):N3 b (i+1) (fZ ks x):=by
 refine⟨λy a=>?_,dt.mpr (.inl h.none),vM h.nodup,by have :=vN (ks:=ks) (p:=x);have :=h.len;omega,Ae h.none h.closed (we o h c)⟩;rw[iI,c]at a;rcases bg.mp a with a|a
 ·exact dt.mpr (.inl (h.all y a))
 ·simp at a;exact dt.mpr (.inr a)
theorem Kc{b:Type}{P:b->Bool}:∀{l:List b} {i:Nat} {x:b},l[i]?=some x->P x=true->(∀y∈l.take i,P y=false)->l.find? P=some x
 |a::l,0,x,h,c,_=>by simp at h;subst h;rw[hE c]
 |a::l,i+1,x,h,c,q=>by
  rw[jx (by rw[q a (by simp)];simp)];exact Kc (i:=i) (by simpa using h) c λy d=>q y (by simp[d])
theorem PQ{a:Type}{P:a->Bool}{l:List a}(h:∀y∈l,P y=false):l.find? P=none:=lV.mpr λy b=>by rw[h y b];simp
def Lc(g:Grammar)(T:Text->Prop)(done:List Nat):Prop:=∀r,r∈done↔∃y,T y/\Uses g y r
theorem Pc{g:Grammar}(L:MB g){T:Text->Prop}{x:Text}{l:List Text}{done:List Nat}(h:Lc g T done):
 ∃a,Lc g (λy=>T y\/y=x) a/\Vaglrn.coverOf g (x::l) done=(if ig g T x=[]then[]else[(x,ig g T x)])++Vaglrn.coverOf g l a:=by
 have e:=TK L (x:=x) h;have d:Lc g (λy=>T y\/y=x) (Vaglrc.union (ig g T x) done):=λr=>by
  rw[vg,CN,h];constructor
  ·rintro(⟨c,_⟩|⟨y,c,b⟩)
   ·exact⟨x,.inr rfl,c⟩
   ·exact⟨y,.inl c,b⟩
  ·rintro⟨y,f|rfl,b⟩
   ·exact .inr ⟨y,f,b⟩
   ·by_cases q:∃z,T z/\Uses g z r
    ·exact .inr q
    ·exact .inl ⟨b,q⟩
 by_cases q:ig g T x=[]
 ·refine⟨done,λr=>?_,?_⟩
  ·have :=d r;rw[q]at this;rw[<-this,vg];simp
  ·rw[az q,ff];show(if((Vaglrn.usedRules g x).filter λr=> !(Vaglrc.has r done)).isEmpty then _ else _)=_;rw[<-e,q];rfl
 ·refine⟨_,d,?_⟩;rw[ah q];show(if((Vaglrn.usedRules g x).filter λr=> !(Vaglrc.has r done)).isEmpty then _ else _)=_;rw[<-e,ah (by simpa using q)];rfl
def sg(a:List Grammar):List Nat:=Vaglrh.signsOf {nons:=1,rules:=a.flatMap (·.rules)}
theorem Sx(g:Grammar):sg [g]=Vaglrh.signsOf g:=by
 unfold sg;rw[vD,vD];have e:Vaglrd.rangesIn {nons:=1,rules:=[g].flatMap (·.rules)}=Vaglrd.rangesIn g:=by unfold Vaglrd.rangesIn;simp
 have e2:Vaglrd.cutsOf {nons:=1,rules:=[g].flatMap (·.rules)}=Vaglrd.cutsOf g:=by unfold Vaglrd.cutsOf;rw[e]
 rw[e,e2]
theorem XH(g h:Grammar):sg [g,h]=Vaglrn.jointSigns g h:=by
 unfold sg Vaglrn.jointSigns;rw[vD,vD];have e:Vaglrd.rangesIn {nons:=1,rules:=[g,h].flatMap (·.rules)}=Vaglrd.rangesIn {nons:=g.nons,rules:=g.rules++h.rules}:=by unfold Vaglrd.rangesIn;simp
 have e2:Vaglrd.cutsOf {nons:=1,rules:=[g,h].flatMap (·.rules)}=Vaglrd.cutsOf {nons:=g.nons,rules:=g.rules++h.rules}:=by unfold Vaglrd.cutsOf;rw[e]
 rw[e,e2]
def og:Sym->Option (Nat×Nat)
 |.range lo a=>some (lo,a)
 |.non _=>none
def sE(gs:List Grammar):List (Nat×Nat):=gs.flatMap λg=>g.rules.flatMap λr=>r.rhs.filterMap og
theorem VG(a:List Grammar):sE a=Vaglrd.rangesIn {nons:=1,rules:=a.flatMap (·.rules)}:=by
 unfold sE Vaglrd.rangesIn;rw[List.flatMap_assoc];refine ko λg _=>ko λr _=>?_
 congr 1
def JN(a:List (Nat×Nat)):List Int:=(a.map λp=>(p.1:Int))++a.map λp=>(p.2:Int)+1
def Xe(a:List (Nat×Nat))(z:Int):Bool:=a.any λp=>decide ((p.1:Int)<=z)&&decide (z<=(p.2:Int))
theorem GR{g:List Grammar}{f:List Int}(r:f.Pairwise (·<·))(j:∀z,z∈f↔z∈JN (sE g)):f.filter (Xe (sE g))=Vaglrn.toInts (sg g):=by
 have m:∀z∈f,0<=z:=λz i=>by
  have :=(j z).mp i;unfold JN at this;rcases bg.mp this with h|h
  ·obtain⟨p,_,rfl⟩:=bq.mp h;omega
  ·obtain⟨p,_,rfl⟩:=bq.mp h;omega
 have back:∀l:List Int,(∀z∈l,0<=z)->Vaglrn.toInts (l.map Int.toNat)=l:=by
  intro l
  induction l with
  |nil=>intro _;rfl
  |cons z l s=>
   intro h;show((z.toNat:Nat):Int)::Vaglrn.toInts (l.map Int.toNat)=_;rw[s λy k=>h y (aA _ k),Int.toNat_of_nonneg (h z aW)]
 have n:∀z∈f.filter (Xe (sE g)),0<=z:=λz i=>m z (cK.mp i).1
 rw[<-back _ n];congr 1;refine KW ?_ (Se _) λy=>?_
 ·have o:(f.filter (Xe (sE g))).Pairwise (·<·):=r.sublist fk;unfold EM;rw[List.pairwise_map];refine o.imp_of_mem λ{a b} t w u=>?_
  have :=n a t;omega
 ·unfold sg;rw[Sg,<-VG,bq];constructor
  ·rintro⟨z,i,rfl⟩;obtain⟨a,b⟩:=cK.mp i;have x:=m z a;have c:=(j z).mp a;refine⟨?_,?_⟩
   ·unfold JN at c;rcases bg.mp c with h|h
    ·obtain⟨p,d,e⟩:=bq.mp h;exact⟨p,d,.inl (by omega)⟩
    ·obtain⟨p,d,e⟩:=bq.mp h;exact⟨p,d,.inr (by omega)⟩
   ·unfold Xe at b;obtain⟨p,d,q⟩:=dP.mp b;simp only[bI,dA]at q;exact⟨p,d,by omega,by omega⟩
  ·rintro⟨⟨p,d,k⟩,⟨q,v,o,A⟩⟩;refine⟨(y:Int),cK.mpr ⟨(j _).mpr ?_,?_⟩,by simp⟩
   ·unfold JN;rcases k with rfl|rfl
    ·exact gA _ (bq.mpr ⟨p,d,rfl⟩)
    ·exact cP _ (bq.mpr ⟨p,d,by omega⟩)
   ·unfold Xe;refine dP.mpr ⟨q,v,?_⟩;simp only[bI,dA];exact⟨by omega,by omega⟩
theorem FG{gs:List Grammar}(h:∀g∈gs,mr g):(sE gs).length<=gs.length*480:=by
 unfold sE;refine ja λg a=>?_
 have c:(g.rules.flatMap λr=>r.rhs.filterMap og).length<=g.rules.length*8:=ja λr b=>bh (l8 _ _) ((h g a).rule r b).len
 have :=(h g a).len;omega
def refusal(signs:List Nat)(m:Int):Int:=if m<0\/8<m then -7 else if 300<(upTo signs m.toNat).length then -10 else 0
theorem Je(signs:List Nat)(m:Int):((m<0\/8<m)/\refusal signs m= -7)\/(¬(m<0\/8<m)/\300<(upTo signs m.toNat).length/\refusal signs m= -10)\/(¬(m<0\/8<m)/\¬300<(upTo signs m.toNat).length/\refusal signs m=0):=by
 unfold refusal;by_cases a:m<0\/8<m
 ·exact .inl ⟨a,az a⟩
 ·rw[ah a];by_cases b:300<(upTo signs m.toNat).length
  ·exact .inr (.inl ⟨a,b,az b⟩)
  ·exact .inr (.inr ⟨a,b,ah b⟩)
theorem FI(signs:List Nat)(m:Int)(f:List Text->Vaglrn.Answer):Vaglrn.onTexts signs m f=if refusal signs m<0 then[refusal signs m]else f (upTo signs m.toNat):=by
 unfold Vaglrn.onTexts;show(if m<0 then[-7]else if(8:Int)<m then[-7]else match Vaglrh.allTexts signs m.toNat 300 with |none=>[-10]|some l=>f l)=_;rw[Dt];rcases Je signs m with⟨b,e⟩|⟨b,a,e⟩|⟨b,a,e⟩
 ·have c:(if(-7:Int)<0 then[(-7:Int)]else f (upTo signs m.toNat))=[-7]:=rfl;rw[e,c];by_cases h:m<0
  ·rw[az h]
  ·rw[ah h,az (by omega)]
 ·rw[e,ah (by omega),ah (by omega),az a,az (by decide)]
 ·rw[e,ah (by omega),ah (by omega),ah a,ah (by decide)]
theorem NC{signs:List Nat}{m:Int}(h:¬refusal signs m<0):0<=m/\m<=8/\(upTo signs m.toNat).length<=300:=by
 unfold refusal at h;split at h
 ·exact absurd (by decide:(-7:Int)<0) h
 ·split at h
  ·exact absurd (by decide:(-10:Int)<0) h
  ·exact⟨by omega,by omega,by omega⟩
def NK:Sym->List Int
 |.non k=>[0,(k:Int)]
 |.range lo a=>[1,(lo:Int),(a:Int)]
theorem T4{a b:Sym}(h:NK a=NK b):a=b:=by
 cases a<;>cases b<;>simp[NK]at h
 ·rw[show _=_ from mT h]
 ·rw[show _=_ from mT h.1,show _=_ from mT h.2]
abbrev RK:=Int×List (List Int)
def xM(r:Rule):RK:=((r.lhs:Int),r.rhs.map NK)
theorem Uk{a b:Rule}(h:xM a=xM b):a=b:=by
 obtain⟨l,s⟩:=a;obtain⟨c,d⟩:=b;simp only[xM,Prod.mk.injEq]at h;have e1:l=c:=by omega
 have e2:s=d:=by
  have inj:∀{a b:List Sym},a.map NK=b.map NK->a=b:=by
   intro a
   induction a with
   |nil=>intro b h;cases b with |nil=>rfl|cons _ _=>simp at h
   |cons x a e=>
    intro b h;cases b with
    |nil=>simp at h
    |cons y b=>
     simp only[bf,kU]at h;rw[T4 h.1,e h.2]
  exact inj h.2
 rw[e1,e2]
theorem GC:∀{a b:List Sym},a.length=b.length->a.flatMap Vaglrc.flatSym=b.flatMap Vaglrc.flatSym->a=b
 |[],[],_,_=>rfl
 |x::a,y::b,d,h=>by
  rw[cb,cb]at h;have c:a.length=b.length:=by simpa using d
  cases x<;>cases y<;>simp[Vaglrc.flatSym]at h
  ·rw[h.1,GC c h.2]
  ·rw[h.1,h.2.1,GC c h.2.2]
theorem DN{a b:Rule}:(Vaglrc.flatRule a==Vaglrc.flatRule b)=true↔a=b:=by
 rw[i9];constructor
 ·intro h;obtain⟨l,s⟩:=a;obtain⟨c,d⟩:=b;simp only[Vaglrc.flatRule,kU]at h;rw[h.1,GC h.2.1 h.2.2]
 ·intro h;rw[h]
theorem MI{l:List Rule}{r:Rule}:Vaglrn.hasRule l r=true↔r∈l:=by
 unfold Vaglrn.hasRule;rw[dP];constructor
 ·rintro⟨q,a,e⟩;rw[<-DN.mp e];exact a
 ·intro h;exact⟨r,h,DN.mpr rfl⟩
theorem OI(signs:List Nat)(n:Nat):((List.range (n+1)).flatMap (level signs)).length=((List.range n).flatMap (level signs)).length+signs.length^n:=by
 rw[fi,cx,ay];simp[Iv]
theorem RF(signs:List Nat)(n:Nat):(List.range (n+1)).flatMap (level signs)=(List.range n).flatMap (level signs)++level signs n:=by
 rw[fi,cx];simp
theorem level_le{signs:List Nat}{k c:Nat}(h:k<=c)(d:(upTo signs c).length<=300):(level signs k).length<=300:=by
 have :(level signs k).Sublist (upTo signs c):=by
  unfold upTo;have f:k∈List.range (c+1):=bS.mpr (by omega);obtain⟨a,b,e⟩:=List.append_of_mem f;rw[e,cx,cb];exact(List.sublist_append_left _ _).trans (List.sublist_append_right _ _)
 exact bh this.length_le d
end Gp
namespace Gp
open L2 PyProof.Rows PySem PySem.Spec
def dS(K:Frag)(c:Str->Option Value)(x a:Str)(st:Stmt)(d:List Str):Prop:=
 ∃f b,c x=some (.ref f)/\WX K x a st f b/\Binds K b d []
def jA(K:Frag)(C:Addr)(m a:Str)(st:Stmt)(c:List Str):Prop:=
 ∃f b,Meth K C m f/\WX K m a st f b/\Binds K b c []
def wJ(K:Frag)(c:Str->Option Value)(x:Str)(C:Addr)(a:Str)(st:Stmt)(d:List Str):Prop:=
 c x=some (.ref C)/\∃f b,Mk K C f/\WX K "__init__" a st f b/\Binds K b d []
def KI(a:Str->Option Value)(x:Str)(i:Int):Prop:=∃t,a x=some (.int i t)
def dI(P:Program)(w:World)(K:Frag)(b:Str->Option Value)(a:Heap)(x:Str)(c:List Str)(k:Nat)(e:Sp):Prop:=
 ∃f d,b x=some (.ref f)/\PySem.W.keepIn K (.ref f)=true/\Binds K d c []/\sN P w K b a Ph k f d c e
def eI(P:Program)(w:World)(K:Frag)(d:Str->Option Value)(a:Heap)(C:Addr)(m:Str)(b:List Str)(k:Nat)(e:Sp):Prop:=
 Kh K C/\∃f c,Meth K C m f/\Binds K c b []/\sN P w K d a Ph k f c b e
def lT(P:Program)(w:World)(K:Frag)(b:Str->Option Value)(a:Heap)(x:Str)(C:Addr)(c:List Str)(k:Nat)(e:Sp):Prop:=
 b x=some (.ref C)/\∃f d,Mk K C f/\Binds K d c []/\sN P w K b a Ph k f d c e
def Tm(P:Program)(w:World)(K:Frag)(e:Str->Option Value)(c:Heap)(N:List Str)(a:Str)(st:Stmt)(k:Nat)(g:TS):Prop:=
 ∀(f:Addr) (d:Value) (A:Around) (b:List Env) (s:Shared) (H:Hp) (E:XK),nA k (A.deeper (envOfC a (aI st) s.heap.objs.size f d))->
  PM (O3 Ph P w K e c N a (aI st) f d A b s H E).Zc (m7 st) g
def Run(N b:List Str)(c:Sp)(d:TS):Prop:=
 ∀a H Q E,c a H Q E->a.length=b.length/\d {nx:=λ_ e=>Q .non e,rt:=Q} (start N a) H
section
variable{P:Program}{w:World}{K:Frag}{mg:Str->Option Value}{base:Heap}{x f9 m:Str}{st:Stmt}{N ps:List Str}{k:Nat}{sp:Sp}{rd:TS}{C:Addr}
theorem Qo{f:Addr}{d:FuncData}(F:WX K x f9 st f d)(S:bp N ps (aI st))(e:Tm P w K mg base N f9 st k rd)(run:Run N ps sp rd):sN P w K mg base Ph (k+1) f d ps sp:=
 F.ok S (λb H Q E h=>(run b H Q E h).1) (λc A a s H b Q E g h=>⟨rd,e f c A a s H E g,(run b H Q E h).2⟩)
theorem dI.of(F:dS K mg x f9 st ps)(S:bp N ps (aI st))(b:Tm P w K mg base N f9 st k rd)(run:Run N ps sp rd):dI P w K mg base x ps (k+1) sp:=by
 obtain⟨f,c,d,a,e⟩:=F;exact⟨f,c,d,a.kp,e,Qo a S b run⟩
theorem eI.of(c:Kh K C)(F:jA K C m f9 st ps)(S:bp N ps (aI st))(a:Tm P w K mg base N f9 st k rd)(run:Run N ps sp rd):eI P w K mg base C m ps (k+1) sp:=by
 obtain⟨f,b,d,e,g⟩:=F;exact⟨c,f,b,d,g,Qo e S a run⟩
theorem lT.of(F:wJ K mg x C f9 st ps)(S:bp N ps (aI st))(a:Tm P w K mg base N f9 st k rd)(run:Run N ps sp rd):lT P w K mg base x C ps (k+1) sp:=by
 obtain⟨b,f,c,d,e,g⟩:=F;exact⟨b,f,c,d,g,Qo e S a run⟩
end
section
variable{X:Cx}{x m:Str}{p pos rA:Pos}{o e:Expr}{es:List Expr}{t:TA}{to:TE}{ps:List Str}{k:Nat}{sp:Sp}{C:Addr}{i:Int}
theorem fq(a:Gl X x)(h:KI X.mg x i)(b:(x==("__debug__":Str))=false:=by decide):PE X (.Name x pos) (tC (.int i)):=by
 obtain⟨u,c⟩:=h;exact QJ a c ⟨_,rfl⟩ b
theorem Dv{a:Addr}(b:Gl X x)(h:X.mg x=some (.ref a))(c:(x==("__debug__":Str))=false:=by decide):PE X (.Name x pos) (tC (.ref a)):=QJ b h rfl c
theorem bc{j:Nat}(h:dI X.prog X.w X.K X.mg X.base x ps k sp)(d:nA j X.A)(g:PA X (e::es) t)(a:k<=j:=by decide)(l:Gl X x:=by rfl)(b:(x==("__debug__":Str))=false:=by decide)
 (n:starEach (e::es) X.env=(false,eval e X.env)::starEach es X.env:=by rfl)(c:(backTo pos (starEach es X.env)).any (·.1)=false:=by rfl):PE X (.Call (.Name x p) (e::es) [] pos) (cM sp [] E0 t):=by
 obtain⟨f,u,q,r,s,F⟩:=h;exact VH F (d.mono a) l q r s .nil IZ g b n c
theorem gI{j:Nat}(h:lT X.prog X.w X.K X.mg X.base x C ps k sp)(d:nA j X.A)(g:PA X (e::es) t)(a:k+1<=j:=by decide)(l:Gl X x:=by rfl)(b:(x==("__debug__":Str))=false:=by decide)
 (n:starEach (e::es) X.env=(false,eval e X.env)::starEach es X.env:=by rfl)(c:(backTo pos (starEach es X.env)).any (·.1)=false:=by rfl):PE X (.Call (.Name x p) (e::es) [] pos) (lu C sp [] E0 t):=by
 obtain⟨q,f,s,M,r,F⟩:=h;exact VT M F (d.mono a) l q r .nil IZ g b n c
theorem Q8{j:Nat}(h:lT X.prog X.w X.K X.mg X.base x C ps k sp)(c:nA j X.A)(a:k+1<=j:=by decide)(d:Gl X x:=by rfl)(b:(x==("__debug__":Str))=false:=by decide):PE X (.Call (.Name x p) [] [] pos) (lu C sp [] E0 aR):=by
 obtain⟨g,f,n,M,l,F⟩:=h;exact UE M F (c.mono a) d g l .nil IZ b
theorem dE{j:Nat}{l:Sem Bool}(n:PE X o to)(h:eI X.prog X.w X.K X.mg X.base C m ps k sp)(q:nA j X.A)(r:PA X (e::es) t)(a:k<=j:=by decide)
 (b:starEach (e::es) X.env=(false,eval e X.env)::starEach es X.env:=by rfl)(d:(backTo pos (starEach es X.env)).any (·.1)=false:=by rfl)
 (s:eval (.Call (.Attribute o m rA) (e::es) [] pos) X.env=(do
   let g<-eval o X.env
   standAt rA.atName
   let (f,first)<-holding [g] (getMethod g m l)
   callWith pos f first (backTo pos (starEach (e::es) X.env)) (backToKw pos (keywordEach [] X.env))):=by rfl):
 PE X (.Call (.Attribute o m rA) (e::es) [] pos) (eC C m sp [] E0 to t):=by
 obtain⟨c,f,v,M,u,F⟩:=h;exact WO n c M F (q.mono a) u .nil IZ r b d s
theorem fQ{j:Nat}{d:Sem Bool}(g:PE X o to)(h:eI X.prog X.w X.K X.mg X.base C m ps k sp)(l:nA j X.A)(a:k<=j:=by decide)
 (n:eval (.Call (.Attribute o m rA) [] [] pos) X.env=(do
   let b<-eval o X.env
   standAt rA.atName
   let (f,first)<-holding [b] (getMethod b m d)
   callWith pos f first (backTo pos (starEach [] X.env)) (backToKw pos (keywordEach [] X.env))):=by rfl):
 PE X (.Call (.Attribute o m rA) [] [] pos) (eC C m sp [] E0 to aR):=by
 obtain⟨c,f,r,M,q,F⟩:=h;exact U7 g c M F (l.mono a) q .nil IZ n
theorem cu(i:Nat)(a:X.N.Nodup)(b:X.N[i]?=some x:=by rfl) (c:Loc X.env.scope x:=by first|exact .inl rfl|exact .inr rfl) (d:X.fn x=true\/X.env.scope.names.lookup x=some .local:=by first|exact .inl rfl|exact .inr rfl|assumption):PG X (.Name x pos) (bw i):=Wv a b c d
theorem bz{a:TE}(i:Nat)(b:X.N.Nodup)(c:PE X e a)(d:X.N[i]?=some x:=by rfl) (f:Loc X.env.scope x:=by first|exact .inl rfl|exact .inr rfl) (g:swapsWith e (some (.Name x p)) pos.line X.env=pure false:=by rfl) (h:X.fn x=true\/X.env.scope.names.lookup x=some .local:=by first|exact .inl rfl|exact .inr rfl|assumption):PS X (.Assign [.Name x p] e pos) (dN a (bw i)):=YQ b d f c g h
def xm(K:Frag):List V->Hp->VK->Prop:=λb H Q=>∃p a,b=[.ref p]/\(eD K H p a\/kF K H p a)/\Q (.int a.length) H
def B9(K:Frag):List V->Hp->VK->Prop:=λb H Q=>∃p a,b=[.ref p]/\eD K H p a/\∀l,H l=none->Q (.ref l) (upd H l (.tup a))
theorem um:wV X (.type "tuple") (B9 X.K):=by
 intro a s b H c d Q I r h;obtain⟨p,f,g,j,l⟩:=h;exact H_ a s b H c d Q I r ⟨p,f,g,.inl ⟨j,l⟩⟩
theorem uE:bootBuiltins "tuple"=some (.type "tuple"):=by decide+kernel
end
def bT(H a:Hp):Prop:=∀b xs,H b=some (.tup xs)->a b=some (.tup xs)
def jq(a:List Addr)(H c:Hp):Prop:=∀b o,H b=some o->b∉a->c b=some o
section
variable{H H' H1 H2:Hp}{a b:Addr}{o:HO}{xs ys:List V}{as bs:List Addr}{K:Frag}
theorem _root_.L2.aZ.tup(h:aZ H H'):bT H H':=λb xs e=>h b _ e
theorem bT.refl(H:Hp):bT H H:=λ_ _ e=>e
theorem bT.trans(h:bT H H1)(c:bT H1 H2):bT H H2:=λb xs e=>c b xs (h b xs e)
theorem aD(h:H a=none):aZ H (upd H a o):=λb u e=>by rw[aO (cZ e h)];exact e
theorem EU(h:H a=none):bT H (upd H a o):=aZ.tup (aD h)
theorem md(c:V8 (H a)):bT H (upd H a o):=λb xs e=>by
 rw[aO]
 ·exact e
 ·intro z;subst z;rw[e]at c;exact c
theorem jo(h:H a=some (.lst xs)):bT H (upd H a o):=md (by rw[h];trivial)
theorem jq.refl:jq as H H:=λ_ _ e _=>e
theorem jq.trans(h:jq as H H1)(c:jq as H1 H2):jq as H H2:=λb o e n=>c b o (h b o e n) n
theorem jq.mono(h:jq as H H')(q:∀x∈as,x∈bs):jq bs H H':=λb o e n=>h b o e λm=>n (q b m)
theorem _root_.L2.aZ.but(h:aZ H H'):jq as H H':=λb o e _=>h b o e
theorem eY(h:a∈as):jq as H (upd H a o):=λb u e n=>by
 rw[aO (λz=>n (by rw[z];exact h))];exact e
theorem uC(h:H a=none):jq as H (upd H a o):=(aD h).but
theorem Lv(h:jq as H H')(n:∀x∈as,H x=none):aZ H H':=λb o e=>h b o e λm=>by rw[n b m]at e;cases e
theorem _root_.L2.kF.same(e:aZ H H')(h:kF K H a xs):kF K H' a xs:=by
 rcases h with(h|⟨o,h⟩)|h
 ·exact .inl (.inl (e _ _ h))
 ·exact .inl (.inr ⟨o,e _ _ h⟩)
 ·exact .inr h
end
end Gp
namespace PySem
section
variable{α β:Type}{R R':α->β->Prop}
theorem Paired.app{c a:List α}{d b:List β}(p:Paired R c d)(r:Paired R a b):Paired R (c++a) (d++b):=by
 induction p with
 |nil=>exact r
 |cons q t e=>exact .cons q e
theorem Paired.at{a:List α}{b:List β}{i:Nat}{x:α}(p:Paired R a b)(e:a[i]?=some x):∃y,b[i]?=some y/\R x y:=by
 induction p generalizing i with
 |nil=>cases e
 |cons q t c=>
  cases i with
  |zero=>cases e;exact⟨_,rfl,q⟩
  |succ i=>exact c (i:=i) e
theorem Paired.take{xs:List α}{ys:List β}(n:Nat)(p:Paired R xs ys):Paired R (xs.take n) (ys.take n):=by
 induction p generalizing n with
 |nil=>cases n<;>exact .nil
 |cons q t a=>
  cases n with
  |zero=>exact .nil
  |succ n=>exact .cons q (a n)
theorem Paired.drop{xs:List α}{a:List β}(n:Nat)(p:Paired R xs a):Paired R (xs.drop n) (a.drop n):=by
 induction p generalizing n with
 |nil=>cases n<;>exact .nil
 |cons q t b=>
  cases n with
  |zero=>exact .cons q t
  |succ n=>exact b n
theorem Paired.rev{a:List α}{b:List β}(p:Paired R a b):Paired R a.reverse b.reverse:=by
 induction p with
 |nil=>exact .nil
 |cons q t c=>
  rw[iC,iC];exact iE c q
theorem Paired.mapR{c:Type}{S:α->c->Prop}{f:β->c}(h:∀a b,R a b->S a (f b)){d:List α}{e:List β}(p:Paired R d e):Paired S d (e.map f):=by
 induction p with
 |nil=>exact .nil
 |cons q t g=>exact .cons (h _ _ q) g
theorem Paired.len{xs:List α}{a:List β}(h:Paired R xs a):xs.length=a.length:=ki h
end
end PySem
namespace Gp
open L2 PyProof.Rows PySem PySem.Spec
theorem paired_ints:∀a:List Nat,Paired (λ(v:V) (n:Nat)=>v=.int n) (a.map λ(n:Nat)=>V.int (n:Int)) a
 |[]=>.nil
 |n::a=>.cons rfl (paired_ints a)
theorem take_snoc{a:Type}{l:List a}{i:Nat}{x:a}(h:l[i]?=some x):l.take (i+1)=l.take i++[x]:=by
 rw[iI,h];rfl
section
variable{K:Frag}{a D:Addr}{xs:List V}{g:TG}{tt:TT}{te:TE}{vs:List Nat}{σ:L2.St}{H1:Hp}{Qd:Hp->Prop}
def Kw(R:Hp->V->V->Prop)(p:V->Bool)(g:TG)(tt:TT)(te:TE)(vs:List Nat)(σ:L2.St)(H1:Hp)(x:V):Prop:=
 ∀H,aZ H1 H->∀e:Hp->Prop,∀f:V->Hp->Prop,(∀d,aZ H d->p x=false->e d)->(∀y d,aZ H d->p x=true->R d x y->f y d)->
  g x (wipe σ vs) H λc i=>wipe c vs=wipe σ vs/\tt c i λb h=>if b=true then te c h f else e h
theorem Pn{R:Hp->V->V->Prop}{p:V->Bool}(mono:∀H k x y,bT H k->R H x y->R k x y)(C:H1 D=none){xs:List V}(L:xs.length<sizeLine){i:Nat}{x:V}{H:Hp}(E:xs[i]?=some x)
 (G:Kw R p g tt te vs σ H1 x) (I:aZ H1 H/\∃c,H D=some (.lst c)/\Paired (R H) ((xs.take i).filter p) c):
 g x (wipe σ vs) H λf J=>wipe f vs=wipe σ vs/\tt f J λb l=>
  if b=true then te f l λy m=>∃d,m D=some (.lst d)/\d.length<sizeLine/\(aZ H1 (upd m D (.lst (d++[y])))/\∃c,(upd m D (.lst (d++[y]))) D=some (.lst c)/\Paired (R (upd m D (.lst (d++[y])))) ((xs.take (i+1)).filter p) c)
  else(aZ H1 l/\∃c,l D=some (.lst c)/\Paired (R l) ((xs.take (i+1)).filter p) c):=by
 obtain⟨n,c,A,w⟩:=I;have h:c.length<sizeLine:=by
  rw[<-w.len];refine fJ (dz _ _) ?_;rw[cq];omega
 have B:=take_snoc E;refine G H n _ _ (λk s q=>?_) (λy k s q r=>?_)
 ·refine⟨n.trans s,c,s _ _ A,?_⟩;rw[B,hW,ck (by rw[q];exact aQ),lg,bQ];exact Paired.jr w λu v z=>mono _ _ _ _ (aZ.tup s) z
 ·have j:=s _ _ A;refine⟨c,j,h,λb o e=>?_,c++[y],au,?_⟩
  ·rw[aO (cZ e C)];exact s _ _ (n _ _ e)
  ·rw[B,hW,bX q,lg];have t:=jo (o:=.lst (c++[y])) j;exact iE (Paired.jr w λu v z=>mono _ _ _ _ ((aZ.tup s).trans t) z) (mono _ _ _ _ t r)
theorem o5(R:Hp->V->V->Prop)(p:V->Bool)(mono:∀H c x y,bT H c->R H x y->R c x y)(j:H1 D=none)(r:eD K H1 a xs)(t:xs.length<sizeLine)
 (u:∀x∈xs,Kw R p g tt te vs σ H1 x)(v:∀H d,aZ H1 H->H D=some (.lst d)->Paired (R H) (xs.filter p) d->Qd H):
 ∃W:Nat->Nat->Hp->Prop,(∃m,W 0 m (upd H1 D (.lst [])))/\∀i m H,W i m H->
  ((Px K a).stop i H/\Qd H)\/((Px K a).go i H/\∃h:Hp->Prop,(∀c,h c->∃k,k<m/\W (i+1) k c)/\∀x c,(Px K a).NL i H x c->g x (wipe σ vs) c λe w=>wipe e vs=wipe σ vs/\tt e w λb l=>
    if b=true then te e l λy n=>∃f,n D=some (.lst f)/\f.length<sizeLine/\h (upd n D (.lst (f++[y])))else h l):=by
 refine WL (xs:=xs) (λi H=>aZ H1 H/\∃d,H D=some (.lst d)/\Paired (R H) ((xs.take i).filter p) d) ⟨aD j,[],au,.nil⟩ (λi H _ ⟨s,_⟩=>s.seq r) (λi x H o z=>?_) (λH ⟨s,d,A,q⟩=>?_)
 ·exact Pn mono j t o (u x (bj o)) z
 ·rw[bP]at q;exact v H d s A q
theorem FJ(R:Hp->V->V->Prop)(p:V->Bool)(mono:∀H c x y,bT H c->R H x y->R c x y)(j:H1 D=none)(r:kF K H1 a xs)(t:xs.length<sizeLine)
 (u:∀x∈xs,Kw R p g tt te vs σ H1 x)(v:∀H d,aZ H1 H->H D=some (.lst d)->Paired (R H) (xs.filter p) d->Qd H):
 ∃W:Nat->Nat->Hp->Prop,(∃m,W 0 m (upd H1 D (.lst [])))/\∀i m H,W i m H->
  ((S6 K a).stop i H/\Qd H)\/((S6 K a).go i H/\∃h:Hp->Prop,(∀c,h c->∃k,k<m/\W (i+1) k c)/\∀x c,(S6 K a).NL i H x c->g x (wipe σ vs) c λe w=>wipe e vs=wipe σ vs/\tt e w λb l=>
    if b=true then te e l λy n=>∃f,n D=some (.lst f)/\f.length<sizeLine/\h (upd n D (.lst (f++[y])))else h l):=by
 refine Yq (xs:=xs) (λi H=>aZ H1 H/\∃d,H D=some (.lst d)/\Paired (R H) ((xs.take i).filter p) d) ⟨aD j,[],au,.nil⟩ (λi H _ ⟨s,_⟩=>kF.same s r) (λi x H o z=>?_) (λH ⟨s,d,A,q⟩=>?_)
 ·exact Pn mono j t o (u x (bj o)) z
 ·rw[bP]at q;exact v H d s A q
end
section
variable{X:Cx}{x m:Str}{p pos rA:Pos}{o e a b:Expr}{es:List Expr}{ta t:TA}{to te:TE}
def QA(ta:TA):TE:=λd H Q=>ta d H λf c=>om λ(i j:Int)=>f=[.int i,.int j]/\∀r,c r=none->Q (.ref r) (upd c r (.Jz i j))
def QH(ta:TA):TE:=λd H Q=>ta d H λf c=>∃j:Int,f=[.int j]/\∀r,c r=none->Q (.ref r) (upd c r (.Jz 0 j))
theorem Sl(g:Gl X "range")(k:X.mg "range"=none)(l:PA X [a,b] ta)(n:starEach [a,b] X.env=[(false,eval a X.env),(false,eval b X.env)]:=by rfl)(Sq:starEach [b] X.env=[(false,eval b X.env)]:=by rfl):
 PE X (.Call (.Name "range" p) [a,b] [] pos) (QA ta):=by
 intro c s r H Q I h;refine Call_ (qC I g k qL (cp (iz (l pos c s r H _ I h) λz d ⟨A,u,f,v,w⟩=>?_) (by rw[n,Sq]) (by rw[Sq];rfl)));obtain⟨i,j,e,q⟩:=w;subst e;obtain⟨t,y,rfl⟩:=Vals.Z3 v;refine call_range_2 ?_;refine⟨.ref d.heap.objs.size,upd u d.heap.objs.size (.Jz i j),f.laid (λb o e=>aj _ e) (ak _) ⟨t,y,_,aN _ rfl⟩,rfl,q _ (f.e_.fresh (ak _))⟩
theorem Si(g:Gl X "range")(i:X.mg "range"=none)(k:PA X [a] ta)(l:starEach [a] X.env=[(false,eval a X.env)]:=by rfl):
 PE X (.Call (.Name "range" p) [a] [] pos) (QH ta):=by
 intro c s n H Q I h;refine Call_ (qC I g i qL (cp (iz (k pos c s n H _ I h) λy d ⟨z,r,f,v,w⟩=>?_) (by rw[l];rfl) (by rfl)));obtain⟨j,e,q⟩:=w;subst e;obtain⟨u,rfl,t,rfl⟩:=Vals.one v;refine call_range_1 ?_;refine⟨.ref d.heap.objs.size,upd r d.heap.objs.size (.Jz 0 j),f.laid (λb o e=>aj _ e) (ak _) ⟨_,t,_,aN _ rfl⟩,rfl,q _ (f.e_.fresh (ak _))⟩
def rP(i:Int)(n:Nat):List V:=(List.range n).map λ(k:Nat)=>V.int (i+(k:Int))
def FQ:List V->Hp->VK->Prop:=λc H Q=>∃(r:Addr) (i j:Int),c=[.ref r]/\H r=some (.Jz i j)/\(-(2^62)<=i/\i<2^62/\ -(2^62)<=j/\j<2^62)/\(j-i).toNat<=sizeLine/\
 ∀l,H l=none->Q (.ref l) (upd H l (.lst (rP i (j-i).toNat)))
theorem Og{i:Int}:∀{n:Nat} {c:Array Value},ItemsOf (λk v=>∃t,v=.int (i+(k:Nat)*1) t) c n->Vals (rP i n) c.toList:=by
 intro n c h;obtain⟨j,l⟩:=h;have r:c.toList.length=n:=by simpa using j
 have g:∀(f:List Value) (d:List V),d.length=f.length->(∀(k:Nat) (v:Value) (x:V),f[k]?=some v->d[k]?=some x->RelV x v)->Vals d f:=by
  intro f
  induction f with
  |nil=>
   intro d e _;cases d with
   |nil=>exact .nil
   |cons _ _=>simp at e
  |cons v f s=>
   intro d e q;cases d with
   |nil=>simp at e
   |cons x d=>exact .cons (q 0 v x rfl rfl) (s d (by simpa using e) λk u w a b=>q (k+1) u w (by simpa using a) (by simpa using b))
 refine g _ _ (by rw[r];simp[rP]) λk v x a b=>?_
 have y:k<n:=by
  have :=(ai.mp a).1;omega
 have z:c[k]?=some v:=by simpa using a
 obtain⟨t,rfl⟩:=l k v z;simp[rP,y]at b;subst b;refine⟨t,?_⟩;simp
theorem BP(l:X.calm=true):wV X (.type "list") FQ:=by
 intro g s G H J L Q I r h;obtain⟨a,i,j,rfl,w,⟨y,z,A,B⟩,k,q⟩:=h;rw[Vals.Vc r];obtain⟨t,u,v,e⟩:=I.e_ a _ w;refine call_list_range (n:=(j-i).toNat) (I.ok.hd l) e (small_one y z A B) (by rw[rangeSize_one];split<;>omega) (by rw[bu]at k;omega) λM tk c C D f d=>?_
 have E:=Og (i:=i) d;refine⟨.ref s.heap.objs.size,upd H s.heap.objs.size (.lst (rP i (j-i).toNat)),I.laid D (ak _) ⟨by simpa[rP]using k,c.toList,C,E,by simpa using f⟩,rfl,q _ (I.e_.fresh (ak _))⟩
def G4(K:Frag):List V->Hp->VK->Prop:=λf H Q=>∃(a:Addr) (d:List Int),f=[V.ref a]/\eD K H a (d.map V.int)/\
 ∀(c:List Int) (l:Addr),c.Perm d->c.Pairwise (·<=·)->H l=none->Q (.ref l) (upd H l (.lst (c.map V.int)))
theorem Lb:wV X (.builtin "sorted") (G4 X.K):=by
 intro k s D H E G Q I r h;obtain⟨a,u,rfl,v,q⟩:=h;obtain⟨i,w,y,z⟩:=I.list v;rw[Vals.Vc r];have l:=w.ints;have c:u.length<=sizeLine:=by simpa using z
 refine PyProof.Rows.sorted_intsAny y.isList l (by rw[l.length];exact c) λg d A n B=>?_
 obtain⟨C,j⟩:=PyProof.Rows.sortedAll_at s.heap i g;have f:(d.map V.int).length<=sizeLine:=by rw[aP,n.length_eq];exact c
 exact⟨.ref _,upd H (s.heap.objs.size+1) (.lst (d.map V.int)),I.laid (t':=s.toks) (λ_ _=>PyProof.Rows.sortedAll_old) (jf _) ⟨f,g.toList,C,vU A,j⟩,rfl,q d _ n B (I.e_.fresh (jf _))⟩
end
section
variable{prog:Program}{w:World}{A:Around}
theorem NI{E:Value->Shared->Prop}{s:Shared}{id:String}{g:Builtin}{b:List Value}{c:List (Str×Value)}{Q:Value->Shared->Prop}(i:builtinKind id=none)(j:plainId id=true)
 (l:entryFor table id=some g)(m:argsOk id ⟨b,c⟩)
 (h:wpAny (model prog w) A.in1 (g ⟨b,c⟩) (λfin a=>match fin with
   |.done f=>(match(Except.ok f:Result)with |.ok (.ret v)=>Q v a|.ok _=>False|.error e=>E e a)
   |.again k=>k.quiet=true/\codeAny (model prog w) A k (λr a=>match r with |.ok (.ret v)=>Q v a|.ok _=>False|.error e=>E e a) a) E s):
 wpAny (model prog w) A (call (.builtin id) b c) Q E s:=by
 refine qK (o3 j l ?_);simp only[checkBuiltinCall,i];cases sg:Manifest.signature? id with
 |none=>exact ag h
 |some d=>
  have z:Bind.checkArgs id d ⟨b,c⟩=pure ():=by simpa only[argsOk,sg]using m
  simp only[z];exact ag h
section
variable{R:Result->Shared->Prop}{I:Addr}{fp wr:List Addr}{n:Nat}{P:Nat->Value->Prop}{St:Nat->Heap->Prop}{d:Value}
abbrev XS(d:Value):List (Str×Value):=[("default",d)]
theorem mn:(toString "min"++toString ".loop":String)="min.loop":=by decide
theorem Rn(W:Walks prog w A.in1 I fp wr n P St)(i:Nat->Nat->Bool)(L:CmpOf prog w A.in1 .Lt P i)(B:Addr)(D:B∉fp):
 ∀(k j:Nat) (s:Shared) (c:Value) (cc:Nat),n-(j+1)=k->j+1<=n->St (j+1) s.heap->P (argBest i j) c->
  s.heap.get? B=some {cls:=.type "list",dict:=none,data:=.seq #[c,c] cc,slots:= #[]}->
  (∀v g tk,P (argBest i (n-1)) v->(∀b o,b∉wr->b≠B->s.heap.get? b=some o->g.get? b=some o)->R (.ok (.ret v)) {s with heap:=g,toks:=tk})->
  codeAny (model prog w) A (.builtin "min.loop" ⟨[.ref I,.none,.ref B],XS d⟩) R s:=by
 have E:B∉wr:=λq=>D (W.sub _ q)
 intro k
 induction k with
 |zero=>
  intro j s c cc e1 e2 st t p fin;have G:j+1=n:=by omega
  refine du nM ?_;rw[cI gh _];show wpAny _ A.in1 (seqItems? (.ref B)>>=_) _ _ s;refine aa (iO p rfl ?_);show wpAny _ A.in1 (tryCatch (pyNext (.ref I)) _>>=_) _ _ s;refine aa (jW (W.done s _ _ (G▸st) λg tk l=>?_));have a:=l B _ E p;show wpAny _ A.in1 (updateSeq B (λ_=> #[])>>=_) _ _ _;refine aa ?_;refine fV a rfl (aa (pU (ag ?_)));exact fin c _ tk (by rw[<-G];exact t) λb o f m e=>(bA _ _ (aY m)).trans (l b o f e)
 |succ k H=>
  intro j s c cc e1 e2 st t p fin;have lt:j+1<n:=by omega
  refine du nM ?_;rw[cI gh _];show wpAny _ A.in1 (seqItems? (.ref B)>>=_) _ _ s;refine aa (iO p rfl ?_);show wpAny _ A.in1 (tryCatch (pyNext (.ref I)) _>>=_) _ _ s;refine aa (jW (W.item (j+1) s _ _ lt st λv g tk pv r l=>?_));have a:=l B _ E p;show wpAny _ A.in1 (tryCatch (holding [v,v] (richCompare .Lt v c>>=_)) _>>=_) _ _ _;refine aa (jW (dY (aa (L (j+1) (argBest i j) v c _ _ _ pv t ?_))));refine aa (dY (dg ?_));refine aa (pU (ag ?_));cases J:i (j+1) (argBest i j)with
  |true=>
   simp only[j0];refine aa ?_;refine fV a rfl (aa (pU ?_));rw[mn];refine ag ⟨dG gh _,H (j+1) _ v _ (by omega) lt (W.frame _ _ _ r λb q o e=>?_) (by simp only[argBest,J,j0];exact pv) (bY _ a rfl) λu x h y C=>?_⟩
   ·exact(bA _ _ (λz:B=b=>D (by rw[z];exact q))).trans e
   ·exact fin u x h y λb o f m e=>C b o f m ((bA _ _ (aY m)).trans (l b o f e))
  |false=>
   simp only[eT,g7];refine aa (pU ?_);rw[mn];refine ag ⟨dG gh _,H (j+1) _ c cc (by omega) lt r (by simp only[argBest,J,eT,g7];exact t) a λu x h y C=>?_⟩;exact fin u x h y λb o f m e=>C b o f m (l b o f e)
theorem O8(W:Walks prog w A.in1 I fp wr n P St)(i:Nat->Nat->Bool)(u:CmpOf prog w A.in1 .Lt P i)(B:Addr)(j:B∉fp){s:Shared}{cc:Nat}(st:St 0 s.heap)
 (p:s.heap.get? B=some {cls:=.type "list",dict:=none,data:=.seq #[] cc,slots:= #[]})
 (fin:0<n->∀v g tk,P (argBest i (n-1)) v->(∀b o,b∉wr->b≠B->s.heap.get? b=some o->g.get? b=some o)->R (.ok (.ret v)) {s with heap:=g,toks:=tk})
 (a:n=0->∀g tk,(∀b o,b∉wr->b≠B->s.heap.get? b=some o->g.get? b=some o)->R (.ok (.ret d)) {s with heap:=g,toks:=tk}):
 codeAny (model prog w) A (.builtin "min.loop" ⟨[.ref I,.none,.ref B],XS d⟩) R s:=by
 have x:B∉wr:=λq=>j (W.sub _ q)
 refine du nM ?_;rw[cI gh _];show wpAny _ A.in1 (seqItems? (.ref B)>>=_) _ _ s;refine aa (iO p rfl ?_);show wpAny _ A.in1 (tryCatch (pyNext (.ref I)) _>>=_) _ _ s;rcases Nat.eq_zero_or_pos n with r|k
 ·refine aa (jW (W.done s _ _ (r▸st) λg tk f=>?_));show wpAny _ A.in1 (rule _>>=_) _ _ _;refine aa (fW ?_);exact ag (a r g tk λb o h _ e=>f b o h e)
 ·refine aa (jW (W.item 0 s _ _ k st λv g tk pv l f=>?_));have c:=f B _ x p;show wpAny _ A.in1 (updateSeq B (λ_=> #[v,v])>>=_) _ _ _;refine aa ?_;refine fV c rfl ?_;rw[mn];refine ag ⟨dG gh _,Rn W i u B j _ 0 _ v _ rfl k (W.frame _ _ _ l λb q o e=>?_) pv (bY _ c rfl) λy C m D E=>?_⟩
  ·exact(bA _ _ (λz:B=b=>j (by rw[z];exact q))).trans e
  ·exact fin k y C m D λb o h t e=>E b o h t ((bA _ _ (aY t)).trans (f b o h e))
end
theorem Rh(a d:Value):argsOk "min" ⟨[a],XS d⟩:=by unfold argsOk;kernel_rfl
theorem Q4{E:Value->Shared->Prop}{s:Shared}{x d:Value}{Q:Value->Shared->Prop}
 (h:wpAny (model prog w) A.in1 (pyIter x) (λm a=>∃I c f n P St i,m=.ref I/\Walks prog w A.in1 I c f n P St/\St 0 a.heap/\(∀b∈c,b<a.heap.objs.size)/\CmpOf prog w A.in1 .Lt P i/\
   (0<n->∀v g tk,P (argBest i (n-1)) v->(∀b o,b∉f->a.heap.get? b=some o->g.get? b=some o)->Q v {a with heap:=g,toks:=tk})/\
   (n=0->∀g tk,(∀b o,b∉f->a.heap.get? b=some o->g.get? b=some o)->Q d {a with heap:=g,toks:=tk})) E s):
 wpAny (model prog w) A (call (.builtin "min") [x] (XS d)) Q E s:=by
 refine NI F.kind_min F.plain_min F.entry_min (Rh _ _) ?_;show wpAny _ A.in1 (Builtin.Builtins.bindParams "min" ["key","default"] 0 ⟨[],XS d⟩>>=_) _ _ s;refine aa (dh (show Builtin.Builtins.bindParams "min" ["key","default"] 0 ⟨[],XS d⟩=pure [none,some d]from rfl) ?_);refine aa (ag ?_);refine aa (eJ h (λm a r=>?_) λ_ _ e=>e);obtain⟨I,c,f,n,P,St,i,rfl,W,st,j,t,f1,u⟩:=r;refine aa (bV ?_);have y:a.heap.objs.size∉c:=λq=>cW _ (j _ q)
 rw[mn];refine ag ⟨dG gh _,O8 W i t a.heap.objs.size y (W.frame _ _ _ st λb _ o e=>aj _ e) (aN _ rfl) (λl v g tk p k=>?_) (λl g tk k=>?_)⟩
 ·exact f1 l v g tk p λb o q e=>k b o q (bG (aK e)) (aj _ e)
 ·exact u l g tk λb o q e=>k b o q (bG (aK e)) (aj _ e)
end
section
variable{X:Cx}{x m:Str}{p pos rA RG:Pos}{o e a b dflt:Expr}{es:List Expr}{ta t tk:TA}{to te:TE}
def Jh(K:Frag):V->V->Hp->VK->Prop:=λx y H Q=>∃(a:Addr) (c:List Int),x=.ref a/\eD K H a (c.map V.int)/\(c=[]->Q y H)/\∀m,m∈c->(∀z,z∈c->m<=z)->Q (.int m) H
theorem UQ{d:List (Addr×Obj)}{C:L2.St}{H:Hp}{s:Shared}{Q:VK}{x y:V}{u v:Value}(J:X.calm=true)(I:Inv X d C H s)(L:RelV x u)(M:RelV y v)(h:Jh X.K x y H Q):
 wpAny (model X.prog X.w) X.A (call (.builtin "min") [u] (XS v)) (EP X d C Q) X.xe s:=by
 obtain⟨a,N,rfl,O,T,U⟩:=h;cases L;obtain⟨Y,Z,hl,_⟩:=I.list O;have D:=Z.ints;obtain⟨c,e⟩:=D.allInts.items;have E:numsOf (intItems c).toList=N:=by rw[<-e];exact D.numsOf
 rw[nums_intItems]at E;subst E;have f:=hl.isList;rw[e]at f;refine Q4 (iter_intList f λs2 e2 st k l=>?_);subst e2;refine⟨_,_,_,_,_,_,_,rfl,qO (A:=X.A.in1) (I.ok.hd J) _ a l (intItems c),st,k,CmpOf.ints_lt (numAt c) (λ_ _=>intItems_at),λn w g tk hp q=>?_,λn g tk q=>?_⟩
 ·have G:0<c.size:=by simpa[intItems]using n
  have r:(intItems c)[argBest (λi j=>decide (numAt c i<numAt c j)) (c.size-1)]?=some w:=by simpa[intItems]using hp
  obtain⟨t,rfl⟩:=intItems_at r;obtain⟨h1,h2⟩:=argBest_lt (numAt c) (c.size-1);refine⟨.int _,H,I.kept (old_kept q),⟨_,rfl⟩,U _ ?_ λz B=>?_⟩
  ·rw[numAt_eq];exact PySem.getD_mem (by rw[aP,bM];omega)
  ·obtain⟨j,hj,rfl⟩:=mem_getD B;rw[aP,bM]at hj;rw[<-numAt_eq];exact h2 j (by omega)
 ·have G:c.size=0:=by simpa[intItems]using n
  exact⟨y,H,I.kept (old_kept q),M,T (by
   have :c.toList=[]:=d7.mp (by simpa using G);rw[this];rfl)⟩
def Xm(K:Frag)(ta:TA)(d:TE):TE:=λc H Q=>ta c H λf g=>∃x,f=[x]/\d c g λy h=>Jh K x y h Q
theorem V4(f:X.calm=true)(D:Gl X "min")(E:X.mg "min"=none)(G:PA X [e] ta)(J:PE X dflt te)
 (L:backTo pos (starEach [e] X.env)=(false,eval e X.env)::backTo pos (starEach [] X.env):=by rfl)(j:(backTo pos (starEach [e] X.env)).any (·.1)=false:=by rfl)
 (k:(backToKw pos (keywordEach [⟨some "default",dflt,RG⟩] X.env)).filterMap (·.1)=[Str.ofString "default"]:=by rfl)
 (i:(backToKw pos (keywordEach [⟨some "default",dflt,RG⟩] X.env)).all (·.1.isSome)=true:=by rfl)
 (l:(backToKw pos (keywordEach [⟨some "default",dflt,RG⟩] X.env)).any (·.1.isNone)=false:=by rfl):
 PE X (.Call (.Name "min" p) [e] [⟨some "default",dflt,RG⟩] pos) (Xm X.K ta te):=by
 intro d s n H Q I h;refine dj (qC I D E PyProof.Rows.boot_min ?_);refine PyProof.Rows.callWith_kw (iz (G pos d s n H _ I h) ?_) L j i l;rintro us M ⟨vs,w,N,r,x,O,q⟩;subst O;obtain⟨u,rfl,T⟩:=Vals.one r;refine iz (WI J Yc pos d M n w (λz c=>∃y,z=[y]/\Jh X.K x y c Q) N ?_) λws s2 ⟨z,c,U,Y,y,Z,q2⟩=>?_
 ·exact(show te n w (λy c=>∃g,[y]=[g]/\Jh X.K x g c Q)from by
   have x0:∀(A B:VK),(∀v C,A v C->B v C)->A=B\/True:=λ_ _ _=>.inr trivial
   have e2:(λ(y:V) (c:Hp)=>∃g,[y]=[g]/\Jh X.K x g c Q)=λy c=>Jh X.K x y c Q:=by
    funext y c;exact propext ⟨λ⟨g,e,q⟩=>by cases e;exact q,λq=>⟨y,rfl,q⟩⟩
   rw[e2];exact q)
 ·subst Z;obtain⟨v,rfl,rv⟩:=Vals.one Y;rw[k];exact UQ f U T rv q2
end
section
variable{X:Cx}
theorem Rk(l:Addr)(c:Array Value)(n:Nat)(b:Addr)(e:Obj)(a:Array Value)(k:Nat)(f:e.cls=.type "tuple")(i:e.data=.seq a k)(Yl:¬(!c.isEmpty&&Builtin.List.listTooLong (c.size+a.size))=true)
 (Z9:c.size<=sizeLine)(Sq:c.size+a.size<=sizeLine+1):
 Meets (Builtin.«list.extend» ⟨[.ref l,.ref b],[]⟩) (λ_ R s=>s.heap.get? l=some {cls:=.type "list",dict:=none,data:=.seq c n,slots:= #[]}/\s.heap.get? b=some e/\
  R (.ok (.ret Value.none)) {s with heap:=s.heap.update l (Obj.mapSeq λx=>x++a),toks:=s.toks}):=
 .of_wp λm w A R s h=>by
  obtain⟨q,g,d,tk,os⟩:=s;obtain⟨cls,dict,data,slots⟩:=e;have e1:cls=.type "tuple":=f;have e2:data=.seq a k:=i;subst e1 e2;obtain⟨o,p,h⟩:=h;have r:=PySem.AutoSeq1.idx_int;have t:=PySem.AutoSeq1.sub_tuple_tuple;have u:=PySem.AutoSeq1.sub_list_list;have v:=PySem.AutoSeq1.sub_tuple_list;have y:=PySem.AutoSeq1.sub_list_tuple;have j:(c++a).size<=sizeLine+1:=by rw[Array.size_append];exact Sq
  wp_walk using(fV o rfl (hz:=Z9) (_hz':=j)),jt o,jt p;exact⟨_,rfl,h⟩
def MM(K:Frag):V->List V->Hp->VK->Prop:=λx d H Q=>AF λl b a c=>x=.ref l/\d=[.ref b]/\H l=some (.lst a)/\kF K H b c/\a.length+c.length<=sizeLine/\Q .non (upd H l (.lst (a++c)))
theorem NX:ZN X "list.extend" (MM X.K):=by
 intro j s B H x C v D Q I o p h;obtain⟨l,b,E,G,rfl,rfl,k,t,J,q⟩:=h;cases o;obtain⟨u,rfl,w⟩:=p.one;cases w;obtain⟨z,c,n,r,L,e⟩:=I.Ms k;obtain⟨a,m,⟨y,e2,f,A,g⟩,M⟩:=I.tuple t;have hl2:=m.length;have i:c.toArray.size+a.toArray.size<=sizeLine:=by rw[aJ,aJ];omega
 have d:¬(!c.toArray.isEmpty&&Builtin.List.listTooLong (c.toArray.size+a.toArray.size))=true:=by
  rw[Bj i,Bool.and_false];exact aQ
 refine lK F.slot_list_extend ⟨_,e,rfl⟩ F.entry_list_extend (oX _ _)
  (Rk l c.toArray n b y a.toArray A f g d (by rw[aJ];omega) (by omega)) ⟨e,e2,?_⟩
 refine⟨.non,_,I.WN (its':=c++a) k e (by simp) (r.append m) ?_,rfl,q⟩;rw[ay];omega
end
def Ha(K:Frag)(d:Addr)(f:Int->Option Value):Prop:=
 Hl λo a b=>K.lookup d=some o/\o.ExactDict/\o.data=.dict a b/\(∀e∈a.toList,om λk t=>e.key=.int k t/\e.hash=hashInt k)/\∀k,findBy Value.isInt a k=f k
section
variable{X:Cx}{o i:Expr}{td ty:TE}{pos:Pos}
def Tz(K:Frag)(td ty:TE):TE:=λa H Q=>td a H λx b=>ty a b λy c=>Vu λd f k v u=>x=.ref d/\y=.int k/\Ha K d f/\f k=some u/\RelV v u/\Q v c
theorem Ha.map{K:Frag}{d:Addr}{f:Int->Option Value}{h:Heap}{prog:Program}{w:World}(D:Ha K d f)(k:K.In h):h.MapOf (PySem.intKind prog w) d f:=by
 obtain⟨o,a,ep,b,c,g,j,l⟩:=D;refine⟨o,a,ep,k _ _ b,c,g,λe m=>?_,l⟩;obtain⟨i,t,e1,e2⟩:=j e (by simpa using m);exact⟨i,by rw[e1];simp[PySem.intKind,Value.isInt],e2⟩
theorem U8(g:PE X o td)(j:PE X i ty)(l:YJ i):PE X (.Subscript o i pos) (Tz X.K td ty):=by
 intro a s b H Q I h;refine PZ lF.lookup l (iz (g a s b H _ I h) ?_);rintro u m ⟨x,n,p,q,r⟩;refine iz (j a m b n _ p r) ?_;rintro L M ⟨y,z,c,A,d,f,k,v,N,B,C,D,E,G,J⟩;subst B C;obtain rfl:u=Value.ref d:=q;obtain⟨t,rfl⟩:=A;have e:=D.map (prog:=X.prog) (w:=X.w) c.MH;exact⟨e.typeIs,wpAny_getItem_of (knd:=PySem.intKind X.prog X.w) (k:=k) (by simp[PySem.intKind,Value.isInt]) e E ⟨v,z,c.tok _,G,J⟩⟩
end
section
variable{X:Cx}{x:Str}{p pos:Pos}{e:Expr}{es:List Expr}{t:TA}{i k:Nat}{Fs:Addr->Sp->Prop}
def O1(Fs:Addr->Sp->Prop)(i:Nat)(t:TA):TE:=λa H Q=>om λf b=>a[i]?=some (some (.ref f))/\Fs f b/\t a H λc d=>b c d Q E0
def Fns(X:Cx)(k:Nat)(Fs:Addr->Sp->Prop):Prop:=∀f a,Fs f a->om λb c=>PySem.W.keepIn X.K (.ref f)=true/\Binds X.K b c []/\sN X.prog X.w X.K X.mg X.base Ph k f b c a
def Qz(P:Program)(w:World)(K:Frag)(g:Str->Option Value)(a:Heap)(k:Nat)(Fs:Addr->Sp->Prop):Prop:=∀f b,Fs f b->om λc d=>PySem.W.keepIn K (.ref f)=true/\Binds K c d []/\sN P w K g a Ph k f c d b
theorem LK(l:Fns X k Fs)(m:nA k X.A)(n:PA X (e::es) t)(o:X.N[i]?=some x:=by rfl) (w:XJ X.env.scope x:=by first|exact Or.inl rfl|exact Or.inr (Or.inl rfl)|exact Or.inr (Or.inr rfl))
 (y:(x==("__debug__":Str))=false:=by decide) (b:(x==("__classdict__":Str))=false:=by decide)
 (z:starEach (e::es) X.env=(false,eval e X.env)::starEach es X.env:=by rfl) (c:(backTo pos (starEach es X.env)).any (·.1)=false:=by rfl):
 PE X (.Call (.Name x p) (e::es) [] pos) (O1 Fs i t):=by
 intro a s d H Q I h;obtain⟨f,B,C,D,h⟩:=h;obtain⟨T,U,E,G,F⟩:=l f B D;refine dj (iz (Sz o w y b a s d H (λv J=>v=.ref f/\J=H) I ⟨_,C,rfl,rfl⟩) ?_);rintro u L ⟨v,M,g,O,e1,e2⟩;subst e1 e2;obtain rfl:u=Value.ref f:=O;refine jn (h₀:=X.base) g.ok.mod.Y2 E (iz (n pos a L d M _ g h) ?_) z c;rintro Y Z ⟨vs,H2,j,r,q⟩;refine⟨j.MH,?_⟩;have :=Kg (ds:=[]) (dvs:=[]) F m G .nil IZ j r (Q:=Q) (by rw[bQ];exact q);exact this
end
namespace Rv
theorem nF:Slot "reversed" "__next__" "reversed.__next__":=
 .of (owner:="reversed") (n:="__next__") (by rw[fj,dw];kernel_rfl) (by decide+kernel) (by decide+kernel) (by decide+kernel) (by first|exact .inl (by decide+kernel)|exact .inr (by decide+kernel)) (by rw[eX];kernel_rfl)
theorem CJ:entryFor table "reversed.__next__"=some Builtin.«reversed.__next__»:=nL (by kernel_rfl)
theorem CQ(a:Value):argsOk "reversed.__next__" ⟨[a],[]⟩:=by unfold argsOk;kernel_rfl
theorem Zs:typeLookup (.type "reversed") "__len__"=pure none:=by rw[fj,dw];kernel_rfl
theorem hint:typeLookup (.type "reversed") "__length_hint__"=pure (some (.builtin "reversed.__length_hint__")):=by rw[fj,dw];kernel_rfl
theorem XW:Slot "reversed" "__init__" "object.__init__":=
 .of (owner:="object") (n:="__init__") (by rw[fj,dw];kernel_rfl) (by decide+kernel) (by decide+kernel) (by decide+kernel) (by first|exact .inl (by decide+kernel)|exact .inr (by decide+kernel)) (by rw[eX];kernel_rfl)
theorem called:TypeCalled "reversed" "reversed.__new__" "object.__init__":=
 ⟨by decide+kernel,by decide+kernel,⟨_,_,F.mro_reversed⟩,F.made_reversed,by decide+kernel,by rw[eX];kernel_rfl,XW⟩
theorem Zu:typeLookup (.type "tuple") "__reversed__"=pure none:=by rw[fj,dw];kernel_rfl
theorem Zr:Slot "reversed" "__iter__" "reversed.__iter__":=
 .of (owner:="reversed") (n:="__iter__") (by rw[fj,dw];kernel_rfl) (by decide+kernel) (by decide+kernel) (by decide+kernel) (by first|exact .inl (by decide+kernel)|exact .inr (by decide+kernel)) (by rw[eX];kernel_rfl)
theorem ZY:entryFor table "reversed.__iter__"=some Builtin.«dict_keyiterator.__iter__»:=
 pW (id':="dict_keyiterator.__iter__") (by kernel_rfl) (by first|rfl|decide+kernel|(unfold String.splitOn;simp +decide [String.splitOnAux])) (by decide+kernel) (by kernel_rfl)
theorem aab(a:Value):argsOk "reversed.__iter__" ⟨[a],[]⟩:=by unfold argsOk;kernel_rfl
theorem Uc:Slot "reversed" "__length_hint__" "reversed.__length_hint__":=
 .of (owner:="reversed") (n:="__length_hint__") (by rw[fj,dw];kernel_rfl) (by decide+kernel) (by decide+kernel) (by decide+kernel) (by first|exact .inl (by decide+kernel)|exact .inr (by decide+kernel)) (by rw[eX];kernel_rfl)
theorem X3:entryFor table "reversed.__length_hint__"=some Builtin.«reversed.__length_hint__»:=nL (by kernel_rfl)
theorem X4(a:Value):argsOk "reversed.__length_hint__" ⟨[a],[]⟩:=by unfold argsOk;kernel_rfl
def J2(t:Addr)(i:Int):Obj:={cls:=.type "reversed",data:=.fields #[.ref t,rawInt i]}
def Gn(h:Heap)(a t:Addr)(i:Int):Prop:=∃o,h.get? a=some o/\o.cls=.type "reversed"/\o.data=.fields #[.ref t,rawInt i]
section
variable{prog:Program}{w:World}{A:Around}{E:Value->Shared->Prop}{s:Shared}
theorem Gn.ty{a t:Addr}{i:Int}(x:Gn s.heap a t i):s.TypeIs (.ref a) "reversed":=let ⟨o,b,c,_⟩:=x;⟨o,b,c⟩
theorem Tn{t:Addr}{c:Array Value}{e:Value->Shared->Prop}(d:IsTup s.heap t c)(f:c.size<=sizeLine)
 (h:∀k,e (.ref s.heap.objs.size) {s with heap:=s.heap.push (J2 t ((c.size:Int)-1)),toks:=k}):
 codeAny (model prog w) A (.call (.builtin "reversed.__new__") ⟨[.type "reversed",.ref t],[]⟩) (wants e E) s:=by
 refine kO ?_;show wpAny _ A.in1 (do checkBuiltinCall "reversed.__new__" ⟨[.type "reversed",.ref t],[]⟩;again (.builtin "reversed.__new__" ⟨[.type "reversed",.ref t],[]⟩)) _ _ s;refine aa (dh (F.newCall_reversed_1 _) (ag ⟨dG pd _,du F.entry_reversed_new ?_⟩));rw[cI pd _];unfold Builtin.«reversed.__new__»;refine aa (dh (newClass_reversed _) ?_)
 try dsimp only
 refine aa (dh (a:=()) (by first|rfl|kernel_rfl) ?_);refine aa (dh (a:=()) (by first|rfl|kernel_rfl) ?_)
 try dsimp only
 refine aa (eM d.typeIs Zu ?_)
 try dsimp only
 refine aa ?_;show wpAny _ A.in1 ((isInstance (.ref t) (.type "dict"))>>=_) _ _ s;refine aa (g5 (T:="tuple") (b:=false) d.typeIs (by rw[eX];kernel_rfl) ?_);show wpAny _ A.in1 (specialOf (.ref t) "__getitem__">>=_) _ _ s;refine aa (eM d.typeIs lU.lookup ?_)
 try dsimp only
 rw[az (by decide)];refine ag ?_;rw[ah (by decide)];refine aa (nr d (by rw[bu]at f;omega) ?_);refine aa (m:=asInt? (.int c.size (s.toks+1))) (ag ?_);dsimp only;show wpAny _ A.in1 (newObj (.type "reversed") (.fields #[.ref t,rawInt ((c.size:Int)-1)])>>=λv=>ret v) _ _ _;refine aa (bV ?_);exact ag (h _)
theorem Tv{t:Addr}{a:Array Value}{Q:Value->Shared->Prop}(d:IsTup s.heap t a)(e:a.size<=sizeLine)
 (h:∀k,Q (.ref s.heap.objs.size) {s with heap:=s.heap.push (J2 t ((a.size:Int)-1)),toks:=k}):wpAny (model prog w) A (call (.type "reversed") [.ref t]) Q E s:=by
 refine callType_codes (Q₁:=λb c=>∃k,b=.ref s.heap.objs.size/\c={s with heap:=s.heap.push (J2 t ((a.size:Int)-1)),toks:=k}) called (F.typeCall_reversed_1 _) F.entry_object_init
  (Tn d e λk=>⟨k,rfl,rfl⟩) λb c f=>?_
 obtain⟨k,rfl,rfl⟩:=f;have ty:Shared.TypeIs {s with heap:=s.heap.push (J2 t ((a.size:Int)-1)),toks:=k} (.ref s.heap.objs.size) "reversed":=⟨_,aN _ rfl,rfl⟩;exact⟨ty,oW _ _,object_init_meets called.init.lookup called.made (by decide) prog w A.in1 _ _ ⟨ty,rfl,h k⟩⟩
theorem next_item{b t:Addr}{i:Nat}{items:Array Value}{x:Value}{Q:Option Value->Shared->Prop}(e:Gn s.heap b t (i:Int))(f:IsTup s.heap t items)(l:items.size<=sizeLine)(h:items[i]?=some x)
 (m:∀g k,Gn g b t ((i:Int)-1)->Heap.SameBut b s.heap g->Q (some x) {s with heap:=g,toks:=k}):wpAny (model prog w) A (pyNext (.ref b)) Q E s:=by
 obtain⟨o,d,n,c⟩:=id e;have q:i<items.size:=(gn.mp h).1;unfold pyNext;refine aa (h_ (d6 (name:=Str.ofString "__next__") e.ty nF (c8 nF e.ty CJ ?_ (CQ _))));unfold Builtin.«reversed.__next__»;refine aa (dh (a:=(Value.ref b,[])) rfl ?_)
 try dsimp only
 refine aa (gu d c (x:=.ref t) rfl ?_);refine aa (gu d c (x:=rawInt (i:Int)) rfl ?_);show wpAny _ _ (if(i:Int)<0 then _ else _) _ _ s;rw[ah (by omega)];show wpAny _ _ (specialOf (.ref t) "__getitem__">>=_) _ _ s;refine aa (eM f.typeIs lU.lookup ?_);rw[ah (by simp)];refine aa (wpAny_mkInt ?_);obtain⟨j,e1,e2,_⟩:=KG (xs:=items.toList) (i:=(i:Int)) (qb (show items.toList[i]?=some x by simpa using h));have p:(items.size:Int)<2^63:=by rw[bu]at l;omega
 refine aa (h_ (getItem_tuple (j:=j) (items:=items) f (by omega) (by omega) (by simpa using e1) (by simpa using e2) ?_));dsimp only;refine aa (gu d c (x:=rawInt (i:Int)) rfl ?_);show wpAny _ _ (setField (.ref b) 1 (rawInt ((i:Int)-1))>>=_) _ _ _;refine aa (fM d c (by simp) ?_);refine ag ⟨x,rfl,ag (m _ _ ?_ (fX ..))⟩;exact⟨_,bY _ d (fE (cD c _)),(jR ..).trans n,by rw[cD c];simp⟩
theorem next_end{c t:Addr}{Q:Option Value->Shared->Prop}(l:A.handled=none)(h:Gn s.heap c t (-1))(n:∀g k,(∀b o,b≠c->s.heap.get? b=some o->g.get? b=some o)->Q none {s with heap:=g,toks:=k}):wpAny (model prog w) A (pyNext (.ref c)) Q E s:=by
 obtain⟨o,f,p,d⟩:=id h;unfold pyNext;refine aa (h_ (d6 (name:=Str.ofString "__next__") h.ty nF (c8 nF h.ty CJ ?_ (CQ _))));unfold Builtin.«reversed.__next__»;refine aa (dh (a:=(Value.ref c,[])) rfl ?_)
 try dsimp only
 refine aa (gu f d (x:=.ref t) rfl ?_);refine aa (gu f d (x:=rawInt (-1)) rfl ?_);show wpAny _ _ (if(-1:Int)<0 then _ else _) _ _ s;rw[az (by decide)];refine aa (fW ?_);refine aa ?_;show wpAny _ _ (setField (.ref c) 1 (rawInt (-1))>>=λ_=>setField (.ref c) 0 .none) _ _ _;refine aa (fM f d (by simp) ?_);have i:=bY (Obj.mapFields (·.setIfInBounds 1 (rawInt (-1)))) f (fE (cD d _));refine fM i (cD d _) (by simp) ?_;refine aa ?_;show wpAny _ _ (newExc (.type "StopIteration") []>>=_) _ _ _;refine aa ?_;simp only[newExc,newTuple];refine aa (bV ?_ (by size_fits));refine aa (m:=firstArgMember _ _) (dh (a:=Value.none) (by first|rfl|(simp only[firstArgMember];rfl)) ?_);refine bV ?_ (by size_fits);simp only[raiseNew];refine aa (wpAny_handled ?_);rw[show A.in1.handled=none from l];refine aa (ag (wpAny_throw ?_));refine aa (g5 (T:="StopIteration") (b:=true) ⟨_,aN _ rfl,rfl⟩ isSubtype_stop ?_);refine ag (n _ _ λb q j e=>?_);refine aj _ (aj _ ?_);exact(bA _ _ (aY j)).trans ((bA _ _ (aY j)).trans e)
theorem QT{a t:Addr}{i:Int}{Q:Value->Shared->Prop}(b:Gn s.heap a t i)(h:Q (.ref a) s):wpAny (model prog w) A (pyIter (.ref a)) Q E s:=by
 refine mw b.ty Zr (c8 Zr b.ty ZY ?_ (aab _));show wpAny _ _ (ret (.ref a)) _ _ s;exact ag ⟨_,rfl,"reversed",_,b.ty,nF.lookup,h⟩
theorem QY{c t:Addr}{b:Array Value}{Q:Value->Shared->Prop}(d:Gn s.heap c t ((b.size:Int)-1))(i:IsTup s.heap t b)(j:b.size<=sizeLine)
 (h:∀u k,s.toks<=k->Q (.int b.size u) {s with toks:=k}):wpAny (model prog w) A (call (.builtin "reversed.__length_hint__") [.ref c]) Q E s:=by
 obtain⟨o,f,l,g⟩:=id d;refine c8 Uc d.ty X3 ?_ (X4 _);unfold Builtin.«reversed.__length_hint__»;refine aa (dh (a:=Value.ref c) rfl ?_);refine aa (gu f g (x:=.ref t) rfl ?_);rw[ah (by show¬(Value.ref t==Value.none)=true;exact aQ)];refine aa (nr i (by rw[bu]at j;omega) ?_);refine aa (m:=asInt? (.int b.size (s.toks+1))) (ag ?_);dsimp only;refine aa (gu f g (x:=rawInt ((b.size:Int)-1)) rfl ?_);show wpAny _ _ (if(b.size:Int)<(b.size:Int)-1+1 then _ else _) _ _ _;rw[ah (by omega)];show wpAny _ _ (mkInt ((b.size:Int)-1+1)>>=λv=>ret v) _ _ _;refine aa (wpAny_mkInt (ag ⟨_,rfl,?_⟩));have e:(b.size:Int)-1+1=b.size:=by omega
 rw[e];exact h _ _ (by show s.toks<=s.toks+1+1+1;omega)
end
theorem Gn.at{h g:Heap}{a t:Addr}{i:Int}(x:Gn h a t i)(e:∀o,h.get? a=some o->g.get? a=some o):Gn g a t i:=let ⟨o,b,r⟩:=x;⟨o,e _ b,r⟩
theorem T8{h g:Heap}{t:Addr}{a:Array Value}(x:IsTup h t a)(e:∀o,h.get? t=some o->g.get? t=some o):IsTup g t a:=let ⟨o,b,r⟩:=x;⟨o,e _ b,r⟩
theorem walks{d:Program}{w:World}{A:Around}(r:A.handled=none)(I t:Addr)(j:t≠I)(a:Array Value)(u:a.size<=sizeLine):
 Walks d w A I [I,t] [I] a.size (λi v=>a[a.size-1-i]?=some v) (λi h=>i<=a.size/\Gn h I t ((a.size:Int)-1-(i:Int))/\IsTup h t a) where
 sub:=λb c=>by simp at c;simp[c]
 frame:=λ_ _ _ x n=>⟨x.1,x.2.1.at λo e=>n I (by simp) o e,T8 x.2.2 λo e=>n t (by simp) o e⟩
 item:=λi s Q E y x l=>by
  have e:(a.size:Int)-1-(i:Int)=((a.size-1-i:Nat):Int):=by omega
  have f:=x.2.1;rw[e]at f;have p:a[a.size-1-i]?=some a[a.size-1-i]:=aX (by omega);refine next_item f x.2.2 u p λg k m q=>l _ g k p ⟨y,?_,T8 x.2.2 λo e=>?_⟩ λb o c e=>?_
  ·have e2:(a.size:Int)-1-((i+1:Nat):Int)=((a.size-1-i:Nat):Int)-1:=by omega
   rw[e2];exact m
  ·exact(q.2 t j).trans e
  ·exact(q.2 b (by simpa using c)).trans e
 done:=λs Q E x l=>by
  have e:(a.size:Int)-1-(a.size:Int)= -1:=by omega
  have f:=x.2.1;rw[e]at f;exact next_end r f λg k m=>l g k λb o c e=>m b o (by simpa using c) e
 self:=λi s Q E x h=>QT x.2.1 h
section
variable{prog:Program}{w:World}{A:Around}{E:Value->Shared->Prop}{s:Shared}{I:Addr}{fp wr:List Addr}{G:Array GenState->Array GenState->Prop}{n:Nat}{P:Nat->Value->Prop}{St:Nat->Shared->Prop}
theorem N4{Q:List Value->Shared->Prop}(W:WalksS prog w A.in1 I fp wr G n P St)(ty:∀i s,St i s->s.TypeIs (.ref I) "reversed")(st:St 0 s)(lt:∀b∈fp,b<s.heap.objs.size)(y:I∈fp)
 (J:∀(v:Shared) (H:Value->Shared->Prop) (L:Value->Shared->Prop),St 0 v->(∀u k,v.toks<=k->H (.int n u) {v with toks:=k})->wpAny (model prog w) A.in1 (call (.builtin "reversed.__length_hint__") [.ref I]) H L v)
 (fin:∀g c,Moved wr G s g->s.heap.objs.size<g.heap.objs.size->ItemsOf P c n->Q c.toList g)(hn:n<=sizeLine):wpAny (model prog w) A (collect (.ref I)) Q E s:=by
 have x:s.heap.objs.size∉fp:=λq=>cW _ (lt _ q)
 have M:s.heap.objs.size≠I:=λq=>x (q▸y)
 unfold collect;refine aa (p8 (du F.entry_proto_collect ?_));rw[cI F.plain_proto_collect _];show wpAny _ A.in1 (newList []>>=λl=>again (.builtin "list.__iadd__" ⟨[l,.ref I],[]⟩)) _ _ s;refine aa (bV ?_);refine ag ⟨dG F.plain_list_iadd _,du F.entry_list_iadd ?_⟩;rw[cI F.plain_list_iadd _];have a:=W.frame 0 s (s.heap.push {cls:=.type "list",data:=.seq ([]:List Value).toArray}) s.toks st (ak _) λb _ o e=>aj _ e
 have h:(s.heap.push {cls:=.type "list",data:=.seq ([]:List Value).toArray}).get? s.heap.objs.size=some {cls:=.type "list",data:=.seq ([]:List Value).toArray}:=aN _ rfl;have N:Builtin.List.listSameRef (.ref s.heap.objs.size) (.ref I)=false:=by simp[Builtin.List.listSameRef,M]
 show wpAny _ A.in1 (Builtin.List.listExtendWith (.ref s.heap.objs.size) (.ref I) (.ref s.heap.objs.size)) _ _ _;unfold Builtin.List.listExtendWith;refine aa (jG (ty 0 _ a) ?_);rw[ah (by rw[N];decide)];refine aa (W.self 0 _ _ _ a ?_);refine aa (dY ?_);unfold Builtin.List.listLengthHint;refine aa (eM (ty 0 _ a) Zs ?_);show wpAny _ A.in1 (specialOf (Value.ref I) (Str.ofString "__length_hint__")>>=_) _ _ _;refine aa (eM (ty 0 _ a) hint ?_)
 (generalize j:("reversed.__length_hint__":String)=p;(fail_if_success (clear j p));wp_delta;rw[show splitId p=some ("reversed","__length_hint__")from by subst j;decide+kernel];subst j)
 refine aa (g5 (b:=true) (ty 0 _ a) (by rw[eX];kernel_rfl) ?_);rw[ah (by decide)];dsimp only;rw[ah (by decide+kernel)];refine aa (fW ?_);refine aa (dh (Uc.bind _) ?_);dsimp only;refine aa (h_ (J _ _ _ a λu k B=>?_));dsimp only;have O:asInt? (.int (n:Int) u)=pure (some (n:Int)):=rfl;rw[O,pure_bind];dsimp only;have f1:Builtin.List.listFitsIndex (n:Int)=true:=by
  have T:n<=16777216:=by rw[<-bu];exact hn
  unfold Builtin.List.listFitsIndex;rw[bI];exact⟨aF (by omega),aF (by omega)⟩
 rw[ah (by rw[f1];decide),ah (by omega)];have U:Builtin.List.listTooLong (Int.toNat (n:Int))=false:=by rw[dc];exact Bj hn
 rw[ah (by rw[U];decide)];refine ag ?_;have r:=W.frame 0 _ (s.heap.push {cls:=.type "list",data:=.seq ([]:List Value).toArray}) k a B λb _ o e=>e
 have Y:(Builtin.List.listTouch (.ref s.heap.objs.size))=(Builtin.List.listUpdate (.ref s.heap.objs.size) (·.push .none)>>=λ_=>Builtin.List.listUpdate (.ref s.heap.objs.size) (·.pop)):=rfl;by_cases Z:n=0
 ·subst Z;rw[ah (by decide+kernel)];refine ag ⟨dG F.plain_extend_loop _,kj W hn _ x _ 0 0 _ _ _ rfl (br _) r h (ItemsOf.nil P) λg c cc m d f=>?_⟩;show wpAny _ A (load s.heap.objs.size>>=_) _ _ g;refine aa (lM d ?_);exact ag (fin g c (Moved.drop_new (o:={cls:=.type "list",data:=.seq ([]:List Value).toArray}) (tk:=k) m B) (aK d) f)
 ·have hb:((n:Int) !=0)=true:=by simp;omega
  rw[az (by rw[hb];rfl)];refine aa (fW ?_);rw[Y];refine aa ?_;refine aa (fV h rfl ?_);have d:=bY (Obj.mapSeq (·.push Value.none)) h rfl;refine fV d rfl ?_;have C:=bY (Obj.mapSeq (·.pop)) d rfl;have keep:∀b o,b≠s.heap.objs.size->(s.heap.push {cls:=.type "list",data:=.seq ([]:List Value).toArray}).get? b=some o->
   (((s.heap.push {cls:=.type "list",data:=.seq ([]:List Value).toArray}).update s.heap.objs.size (Obj.mapSeq (·.push Value.none))).update s.heap.objs.size (Obj.mapSeq (·.pop))).get? b=some o:=
   λb o q e=>(bA _ _ (aY q)).trans ((bA _ _ (aY q)).trans e)
  have D:=W.frame 0 _ (((s.heap.push {cls:=.type "list",data:=.seq ([]:List Value).toArray}).update s.heap.objs.size (Obj.mapSeq (·.push Value.none))).update s.heap.objs.size (Obj.mapSeq (·.pop))) k r (ak _)
   λb q o e=>keep b o (λz=>x (z▸q)) e
  refine ag ⟨dG F.plain_extend_loop _,kj W hn _ x _ n 0 _ _ _ rfl (br _) D C (ItemsOf.nil P) λg c cc m t f=>?_⟩;show wpAny _ A (load s.heap.objs.size>>=_) _ _ g;refine aa (lM t ?_);refine ag (fin g c ⟨λb o q e=>m.heap b o ?_ (keep b o (bG (aK e)) (aj _ e)),m.gens,m.drawn,m.os,bh B m.toks⟩ (aK t) f);intro z;rcases af.mp z with z|z
  ·exact absurd (z▸aK e) (cW _)
  ·exact q z
theorem EU{f:Value->Shared->Prop}(W:WalksS prog w A.in1.in1 I fp wr G n P St)(ty:∀i s,St i s->s.TypeIs (.ref I) "reversed")(st:St 0 s)(lt:∀b∈fp,b<s.heap.objs.size)(h:I∈fp)
 (l:∀(g:Shared) (f:Value->Shared->Prop) (m:Value->Shared->Prop),St 0 g->(∀u k,g.toks<=k->f (.int n u) {g with toks:=k})->wpAny (model prog w) A.in1.in1 (call (.builtin "reversed.__length_hint__") [.ref I]) f m g)
 (fin:∀d a,Moved wr G s d->s.heap.objs.size<d.heap.objs.size->ItemsOf P a n->f (.ref d.heap.objs.size) {d with heap:=d.heap.push {cls:=.type "tuple",data:=.seq a} })(hn:n<=sizeLine):
 codeAny (model prog w) A (.call (.builtin "tuple.__new__") ⟨[.type "tuple",.ref I],[]⟩) (wants f E) s:=by
 refine kO ?_;show wpAny _ A.in1 (do checkBuiltinCall "tuple.__new__" ⟨[.type "tuple",.ref I],[]⟩;again (.builtin "tuple.__new__" ⟨[.type "tuple",.ref I],[]⟩)) _ _ s;refine aa (dh (F.newCall_tuple_1 _) (ag ⟨dG F.plain_tuple_new _,du F.entry_tuple_new ?_⟩));rw[cI F.plain_tuple_new _];have q:=sub_tuple_self;have r:=init_tuple_lookup;have t:=madeHere_tuple;have o:=ty 0 s st
 wp_walk using wpAny_typeOf o,N4 (hn:=hn) W ty st lt h l
 intro d a p j c;show wpAny _ _ (Builtin.Tuple.tupleExact a.toList.toArray>>=λv=>ret v) _ _ _;unfold Builtin.Tuple.tupleExact;have e:a.toList.toArray=a:=by simp
 rw[e];refine aa (bV ?_ (by show a.size<=sizeLine;rw[c.1];exact hn));exact ag (fin d a p j c)
theorem Uv{Q:Value->Shared->Prop}(W:WalksS prog w A.in1.in1.in1 I fp wr G n P St)(ty:∀i s,St i s->s.TypeIs (.ref I) "reversed")(st:St 0 s)(lt:∀b∈fp,b<s.heap.objs.size)(g:I∈fp)
 (m:∀(a:Shared) (l:Value->Shared->Prop) (o:Value->Shared->Prop),St 0 a->(∀u k,a.toks<=k->l (.int n u) {a with toks:=k})->wpAny (model prog w) A.in1.in1.in1 (call (.builtin "reversed.__length_hint__") [.ref I]) l o a)
 (fin:∀e c,Moved wr G s e->s.heap.objs.size<e.heap.objs.size->ItemsOf P c n->Q (.ref e.heap.objs.size) {e with heap:=e.heap.push {cls:=.type "tuple",data:=.seq c} })(hn:n<=sizeLine):
 wpAny (model prog w) A (call (.type "tuple") [.ref I]) Q E s:=by
 refine callType_codes (Q₁:=λd a=>a.TypeIs d "tuple"/\Q d a) pO (F.typeCall_tuple_1 _) F.entry_object_init
  (EU (hn:=hn) W ty st lt g m λe c p h f=>⟨⟨_,aN _ rfl,rfl⟩,fin e c p h f⟩) λd a j=>?_
 exact⟨j.1,oW d _,object_init_meets pO.init.lookup pO.made (by decide) prog w A.in1 _ a ⟨j.1,rfl,j.2⟩⟩
end
end Rv
section
variable{X:Cx}{p p2 pos Ol:Pos}{e:Expr}{te:TE}
def Mw(K:Frag)(te:TE):TE:=λf H Q=>te f H λx b=>om λa d=>x=.ref a/\kF K b a d/\∀t c,aZ b c->b t=none->c t=some (.tup d.reverse)->Q (.ref t) c
theorem UG{d:List V}{b:List Value}(f:Vals d b){a:Array Value}(h:ItemsOf (λi v=>b.toArray[b.toArray.size-1-i]?=some v) a b.toArray.size):Vals d.reverse a.toList:=by
 have e:a.toList=b.reverse:=by
  refine jO λi=>?_
  have g:a.size=b.length:=by simpa using h.1
  by_cases j:i<b.length
  ·have c:i<a.size:=by omega
   have k:a.toList[i]?=some a[i]:=by simp[c]
   have l:=h.2 i a[i] (aX c);rw[k,List.getElem?_reverse j];simpa using l.symm
  ·rw[cR (by simp;omega),cR (by simp;omega)]
 rw[e];exact Vals.reverse f
theorem N_(hc:X.calm=true)(hg:Gl X "tuple")(hm:X.mg "tuple"=none)(hg2:Gl X "reversed")(J:X.mg "reversed"=none)(ha:PE X e te)
 (m:starEach [e] X.env=(false,eval e X.env)::starEach [] X.env:=by rfl)
 (n:starEach [.Call (.Name "reversed" p2) [e] [] Ol] X.env=(false,eval (.Call (.Name "reversed" p2) [e] [] Ol) X.env)::starEach [] X.env:=by rfl):
 PE X (.Call (.Name "tuple" p) [.Call (.Name "reversed" p2) [e] [] Ol] [] pos) (Mw X.K te):=by
 intro j s T H Q I h;refine dj (qC I hg hm PyProof.Rows.boot_tuple ?_);refine cp ?_ n rfl;rw[n];refine fK (dj (qC I hg2 J PyProof.Rows.boot_reversed (cp ?_ m rfl)));rw[m];refine fK (iz (ha j s T H _ I h) ?_);rintro u d ⟨x,U,D,r1,q1⟩;refine gD ?_;obtain⟨a,Y,rfl,hq,q⟩:=q1;cases r1;obtain⟨c,Z,L,hz⟩:=D.tuple hq;have hl:=Z.length;have g:c.toArray.size<=sizeLine:=by rw[aJ,<-hl];exact hz
 refine Rv.Tv L g λk=>gD ?_
 obtain⟨f0,f1,f2,f3,f4,f5⟩:=D.NS (H':=U) (ak _) (D.e_.fresh (ak _));have I2:Inv X j T U {d with heap:=d.heap.push (Rv.J2 a (((c.toArray.size:Nat):Int)-1)),toks:=k}:=D.kept λb o e=>aj _ e
 have t:=aN d.heap (o:=Rv.J2 a (((c.toArray.size:Nat):Int)-1)) rfl;have v:a<d.heap.objs.size:=by obtain⟨_,z,_⟩:=id L;exact aK z
 have M:IsTup (d.heap.push (Rv.J2 a (((c.toArray.size:Nat):Int)-1))) a c.toArray:=by obtain⟨o,z,w1⟩:=id L;exact⟨o,aj _ z,w1⟩
 generalize er:d.heap.objs.size=r at *;generalize eh:d.heap.push (Rv.J2 a (((c.toArray.size:Nat):Int)-1))=x0 at *;have N:a≠r:=bG v;have l:=aK t;refine Rv.Uv (Rv.walks (A:=X.A.in1.in1.in1) (I2.ok.hd hc) r a N c.toArray g).toS (λi d z=>z.2.1.ty) ⟨br _,⟨_,t,rfl,by simp[Rv.J2]⟩,M⟩ (λb E=>by
  simp at E;rcases E with rfl|rfl
  ·exact l
  ·exact lA v l) (by simp) (λd Q1 E1 z f=>Rv.QY (by have :=z.2.1;simpa using this) z.2.2 g f) (λs2 w mv O y=>?_) g
 have hv:=UG Z y;have B:Y.reverse.length<=sizeLine:=by rw[List.length_reverse];exact hz
 obtain⟨h2,g2,d2,o2,k2⟩:=mv;obtain⟨G,gs,dr,tk,os⟩:=s2;dsimp only at h2 g2 d2 o2 k2 O⊢;subst g2 d2 o2;have I3:=I2.turned (h':=G) (t':=tk) (it:=r) (λb o E e=>h2 b o (by simpa using E) e) f0 f1 f3 f4 f5;have C:=I3.e_.fresh (ak _);have I4:=I3.laid (a:=G.objs.size) (o:=.tup Y.reverse) (h':=G.push {cls:=.type "tuple",data:=.seq w}) (t':=tk) (λb u e=>aj _ e) (ak _) ⟨B,w.toList,hv,⟨_,aN _ rfl,rfl,_,rfl⟩⟩;exact⟨.ref G.objs.size,_,I4,rfl,q _ _ (aD C) C au⟩
end
section
variable{κ:Type}[DecidableEq κ]
def hU(xs:List (κ×Addr×V))(k:κ):Option V:=(xs.find? λx=>decide (x.1=k)).map (·.2.2)
def AZ(k:κ)(v:V)(x:κ×Addr×V):κ×Addr×V:=if x.1=k then(x.1,x.2.1,v)else x
def mh(a:List (κ×Addr×V))(k:κ)(b:Addr)(v:V):List (κ×Addr×V):=if(hU a k).isSome then a.map (AZ k v)else a++[(k,b,v)]
abbrev XR:List (κ×Addr×V)->List (κ×Addr×Value)->Prop:=Paired λx y=>x.1=y.1/\x.2.1=y.2.1/\RelV x.2.2 y.2.2
theorem XR.val{g:List (κ×Addr×V)}{i:List (κ×Addr×Value)}(r:XR g i)(k:κ):zE (hU g k) ((atKey i k).map (·.2)):=by
 induction r with
 |nil=>exact True.intro
 |@cons p q c d h t l=>
  obtain⟨j,_,m⟩:=h;by_cases e:p.1=k
  ·have f:q.1=k:=j.symm.trans e;have a:hU (p::c) k=some p.2.2:=by simp[hU,lh,e]
   have b:atKey (q::d) k=some q.2:=by simp[atKey,lh,f]
   rw[a,b];exact m
  ·have f:¬q.1=k:=λz=>e (j.trans z)
   have a:hU (p::c) k=hU c k:=by simp[hU,lh,e]
   have b:atKey (q::d) k=atKey d k:=by simp[atKey,lh,f]
   rw[a,b];exact l
theorem XR.set{b:List (κ×Addr×V)}{c:List (κ×Addr×Value)}(r:XR b c)(k:κ){v:V}{u:Value}(f:RelV v u):XR (b.map (AZ k v)) (c.map (putAt k u)):=by
 induction r with
 |nil=>exact .nil
 |@cons p q j l h t g=>
  rw[bf,bf];refine .cons ?_ g;obtain⟨a,d,i⟩:=h;unfold putAt AZ;by_cases e:p.1=k
  ·rw[az e,az (a.symm.trans e)];exact⟨a,d,f⟩
  ·rw[ah e,ah (λz=>e (a.trans z))];exact⟨a,d,i⟩
theorem XR.put{c:List (κ×Addr×V)}{a:List (κ×Addr×Value)}(r:XR c a)(k:κ)(b:Addr){v:V}{u:Value}(d:RelV v u):XR (mh c k b v) (storedH a k b u):=by
 have e:(hU c k).isSome=(atKey a k).isSome:=by rw[(r.val k).Dj,mz]
 unfold mh storedH;rw[e];by_cases q:(atKey a k).isSome=true
 ·rw[az q,az q];exact r.set k d
 ·rw[ah q,ah q];exact iE r ⟨rfl,rfl,d⟩
theorem Vi(a:List (κ×Addr×V))(k:κ)(b:Addr)(v:V):(mh a k b v).length<=a.length+1:=by
 unfold mh;split<;>simp
theorem UW{a:List (κ×Addr×V)}{k:κ}{b:Addr}{v:V}{x:κ×Addr×V}(h:x∈mh a k b v):(∃y∈a,y.1=x.1/\y.2.1=x.2.1)\/(x.1=k/\x.2.1=b):=by
 unfold mh at h;split at h
 ·obtain⟨y,c,rfl⟩:=bq.mp h;refine .inl ⟨y,c,?_⟩;unfold AZ;split<;>exact⟨rfl,rfl⟩
 ·rcases bg.mp h with h|h
  ·exact .inl ⟨x,h,rfl,rfl⟩
  ·rw[aE.mp h];exact .inr ⟨rfl,rfl⟩
end
structure Vs(a:Type)[DecidableEq a] where
 hf:a->Int
 KO:Frag->Hp->a->Addr->Prop
 kind:(P:Program)->(w:World)->HeapKind P w a
 hash:∀P w k,(kind P w).hash k=hf k
 J_:∀{X:Cx} {c:List (Addr×Obj)} {e:L2.St} {H:Hp} {s:Shared} {k:a} {b:Addr},Inv X c e H s->KO X.K H k b->(kind X.prog X.w).is s.heap k b
 roomOf:∀{P:Program} {w:World} {A:Around},A.units+64<cLine->(kind P w).room A.in1
 T1:∀{P:Program} {w:World} {A:Around},A.units+64<cLine->(kind P w).room A
 mono:∀{K:Frag} {H d:Hp} {k:a} {b:Addr},bT H d->KO K H k b->KO K d k b
section
variable{κ:Type}[DecidableEq κ]
def DX(d:κ->Int)(a:Addr)(b:List (κ×Addr×V)):HO:=.ext λh=>(a==sysModules)=false/\b.length<=sizeLine/\∃ys,XR b ys/\
 Hl λo c e=>h.get? a=some o/\o.ExactDict/\o.data=.dict c e/\c.toList=ys.map (λy=>(⟨d y.1,.ref y.2.1,y.2.2⟩:DictEntry))/\(ys.map (·.1)).Nodup
def Xf(F:Vs κ)(K:Frag)(H:Hp)(a:List (κ×Addr×V)):Prop:=∀x∈a,F.KO K H x.1 x.2.1
def DT(F:Vs κ)(K:Frag)(H:Hp)(a:Addr)(xs:List (κ×Addr×V)):Prop:=H a=some (DX F.hf a xs)/\Xf F K H xs
theorem Xf.mono{F:Vs κ}{K:Frag}{H a:Hp}{b:List (κ×Addr×V)}(t:bT H a)(h:Xf F K H b):Xf F K a b:=λx c=>F.mono t (h x c)
theorem Xf.put{F:Vs κ}{K:Frag}{H:Hp}{a:List (κ×Addr×V)}{k:κ}{b:Addr}{v:V}(h:Xf F K H a)(c:F.KO K H k b):Xf F K H (mh a k b v):=λx d=>by
 rcases UW d with⟨y,e,e1,e2⟩|⟨e1,e2⟩
 ·rw[<-e1,<-e2];exact h y e
 ·rw[e1,e2];exact c
theorem DT.same{F:Vs κ}{K:Frag}{H b:Hp}{a:Addr}{xs:List (κ×Addr×V)}(t:aZ H b)(h:DT F K H a xs):DT F K b a xs:=⟨t _ _ h.1,h.2.mono (aZ.tup t)⟩
variable{F:Vs κ}{X:Cx}{pins:List (Addr×Obj)}{σ:L2.St}{H:Hp}{s:Shared}{a b:Addr}{k:κ}{v:V}{u r:Value}{A:Around}{E:Value->Shared->Prop}{xs:List (κ×Addr×V)}
theorem DG(I:Inv X pins σ H s)(d:DT F X.K H a xs):xs.length<=sizeLine/\(a==sysModules)=false/\∃f,XR xs f/\s.heap.DictOfH (F.kind X.prog X.w) a f:=by
 obtain⟨e,j⟩:=d;obtain⟨⟨n,z,f,g,o,B,C,D,G,J,L,M⟩,_⟩:=I.e_ a _ e;refine⟨z,n,f,g,o,B,C,D,G,J,?_,?_,M⟩
 ·rw[L];refine bL λy _=>?_
  unfold entryOfKey;rw[F.hash]
 ·have all:∀{l:List (κ×Addr×V)} {m:List (κ×Addr×Value)},XR l m->Xf F X.K H l->∀y∈m,(F.kind X.prog X.w).is s.heap y.1 y.2.1:=by
   intro l m q
   induction q with
   |nil=>intro _ y c;exact nomatch c
   |@cons p q O Q h t N=>
    intro i y c;rcases af.mp c with e|c
    ·subst e;rw[<-h.1,<-h.2.1];exact F.J_ I (i p aW)
    ·exact N (λx g=>i x (aA _ g)) y c
  exact all g j
theorem Jv(I:Inv X pins σ H s)(d:DT F X.K H a xs):s.TypeIs (.ref a) "dict":=by
 obtain⟨_,_,_,_,c⟩:=DG I d;exact c.typeIs
theorem R8(I:Inv X pins σ H s)(d:DT F X.K H a xs):∀b,Value.ref a=.ref b->∃c,s.heap.get? b=some c/\c.dict=none:=λb q=>by
 cases q;obtain⟨_,_,_,_,c,_,_,e,f,_⟩:=DG I d;exact⟨c,e,f.2.1⟩
theorem RC{Q:Value->Shared->Prop}(j:A.units+64<cLine)(I:Inv X pins σ H s)(d:DT F X.K H a xs)(m:F.KO X.K H k b)(l:hU xs k=some v)(h:∀c i,Inv X pins σ H i->RelV v c->Q c i):
 wpAny (model X.prog X.w) A (getItem (.ref a) (.ref b)) Q E s:=by
 obtain⟨_,_,n,e,q⟩:=DG I d;obtain⟨c,t,f⟩:=zE.some_of (v:=v) (o:=(atKey n k).map (·.2)) (by rw[<-l];exact e.val k);obtain⟨p,x,g⟩:=cy.mp t;refine wpAny_getItem_heap (F.roomOf j) (F.J_ I m) q x ?_;rw[g];exact h c _ (I.tok _) f
theorem Z8{Q:Value->Shared->Prop}(f:A.units+64<cLine)(I:Inv X pins σ H s)(d:DT F X.K H a xs)(g:F.KO X.K H k b)(h:∀e,Inv X pins σ H e->Q (.bool (hU xs k).isSome) e):
 wpAny (model X.prog X.w) A (compareOp .In (.ref b) (.ref a)) Q E s:=by
 obtain⟨_,i,l,c,j⟩:=DG I d;refine wpAny_in_heap (F.roomOf f) (F.J_ I g) i j ?_;have q:=(c.val k).Dj;rw[mz]at q;rw[<-q];exact h _ (I.tok _)
theorem VC{Q:Value->Shared->Prop}(f:A.units+64<cLine)(I:Inv X pins σ H s)(d:DT F X.K H a xs)(g:F.KO X.K H k b)(h:∀e,Inv X pins σ H e->Q (.bool (!(hU xs k).isSome)) e):
 wpAny (model X.prog X.w) A (compareOp .NotIn (.ref b) (.ref a)) Q E s:=by
 obtain⟨_,i,l,c,j⟩:=DG I d;refine wpAny_notIn_heap (F.roomOf f) (F.J_ I g) i j ?_;have q:=(c.val k).Dj;rw[mz]at q;rw[<-q];exact h _ (I.tok _)
theorem Xy{P:Program}{w:World}{g:Heap}{ys:List (κ×Addr×Value)}{o:Obj}{c:Array DictEntry}{h:Nat}(z:xs.length<=sizeLine)(j:(a==sysModules)=false)(d:XR xs ys)(i:g.get? a=some o)(l:o.ExactDict)(m:o.data=.dict c h)
 (n:c.toList=ys.map (λy=>(⟨F.hf y.1,.ref y.2.1,y.2.2⟩:DictEntry)))(p:(ys.map (·.1)).Nodup):l9 P w H g a (DX F.hf a xs):=by
 refine⟨⟨j,z,ys,d,o,c,h,i,l,m,n,p⟩,⟨o,i⟩,?_⟩;rintro I J ⟨q,t,x,B,C,e,f,D,G⟩ k;exact⟨q,t,x,B,C,e,f,k _ D,G⟩
theorem MT(I:Inv X pins σ H s)(d:DT F X.K H a xs)(t:xs.length<sizeLine)(i:RelV v r){g:List (κ×Addr×Value)}(c:XR xs g){e:Heap}{t':Nat}(f:e.DictOfH (F.kind X.prog X.w) a (storedH g k b r))(j:Heap.SameBut a s.heap e)(l:(a==sysModules)=false):
 Inv X pins σ (upd H a (DX F.hf a (mh xs k b v))) {s with heap:=e,toks:=t'}:=by
 obtain⟨q,x,z,h,m,n,o,_,p⟩:=f;refine WH I (by rw[d.1];exact True.intro) j ⟨q,h⟩ (Xy (by have :=Vi xs k b v;omega) l (c.put k b i) h m n ?_ p);rw[o];refine bL λy _=>?_
 unfold entryOfKey;rw[F.hash]
theorem R_{Q:Unit->Shared->Prop}(g:A.units+64<cLine)(I:Inv X pins σ H s)(d:DT F X.K H a xs)(i:F.KO X.K H k b)(j:xs.length<sizeLine)(l:RelV v r)(h:∀f,Inv X pins σ (upd H a (DX F.hf a (mh xs k b v))) f->Q () f):
 wpAny (model X.prog X.w) A (setItem (.ref a) (.ref b) r) Q E s:=by
 obtain⟨z,m,n,c,o⟩:=DG I d;have p:n.length<=sizeLine:=by rw[<-ki c];exact z
 exact wpAny_setItem_heap (hsz:=p) (F.roomOf g) (F.J_ I i) o λt e q=>h _ (MT I d j l c e q m)
theorem Yr{d:V}{Q:Value->Shared->Prop}(i:A.units+64<cLine)(I:Inv X pins σ H s)(j:DT F X.K H a xs)(l:F.KO X.K H k b)(m:RelV d r)(h:∀e f,Inv X pins σ H f->RelV ((hU xs k).getD d) e->Q e f):
 wpAny (model X.prog X.w) A (call (.builtin "dict.get") [.ref a,.ref b,r]) Q E s:=by
 obtain⟨z,n,o,c,g⟩:=DG I j;exact call_meetsIn nR g.typeIs PySem.F.entry_dict_get (PySem.F.args_dict_get_3 _ _ _) (meetsH_dict_get_default (F.kind X.prog X.w) a b n r) ⟨F.roomOf i,k,o,F.J_ I l,g,h _ _ (I.tok _) ((c.val k).getD m)⟩
theorem Na{P:Program}{w:World}(h:Heap)(c:sysModules<h.objs.size):l9 P w H (h.push {cls:=.type "dict",data:=.dict #[]}) h.objs.size (DX F.hf h.objs.size []):=
 Xy (ys:=[]) (br _) (gO.mpr (aY (bG c))) .nil (aN _ rfl) ⟨rfl,rfl,rfl⟩ rfl rfl jM
end
section
variable{κ:Type}[DecidableEq κ](F:Vs κ)(K:Frag)
def xO(f ty:TE):TE:=λd H Q=>f d H λx g=>ty d g λy c=>Vu λa b e k v=>x=.ref a/\y=.ref b/\DT F K c a e/\F.KO K c k b/\hU e k=some v/\Q v c
def Zx(ty f:TE):TE:=λd H Q=>ty d H λy g=>f d g λx c=>AF λa b e k=>x=.ref a/\y=.ref b/\DT F K c a e/\F.KO K c k b/\Q (.bl (hU e k).isSome) c
def P7(ty f:TE):TE:=λd H Q=>ty d H λy g=>f d g λx c=>AF λa b e k=>x=.ref a/\y=.ref b/\DT F K c a e/\F.KO K c k b/\Q (.bl (!(hU e k).isSome)) c
def Cs(f ty g:TE):TS:=λD c H=>g c H λv h=>f c h λx i=>ty c i λy d=>AF λa b e k=>x=.ref a/\y=.ref b/\DT F K d a e/\F.KO K d k b/\e.length<sizeLine/\D.nx c (upd d a (DX F.hf a (mh e k b v)))
def Sw(g ty h:TE):TE:=λd H Q=>g d H λx f=>om λa c=>x=.ref a/\DT F K f a c/\ty d f λy i=>h d i λz e=>Hl λb c k=>y=.ref b/\DT F K e a c/\F.KO K e k b/\Q ((hU c k).getD z) e
def Tx:TE:=λ_ H Q=>∀p,H p=none->Q (.ref p) (upd H p (DX F.hf p []))
def Ky(tk d:TE):TE:=λc H Q=>∀p,H p=none->tk c (upd H p (DX F.hf p [])) λx e=>d c e λy a=>om λb k=>x=.ref b/\DT F K a p []/\F.KO K a k b/\Q (.ref p) (upd a p (DX F.hf p [(k,b,y)]))
end
section
variable{κ:Type}[DecidableEq κ]{F:Vs κ}{X:Cx}{o i e f rB:Expr}{pos Ct Ho rA x_:Pos}{td ty tv tx:TE}
theorem qT(n:X.A.units+64<cLine)(p:PE X o td)(q:PE X i ty)(r:YJ i):PE X (.Subscript o i pos) (xO F X.K td ty):=by
 intro c s j H Q I h;refine PZ lF.lookup r (iz (p c s j H _ I h) ?_);rintro u t ⟨x,w,z,B,C⟩;refine iz (q c t j w _ z C) ?_;rintro D T ⟨y,E,m,G,a,b,U,k,v,J,L,d,M,l,N⟩;subst J L;obtain rfl:u=Value.ref a:=B;obtain rfl:D=Value.ref b:=G;exact⟨Jv m d,RC n m d M l λY Z O g=>⟨v,E,O,g,N⟩⟩
theorem YX(j:X.A.units+64<cLine)(l:PE X i ty)(m:PE X o td):PC X .In i o (Zx F X.K ty td):=by
 intro c s g H Q I h;refine iz (l c s g H _ I h) ?_;rintro n p ⟨y,q,r,t,v⟩;refine iz (m c p g q _ r v) ?_;rintro u L ⟨x,w,z,B,a,b,M,k,C,D,d,E,G⟩;subst C D;obtain rfl:u=Value.ref a:=B;obtain rfl:n=Value.ref b:=t;exact Z8 j z d E λN J=>⟨.bl _,w,J,rfl,G⟩
theorem Rm(j:X.A.units+64<cLine)(l:PE X i ty)(m:PE X o td):PC X .NotIn i o (P7 F X.K ty td):=by
 intro c s g H Q I h;refine iz (l c s g H _ I h) ?_;rintro n p ⟨y,q,r,t,v⟩;refine iz (m c p g q _ r v) ?_;rintro u L ⟨x,w,z,B,a,b,M,k,C,D,d,E,G⟩;subst C D;obtain rfl:u=Value.ref a:=B;obtain rfl:n=Value.ref b:=t;exact VC j z d E λN J=>⟨.bl _,w,J,rfl,G⟩
theorem zt(j:X.A.units+64<cLine)(l:PE X o td)(m:PE X i ty)(n:PE X rB tv)(p:swapsWith rB (some (.Subscript o i Ct)) pos.line X.env=pure false):
 PS X (.Assign [.Subscript o i Ct] rB pos) (Cs F X.K td ty tv):=by
 intro c s g H D I h;refine wpAny_Assign_Subscript (iz (n c s g H _ I h) ?_) p;rintro r q ⟨v,t,w,z,B⟩;refine iz (l c q g t _ w B) ?_;rintro u C ⟨x,E,G,J,L⟩;refine iz (m c C g E _ G L) ?_;rintro M s3 ⟨y,H3,N,O,a,b,xs,k,Q,T,d,U,Y,Z⟩;subst Q T;obtain rfl:u=Value.ref a:=J;obtain rfl:M=Value.ref b:=O;exact R_ j N d U Y z λs4 I4=>⟨g,_,I4,Z⟩
theorem SK(n:X.A.units+64<cLine)(p:PE X o td)(q:PE X e ty)(r:PE X f tx)(m:M2 X o "get" rA e f x_):PE X (.Call (.Attribute o "get" rA) [e,f] [] x_) (Sw F X.K td ty tx):=by
 intro c s g H Q I h;refine wpAny_Call_method m.base m.few m.line PySem.F.plainAttrs_dict nR PySem.F.type_dict_get (iz (p c s g H _ I h) ?_);rintro u t ⟨x,v,j,w,a,B,C,d,D⟩;subst C;obtain rfl:u=Value.ref a:=w;refine⟨Jv j d,R8 j d,?_⟩;rw[m.trees];refine jw rfl (oP (fK (iz (q c t g v _ j D) λE G ⟨y,J,L,M,N⟩=>
  fK (iz (r c G g J _ L N) λfv s3 ⟨z,O,T,U,b,B,k,Y,d3,Z,q3⟩=>gD ?_))))
 subst Y;obtain rfl:E=Value.ref b:=M;exact Yr n T d3 Z U λw' s4 I4 l=>⟨_,O,I4,l,q3⟩
theorem Pe:PE X (.Dict [] [] pos) (Tx F):=λb s c H Q I h=>
 wpAny_Dict_empty ⟨.ref s.heap.objs.size,_,I.laid (a:=s.heap.objs.size) (o:=DX F.hf s.heap.objs.size []) (t':=s.toks) (λ_ _ q=>aj _ q) (ak _) (Na s.heap I.big),rfl,h _ (I.e_.fresh (ak _))⟩
theorem IW(p:X.A.units+64<cLine)(r:PE X e ty)(t:PE X f tv):PE X (.Dict [some e] [f] pos) (Ky F X.K ty tv):=by
 intro c s n H Q I q;have v:=I.e_.fresh (ak s.heap.objs.size);have h:=I.laid (a:=s.heap.objs.size) (o:=DX F.hf s.heap.objs.size []) (h':=s.heap.push {cls:=.type "dict",data:=.dict #[]}) (t':=s.toks) (λ_ _ q=>aj _ q) (ak _) (Na s.heap I.big);refine wpAny_Dict_any rfl rfl (by simp) (show 1<=15 by decide) ?_;refine pairTrees_cons_walk (iz (r c _ n _ _ h (q _ v)) ?_);rintro u w ⟨x,B,h,C,D⟩;refine iz (t c w n B _ h D) ?_;rintro Y E ⟨y,Z,j,G,b,k,J,d,L,M⟩;refine pairTrees_nil_walk ?_;subst J;obtain rfl:u=Value.ref b:=C;unfold storeAll;rw[List.forIn_cons];obtain⟨z,N,O,g,T⟩:=DG j d;have U:O.length<=sizeLine:=by rw[<-ki g];exact z
 refine aa (aa (wpAny_dictSet_heap (hsz:=U) (F.T1 (A:=X.A) p) (F.J_ j L) T λh' l m=>ag ?_));dsimp only;rw[pS];refine ag ⟨.ref _,_,MT (t':=E.toks+_) j d (by rw[fS];decide) G g l m N,rfl,M⟩
end
def hT(k:List Int):Int:=reduceHash (Builtin.Tuple.tupleHashOf (k.map hashInt))
def Lf(K:Frag)(H:Hp)(a:Addr)(c:List V):Prop:=
 H a=some (.tup c)\/∃(o:Obj) (b:Array Value) (n:Nat),K.lookup a=some o/\o.cls=.type "tuple"/\o.data=.seq b n/\b.size<=sizeLine/\Vals c b.toList
theorem Lf.sq{K:Frag}{H:Hp}{a:Addr}{b:List V}(h:Lf K H a b):kF K H a b:=by
 rcases h with h|h
 ·exact .inl (.inl h)
 ·exact .inr h
theorem Lf.mono{K:Frag}{H b:Hp}{a:Addr}{c:List V}(t:bT H b)(h:Lf K H a c):Lf K b a c:=h.imp (t _ _) id
theorem Im{P:Program}{w:World}:∀{a:List Int} {b:List Value},Vals (a.map V.int) b->ItemsAre (intKind P w) a b
 |[],_,r=>by rw[iT]at r;cases r;exact .nil
 |k::a,_,r=>by
  rw[bf]at r;cases r with
  |cons h t=>obtain⟨c,e⟩:=h;subst e;exact .cons (qM _ _ _ _) (Im t)
def eG:Vs (List Int) where
 hf:=hT
 KO:=λK H k b=>Lf K H b (k.map V.int)
 kind:=λP w=>tupleKind (intKind P w)
 hash:=λ_ _ _=>rfl
 J_:=λI h=>by
  obtain⟨a,r,⟨o,c,d,n,e⟩,_⟩:=I.tuple h.sq;exact⟨o,a.toArray,n,c,d,e,by simpa using Im r⟩
 roomOf:=λf=>tupleKind_room_in1 (by omega)
 T1:=λ{P w A} f=>show A.units<cLine by omega
 mono:=λt h=>h.mono t
section
variable{prog:Program}{w:World}
def OD(prog:Program)(w:World)(A:Around)(h:Heap)(v:Value)(n:Int)(d:Nat):Prop:=
 ∀(E:Value->Shared->Prop) (s:Shared) (Q:Int->Shared->Prop),s.heap=h->Q n {s with toks:=s.toks+d}->wpAny (model prog w) A (pyHash v) Q E s
inductive HA(prog:Program)(w:World)(A:Around)(h:Heap):List Value->List Int->Nat->Prop
 |nil:HA prog w A h [] [] 0
 |cons {v:Value} {n:Int} {d m:Nat} {a:List Value} {b:List Int}:OD prog w A h v n d->HA prog w A h a b m->HA prog w A h (v::a) (n::b) (d+m)
theorem AY{A:Around}{h:Heap}{a:Addr}{o:Obj}{e:Array Value}{c:Nat}{k:List Int}{d:Nat}(y:A.units<cLine)(u:h.get? a=some o)(z:o.cls=.type "tuple")(B:o.data=.seq e c)(C:HA prog w A.in1 h e.toList k d):
 OD prog w A h (.ref a) (reduceHash (Builtin.Tuple.tupleHashOf k)) (d+1):=by
 intro E s Q D g;subst D;have hT:s.TypeIs (.ref a) "tuple":=⟨o,u,z⟩;unfold pyHash
 first|unfold pyHashByItsType|skip
 first|refine aa (wpAny_cRoomFor_or (.inr y) ?_)|skip
 refine aa (eM hT gU.lookup ?_);show wpAny _ _ (if(some (Value.builtin "tuple.__hash__")==some Value.none)=true then _ else _) Q E s;rw[ah (by rw[beq_builtin_none];exact aQ)];refine aa (eM hT gU.lookup ?_);show wpAny _ _ (callSpecialIfBoundUnlessNone? (.ref a) "__hash__" _>>=_) Q E s;refine aa (wpAny_callSpecialIfBoundUnlessNone?_slot hT gU (c8 gU hT PySem.F.entry_tuple_hash ?_ (PySem.F.args_tuple_hash_1 _)));show wpAny _ _ (Builtin.Tuple.tupleItemsOf (.ref a)>>=_) _ _ s;refine aa (wpAny_tupleItemsOf u B ?_);refine aa ?_;rw[<-Array.forIn_toList];refine wpAny_forIn_list _
  (λf (b:Array Int) r=>∃done left e1 e2,k=done++left/\HA prog w A.in1 s.heap f left e2/\b.toList=done/\e1+e2=d/\r={s with toks:=s.toks+e1})
  _ ?_ ?_ _ _ ⟨[],k,0,d,rfl,C,rfl,iU _,rfl⟩
 ·rintro x f b r ⟨done,left,e1,e2,rfl,t,l,p,rfl⟩;cases t with
  |@cons _ n v m _ i G j=>
   refine aa (G _ _ _ rfl ?_)
   first
    |exact ag ⟨done++[n],i,e1+v,m,by simp,j,by simp[l],by omega,by simp[gE]⟩
    |exact aa (ag (ag ⟨done++[n],i,e1+v,m,by simp,j,by simp[l],by omega,by simp[gE]⟩))
 ·rintro b r ⟨done,left,e1,e2,rfl,t,l,p,rfl⟩;cases t;rw[bQ]at g;have p:e1=d:=p;subst p;show wpAny _ _ (retInt (Builtin.Tuple.tupleHashOf b.toList)) _ _ _;rw[l];refine wpAny_ret_mkInt ?_;show wpAny _ _ (if(decide (-(2:Int)^63<=Builtin.Tuple.tupleHashOf done)&&decide (Builtin.Tuple.tupleHashOf done<2^63))=true then _ else _) Q E _;unfold reduceHash at g;by_cases q:(decide (-(2:Int)^63<=Builtin.Tuple.tupleHashOf done)&&decide (Builtin.Tuple.tupleHashOf done<2^63))=true
  ·rw[az q];rw[az q]at g;exact ag (by simpa[gE]using g)
  ·rw[ah q];rw[ah q]at g;exact aa (fW (ag (by simpa[gE]using g)))
def yZ(prog:Program)(w:World)(n:Nat)(h:Heap)(v:Value):Prop:=
 ∀(A:Around) (E:Value->Shared->Prop) (s:Shared) (Q:Bool->Shared->Prop),s.heap=h->Q true s->wpAny (model prog w) A (eqIsQuiet n v) Q E s
theorem Jr{n:Nat}{h:Heap}{v:Value}(c:carriedByValue v=true):yZ prog w n h v:=λA E s Q _ a=>by
 rw[eqIsQuiet_byValue _ c];exact ag a
theorem xn{n:Nat}{h:Heap}{a:Addr}{o:Obj}{b:Array Value}{c:Nat}(j:h.get? a=some o)(k:o.cls=.type "tuple")(l:o.data=.seq b c)(m:∀v∈b.toList,yZ prog w n h v):
 yZ prog w (n+1) h (.ref a):=by
 intro A E s Q p q;subst p;have hT:s.TypeIs (.ref a) "tuple":=⟨o,j,k⟩;unfold eqIsQuiet;refine aa (eM hT PySem.F.slot_tuple_eq.lookup ?_);show wpAny _ _ (isInstance (.ref a) (.type "tuple")>>=_) _ _ s;refine aa (g5 hT isSubtype_tuple_tuple ?_);simp only[ql,eT,g7];refine aa (iO j l ?_);refine aa ?_;show wpAny _ _ (forIn b _ _) _ _ s;rw[<-Array.forIn_toList];refine wpAny_forIn_list _ (λd r f=>r.1=none/\f=s/\∀v∈d,yZ prog w n s.heap v) _ ?_ ?_ _ _ ⟨rfl,rfl,m⟩
 ·rintro v d r f ⟨g,rfl,e⟩;refine aa (e v aW _ _ _ _ rfl ?_);simp only[ql,eT,g7];exact ag ⟨rfl,rfl,λu i=>e u (aA _ i)⟩
 ·rintro⟨t,x⟩ f ⟨g,rfl,_⟩;simp only at g;subst g;exact ag q
end
abbrev Bb:=Int×List (List Int)
def hR(k:Bb):Int:=reduceHash (Builtin.Tuple.tupleHashOf [hashInt k.1,reduceHash (Builtin.Tuple.tupleHashOf (k.2.map hT))])
def wG(h:Heap):List (List Int)->List Value->Prop:=Paired λk v=>AF λa o b c=>v=.ref a/\h.get? a=some o/\o.cls=.type "tuple"/\o.data=.seq b c/\IntsAre b.toList k
def uH(h:Heap)(k:Bb)(a:Addr):Prop:=Zl λo b t c n e d m=>h.get? a=some o/\o.cls=.type "tuple"/\o.data=.seq c n/\c.toList=[.int k.1 t,.ref b]/\
 h.get? b=some e/\e.cls=.type "tuple"/\e.data=.seq d m/\wG h k.2 d.toList
section
variable{prog:Program}{w:World}
theorem S9{a b:List Int}{c:List Value}(p:IntsAre c a)(q:IntsAre c b):a=b:=by
 induction p generalizing b with
 |nil=>cases q;rfl
 |cons _ _ _ d=>cases q with |cons _ _ r=>rw[d r]
theorem S7{h:Heap}{a b:List (List Int)}{i:List Value}(p:wG h a i)(q:wG h b i):a=b:=by
 induction p generalizing b with
 |nil=>cases q;rfl
 |cons p _ l=>
  cases q with
  |cons q r=>
   rw[l r];obtain⟨a,o,m,c,e,n,_,s,t⟩:=p;obtain⟨u,v,j,x,k,d,_,f,g⟩:=q;rw[e]at k;cases k;rw[n]at d;cases d;rw[s]at f;cases f;rw[S9 t g]
theorem uH.inj{h:Heap}{a:Addr}{x y:Bb}(p:uH h x a)(q:uH h y a):x=y:=by
 obtain⟨o,b,t,l,n,D,r,m,s,_,u,v,z,_,A,B⟩:=p;obtain⟨E,G,H,j,I,C,k,J,c,_,d,e,f,_,g,i⟩:=q;rw[s]at c;cases c;rw[u]at d;cases d;rw[v]at e;injection e with e1 e2
 injection e1 with e1 _
 injection e2 with e2 _
 injection e2 with e2
 subst e2;rw[z]at f;cases f;rw[A]at g;cases g;exact gB e1 (S7 B i)
theorem CY{h f:Heap}{d a:Addr}{o b:Obj}{k:Array DictEntry}{l:Nat}{c:Array Value}{n:Nat}(g:h.get? a=some b)(i:b.data=.seq c n)(j:h.get? d=some o)(m:o.data=.dict k l)(p:Heap.SameBut d h f):f.get? a=some b:=by
 have e:a≠d:=by
  rintro rfl;rw[g]at j;cases j;rw[m]at i;cases i
 exact(p.2 a e).trans g
theorem uH.keeps{h r:Heap}{k:Bb}{a d:Addr}{o:Obj}{y:Array DictEntry}{z:Nat}(p:uH h k a)(g:h.get? d=some o)(i:o.data=.dict y z)(j:Heap.SameBut d h r):uH r k a:=by
 obtain⟨A,b,t,l,n,B,q,m,C,D,s,E,G,H,u,I⟩:=p;refine⟨A,b,t,l,n,B,q,m,CY C s g i j,D,s,E,CY G u g i j,H,u,?_⟩;refine Paired.jr I ?_;rintro Q v ⟨J,L,f,c,e,M,N,x,O⟩;exact⟨J,L,f,c,e,CY M x g i j,N,x,O⟩
theorem QR{A:Around}{h:Heap}:∀{a:List Int} {b:List Value},IntsAre b a->HA prog w A h b (a.map hashInt) a.length
 |_,_,.nil=>.nil
 |_,_,.cons n t r=>by
  have :=HA.cons (prog:=prog) (w:=w) (A:=A) (h:=h) (v:=.int n t) (n:=hashInt n) (d:=1) (λE s Q _ c=>nG c) (QR r);rw[aG,lI];exact this
theorem WW{A:Around}{h:Heap}(e:A.units<cLine){b:List (List Int)}{d:List Value}(p:wG h b d):HA prog w A h d (b.map hT) (b.map λk=>k.length+1).sum:=by
 induction p with
 |nil=>exact .nil
 |cons q r f=>
  obtain⟨a,o,g,c,rfl,i,j,l,m⟩:=q;exact HA.cons (AY e i j l (QR m)) f
def TN(k:Bb):Nat:=1+((k.2.map λk=>k.length+1).sum+1+0)+1
theorem RT{A:Around}{h:Heap}{k:Bb}{a:Addr}(u:A.units+60<cLine)(p:uH h k a):OD prog w A h (.ref a) (hR k) (TN k):=by
 obtain⟨v,b,t,c,n,x,d,m,e,f,g,i,j,l,o,q⟩:=p;refine AY (by omega) e f g ?_;rw[i];refine HA.cons (λE s Q _ r=>nG r) (HA.cons (AY ?_ j l o (WW ?_ q)) .nil)
 ·simp only[nD];omega
 ·simp only[nD];omega
theorem Nt{h:Heap}{k:Bb}{a:Addr}(p:uH h k a):yZ prog w 8 h (.ref a):=by
 obtain⟨M,b,t,i,n,N,x,m,y,z,A,B,C,D,E,G⟩:=p;refine xn y z A λv d=>?_
 rw[B]at d;rcases af.mp d with e|d
 ·subst e;exact Jr rfl
 ·rw[aE.mp d];refine xn C D E λv d=>?_
  obtain⟨j,O⟩:=bZ.mp d;have all:∀{s:List (List Int)} {f:List Value},wG h s f->∀v∈f,yZ prog w 6 h v:=by
   intro s f q
   induction q with
   |nil=>intro v d;exact nomatch d
   |cons q r l=>
    intro v d;rcases af.mp d with e|d
    ·subst e;obtain⟨a,o,i,c,rfl,H,I,J,L⟩:=q;refine xn H I J λv d=>?_
     have g:∀{f:List Value} {u:List Int},IntsAre f u->∀v∈f,carriedByValue v=true:=by
      intro f u q
      induction q with
      |nil=>intro v d;exact nomatch d
      |cons n t r l=>
       intro v d;rcases af.mp d with e|d
       ·subst e;rfl
       ·exact l v d
     exact Jr (g L v d)
    ·exact l v d
  exact all G v d
def J7(k:List Int):PyData:=.tuple (k.map PyData.int)
def X0(k:Bb):PyData:=.tuple [.int k.1,.tuple (k.2.map J7)]
theorem Ma:∀a b:List Int,PyData.eqvAll (a.map PyData.int) (b.map PyData.int)=decide (a=b)
 |[],[]=>rfl
 |[],_::_=>by simp[PyData.eqvAll]
 |_::_,[]=>by simp[PyData.eqvAll]
 |x::a,y::b=>by
  rw[bf,bf,PyData.eqvAll,Ma a b,PyData.eqv];by_cases e:x=y<;>by_cases c:a=b<;>simp[e,c]
theorem Lz:∀a b:List (List Int),PyData.eqvAll (a.map J7) (b.map J7)=decide (a=b)
 |[],[]=>rfl
 |[],_::_=>by simp[PyData.eqvAll]
 |_::_,[]=>by simp[PyData.eqvAll]
 |x::a,y::b=>by
  rw[bf,bf,PyData.eqvAll,Lz a b,J7,J7,PyData.eqv,Ma];by_cases e:x=y<;>by_cases c:a=b<;>simp[e,c]
theorem Wy(a b:Bb):PyData.eqv (X0 a) (X0 b)=decide (a=b):=by
 obtain⟨c,d⟩:=a;obtain⟨f,g⟩:=b;simp only[X0,PyData.eqv,PyData.eqvAll,Lz];by_cases e:c=f<;>by_cases h:d=g<;>simp[e,h]
theorem LH:∀a:List Int,PyData.canLayAll0 (a.map PyData.int)=true/\PyData.depthAll (a.map PyData.int)<=1
 |[]=>⟨rfl,by simp[PyData.depthAll]⟩
 |x::a=>by
  have :=LH a;simp only[bf,PyData.canLayAll0,PyData.canLay0,PyData.depthAll,PyData.depth,this.1,qw,true_and];omega
theorem M_:∀a:List (List Int),PyData.canLayAll0 (a.map J7)=true/\PyData.depthAll (a.map J7)<=2
 |[]=>⟨rfl,by simp[PyData.depthAll]⟩
 |x::a=>by
  have :=M_ a;have b:=LH x;simp only[bf,J7,PyData.canLayAll0,PyData.canLay0,PyData.depthAll,PyData.depth,b.1,qw,true_and];refine⟨this.1,?_⟩;have c:=this.2;omega
theorem P8(k:Bb):PyData.canLay0 (X0 k)=true/\PyData.depth (X0 k)<=5:=by
 have h:=M_ k.2;simp only[X0,PyData.canLay0,PyData.canLayAll0,PyData.depth,PyData.depthAll,h.1,qw,true_and];omega
theorem O4{h:Heap}{a:List Value}{b:List Int}(p:IntsAre a b):ReadsAll h a (b.map PyData.int) []:=by
 induction p with
 |nil=>exact .nil
 |cons n t r c=>exact ReadsAll.cons (as:=[]) (bs:=[]) (.int n t) c
theorem Nv{h:Heap}{b:List (List Int)}{d:List Value}(p:wG h b d):ReadsAll h d (b.map J7) []:=by
 induction p with
 |nil=>exact .nil
 |cons q r e=>
  obtain⟨a,o,f,c,rfl,g,i,j,k⟩:=q;exact ReadsAll.cons (as:=[]) (bs:=[]) (.tuple g i j (O4 k)) e
theorem Gr{h:Heap}{k:Bb}{a:Addr}(p:uH h k a):Reads h (.ref a) (X0 k) []:=by
 obtain⟨r,b,t,c,n,s,d,m,e,f,g,i,j,l,o,q⟩:=p;refine .tuple e f g ?_;rw[i];exact ReadsAll.cons (as:=[]) (bs:=[]) (.int _ _) (ReadsAll.cons (as:=[]) (bs:=[]) (.tuple j l o (Nv q)) .nil)
def Zi(prog:Program)(w:World):HeapKind prog w Bb where
 is:=uH
 hash:=hR
 draws:=TN
 room:=λA=>A.units+60<cLine
 inj:=λp q=>p.inj q
 keeps:=λp f g i=>p.keeps f g i
 pyHash:=λd p c=>RT d p _ _ _ rfl c
 eqBool:=λ{A E s x y a b Q} d p q c=>by
  have h:=P8 x;have e:=P8 y;exact SeqAt.eqBoolOverData prog w A E s _ _ _ _ _ _ Q (Gr p) (Gr q) h.1 e.1 (by have j:=h.2;have k:=e.2;omega) (by rw[Wy];exact c)
 quiet:=λp c=>Nt p _ _ _ _ rfl c
end
def Zw(H:Hp)(k:Bb)(a:Addr):Prop:=om λb d=>H a=some (.tup [.int k.1,.ref b])/\H b=some (.tup d)/\Paired (λ(v:V) (s:List Int)=>∃c,v=.ref c/\H c=some (.tup (s.map V.int))) d k.2
def KS:Vs Bb where
 hf:=hR
 KO:=λ_ H k a=>Zw H k a
 kind:=Zi
 hash:=λ_ _ _=>rfl
 J_:=λ{X B N H s k a} I h=>by
  obtain⟨b,d,i,j,l⟩:=h;obtain⟨p,r,⟨o,e1,e2,n,e3⟩,_⟩:=I.tuple (kF.of i);obtain⟨u,C,⟨D,f1,E,m,G⟩,_⟩:=I.tuple (kF.of j);cases r with
  |cons x f=>
   cases f with
   |cons f J=>
    cases J;obtain⟨t,rfl⟩:=x;cases f;refine⟨o,b,t,_,n,D,u.toArray,m,e1,e2,e3,by simp,f1,E,G,?_⟩;have all:∀{d:List V} {y:List (List Int)} {g:List Value},Paired (λ(v:V) (s:List Int)=>∃c,v=.ref c/\H c=some (.tup (s.map V.int))) d y->Vals d g->wG s.heap y g:=by
     intro d y g q
     induction q generalizing g with
     |nil=>intro r;cases r;exact .nil
     |cons q t L=>
      intro r;cases r with
      |cons x f=>
       refine .cons ?_ (L f);obtain⟨c,rfl,z⟩:=q;cases x;obtain⟨p,r,⟨o,e1,e2,n,e3⟩,_⟩:=I.tuple (kF.of z);exact⟨c,o,_,n,rfl,e1,e2,e3,by simpa using r.ints⟩
    simpa using all l C
 roomOf:=λ{P w A} M=>show A.in1.units+60<cLine by simp only[nD];omega
 T1:=λ{P w A} M=>show A.units+60<cLine by omega
 mono:=λt h=>by
  obtain⟨b,d,i,j,l⟩:=h;refine⟨b,d,t _ _ i,t _ _ j,Paired.jr l ?_⟩;rintro v s ⟨c,e,z⟩;exact⟨c,e,t _ _ z⟩
def Nm(a:Bool)(t:SetTable):Prop:=t.led=a/\t.place.toList.Pairwise (·<·)
theorem L8{l:List Nat}(h:l.Pairwise (·<·)){i j x y:Nat}(b:l[i]?=some x) (c:l[j]?=some y) (a:i<j):x<y:=by
 obtain⟨d,e1⟩:=ai.mp b;obtain⟨e,e2⟩:=ai.mp c;have :=lz.mp h i j d e a;rw[e1,e2]at this;exact this
theorem F4{k:Array Nat}{j:Nat}(h:k.toList.Pairwise (·<·)):∀(f lo g:Nat),lo<=g->g<=k.size->g-lo<=f->(∀i x,i<lo->k[i]?=some x->x<j)->(∀i x,g<=i->k[i]?=some x->j<=x)->
 SetTable.below.go k j f lo g<=k.size/\(∀i x,i<SetTable.below.go k j f lo g->k[i]?=some x->x<j)/\(∀i x,SetTable.below.go k j f lo g<=i->k[i]?=some x->j<=x)
 |0,lo,g,q,p,r,a,b=>by
  have e:lo=g:=by omega
  unfold SetTable.below.go;exact⟨by omega,a,by rw[e];exact b⟩
 |f+1,lo,g,q,p,r,a,b=>by
  unfold SetTable.below.go;by_cases c:lo<g
  ·rw[az c];have s:(lo+g)/2<k.size:=by omega
   obtain⟨y,n⟩:∃y,k[(lo+g)/2]?=some y:=⟨_,aX s⟩;have t:k.getD ((lo+g)/2) j=y:=by rw[dX,n];rfl
   have l:∀{i x},k[i]?=some x->k.toList[i]?=some x:=λz=>by rw[cS];exact z
   dsimp only;rw[t];by_cases d:y<j
   ·rw[az d];refine F4 h f _ _ (by omega) p (by omega) (λi x o m=>?_) b;by_cases e:i=(lo+g)/2
    ·rw[e,n]at m;cases m;exact d
    ·exact lA (L8 h (l m) (l n) (by omega)) d
   ·rw[ah d];refine F4 h f _ _ (by omega) (by omega) (by omega) a (λi x o m=>?_);by_cases e:i=(lo+g)/2
    ·rw[e,n]at m;cases m;omega
    ·have :=L8 h (l n) (l m) (by omega);omega
  ·rw[ah c];have e:lo=g:=by omega
   exact⟨by omega,a,by rw[e];exact b⟩
theorem A6{a:Array Nat}(j:Nat)(h:a.toList.Pairwise (·<·)):SetTable.below a j<=a.size/\(∀i x,i<SetTable.below a j->a[i]?=some x->x<j)/\(∀i x,SetTable.below a j<=i->a[i]?=some x->j<=x):=
 F4 h _ _ _ (br _) (ak _) (by omega) (λi x b _=>absurd b (oN _)) (λi x b c=>by
  have :=(gn.mp c).1;omega)
theorem Hn{b:Type}(a:Array b)(p:Nat)(x:b):(SetTable.insertAt a p x).toList=a.toList.take p++[x]++a.toList.drop p:=by
 unfold SetTable.insertAt;simp[Array.toList_extract];exact dM (by simp)
theorem Ud{t:SetTable}{j:Nat}(h:t.place.toList.Pairwise (·<·))(n:j∉t.place.toList):(t.put j).1.place.toList.Pairwise (·<·):=by
 obtain⟨m,g,l⟩:=A6 j h;show(SetTable.insertAt t.place (SetTable.below t.place j) j).toList.Pairwise (·<·);rw[Hn];have c:∀{i x},t.place.toList[i]?=some x->t.place[i]?=some x:=λz=>by rw[<-cS];exact z
 refine kD.mpr ⟨kD.mpr ⟨h.sublist (List.take_sublist _ _),List.pairwise_singleton _ _,λx b y f=>?_⟩,h.sublist (List.drop_sublist _ _),λx b y f=>?_⟩
 ·rw[aE.mp f];obtain⟨i,a⟩:=bZ.mp b;rw[lN]at a;split at a
  ·exact g i x (by assumption) (c a)
  ·cases a
 ·obtain⟨k,d⟩:=bZ.mp f;rw[List.getElem?_drop]at d;rcases bg.mp b with b|b
  ·obtain⟨i,a⟩:=bZ.mp b;rw[lN]at a;split at a
   ·exact L8 h a d (by omega)
   ·cases a
  ·rw[aE.mp b];have o:=l _ y (gZ _ _) (c d);have p:j≠y:=λe=>n (by rw[e];exact bj d)
   omega
theorem UU{t:SetTable}{j:Nat}(h:t.place.toList.Pairwise (·<·))(e:∀i,t.slot j≠.live i):j∉t.place.toList:=by
 intro m;obtain⟨n,f,g⟩:=A6 j h;obtain⟨i,c⟩:=bZ.mp m;have a:t.place[i]?=some j:=by rw[<-cS];exact c
 have o:¬i<SetTable.below t.place j:=λz=>cW _ (f i j z a)
 have k:i<t.place.size:=(gn.mp a).1;obtain⟨y,d⟩:∃y,t.place[SetTable.below t.place j]?=some y:=⟨_,aX (by omega)⟩;have p:=g _ y (ak _) d;have l:i=SetTable.below t.place j:=by
  apply ft;intro q;have b:t.place.toList[SetTable.below t.place j]?=some y:=by rw[cS];exact d
  have :=L8 h b c (by omega);omega
 refine e (SetTable.below t.place j) ?_;unfold SetTable.slot;dsimp only;rw[<-l,a];simp
theorem G6{t:SetTable}{g:Nat->Int}{h:Int}:∀(a:Nat) (p:SetTable.Probe) (j:Nat) (d:Option Nat),(∀x,p.dummy=some x->t.slot x=.dummy)->SetTable.probe.go t g h a p=some (.empty j d)->
 t.slot j=.empty/\∀x,d=some x->t.slot x=.dummy
 |0,p,j,d,f,e=>by unfold SetTable.probe.go at e;cases e
 |a+1,p,j,d,f,e=>by
  have b:∀q:SetTable.Probe,(t.advance q).dummy=q.dummy:=λq=>by unfold SetTable.advance;split<;>rfl
  unfold SetTable.probe.go at e;split at e
  ·rename_i q;cases e;exact⟨q,f⟩
  ·rename_i q;refine G6 a _ j d (λx c=>?_) e;rw[b]at c;cases c;exact q
  ·split at e
   ·cases e
   ·exact G6 a _ j d (λx c=>f x (by rw[b]at c;exact c)) e
theorem Tj{t:SetTable}{h:Int}{slot:Nat}{b:Bool}(r:t.place.toList.Pairwise (·<·))(e:t.freeSlot h=some (slot,b)):slot∉t.place.toList:=by
 unfold SetTable.freeSlot at e;split at e
 ·rename_i j d q;obtain⟨a,c⟩:=G6 _ _ _ _ (λx f=>by cases f) q;refine UU r λi=>?_
  cases d with
  |none=>cases e;rw[show(none:Option Nat).getD j=j from rfl,a];exact λz=>nomatch z
  |some x=>cases e;rw[show(some x).getD j=x from rfl,c x rfl];exact λz=>nomatch z
 ·cases e
theorem Bv{a:Bool}{t:SetTable}(n:Nat)(h:Nm a t):Nm a (t.standIn n):=⟨h.1,by
 show(Array.range n).toList.Pairwise (·<·);rw[Array.toList_range];exact hG⟩
theorem Q_{a:Bool}{t:SetTable}(b:Array (Int×Value))(h:Int)(x:Value)(ok:Nm a t):Nm a (layNew t b h x).2.1:=by
 unfold layNew;split
 ·rename_i slot d q;have p:Nm a (t.put slot).1:=⟨ok.1,Ud ok.2 (Tj ok.2 q)⟩;show Nm a ((t.put slot).1.orStandIn _);unfold SetTable.orStandIn;split
  ·exact p
  ·exact Bv _ p
 ·exact Bv _ ok
theorem T_{c:Bool}{t:SetTable}(h:Array (Int×Value))(n:Nat)(ok:Nm c t):Nm c (relayAll t h n).2.1:=by
 unfold relayAll;split
 ·rename_i j order q;dsimp only;split
  ·unfold SetTable.relaid SetTable.laid at q;obtain⟨f,k,i⟩:=jh.mp q;cases i;refine⟨ok.1,?_⟩;show List.Pairwise (·<·) ((List.filterMap _ _).map _);rw[List.map_filterMap];refine oe (l₂:=List.range (SetTable.sizeAbove n-1+1)) ?_ hG;have :∀l:List Nat,(l.filterMap λx=>Option.map (λx=>x.fst) (Option.map (λd=>(x,d)) (f.getD x none))).Sublist l:=by
    intro l
    induction l with
    |nil=>exact .slnil
    |cons a l g=>
     rw[iZ];cases e:f.getD a none with
     |none=>exact g.cons _
     |some b=>exact g.cons₂ _
   exact this _
  ·exact Bv _ ok
 ·exact Bv _ ok
def vInt:Value->Int
 |.int i _=>i
 |_=>0
def ym(a:Array (Int×Value)):List Int:=a.toList.map λe=>vInt e.2
def yI(b:Program)(w:World)(d:Bool)(h:Heap)(a:Addr)(c:Array (Int×Value)):Prop:=
 Hl λo e t=>h.get? a=some o/\o.ExactSet/\o.data=.set c e t/\ElemsOf (intKind b w) c.toList/\c.size<scanBound/\t.fits c.size=true/\Nm d t
section
variable{prog:Program}{w:World}{A:Around}{E:Value->Shared->Prop}{s:Shared}{led:Bool}
theorem He{h:Heap}{a:Addr}{o:Obj}{i:Array (Int×Value)}{d:Nat}{t:SetTable}(j:h.get? a=some o)(hex:o.ExactSet)(f:o.data=.set i d t){b:Array (Int×Value)}{c:SetTable}
 (e:ElemsOf (intKind prog w) b.toList)(k:b.size<scanBound)(l:c.fits b.size=true)(m:Nm led c):
 (h.update a (Obj.putSet b c)).get? a=some {o with data:=.set b (d+1) c}/\yI prog w led (h.update a (Obj.putSet b c)) a b:=by
 have g:(h.update a (Obj.putSet b c)).get? a=some {o with data:=.set b (d+1) c}:=by
  have :=bY (Obj.putSet b c) j (by rw[putSet_of b c f];rfl);rw[putSet_of b c f]at this;exact this
 exact⟨g,_,d+1,c,g,hex,rfl,e,k,l,m⟩
theorem Mj{g:Bool->Sem Unit}(I:∀(b:Bool) (f:Shared) (C:Unit->Shared->Prop),C () f->wpAny (model prog w) A (g b) C E f)
 {a:Addr}{o:Obj}{J:Array (Int×Value)}{L:Nat}{t:SetTable}(D:s.heap.get? a=some o)(hex:o.ExactSet)(G:o.data=.set J L t)
 {c:Array (Int×Value)}{e:SetTable}(i:ElemsOf (intKind prog w) c.toList)(wx:c.size<scanBound)(u:e.fits c.size=true)(H:Nm led e){d:Bool}{R:Option Bool->Shared->Prop}
 (h:∀v n,Heap.SameBut a s.heap v->yI prog w led v a n->n.toList.Perm c.toList->R (some true) {s with heap:=v}):
 wpAny (model prog w) A (do
  storeSet a c e
  if(!d&&e.tooFull)=true then do
     g (relayAll e c (SetTable.grown c.size)).2.2
     storeSet a (relayAll e c (SetTable.grown c.size)).1 (relayAll e c (SetTable.grown c.size)).2.1
     pure (some true)
   else pure (some true)) R E s:=by
 refine aa (wpAny_storeSet_of D G ?_ (iH wx));obtain⟨p,x⟩:=He (prog:=prog) (w:=w) D hex G i wx u H;have j:=fX s.heap a (Obj.putSet c e);split
 ·have q:=relayAll_perm e c (SetTable.grown c.size);have k:=relayAll_fits e c (SetTable.grown c.size);have l:=T_ c (SetTable.grown c.size) H;generalize M:relayAll e c (SetTable.grown c.size)=N at q k l⊢;obtain⟨m,O,y⟩:=N;dsimp only at q k l⊢;have r:ElemsOf (intKind prog w) m.toList:=i.perm q;have z:m.size=c.size:=by rw[<-bM,q.length_eq,bM]
  have zZ:m.size<scanBound:=by rw[z];exact wx
  refine aa (I _ _ _ ?_);refine aa (wpAny_storeSet_of p rfl ?_ (iH zZ));obtain⟨_,B⟩:=He (prog:=prog) (w:=w) p hex rfl r zZ k l;exact ag (h _ _ (j.trans (fX _ a _)) B q)
 ·exact ag (h _ _ j x .rfl)
theorem UN{b:Array (Int×Value)}(c:ElemsOf (intKind prog w) b.toList){k:Int}:k∈ym b↔∃e∈b.toList,(intKind prog w).is k e.2=true:=by
 unfold ym;rw[bq];constructor
 ·rintro⟨e,a,rfl⟩;obtain⟨⟨k,d,_⟩,_⟩:=c e a;obtain⟨t,q⟩:=jL (k:=k) (v:=e.2) d;exact⟨e,a,by rw[q];exact qM _ _ _ _⟩
 ·rintro⟨e,a,d⟩;obtain⟨t,q⟩:=jL (k:=k) (v:=e.2) d;exact⟨e,a,by rw[q];rfl⟩
theorem YW{a:Addr}{l:Array (Int×Value)}{k:Int}{tk:Tok}{Q:Bool->Shared->Prop}(hS:yI prog w led s.heap a l)(B:l.size+1<scanBound)
 (h:∀b m d,Heap.SameBut a s.heap m->yI prog w led m a d->(ym d).Perm (if k∈ym l then ym l else ym l++[k])->Q b {s with heap:=m}):
 wpAny (model prog w) A (setAddHashed a (.int k tk) (hashInt k)) Q E s:=by
 obtain⟨o,ep,t,H,hex,I,n,U,N,Y⟩:=hS;have u:(intKind prog w).is k (.int k tk)=true:=qM _ _ _ _;have Ir:(Value.int k tk).scannable=true:=rfl;show wpAny (model prog w) A (setAddHashed a (.int k tk) ((intKind prog w).hash k)) Q E s;unfold setAddHashed setAddHashedIn;refine dY (aa (wpAny_setState_of H I N ?_));dsimp only;rw[byScan_of Ir U n];simp only[↓reduceIte];unfold setAddByScan;refine aa ?_;refine aa (fW ?_);refine aa (wpAny_setScan_of u H I N n ?_);cases J:List.findIdx? (λe=>(intKind prog w).is k e.2) l.toList with
 |some j=>
  dsimp only;obtain⟨hj,O,_⟩:=List.findIdx?_eq_some_iff_getElem.mp J;have C:k∈ym l:=(UN n).mpr ⟨l.toList[j],j3 hj,O⟩;refine ag (ag ?_);have e:s={s with heap:=s.heap}:=by cases s;rfl
  rw[e];exact h false s.heap l (Heap.SameBut.refl a s.heap) ⟨o,ep,t,H,hex,I,n,U,N,Y⟩ (by rw[az C])
 |none=>
  dsimp only;have C:k∉ym l:=λhk=>by
   obtain⟨e,he,hp⟩:=(UN n).mp hk;have :=List.findIdx?_eq_none_iff.mp J e he;rw[hp]at this;exact Bool.noConfusion this
  have T:∀(b:Bool) {i:Shared} {M:Unit->Shared->Prop},M () i->wpAny (model prog w) A (match b with |true=>rule "set.scan.the-table-gave-way"|false=>pure ()) M E i:=
   λb i M v=>by cases b<;>first|exact ag v|exact fW v
  have c:=layNew_perm t l ((intKind prog w).hash k) (.int k tk);have f:=layNew_fits t l ((intKind prog w).hash k) (.int k tk);have g:=Q_ l ((intKind prog w).hash k) (.int k tk) Y;generalize hL:layNew t l ((intKind prog w).hash k) (.int k tk)=L at c f g⊢;obtain⟨D,t1,G,Z⟩:=L;dsimp only at c f g⊢;rw[Array.toList_push]at c;have x:ElemsOf (intKind prog w) D.toList:=(n.push u Ir).perm c;have y:D.size<scanBound:=by rw[<-bM,c.length_eq,ay,bM];simpa using B
  refine aa (T _ ?_);have z:∀m d,Heap.SameBut a s.heap m->yI prog w led m a d->d.toList.Perm D.toList->Q true {s with heap:=m}:=by
   intro m d p q r;refine h true m d p q ?_;rw[ah C];have :=(r.trans c).map λe:Int×Value=>vInt e.2
   rw[dq]at this;exact this
  split
  ·refine aa ?_;rw[hashByValue_scannable 8 Ir];refine ag ?_;refine Mj (led:=led) ?_ H hex I x y ?_ ?_ ?_
   ·intro b i M v;cases b<;>first|exact ag v|exact fW v
   ·split
    ·exact f
    ·exact SetTable.fits_plain_off f
   ·split
    ·exact g
    ·exact g
   ·intro m d p q r;dsimp only;exact wpAny_pure (z m d p q r)
  ·refine aa (ag ?_);simp only[↓reduceIte];refine Mj (led:=led) ?_ H hex I x y f g ?_
   ·intro b i M v;cases b<;>first|exact ag v|exact fW v
   ·intro m d p q r;dsimp only;exact wpAny_pure (z m d p q r)
end
def met:List Int->List Int->List Int
 |a,[]=>a
 |a,n::b=>met (if n∈a then a else a++[n]) b
theorem Qv:∀(c a:List Int) (z:Int),z∈met a c↔z∈a\/z∈c
 |[],a,z=>by simp[met]
 |n::c,a,z=>by
  rw[met,Qv c];split
  ·rename_i h;simp only[af];constructor
   ·rintro(b|b)
    ·exact .inl b
    ·exact .inr (.inr b)
   ·rintro(b|b|b)
    ·exact .inl b
    ·subst b;exact .inl h
    ·exact .inr b
  ·simp only[bg,af,aE,aS,cC,or_assoc]
theorem II:∀(d c:List Int),c.Nodup->(met c d).Nodup
 |[],c,h=>h
 |n::d,c,h=>by
  rw[met];refine II d _ ?_;split
  ·exact h
  ·rename_i f;rw[jV];exact⟨h,by simp,λa g b i e=>f (by rw[aE.mp i]at e;rw[<-e];exact g)⟩
theorem Ks:∀(b a:List Int),(met a b).length<=a.length+b.length
 |[],a=>by simp[met]
 |n::b,a=>by
  rw[met];have :=Ks b (if n∈a then a else a++[n]);rw[aG];split at this
  ·rename_i h;rw[az h];omega
  ·rename_i h;rw[ah h];rw[ay,cT]at this;omega
theorem MP:∀(b a:List Int) (n:Int),met a (b++[n])=if n∈met a b then met a b else met a b++[n]
 |[],a,n=>rfl
 |m::b,a,n=>by rw[iY,met,MP b,met]
section
variable{prog:Program}{w:World}{A:Around}{R:Result->Shared->Prop}{led:Bool}{I:Addr}{fp wr:List Addr}{G:Array GenState->Array GenState->Prop}{P:Nat->Value->Prop}{St:Nat->Shared->Prop}
theorem S4{a:List Int}(W:WalksS prog w A.in1 I fp wr G a.length P St)(S:Addr)(u:S∉fp)(x:∀i v,P i v->∃t,v=.int (a.getD i 0) t)(r:a.length+1<scanBound):
 ∀(k i:Nat) (s:Shared) (g:Array (Int×Value)),a.length-i=k->i<=a.length->St i s->yI prog w led s.heap S g->(ym g).Perm (met [] (a.take i))->
  (∀c d,Moved (S::wr) G s c->yI prog w led c.heap S d->(ym d).Perm (met [] a)->R (.ok (.ret .none)) c)->
  codeAny (model prog w) A (.builtin "set.update.loop" ⟨[.ref S,.ref I],[]⟩) R s:=by
 have y:S∉wr:=λh=>u (W.sub _ h)
 have l:∀b∈wr,b∈S::wr:=λb r=>aA _ r
 intro k
 induction k with
 |zero=>
  intro i s g hk hi p N n hR;have B:i=a.length:=by omega
  refine du ik ?_;rw[cI fP _];show wpAny _ A.in1 (pyNext (.ref I)>>=_) _ _ s;refine aa (W.done s _ _ (B▸p) λc C=>?_);show wpAny _ A.in1 (ret Value.none) _ _ c;exact ag (hR c g (C.mono l) (by
   obtain⟨o,O,t,Q,f⟩:=N;exact⟨o,O,t,C.heap S _ y Q,f⟩) (by rw[B,bP]at n;exact n))
 |succ k ih=>
  intro i s g hk hi p N n hR;have j:i<a.length:=by omega
  refine du ik ?_;rw[cI fP _];show wpAny _ A.in1 (pyNext (.ref I)>>=_) _ _ s;refine aa (W.item i s _ _ j p λv c hP D C=>?_);obtain⟨t,rfl⟩:=x i v hP;have T:yI prog w led c.heap S g:=by
   obtain⟨o,O,tb,Q,f⟩:=N;exact⟨o,O,tb,C.heap S _ y Q,f⟩
  show wpAny _ A.in1 (holding [Value.int (a.getD i 0) t] (setAdd S (.int (a.getD i 0) t))>>=_) _ _ c;refine aa (dY ?_);unfold setAdd;refine dY ?_;refine aa ((intKind prog w).pyHash (k:=a.getD i 0) (qM _ _ _ _) ?_);have x1:g.size=(met [] (a.take i)).length:=by rw[<-n.length_eq];unfold ym;rw[aP,bM]
  have q:g.size+1<scanBound:=by
   have :=Ks (a.take i) [];rw[fS,cq]at this;omega
  refine YW (s:={c with toks:=c.toks+1}) T q λb h' d E U Y=>?_
  have e:a.take (i+1)=a.take i++[a.getD i 0]:=by
   rw[iI,aB j,bC,aB j];rfl
  have Z:(ym d).Perm (met [] (a.take (i+1))):=by
   rw[e,MP];refine Y.trans ?_;by_cases m:a.getD i 0∈ym g
   ·rw[az m,az (n.mem_iff.mp m)];exact n
   ·rw[ah m,ah (λz=>m (n.mem_iff.mpr z))];exact n.append_right _
  refine ag ⟨dG fP _,ih (i+1) _ d (by omega) j (W.frame _ c _ _ D (jf _) λb r o e=>?_) U Z λx0 H J L M=>?_⟩
  ·rw[E.2 b (λh:b=S=>u (by rw[<-h];exact r))];exact e
  ·refine hR x0 H (Moved.trans W.gtrans ((C.mono l).then_heap (jf _) λb o r e=>?_) J) L M;rw[E.2 b (λh:b=S=>r (by rw[h];exact aW))];exact e
end
def Ag(w:World):Bool:= !(w.params.followText "set-order")
section
variable{prog:Program}{w:World}{A:Around}{E:Value->Shared->Prop}{s:Shared}
theorem Wd(a:Value){Q₁:Value->Shared->Prop}
 (h:Q₁ (.ref s.heap.objs.size) {s with heap:=s.heap.push {cls:=.type "set",dict:=none,data:=.set #[] 0 (.fresh 0 0 (Ag w))} }):
 codeAny (model prog w) A (.call (.builtin "set.__new__") ⟨[.type "set",a],[]⟩) (wants Q₁ E) s:=by
 refine kO ?_;show wpAny _ A.in1 (do checkBuiltinCall "set.__new__" ⟨[.type "set",a],[]⟩;again (.builtin "set.__new__" ⟨[.type "set",a],[]⟩)) _ _ s;refine aa (dh (PySem.F.newCall_set_1 a) (ag ⟨dG nY _,du PySem.F.entry_set_new ?_⟩));rw[cI nY _];unfold Builtin.«set.__new__» Builtin.Frozenset.newClass;have b:=sub_set_self;obtain⟨c,g,d,tk,os⟩:=s;dsimp only
 wp_walk
 refine nv (ag ?_);dsimp only;simp only[newObj];refine aa (wpAny_alloc (ag ?_));exact ag h
theorem Tp:∀{h:Heap} {a:Addr} {b:Bool},h.get? a=some {cls:=.type "set",dict:=none,data:=.set #[] 0 (.fresh 0 0 b)}->yI prog w b h a #[]:=λe=>
 ⟨_,0,_,e,⟨rfl,rfl,rfl⟩,rfl,λe c=>by simp at c,by decide,by rfl,rfl,List.Pairwise.nil⟩
theorem SN{l:Addr}{a:Array Value}{p:List Int}{Q:Value->Shared->Prop}
 (hh:A.handled=none)(hl:s.heap.IsList l a)(hi:PyProof.Rows.IntsAre a.toList p)(N:p.length+1<scanBound)
 (h:∀(g:Heap) (tk:Nat) (k:Array (Int×Value)),yI prog w (Ag w) g s.heap.objs.size k->(ym k).Perm (met [] p)->
   (∀b o,b<s.heap.objs.size->s.heap.get? b=some o->g.get? b=some o)->Q (.ref s.heap.objs.size) {s with heap:=g,toks:=tk}):
 wpAny (model prog w) A (call (.type "set") [.ref l]) Q E s:=by
 obtain⟨c,tl,x6⟩:=eU.mro;have U:=eU.made;have x7:=eU.sub;have Y:a.size=p.length:=by have :=PyProof.Rows.IntsAre.length hi;rw[bM]at this;exact this
 refine qK (kO ?_);show wpAny _ _ (callAny (.type "set") _) _ _ _;refine ag ⟨Code.quiet_builtin _ (by decide+kernel),du PySem.F.entry_type_call ?_⟩;rw[Around.under_plain (weight_type_call_type "set" [.ref l] []) rfl];have h1:=eU.notType;have h2:=eU.canCreate;have y2:=PySem.F.typeCall_set_1 (.ref l)
 repeat (any_goals (first|assumption|wp_step))
 refine iS (Wd (.ref l) (E:=E) (Q₁:=λz m=>z=.ref s.heap.objs.size/\m={s with heap:=s.heap.push {cls:=.type "set",dict:=none,data:=.set #[] 0 (.fresh 0 0 (Ag w))} }) ⟨rfl,rfl⟩) λr m O=>?_
 generalize x8:Ag w=d at O h⊢;cases r with
 |error e=>exact O
 |ok fl=>
  cases fl with
  |ret z=>
   obtain⟨rfl,rfl⟩:=O;have hS:(s.heap.push {cls:=.type "set",dict:=none,data:=.set #[] 0 (.fresh 0 0 d)}).get? s.heap.objs.size=some {cls:=.type "set",dict:=none,data:=.set #[] 0 (.fresh 0 0 d)}:=aN _ rfl;have hT:Shared.TypeIs {s with heap:=s.heap.push {cls:=.type "set",dict:=none,data:=.set #[] 0 (.fresh 0 0 d)} } (.ref s.heap.objs.size) "set":=⟨_,hS,rfl⟩;have y3:=eU.init.lookup;have y4:=eU.init.bind (.ref s.heap.objs.size)
   repeat (any_goals (first|assumption|wp_step))
   refine iS (o3 (R:=wants (λr n=>r=.none/\∃g tk k,n={s with heap:=g,toks:=tk}/\
    yI prog w d g s.heap.objs.size k/\(ym k).Perm (met [] p)/\
    (∀b o,b<s.heap.objs.size->s.heap.get? b=some o->g.get? b=some o)) E) eU.init.plain PySem.F.entry_set_init (check_set_init_1 hT ?_)) λB n f=>?_
   ·obtain⟨ol,C,D,nl,G⟩:=hl;obtain⟨x9,q,Z,j⟩:=ol;simp only at D G;subst D;subst G;have H:(s.heap.push {cls:=.type "set",dict:=none,data:=.set #[] 0 (.fresh 0 0 d)}).get? l=some {cls:=.type "list",dict:=q,data:=.seq a nl,slots:=j}:=aj _ C;have y0:=PySem.F.sub_list_set;have y1:=PySem.F.sub_list_frozenset;have y5:(Value.type "list"==Value.type "dict")=false:=by decide
    have hl1:(s.heap.push {cls:=.type "set",dict:=none,data:=.set #[] 0 (.fresh 0 0 d)}).IsList l a:=⟨_,H,rfl,nl,rfl⟩;unfold Builtin.«set.__init__» noKeywords Builtin.Frozenset.updateFrom;generalize x0:pyIter=PI
    wp_walk
    subst x0;refine mK hl1 ?_;refine aa (p8 ?_);have I:l<s.heap.objs.size:=aK C;have x1:A.in1.in1.in1.handled=none:=by simp[hh]
    have J:l≠(s.heap.push {cls:=.type "set",dict:=none,data:=.set #[] 0 (.fresh 0 0 d)}).objs.size:=by
     rw[c6];exact bG (dB I)
    have x2:s.heap.objs.size∉[(s.heap.push {cls:=.type "set",dict:=none,data:=.set #[] 0 (.fresh 0 0 d)}).objs.size,l]:=by
     rw[c6];simp only[af,aE,aS,cC,not_or];exact⟨bG (eV _),lx I⟩
    have L:∀(i:Nat) (v:Value),a[i]?=some v->∃t,v=.int (p.getD i 0) t:=λi v hv=>
     PyProof.Rows.IntsAre.int_at hi i v (by rw[cS];exact hv)
    have W:=(qO (prog:=prog) (w:=w) x1 (s.heap.push {cls:=.type "set",dict:=none,data:=.set #[] 0 (.fresh 0 0 d)}).objs.size l J a).toS;rw[Y]at W;have M:((s.heap.push {cls:=.type "set",dict:=none,data:=.set #[] 0 (.fresh 0 0 d)}).push {cls:=.type "list_iterator",data:=.fields #[.ref l,.int 0 0]}).get? s.heap.objs.size
     =some {cls:=.type "set",dict:=none,data:=.set #[] 0 (.fresh 0 0 d)}:=aj _ hS
    refine S4 W s.heap.objs.size
     x2 L N (p.length-0) 0 _ #[] (by omega) (br _)
     ⟨⟨_,aN _ rfl,rfl,rfl⟩,(hl1.push _)⟩ (Tp M) .rfl ?hR
    case hR=>
     intro s' k T u x;obtain⟨g,g',d',x3,x4⟩:=s';have eg:g'=s.gens:=T.gens;have ed:d'=s.drawn:=T.drawn;have eo:x4=s.os:=T.os;subst eg;subst ed;subst eo;show wpAny _ _ _ _ _ _;refine ag ?_;show wpAny _ _ (ret Value.none) _ _ _;refine ag ⟨rfl,g,x3,k,rfl,u,x,λb o N e=>?_⟩;have wx:b≠s.heap.objs.size:=bG N;have zZ:b≠(s.heap.push {cls:=.type "set",dict:=none,data:=.set #[] 0 (.fresh 0 0 d)}).objs.size:=by
      rw[c6];exact bG (dB N)
     exact T.heap b o (by simp only[af,aE,aS,cC,not_or];exact⟨wx,zZ⟩) (aj _ (aj _ e))
   ·cases B with
    |error e=>exact f
    |ok y=>
     cases y with
     |ret r=>
      obtain⟨rfl,g,tk,k,rfl,u,x,x5⟩:=f
      repeat (any_goals (first|assumption|wp_step))
      exact h _ _ _ u x x5
     |_=>exact f.elim
  |_=>exact O.elim
end
theorem AW{b:Type}:∀{l:List b} {i:Nat} {x:b},l[i]?=some x->(x::l.eraseIdx i).Perm l
 |a::l,0,x,h=>by simp at h;subst h;exact .rfl
 |a::l,i+1,x,h=>by
  rw[mM];exact(List.Perm.swap a x _).trans ((AW (i:=i) (by simpa using h)).cons a)
theorem Qr{d:Type}(next:Nat->Nat):∀(a k:Nat) (left:List d) (b:Array d),a=left.length->(pickOrder.go next a k left b).toList.Perm (b.toList++left)
 |0,k,left,b,h=>by
  have :left=[]:=d7.mp h.symm;subst this;unfold pickOrder.go;simp
 |a+1,k,left,b,h=>by
  unfold pickOrder.go;have c:next k% left.length<left.length:=Nat.mod_lt _ (by omega)
  rw[aB c];dsimp only;have e:=AW (aB c);refine(Qr next a _ _ _ (by rw[kJ c];omega)).trans ?_;rw[Array.toList_push,bN];exact e.append_left _
theorem Q9{b:Type}(next:Nat->Nat)(a:Array b):(pickOrder next a).toList.Perm a.toList:=by
 have :=Qr next a.size 0 a.toList #[] (bM).symm
 unfold pickOrder;simpa using this
section
variable{prog:Program}{w:World}{A:Around}{E:Value->Shared->Prop}{s:Shared}
theorem OJ{a:Source}{n:Nat}{Q:Nat->Shared->Prop}(b:n≠0)(h:∀i,i<n->Q i {s with drawn:=s.drawn.bump a}):wpAny (model prog w) A (choose a n) Q E s:=
 λ_ _ _=>⟨b,h _ (Nat.mod_lt _ (Nat.pos_of_ne_zero b))⟩
theorem Ju{f:Type}:∀(n:Nat) (a:List f) (s:Shared) (Q:List f->Shared->Prop),n=a.length->(∀b c,b.Perm a->Q b {s with drawn:=c})->wpAny (model prog w) A (drawOrder n a) Q E s
 |0,a,s,Q,h,q=>by
  have :a=[]:=d7.mp h.symm;subst this;unfold drawOrder;exact ag (q [] s.drawn .rfl)
 |n+1,[],s,Q,h,q=>by simp at h
 |n+1,x::a,s,Q,h,q=>by
  unfold drawOrder;refine aa (OJ (by simp) λi d=>?_);rw[aB d];dsimp only;have e:=AW (aB d);refine aa (Ju n _ _ _ (by rw[kJ d];simp at h⊢;omega) λb c p=>ag (q _ c ((p.cons _).trans e)))
end
def tM(h:Heap)(S:Addr)(a:Array (Int×Value))(b:Nat)(t:SetTable):Prop:=∃o,h.get? S=some o/\o.ExactSet/\o.data=.set a b t/\t.fits a.size=true/\a.size<scanBound
def Cq(h:Heap)(a:Addr)(first:Value)(i:Nat)(S:Addr)(n b:Nat):Prop:=∃o,h.get? a=some o/\o.cls=.type "set_iterator"/\o.data=.fields #[first,.int i 0,.ref S,.int n 0,.int b 0]
theorem tM.ty{s:Shared}{S:Addr}{a:Array (Int×Value)}{b:Nat}{t:SetTable}(h:tM s.heap S a b t):s.TypeIs (.ref S) "set":=let ⟨o,e,x,_⟩:=h;⟨o,e,x.1⟩
theorem Cq.ty{s:Shared}{a:Addr}{f:Value}{i:Nat}{S:Addr}{n b:Nat}(h:Cq s.heap a f i S n b):s.TypeIs (.ref a) "set_iterator":=let ⟨o,e,x,_⟩:=h;⟨o,e,x⟩
theorem tM.at{h g:Heap}{S:Addr}{es:Array (Int×Value)}{ep:Nat}{t:SetTable}(x:tM h S es ep t)(e:∀o,h.get? S=some o->g.get? S=some o):tM g S es ep t:=let ⟨o,a,r⟩:=x;⟨o,e _ a,r⟩
theorem Cq.at{h g:Heap}{a:Addr}{f:Value}{i:Nat}{S:Addr}{n ep:Nat}(x:Cq h a f i S n ep)(e:∀o,h.get? a=some o->g.get? a=some o):Cq g a f i S n ep:=let ⟨o,b,r⟩:=x;⟨o,e _ b,r⟩
theorem Mq:Manifest.owners.lookup (String.ofList ['r', 'o', 't', 'a', 'r', 'e', 't', 'i', '_', 't', 'e', 's'].reverse)=some Manifest.sig_set_iterator:=by kernel_rfl
theorem nF:Slot "set_iterator" "__next__" "set_iterator.__next__":=
 .of (owner:="set_iterator") (n:="__next__") (by rw[fj,dw];kernel_rfl) (by decide+kernel) (by decide+kernel) (by decide+kernel)
  (by first|exact .inl (by decide+kernel)|exact .inr (by decide+kernel)) (by rw[eX];kernel_rfl)
theorem CJ:entryFor table "set_iterator.__next__"=some Builtin.«set_iterator.__next__»:=nL (by kernel_rfl)
theorem CQ(a:Value):argsOk "set_iterator.__next__" ⟨[a],[]⟩:=by
 unfold argsOk;rw[signature?_of (id:="set_iterator.__next__") (n:=['_', '_', 't', 'x', 'e', 'n', '_', '_']) (o:=['r', 'o', 't', 'a', 'r', 'e', 't', 'i', '_', 't', 'e', 's']) (by kernel_rfl) Mq];kernel_rfl
theorem TY:Slot "set" "__iter__" "set.__iter__":=PySem.F.slot_set_iter
theorem X9:entryFor table "set.__iter__"=some Builtin.«frozenset.__iter__»:=
 pW (id':="frozenset.__iter__") (by kernel_rfl) rfl (by decide+kernel) (by kernel_rfl)
theorem To:Slot "set_iterator" "__iter__" "set_iterator.__iter__":=
 .of (owner:="set_iterator") (n:="__iter__") (by rw[fj,dw];kernel_rfl) (by decide+kernel) (by decide+kernel) (by decide+kernel)
  (by first|exact .inl (by decide+kernel)|exact .inr (by decide+kernel)) (by rw[eX];kernel_rfl)
theorem X8:entryFor table "set_iterator.__iter__"=some Builtin.«dict_keyiterator.__iter__»:=
 pW (id':="dict_keyiterator.__iter__") (by kernel_rfl) (by first|rfl|decide+kernel|(unfold String.splitOn;simp +decide [String.splitOnAux])) (by decide+kernel) (by kernel_rfl)
theorem XZ(a:Value):argsOk "set_iterator.__iter__" ⟨[a],[]⟩:=by
 unfold argsOk;rw[signature?_of (id:="set_iterator.__iter__") (n:=['_', '_', 'r', 'e', 't', 'i', '_', '_']) (o:=['r', 'o', 't', 'a', 'r', 'e', 't', 'i', '_', 't', 'e', 's']) (by kernel_rfl) Mq];kernel_rfl
section
variable{prog:Program}{w:World}{A:Around}{E:Value->Shared->Prop}{s:Shared}{it S:Addr}{es:Array (Int×Value)}{ep:Nat}{t:SetTable}
theorem IJ{f:Value}{i n:Nat}{Q:Value->Shared->Prop}(a:Cq s.heap it f i S n ep)(h:Q (.ref it) s):wpAny (model prog w) A (pyIter (.ref it)) Q E s:=by
 refine mw a.ty To (c8 To a.ty X8 ?_ (XZ _));show wpAny _ _ (ret (.ref it)) _ _ s;exact ag ⟨_,rfl,"set_iterator",_,a.ty,nF.lookup,h⟩
theorem tj{Q:Array (Int×Value)->Shared->Prop}(a:tM s.heap S es ep t)(h:Q es s):wpAny (model prog w) A (setEntries S) Q E s:=by
 obtain⟨o,b,_,c,d,_⟩:=a;exact wpAny_setEntries_of b c d h
theorem yx{Q:(Array (Int×Value)×Nat×SetTable)->Shared->Prop}(a:tM s.heap S es ep t)(h:Q (es,ep,t) s):wpAny (model prog w) A (setState S) Q E s:=by
 obtain⟨o,b,_,c,d,_⟩:=a;exact wpAny_setState_of b c d h
theorem yT{o:Obj}{fs:Array Value}{Q:Array Value->Shared->Prop}(a:s.heap.get? it=some o)(b:o.data=.fields fs)(h:Q fs s):wpAny (model prog w) A (fieldsOf (.ref it)) Q E s:=by
 unfold fieldsOf;refine aa (lM a ?_);rw[b];exact ag h
theorem Ru{slot i d:Nat}{x:Value}{Q:Option Value->Shared->Prop}(e:Cq s.heap it (.int slot 0) i S es.size ep)(j:tM s.heap S es ep t)
 (k:∀(A:Around) (E:Value->Shared->Prop) (f:Shared) (Q:Option (Value×Nat)->Shared->Prop),tM f.heap S es ep t->Q (some (x,d)) f->wpAny (model prog w) A (setNext S slot i ep) Q E f)
 (l:∀g,Cq g it (.int d 0) (i+1) S es.size ep->Heap.SameBut it s.heap g->Q (some x) {s with heap:=g}):wpAny (model prog w) A (pyNext (.ref it)) Q E s:=by
 obtain⟨o,h,m,b⟩:=id e;unfold pyNext;refine aa (h_ (d6 (name:=Str.ofString "__next__") e.ty nF (c8 nF e.ty CJ ?_ (CQ _))));unfold Builtin.«set_iterator.__next__»;refine aa (dh (a:=(Value.ref it,[])) rfl ?_);refine aa (yT h b ?_);show wpAny _ _ (setEntries S>>=_) _ _ _;refine aa (tj j ?_);rw[ah (by simp)];show wpAny _ _ (setNext S _ _ _>>=_) _ _ _;refine aa (k _ _ _ _ j ?_);dsimp only;refine aa (fM h b (by simp) ?_);have c:=bY (Obj.mapFields (·.setIfInBounds 0 (rawInt d))) h (fE (cD b _));refine aa (fM c (cD b _) (by simp) ?_);refine ag ⟨x,rfl,ag (l _ ?_ ((fX _ it _).trans (fX _ it _)))⟩;refine⟨_,bY _ c (fE (cD (cD b _) _)),(jR ..).trans ((jR ..).trans m),?_⟩;rw[cD (cD b _)];simp[rawInt]
theorem Io{o:Obj}{fs:Array Value}{Q:Option Value->Shared->Prop}(f:A.handled=none)(h:s.heap.get? it=some o)(i:o.cls=.type "set_iterator")(p:o.data=.fields fs)
 (c:∀(P:Fin->Shared->Prop) (d:Value->Shared->Prop),(∀g,(∀b o,b≠it->s.heap.get? b=some o->g.get? b=some o)->wpAny (model prog w) A.in1 (raiseNew (α:=Fin)=<<newExc (.type "StopIteration") []) P d {s with heap:=g})->wpAny (model prog w) A.in1 (Builtin.«set_iterator.__next__» ⟨[.ref it],[]⟩) P d s)
 (j:∀g k,(∀b o,b≠it->s.heap.get? b=some o->g.get? b=some o)->Q none {s with heap:=g,toks:=k}):wpAny (model prog w) A (pyNext (.ref it)) Q E s:=by
 have hT:s.TypeIs (.ref it) "set_iterator":=⟨o,h,i⟩;unfold pyNext;refine aa (h_ (d6 (name:=Str.ofString "__next__") hT nF (c8 nF hT CJ ?_ (CQ _))));refine c _ _ λg l=>?_
 show wpAny _ _ (newExc (.type "StopIteration") []>>=_) _ _ _;refine aa ?_;simp only[newExc,newTuple];refine aa (bV ?_ (by size_fits));refine aa (m:=firstArgMember _ _) (dh (a:=Value.none) (by first|rfl|(simp only[firstArgMember];rfl)) ?_);refine bV ?_ (by size_fits);simp only[raiseNew];refine aa (wpAny_handled ?_);rw[show A.in1.handled=none from f];refine aa (ag (wpAny_throw ?_));refine aa (g5 (T:="StopIteration") (b:=true) ⟨_,aN _ rfl,rfl⟩ isSubtype_stop ?_);refine ag (j _ _ λb n c e=>?_);exact aj _ (aj _ (l b n c e))
theorem J3{slot i:Nat}{Q:Option Value->Shared->Prop}(j:A.handled=none)(l:Cq s.heap it (.int slot 0) i S es.size ep)(h:tM s.heap S es ep t)
 (m:∀(A:Around) (E:Value->Shared->Prop) (c:Shared) (Q:Option (Value×Nat)->Shared->Prop),tM c.heap S es ep t->Q none c->wpAny (model prog w) A (setNext S slot i ep) Q E c)
 (n:∀g k,(∀b o,b≠it->s.heap.get? b=some o->g.get? b=some o)->Q none {s with heap:=g,toks:=k}):wpAny (model prog w) A (pyNext (.ref it)) Q E s:=by
 obtain⟨o,d,p,f⟩:=id l;refine Io j d p f (λP u q=>?_) n;unfold Builtin.«set_iterator.__next__»;refine aa (dh (a:=(Value.ref it,[])) rfl ?_);refine aa (yT d f ?_);show wpAny _ _ (setEntries S>>=_) _ _ _;refine aa (tj h ?_);rw[ah (by simp)];show wpAny _ _ (setNext S _ _ _>>=_) _ _ _;refine aa (m _ _ _ _ h ?_);dsimp only;refine aa (fM d f (by simp) ?_);exact q _ λb v r e=>(bA _ _ (aY r)).trans e
theorem Oy{T:Addr}{b:Array Value}{i place:Nat}{tk:Tok}{e:Int×Value}{Q:Option Value->Shared->Prop}(d:Cq s.heap it (.ref T) i S es.size ep)(k:tM s.heap S es ep t)(hT:IsTup s.heap T b)(l:b[i]?=some (.int place tk)) (m:es[place]?=some e)
 (n:∀g,Cq g it (.ref T) (i+1) S es.size ep->Heap.SameBut it s.heap g->Q (some e.2) {s with heap:=g}):wpAny (model prog w) A (pyNext (.ref it)) Q E s:=by
 obtain⟨o,f,p,c⟩:=id d;obtain⟨q,h,_,r,j⟩:=id hT;unfold pyNext;refine aa (h_ (d6 (name:=Str.ofString "__next__") d.ty nF (c8 nF d.ty CJ ?_ (CQ _))));unfold Builtin.«set_iterator.__next__»;refine aa (dh (a:=(Value.ref it,[])) rfl ?_);refine aa (yT f c ?_);show wpAny _ _ (setEntries S>>=_) _ _ _;refine aa (tj k ?_);rw[ah (by simp)];show wpAny _ _ (seqItems? (.ref T)>>=_) _ _ _;refine aa (iO h j ?_);simp only[dc,l];refine aa ?_;unfold setNextDrawn;refine aa (yx k ?_);dsimp only;rw[ah (by simp)];simp only[dc,m];refine ag ?_;refine aa (fM f c (by simp) ?_);refine ag ⟨e.2,rfl,ag (n _ ?_ (fX _ it _))⟩;refine⟨_,bY _ f (fE (cD c _)),(jR ..).trans p,?_⟩;rw[cD c];simp[rawInt]
theorem Hm{T:Addr}{c:Array Value}{i:Nat}{Q:Option Value->Shared->Prop}(n:A.handled=none)(p:Cq s.heap it (.ref T) i S es.size ep)(q:tM s.heap S es ep t)(hT:IsTup s.heap T c)(r:c[i]?=none)
 (u:∀g k,(∀b o,b≠it->s.heap.get? b=some o->g.get? b=some o)->Q none {s with heap:=g,toks:=k}):wpAny (model prog w) A (pyNext (.ref it)) Q E s:=by
 obtain⟨o,f,v,d⟩:=id p;obtain⟨y,h,_,z,j⟩:=id hT;refine Io n f v d (λP B x=>?_) u;unfold Builtin.«set_iterator.__next__»;refine aa (dh (a:=(Value.ref it,[])) rfl ?_);refine aa (yT f d ?_);show wpAny _ _ (setEntries S>>=_) _ _ _;refine aa (tj q ?_);rw[ah (by simp)];show wpAny _ _ (seqItems? (.ref T)>>=_) _ _ _;refine aa (iO h j ?_);simp only[dc,r];refine aa (fM f d (by simp) ?_);have l:=bY (Obj.mapFields (·.setIfInBounds 0 (rawInt 0))) f (fE (cD d _));refine aa (fM l (cD d _) (by simp) ?_);exact x _ λb C m e=>(bA _ _ (aY m)).trans ((bA _ _ (aY m)).trans e)
end
section
variable{prog:Program}{w:World}{A:Around}{E:Value->Shared->Prop}{s:Shared}{S:Addr}{es:Array (Int×Value)}{ep:Nat}{t:SetTable}
theorem zm{Q:Bool->Shared->Prop}(h:Q (w.params.followText "set-order") s):wpAny (model prog w) A setsByText Q E s:=by
 unfold setsByText;exact aa (nv (ag h))
theorem IQ{slot i:Nat}{Q:Option (Value×Nat)->Shared->Prop}(a:w.params.followText "set-order"=true)(b:tM s.heap S es ep t)
 (h:Q (((pickOrder (w.params.setOrder S ep) es)[i]?).map λe=>(e.2,slot)) s):wpAny (model prog w) A (setNext S slot i ep) Q E s:=by
 unfold setNext;refine aa (yx b ?_);dsimp only;refine aa (zm ?_);rw[a,az rfl,ah (by simp)];refine aa ?_;unfold setWalk;refine aa (yx b ?_);dsimp only;refine aa (zm ?_);rw[a,az rfl];refine aa (nv (ag ?_));exact ag h
theorem below_at{l:Array Nat}(h:l.toList.Pairwise (·<·)){i:Nat}(o:i<=l.size):SetTable.below l (if i=0 then 0 else l.getD (i-1) 0+1)=i:=by
 have b:∀{i x},l[i]?=some x->l.toList[i]?=some x:=λz=>by rw[cS];exact z
 obtain⟨k,a,c⟩:=A6 (if i=0 then 0 else l.getD (i-1) 0+1) h;generalize SetTable.below l (if i=0 then 0 else l.getD (i-1) 0+1)=p at k a c;by_cases g:i=0
 ·subst g;simp only[↓reduceIte]at a c;apply ft;intro j;have :=a 0 l[0] (by omega) (aX (by omega));omega
 ·rw[ah g]at a c;have e:i-1<l.size:=by omega
  have m:l.getD (i-1) 0=l[i-1]:=by rw[dX,aX e];rfl
  rw[m]at a c;apply ft;intro j;rcases Nat.lt_or_gt_of_ne j with n|f
  ·have :=c (i-1) l[i-1] (by omega) (aX e);omega
  ·have d:i<l.size:=by omega
   have q:=a i l[i] f (aX d);have r:=L8 h (b (aX e)) (b (aX d)) (by omega);omega
theorem GF{slot i:Nat}{Q:Option (Value×Nat)->Shared->Prop}(a:w.params.followText "set-order"=false)(b:tM s.heap S es ep t)(ok:Nm (Ag w) t)(c:(!t.plain&&decide (es.size>1))=false)
 (h:Q (match es[SetTable.below t.place slot]?,t.place[SetTable.below t.place slot]? with
   |some (_,x),some j=>some (x,j+1)
   |_,_=>none) s):wpAny (model prog w) A (setNext S slot i ep) Q E s:=by
 have d:t.led=true:=by rw[ok.1];unfold Ag;rw[a];rfl
 unfold setNext;refine aa (yx b ?_);dsimp only;refine aa (zm ?_);rw[a,ah (by simp)];show wpAny _ _ (if(!t.plain&&decide (es.size>1))=true then _ else _) _ _ _;rw[c,ah (by simp)];refine aa ?_;show wpAny _ _ (if(!t.led&& !es.isEmpty)=true then _ else _) _ _ _;rw[d,ah (by simp)];refine ag ?_;exact ag h
theorem Fg(q:A.handled=none)(I:Addr)(l:S≠I)(ord:List Value)(m:ord.length=es.size)(f:Nat->Nat)
 (r:∀i v,ord[i]?=some v->∀(A:Around) (E:Value->Shared->Prop) (a:Shared) (Q:Option (Value×Nat)->Shared->Prop),tM a.heap S es ep t->Q (some (v,f (i+1))) a->wpAny (model prog w) A (setNext S (f i) i ep) Q E a)
 (u:∀(A:Around) (E:Value->Shared->Prop) (a:Shared) (Q:Option (Value×Nat)->Shared->Prop),tM a.heap S es ep t->Q none a->wpAny (model prog w) A (setNext S (f es.size) es.size ep) Q E a):
 Walks prog w A I [I,S] [I] es.size (λi v=>ord[i]?=some v) (λi h=>Cq h I (.int (f i) 0) i S es.size ep/\tM h S es ep t) where
 sub:=λb c=>by simp at c;simp[c]
 frame:=λ_ _ _ x j=>⟨x.1.at λo e=>j I (by simp) o e,x.2.at λo e=>j S (by simp) o e⟩
 item:=λi s Q E z x d=>by
  have n:ord[i]?=some (ord[i]'(by omega)):=aB (by omega);refine Ru x.1 x.2 (r i _ n) λg y p=>d _ g s.toks n ⟨y,x.2.at λo e=>(p.2 S l).trans e⟩ λb o c e=>(p.2 b (by simpa using c)).trans e
 done:=λs Q E x d=>J3 q x.1 x.2 u λg k j=>d g k λb o c e=>j b o (by simpa using c) e
 self:=λi s Q E x d=>IJ x.1 d
theorem Oh(B:A.handled=none)(I T:Addr)(m:S≠I)(n:T≠I)(a:List Nat)(c:a.Perm (List.range es.size)):
 Walks prog w A I [I,S,T] [I] es.size (λ(i:Nat) (v:Value)=>∃(p:Nat) (e:Int×Value),a[i]?=some p/\es[p]?=some e/\v=e.2) (λi h=>Cq h I (.ref T) i S es.size ep/\tM h S es ep t/\IsTup h T (a.map λ(i:Nat)=>rawInt i).toArray) where
 sub:=λb d=>by simp at d;simp[d]
 frame:=λ_ _ _ x f=>⟨x.1.at λo e=>f I (by simp) o e,x.2.1.at λo e=>f S (by simp) o e,let ⟨o,q,r⟩:=x.2.2;⟨o,f T (by simp) o q,r⟩⟩
 item:=λi s Q E D x j=>by
  have l:a.length=es.size:=by rw[c.length_eq,df]
  have y:a[i]?=some (a[i]'(by omega)):=aB (by omega);have z:a[i]'(by omega)<es.size:=bS.mp (c.mem_iff.mp (j3 _));refine Oy (place:=a[i]'(by omega)) (tk:=0) x.1 x.2.1 x.2.2 ?_ (aX z) λg C u=>j _ g s.toks ⟨_,_,y,aX z,rfl⟩ ⟨C,x.2.1.at λo e=>(u.2 S m).trans e,let ⟨o,q,r⟩:=x.2.2;⟨o,(u.2 T n).trans q,r⟩⟩ λb o d e=>(u.2 b (by simpa using d)).trans e
  have :(a.map λ(i:Nat)=>rawInt i)[i]?=some (rawInt (a[i]'(by omega):Nat)):=by rw[cf,y];rfl
  simpa[rawInt]using this
 done:=λs Q E x j=>by
  have l:a.length=es.size:=by rw[c.length_eq,df]
  refine Hm B x.1 x.2.1 x.2.2 ?_ λg k f=>j g k λb o d e=>f b o (by simpa using d) e
  have :(a.map λ(i:Nat)=>rawInt i)[es.size]?=none:=cR (by rw[aP];omega);simpa using this
 self:=λi s Q E x j=>IJ x.1 j
structure VE(prog:Program)(w:World)(A:Around)(S I:Addr)(es:Array (Int×Value))(h g:Heap)(ord:List Value)(a:List Addr)(St:Nat->Heap->Prop):Prop where
 perm:ord.Perm (es.toList.map (·.2))
 kept:∀b o,h.get? b=some o->g.get? b=some o
 fps:∀b∈a,b=S\/h.objs.size<=b
 low:∀b∈a,b<g.objs.size
 new:h.objs.size<=I
 walk:Walks prog w A I a [I] es.size (λi v=>ord[i]?=some v) St
 st:St 0 g
theorem TR{Q:Value->Shared->Prop}(N:A.handled=none)(j:tM s.heap S es ep t)(ok:Nm (Ag w) t)
 (h:∀g O I ord fp St,VE prog w A S I es s.heap g ord fp St->Q (.ref I) {s with heap:=g,drawn:=O}):wpAny (model prog w) A (pyIter (.ref S)) Q E s:=by
 have d:S<s.heap.objs.size:=by obtain⟨o,e,_⟩:=id j;exact aK e
 have x0:t.place.size=es.size:=by
  obtain⟨o,_,_,_,M,_⟩:=id j;simp only[SetTable.fits,bI,i9]at M;exact M.1
 refine mw j.ty TY (c8 TY j.ty X9 ?_ (PySem.F.args_set_iter_1 _));unfold Builtin.«frozenset.__iter__»;refine aa (dh (a:=S) rfl ?_);refine aa ?_;unfold Builtin.Frozenset.sizeOf;refine aa (tj j (ag ?_));refine aa ?_;unfold setDrawn;refine aa (yx j ?_);dsimp only;refine aa (zm ?_);show wpAny _ _ (pure (!(w.params.followText "set-order")&&(!t.plain&&decide (es.size>1)))) _ _ _;refine ag ?_;cases c:w.params.followText "set-order" with
 |true=>
  simp only[ql,gM,eT,g7];refine aa (ag ?_);have u:∀{Q:Nat->Shared->Prop},Q ep s->wpAny (model prog w) A.in1 (setEpoch S) Q E s:=λq=>by
   obtain⟨o,ho,_,hd,M,_⟩:=id j;exact mJ ho hd M q
  refine aa ?_;refine u ?_;refine aa (bV (ag ⟨_,rfl,"set_iterator",_,⟨_,aN _ rfl,rfl⟩,nF.lookup,?_⟩));have T:S≠s.heap.objs.size:=bG d;have U:=Q9 (w.params.setOrder S ep) es;refine h _ s.drawn _ ((pickOrder (w.params.setOrder S ep) es).toList.map (·.2)) [s.heap.objs.size,S] _ ⟨U.map _,λb o e=>aj _ e,λb c=>?_,λb c=>?_,ak _,
   Fg (ep:=ep) (t:=t) N s.heap.objs.size T _ (by rw[aP,U.length_eq,bM]) (λ_=>0) (λi v r A E Y Q f q=>IQ c f ?_) (λA E Y Q f q=>IQ c f ?_),⟨⟨_,aN _ rfl,rfl,rfl⟩,j.at λo e=>aj _ e⟩⟩
  ·rcases af.mp c with e|c
   ·exact .inr (by rw[e];exact ak _)
   ·exact .inl (aE.mp c)
  ·rw[fT];rcases af.mp c with e|c
   ·rw[e];exact eV _
   ·rw[aE.mp c];exact dB d
  ·rw[cf]at r;obtain⟨e,C,rfl⟩:=cy.mp r;rw[cS]at C;rw[C];exact q
  ·have :(pickOrder (w.params.setOrder S ep) es)[es.size]?=none:=by
    rw[<-cS];exact cR (by rw[U.length_eq,bM];exact ak _)
   rw[this];exact q
 |false=>
  simp only[Bool.not_false,fY];cases n:(!t.plain&&decide (es.size>1))with
  |false=>
   simp only[eT,g7];refine aa (ag ?_);refine aa ?_;obtain⟨oS,x,Z,y,B,D⟩:=id j;refine mJ x y B ?_;refine aa (bV (ag ⟨_,rfl,"set_iterator",_,⟨_,aN _ rfl,rfl⟩,nF.lookup,?_⟩));have T:S≠s.heap.objs.size:=bG d;refine h _ s.drawn _ (es.toList.map (·.2)) [s.heap.objs.size,S] _ ⟨.rfl,λb o e=>aj _ e,λb c=>?_,λb c=>?_,ak _,
    Fg (ep:=ep) (t:=t) N s.heap.objs.size T _ (by rw[aP,bM]) (λi=>if i=0 then 0 else t.place.getD (i-1) 0+1) (λi v r A E Y Q f q=>GF c f ok n ?_) (λA E Y Q f q=>GF c f ok n ?_),⟨⟨_,aN _ rfl,rfl,rfl⟩,j.at λo e=>aj _ e⟩⟩
   ·rcases af.mp c with e|c
    ·exact .inr (by rw[e];exact ak _)
    ·exact .inl (aE.mp c)
   ·rw[fT];rcases af.mp c with e|c
    ·rw[e];exact eV _
    ·rw[aE.mp c];exact dB d
   ·rw[cf]at r;obtain⟨e,C,rfl⟩:=cy.mp r;rw[cS]at C;have hi:i<es.size:=(gn.mp C).1;have G:i<t.place.size:=by omega
    rw[below_at ok.2 (by omega),C,aX G];have hg:t.place.getD (i+1-1) 0=t.place[i]:=by rw[Nat.add_sub_cancel,dX,aX G];rfl
    simp only[Nat.add_eq_zero_iff,nu,and_false,g7,hg]at q;exact q
   ·rw[below_at ok.2 (by omega),Array.getElem?_eq_none (ak _)];exact q
  |true=>
   simp only[j0];refine aa ?_;refine Ju _ _ _ _ (by rw[df]) λk O m=>?_
   have H:k.length=es.size:=by rw[m.length_eq,df]
   obtain⟨oS,x,Z,y,B,D⟩:=id j;refine aa (bV ?_ (by show(k.map _).toArray.size<=sizeLine;rw[aJ,aP,H];exact iH D));refine aa ?_;refine mJ (aj _ x) y B ?_;refine aa (bV (ag ⟨_,rfl,"set_iterator",_,⟨_,aN _ rfl,rfl⟩,nF.lookup,?_⟩));have e1:(s.heap.push {cls:=.type "tuple",data:=.seq (k.map λ(i:Nat)=>rawInt i).toArray}).objs.size=s.heap.objs.size+1:=fT ..;have hT:=aN s.heap (o:={cls:=.type "tuple",data:=.seq (k.map λ(i:Nat)=>rawInt i).toArray}) rfl;generalize hg1:s.heap.push {cls:=.type "tuple",data:=.seq (k.map λ(i:Nat)=>rawInt i).toArray}=g1 at hT e1;have J:∀b o,s.heap.get? b=some o->g1.get? b=some o:=λb o e=>by rw[<-hg1];exact aj _ e
   have W:=Oh (prog:=prog) (w:=w) (A:=A) (S:=S) (es:=es) (ep:=ep) (t:=t) N g1.objs.size s.heap.objs.size (λz=>by rw[z,e1]at d;exact cW _ (lA (eV _) d)) (λz=>by rw[e1]at z;exact nu _ z.symm) k m;have L:∀(i:Nat) (v:Value),(∃(p:Nat) (e:Int×Value),k[i]?=some p/\es[p]?=some e/\v=e.2)↔(k.filterMap λp=>(es[p]?).map (·.2))[i]?=some v:=by
    have all:∀(l:List Nat),(∀p∈l,p<es.size)->(l.filterMap λp=>(es[p]?).map (·.2))=l.map λp=>(es.getD p (0,.none)).2:=by
     intro l
     induction l with
     |nil=>intro _;rfl
     |cons p l ih=>
      intro n;have h0:=n p aW;rw[l7 (b:=(es[p]).2) (by rw[aX h0];rfl),bf,ih λq hq=>n q (aA _ hq),dX,aX h0];rfl
    intro i v;rw[all k λp n=>bS.mp (m.mem_iff.mp n),cf];constructor
    ·rintro⟨p,e,h1,h2,rfl⟩;rw[h1,ll,dX,h2];rfl
    ·intro q;obtain⟨p,n,r⟩:=cy.mp q;have d:p<es.size:=bS.mp (m.mem_iff.mp (bj n));rw[dX,aX d]at r;exact⟨p,_,n,aX d,r.symm⟩
   have eP:(λ(i:Nat) (v:Value)=>∃(p:Nat) (e:Int×Value),k[i]?=some p/\es[p]?=some e/\v=e.2)=λi v=>(k.filterMap λp=>(es[p]?).map (·.2))[i]?=some v:=by
    funext i v;exact propext (L i v)
   rw[eP]at W;refine h _ O g1.objs.size _ _ _ ⟨?_,λb o e=>aj _ (J b o e),λb c=>?_,λb c=>?_,by rw[e1];exact jf _,W,⟨⟨_,aN _ rfl,rfl,rfl⟩,j.at λo e=>aj _ (J _ o e),⟨_,aj _ hT,rfl,_,rfl⟩⟩⟩
   ·have e2:(es.toList.map (·.2))=(List.range es.size).filterMap λp=>(es[p]?).map (·.2):=by
     rw[<-filterMap_getElem?_range es,List.map_filterMap]
    rw[e2];exact m.filterMap _
   ·simp only[af,aS,cC]at c;rcases c with e|e|e
    ·exact .inr (by rw[e,e1];exact jf _)
    ·exact .inl e
    ·exact .inr (by rw[e];exact ak _)
   ·simp only[af,aS,cC]at c;rw[fT,e1];rcases c with e|e|e
    ·rw[e,e1];exact eV _
    ·rw[e];exact dB (dB d)
    ·rw[e];exact dB (eV _)
end
open PySem.W
section
variable{prog:Program}{w:World}{A:Around}{E:Value->Shared->Prop}{s:Shared}{S:Addr}{es:Array (Int×Value)}{ep:Nat}{t:SetTable}
theorem Vj{Q:Bool->Shared->Prop}(hT:s.TypeIs (.ref S) "set")(h:Q false s):wpAny (model prog w) A (Builtin.List.listLengthHint (.ref S)) Q E s:=by
 unfold Builtin.List.listLengthHint;refine aa (eM hT PySem.F.slot_set_len.lookup ?_);generalize c:("set.__len__":String)=d
 wp_delta
 rw[show splitId d=some ("set","__len__")from by subst c;decide+kernel];subst c;refine aa (g5 (T:="set") (b:=true) hT (by rw[eX];kernel_rfl) ?_);refine oG (λa=>absurd a (by decide)) (λ_=>?_);refine oG (λ_=>?_) (λa=>absurd (by decide+kernel) a);refine aa (jG hT ?_);exact ag h
theorem N0{R:Result->Shared->Prop}(Q:A.handled=none)(G:tM s.heap S es ep t)(ok:Nm (Ag w) t)(L:Addr)(x:L≠S)(n:Value)(q:Nat)(N:s.heap.get? L=some {cls:=.type "list",data:=.seq #[] q})
 (hR:∀d (ord:List Value) a v,ord.Perm (es.toList.map (·.2))->(∀b o,b≠L->s.heap.get? b=some o->d.heap.get? b=some o)->d.os=s.os->d.gens=s.gens->d.heap.get? L=some {cls:=.type "list",dict:=none,data:=.seq a v,slots:= #[]}->a.toList=ord->R (.ok (.ret n)) d):
 wpAny (model prog w) A.in1 (Builtin.List.listExtendWith (.ref L) (.ref S) n)
  (λfin d=>match fin with |.done f=>R (.ok f) d|.again v=>v.quiet=true/\codeAny (model prog w) A v R d) (λe d=>R (.error e) d) s:=by
 have U:es.size<=sizeLine:=by obtain⟨_,_,_,_,_,p⟩:=id G;exact iH p
 unfold Builtin.List.listExtendWith;refine aa (jG (T:="set") G.ty ?_);have Y:Builtin.List.listSameRef (.ref L) (.ref S)=false:=by simp[Builtin.List.listSameRef,x]
 have Z:(Value.type "set"==Value.type "list")=false:=by decide
 have n2:(Value.type "set"==Value.type "tuple")=false:=by decide
 simp only[Y,Z,n2,Bool.or_false,eT,g7];refine aa (TR (A:=A.in1) Q G ok λg d' I ord fp St W=>?_);have y:L<s.heap.objs.size:=aK N;have x0:L≠I:=bG (bB y W.new);have z:L∉fp:=λm=>by
  rcases W.fps L m with e|e
  ·exact x e
  ·exact absurd (bB y e) (cW _)
 have B:ord.length=es.size:=by rw[W.perm.length_eq,aP,bM]
 have C:∀(h:Heap) (j tk:Nat),St 0 h->(∀b o,b≠L->s.heap.get? b=some o->h.get? b=some o)->
  h.get? L=some {cls:=.type "list",data:=.seq #[] j}->codeAny (model prog w) A (.builtin "list.extend.loop" ⟨[.ref L,.ref I,n],[]⟩) R {s with heap:=h,drawn:=d',toks:=tk}:=by
  intro h j tk H hk c;refine kj W.walk.toS U L z n es.size 0 _ #[] j rfl (br _) H c (ItemsOf.nil _) λd a v J M r=>?_
  refine hR d ord a v W.perm (λb o p e=>J.heap b o (λk=>?_) (hk b o p e)) J.os J.gens M ?_
  ·rcases af.mp k with e'|k
   ·exact p e'
   ·exact absurd (aK e) (by rw[aE.mp k];exact Nat.not_lt.mpr W.new)
  ·refine jO λi=>?_
   have x1:a.size=ord.length:=by rw[B];exact r.1
   by_cases O:i<a.size
   ·have h2:=r.2 i a[i] (aX O);rw[h2,cS,aX O]
   ·rw[cR (by rw[bM];omega),cR (by omega)]
 have c:=W.kept _ _ N;refine aa (dY (Vj (G.at λo e=>W.kept _ o e).ty ?_));refine oG (λ_=>?_) (λ_=>ag ⟨dG lE _,C _ q _ W.st (λb o _ e=>W.kept b o e) c⟩);refine aa (fW ?_);refine aa ?_;show wpAny _ _ (updateSeq L (·.push .none)>>=λ_=>updateSeq L (·.pop)) _ _ _;refine aa (fV c rfl ?_);have l:=bY (Obj.mapSeq (·.push Value.none)) c rfl;refine fV (hz:=by seq_fits) l rfl ?_;have u:=bY (Obj.mapSeq (·.pop)) l rfl;refine ag ⟨dG lE _,C _ _ _ ?_ (λb o p e=>?_) u⟩
 ·refine W.walk.frame 0 _ _ W.st λb p o e=>?_
  have D:b≠L:=λh=>z (h▸p)
  exact(bA _ _ (aY D)).trans ((bA _ _ (aY D)).trans e)
 ·exact(bA _ _ (aY p)).trans ((bA _ _ (aY p)).trans (W.kept b o e))
theorem Mg{R:List Value->Shared->Prop}(C:A.handled=none)(z:tM s.heap S es ep t)(ok:Nm (Ag w) t)
 (h:∀g (ord:List Value),ord.Perm (es.toList.map (·.2))->(∀b o,s.heap.get? b=some o->g.heap.get? b=some o)->g.os=s.os->g.gens=s.gens->s.heap.objs.size<g.heap.objs.size->R ord g):
 wpAny (model prog w) A (collect (.ref S)) R E s:=by
 have u:S<s.heap.objs.size:=by obtain⟨o,e,_⟩:=id z;exact aK e
 unfold collect;refine aa (p8 (du entry_proto_collect' ?_));rw[cI PySem.F.plain_proto_collect _];show wpAny _ A.in1 (newList []>>=λl=>again (.builtin "list.__iadd__" ⟨[l,.ref S],[]⟩)) _ _ s;refine aa (bV ?_);refine ag ⟨dG mi _,du entry_list_iadd' ?_⟩;rw[cI mi _];have i:(s.heap.push {cls:=.type "list",data:=.seq ([]:List Value).toArray}).get? s.heap.objs.size=some {cls:=.type "list",data:=.seq #[]}:=aN _ rfl;show wpAny _ A.in1 (Builtin.List.listExtendWith (.ref s.heap.objs.size) (.ref S) (.ref s.heap.objs.size)) _ _ _;have v:=N0 (prog:=prog) (A:=A) (s:={s with heap:=s.heap.push {cls:=.type "list",data:=.seq ([]:List Value).toArray} })
  (R:=λ(q:Result) (g:Shared)=>∃(ord:List Value) (a:Array Value) (j:Nat),q=.ok (.ret (.ref s.heap.objs.size))/\ord.Perm (es.toList.map (·.2))/\
    (∀b o,s.heap.get? b=some o->g.heap.get? b=some o)/\g.os=s.os/\g.gens=s.gens/\g.heap.get? s.heap.objs.size=some {cls:=.type "list",dict:=none,data:=.seq a j,slots:= #[]}/\a.toList=ord)
  C (z.at λo e=>aj _ e) ok s.heap.objs.size (lx u) (.ref s.heap.objs.size) 0 i
  (λg ord a j k m n p d c=>⟨ord,a,j,rfl,k,λb o e=>m b o (bG (aK e)) (aj _ e),n,p,d,c⟩)
 refine eJ v (λfin g x=>?_) λe g x=>?_
 ·cases fin with
  |done f=>
   obtain⟨ord,a,j,e,k,m,n,p,d,c⟩:=x;cases e;show wpAny _ A (load s.heap.objs.size>>=_) _ _ _;refine aa (lM d ?_);exact ag (by rw[c];exact h g ord k m n p (aK d))
  |again B=>
   refine⟨x.1,iS x.2 λq r y=>?_⟩;obtain⟨ord,a,j,rfl,k,m,n,p,d,c⟩:=y;show wpAny _ A (load s.heap.objs.size>>=_) _ _ _;refine aa (lM d ?_);exact ag (by rw[c];exact h r ord k m n p (aK d))
 ·obtain⟨_,_,_,D,_⟩:=x;cases D
theorem ints_of{es:Array (Int×Value)}(a:ElemsOf (intKind prog w) es.toList){ord:List Value}(c:ord.Perm (es.toList.map (·.2))):IntsAre ord (ord.map vInt):=by
 have all:∀v∈ord,∃i t,v=.int i t:=λv b=>by
  obtain⟨e,d,rfl⟩:=bq.mp (c.mem_iff.mp b);obtain⟨⟨k,f,_⟩,_⟩:=a e d;obtain⟨t,q⟩:=jL (k:=k) (v:=e.2) f;exact⟨k,t,q⟩
 clear c
 induction ord with
 |nil=>exact .nil
 |cons v l g=>
  obtain⟨i,t,rfl⟩:=all v aW;exact .cons i t (g λv b=>all v (aA _ b))
theorem OE{Q:Value->Shared->Prop}(y:A.handled=none)(i:ElemsOf (intKind prog w) es.toList)(u:tM s.heap S es ep t)(ok:Nm (Ag w) t)
 (h:∀d a n out (j:List Int),IntsAre out j->j.Perm (ym es)->j.Pairwise (·<=·)->(∀b o,s.heap.get? b=some o->d.heap.get? b=some o)->d.os=s.os->d.gens=s.gens->s.heap.objs.size<=a->d.heap.get? a=some {cls:=.type "list",data:=.seq out.toArray n}->Q (.ref a) d):
 wpAny (model prog w) A (call (.builtin "sorted") [.ref S]) Q E s:=by
 have v:es.size<=sizeLine:=by obtain⟨_,_,_,_,_,z⟩:=id u;exact iH z
 refine Calls.call_function_entry kind_sorted plain_sorted entry_sorted (args_sorted1 _) ?_;unfold Builtin.«sorted»;refine aa (m:=checkCount "sorted" 1 1 _) (ag ?_);refine aa (Mg (A:=A.in1) y u ok λf ord k B C D l=>?_);have x:ord.length=es.size:=by rw[k.length_eq,aP,bM]
 refine aa (wpAny_newList ?_ (by rw[x];exact v));have G:=ints_of i k;have c:=aN f.heap (o:=seqObj "list" ord.toArray 0) rfl;show wpAny _ _ _ _ _ {f with heap:=f.heap.push (seqObj "list" ord.toArray 0)};refine aa (dY (c8 slot_list_sort ⟨_,c,rfl⟩ entry_list_sort (list_sort_treeAny (s:={f with heap:=f.heap.push (seqObj "list" ord.toArray 0)}) c G (by rw[x];exact v) λout g H I J=>⟨_,rfl,?_⟩) (args_list_sort _)));obtain⟨p,q⟩:=PyProof.Rows.sortedHeap_at (vs:=ord) (out:=out) c;have r:g.Perm (ym es):=I.trans (by
  have :=k.map vInt;rw[d4]at this;exact this)
 refine ag ⟨_,rfl,h _ _ p out.toList g H r J (λb o e=>?_) C D ?_ (by simpa[seqObj]using q)⟩
 ·have e1:=B b o e;show(sortedHeap _ _ _ _).get? b=_;rw[PyProof.Rows.sortedHeap_old (bG (aK e1)) (by rw[fT];exact dB (aK e1))];exact aj _ e1
 ·exact oq l
end
section
variable{X:Cx}{p p2 pos Ol:Pos}{e:Expr}{te:TE}
def MZ(K:Frag)(te:TE):TE:=λf H Q=>te f H λx b=>∃(a:Addr) (c:List Int),x=.ref a/\eD K b a (c.map V.int)/\c.length<=4000/\
 ∀l (d:List Int),b l=none->d.Pairwise (·<·)->(∀z,z∈d↔z∈c)->Q (.ref l) (upd b l (.lst (d.map V.int)))
theorem F8{l:List Int}(h:l.Pairwise (·<=·))(n:l.Nodup):l.Pairwise (·<·):=by
 refine(h.and n).imp ?_;rintro a b ⟨c,d⟩;exact Int.lt_iff_le_and_ne.mpr ⟨c,d⟩
theorem Oc(M:X.calm=true)(Y:Gl X "sorted")(Z:X.mg "sorted"=none)(hg2:Gl X "set")(w:X.mg "set"=none)(ha:PE X e te)
 (f:starEach [e] X.env=(false,eval e X.env)::starEach [] X.env:=by rfl)
 (g:starEach [.Call (.Name "set" p2) [e] [] Ol] X.env=(false,eval (.Call (.Name "set" p2) [e] [] Ol) X.env)::starEach [] X.env:=by rfl):
 PE X (.Call (.Name "sorted" p) [.Call (.Name "set" p2) [e] [] Ol] [] pos) (MZ X.K te):=by
 intro c s N H Q I h;refine dj (qC I Y Z lZ ?_);refine jv ?_ g rfl;rw[g];refine fK (dj (qC I hg2 w boot_set (cp ?_ f rfl)));rw[f];refine fK (iz (ha c s N H _ I h) ?_);rintro u O ⟨x,y,r,r1,q1⟩;refine gD ?_;obtain⟨a,A,rfl,hq,hn,q⟩:=q1;cases r1;obtain⟨x0,rv,pl,hz⟩:=r.list hq;have hi:=rv.ints;refine SN (r.ok.hd M) pl.isList (by simpa using hi) (by unfold scanBound;omega) λT tk es hS B hk=>gD ?_
 obtain⟨o,ep,t,ho,hex,hd,C,hb,hf,hr⟩:=hS;have v:Inv X c N y {O with heap:=T,toks:=tk}:=r.kept λb o e=>hk b o (aK e) e
 refine OE (s:={O with heap:=T,toks:=tk}) (r.ok.hd M) C ⟨o,ho,hex,hd,hf,hb⟩ hr λs' a n D i a1 E a3 U G J d j=>?_
 have k:y a=none:=v.e_.fresh d;have l:∀z,z∈i↔z∈A:=λz=>by
  rw[E.mem_iff,B.mem_iff,Qv];simp
 have L:i.Nodup:=(E.trans B).nodup_iff.mpr (II A [] jM);have m:i.length<=sizeLine:=by
  rw[(E.trans B).length_eq];have :=Ks A [];rw[fS]at this;rw[bu];omega
 exact⟨.ref a,upd y a (.lst (i.map V.int)),v.Xr (ch:=[]) G (Un.laid U d k) (v.e_.laid U d ⟨by rw[aP];exact m,D,n,vU a1,j⟩) (by rw[J];exact v.bare) (λ_ z=>nomatch z),rfl,q a i k (F8 a3 L) l⟩
end
end Gp
namespace Gp
open L2 PyProof.Rows PySem PySem.Spec
def TC(i j:Int):Prop:=j=1/\0<=i/\i<2^1000
theorem Rp{i:Int}(a:0<=i)(h:i<2^1000):Builtin.Int.intBits i<=1000:=by
 unfold Builtin.Int.intBits;split
 ·exact br _
 ·rename_i b;have c:i.natAbs<2^1000:=by
   have :((i.natAbs:Nat):Int)<((2^1000:Nat):Int):=by
    rw[Int.natAbs_of_nonneg a];exact h
   exact Int.ofNat_lt.mp this
  have d:i.natAbs≠0:=λe=>b (by simpa using Int.natAbs_eq_zero.mp e)
  exact(Nat.log2_lt d).mpr c
theorem KC{X:Cx}:Cv X (binaryOp .LShift) (rI TC λi j=>.int (i*2^j.toNat)):=opI λi j _ _ _ _ _ a q=>by
 obtain⟨rfl,b,c⟩:=a;refine lshift_int (by decide) ?_ q;have :=Rp b c;have d:((Builtin.Int.intBits i:Nat):Int)<=1000:=by exact_mod_cast this
 omega
def Xc(K:Frag):R2:=λx y H Q=>AF λa b c d=>x=.ref a/\y=.ref b/\Lf K H a c/\Lf K H b d/\c.length+d.length<=sizeLine/\∀p e,aZ H e->Lf K e p (c++d)->Q (.ref p) e
theorem Wx{X:Cx}:Cv X (binaryOp .Add) (Xc X.K):=by
 intro c s E H x y v u Q I o r h;obtain⟨a,b,t,G,rfl,rfl,j,k,J,q⟩:=h;by_cases w:t=[]
 ·subst w;cases o;cases r;obtain⟨L,M,N,_⟩:=I.tuple j.sq;obtain⟨d,r2,O,_⟩:=I.tuple k.sq;cases M;obtain⟨⟨T,U,z,Y⟩,A,B,n,C⟩:=id N;obtain⟨⟨D,l,data2,m⟩,f,g,Z,i⟩:=id O;simp only at B C g i;subst B C g i;refine rH ⟨_,A,rfl⟩ ⟨_,f,rfl⟩ nN qz jB je (i6 _ _)
   (tuple_addW0 a b #[] d.toArray n Z U l Y m rfl) ⟨A,f,?_⟩
  exact⟨.ref b,H,I,rfl,q b H (aZ.refl _) (by simpa using k)⟩
 ·exact Wh c s E H _ _ v u Q I o r ⟨a,b,t,G,rfl,rfl,j.sq,k.sq,w,J,λe=>by subst e;exact q a H (aZ.refl _) (by simpa using j),λ_ p hp=>q p _ (aD hp) (.inl au)⟩
def Rg(K:Frag):V->Option Int->Option Int->Hp->VK->Prop:=λx lo d H Q=>om λa c=>x=.ref a/\Lf K H a c/\∀p b,aZ H b->Lf K b p (mf c lo d)->Q (.ref p) b
theorem Sd{b:Program}{w:World}{A:Around}{E:Value->Shared->Prop}{s:Shared}{t f:Addr}{a:Array Value}{k l:Value}{lo e:Option Int}{Q:Value->Shared->Prop}(c:IsTup s.heap t a)(m:s.heap.IsSliceOf f k l .none)(q:IsPart k lo)(r:IsPart l e)
 (p:HT.oh a.size 0 lo=0/\HT.oh a.size a.size e=a.size)(h:Q (.ref t) s):wpAny (model b w) A (getItem (.ref t) (.ref f)) Q E s:=by
 obtain⟨os,g,i,u⟩:=id m;have j:s.TypeIs (.ref f) "slice":=⟨os,g,i⟩;unfold getItem
 try with_reducible refine dY ?_
 first|refine aa (ag ?_)|skip
 refine aa (wpAny_sequenceKey c.typeIs (by decide) ?_);refine aa (d6 (name:=Str.ofString "__getitem__") c.typeIs dv
  (c8 dv c.typeIs entry_tuple_getitem ?_ (args_tuple_getitem _ _)))
 show wpAny _ _ (Builtin.Tuple.tupleItemsOf (.ref t)>>=_) _ _ s;refine aa (tupleItemsOf_ c ?_);refine aa (jG j ?_);rw[az (by decide)];refine aa (HT.vB m q r ?_);have d:(((HT.oh a.size 0 lo:Nat):Int)==0&&(1:Int)==1&&(HT.oh a.size a.size e-HT.oh a.size 0 lo)==a.size)=true:=by
  rw[p.1,p.2];simp
 show wpAny _ _ (if(((HT.oh a.size 0 lo:Nat):Int)==0&&(1:Int)==1&&(HT.oh a.size a.size e-HT.oh a.size 0 lo)==a.size)=true then _ else _) _ _ s;rw[az d];obtain⟨o,v,x,n,y⟩:=id c;unfold Builtin.Tuple.tupleIsExact;refine aa (aa (jG (T:="tuple") ⟨o,v,x⟩ (ag ?_)));rw[az (by decide)]
 first
  |exact aa (fW (ag ⟨_,rfl,ag h⟩))
  |exact aa (aa (fW (ag (ag ⟨_,rfl,ag h⟩))))
theorem B4{X:Cx}:ZV X (Rg X.K):=by
 intro c s t H x v u w lo g y Q I k l m n h;obtain⟨a,b,rfl,i,q⟩:=h;by_cases f:HT.oh b.length 0 lo=0/\HT.oh b.length b.length g=b.length
 ·cases k;obtain⟨j,r,o,A⟩:=I.tuple i.sq;have d:j.toArray.size=b.length:=by rw[aJ];exact r.length.symm
  refine⟨"tuple",_,dv.lookup,o.typeIs,?_⟩;refine Sd o l m n (by rw[d];exact f) ⟨.ref a,H,I,rfl,q a H (aZ.refl _) ?_⟩;have e:mf b lo g=b:=by unfold mf;rw[f.1,f.2];simp
  rw[e];exact i
 ·exact YT c s t H _ v u w lo g y Q I k l m n ⟨a,b,rfl,i.sq,f,λp z=>q p _ (aD z) (.inl au)⟩
def PU(K:Frag):List V->Hp->VK->Prop:=λb H Q=>∃p a,b=[.ref p]/\(eD K H p a\/kF K H p a)/\∀l,H l=none->Q (.ref l) (upd H l (.lst a))
theorem Nb{X:Cx}:wV X (.type "list") (PU X.K):=K5
theorem qF(a b:Nat):Builtin.bitOr (a:Int) (b:Int)=((a|||b:Nat):Int):=by
 unfold Builtin.bitOr;have c:¬(0:Int)<=Builtin.bitNot (a:Int):=by unfold Builtin.bitNot;omega
 have d:¬(0:Int)<=Builtin.bitNot (b:Int):=by unfold Builtin.bitNot;omega
 have e:∀n:Nat,(Builtin.bitNot (Builtin.bitNot (n:Int))).toNat=n:=λn=>by unfold Builtin.bitNot;omega
 unfold Builtin.bitAnd;rw[aM c,aM d];dsimp only;rw[e,e];unfold Builtin.bitNot;omega
theorem qc(a b:Nat):Builtin.bitAnd (a:Int) (b:Int)=((a&&&b:Nat):Int):=by
 unfold Builtin.bitAnd;rw[aF (gq a),aF (gq b)];dsimp only;rw[dc,dc]
theorem Jb(a b:Nat):Builtin.bitAnd (a:Int) (Builtin.bitNot (b:Int))=((iP a b:Nat):Int):=by
 have c:¬(0:Int)<=Builtin.bitNot (b:Int):=by unfold Builtin.bitNot;omega
 have e:∀n:Nat,(Builtin.bitNot (Builtin.bitNot (n:Int))).toNat=n:=λn=>by unfold Builtin.bitNot;omega
 unfold Builtin.bitAnd;rw[aF (gq a),aM c];dsimp only;rw[e,dc];unfold iP;have :a&&&b<=a:=Nat.and_le_left;omega
theorem PN(a:Nat):(a:Int)*2^(1:Int).toNat=((2*a:Nat):Int):=by
 have :(2:Int)^(1:Int).toNat=2:=rfl;rw[this];omega
theorem Vw(a:Nat):(a:Int)/2^(1:Int).toNat=((a/2:Nat):Int):=by
 have :(2:Int)^(1:Int).toNat=2:=rfl;rw[this];omega
theorem cH{N P:List Str}{e:Scope}(h:N.Nodup/\(∀x∈P,e.names.lookup x=some .local\/e.names.lookup x=some .cell)/\∀y∈e.names,y.2≠.free:=by decide+kernel)(a:e.kind=.function:=by rfl)(b:e.isCoroutine=false:=by rfl)(c:e.isGenerator=false:=by rfl)(d:N.take P.length=P:=by rfl):bp N P e:=⟨a,b,c,h.1,d,h.2.1,h.2.2⟩
theorem A8:bp ["self","told"] ["self","told"] (aI l6):=cH
theorem wA:bp ["self"] ["self"] (aI jm):=cH
theorem nh:bp ["self","taken"] ["self"] (aI iy):=cH
theorem k9:bp ["self","size","begin"] ["self"] (aI jl):=cH
theorem EG:bp ["self","nonterminals","rules"] ["self","nonterminals","rules"] (aI pT):=cH
theorem Ek:bp ["grammar"] ["grammar"] (aI pw):=cH
theorem jZ:bp ["self","grammar","mark","owner","symbols","symbol"] ["self","grammar"] (aI sO):=cH
theorem yk:bp ["self","mark","symbol"] ["self","mark","symbol"] (aI j5):=cH
theorem gW:bp ["self","byte","mark","lo","hi"] ["self","byte"] (aI hX):=cH
theorem vJ:bp ["self","marks"] ["self","marks"] (aI i4):=cH
theorem xl:bp ["self","marks"] ["self","marks"] (aI jQ):=cH
theorem lG:bp ["marks","asked","given","joined","one","other"] ["marks","asked","given"] (aI pj):=cH
theorem De:bp ["self","grammar"] ["self","grammar"] (aI oy):=cH
theorem lW:bp ["self","piece","reached","place"] ["self","piece"] (aI mS):=cH
theorem zD:bp ["self","first","last"] ["self","first","last"] (aI kX):=cH
theorem jj:bp ["self","piece","grown","reached","passed"] ["self","piece"] (aI me):=cH
theorem vO:bp ["self","text"] ["self","text"] (aI jk):=cH
theorem uG:bp ["self","text"] ["self","text"] (aI iL):=cH
theorem qS:bp ["grammar","text","covering","size","begin"] ["grammar","text"] (aI si):=cH
theorem jF:bp ["grammar","other","theirs","rule","number"] ["grammar","other"] (aI mH):=cH
theorem HD:bp ["left_reads","right_reads"] ["left_reads","right_reads"] (aI sJ):=cH
theorem Li:bp ["left_reads","right_reads"] ["left_reads","right_reads"] (aI wh):=cH
theorem j4:bp ["left","right","texts","differs","by_left","by_right","text"] ["left","right","texts","differs"] (aI kY):=cH
theorem kz:bp ["owner","numbers","number"] ["owner","numbers"] (aI gP):=cH
theorem xt:bp ["symbol","order"] ["symbol","order"] (aI j_):=cH
theorem gY:bp ["rules","order","renumbered","owner","symbols","symbol","row"] ["rules","order"] (aI ji):=cH
theorem Hf:bp ["grammar","by"] ["grammar","by"] (aI qP):=cH
theorem F2:bp ["left"] ["left"] (aI qQ):=cH
theorem s_:bp ["left","right","start_rules","rules"] ["left","right","start_rules"] (aI ma):=cH
theorem wb:bp ["left","right","to_left","to_right"] ["left","right"] (aI uf):=cH
theorem qe:bp ["left","right","to_both"] ["left","right"] (aI jY):=cH
theorem AS:bp ["left","none","one_more"] ["left"] (aI zg):=cH
theorem vm:bp ["left","right","place","rule","kept","to_right","rules"] ["left","right","place"] (aI xH):=cH
theorem yV:bp ["left","owner","symbols","rules"] ["left"] (aI yd):=cH
theorem Ll:bp ["numbers","size"] ["numbers","size"] (aI wq):=cH
theorem NG:bp ["left","order"] ["left","order"] (aI yY):=cH
theorem EE:bp ["left","dropped"] ["left","dropped"] (aI p6):=cH
theorem K4:bp ["left","rule"] ["left","rule"] (aI uD):=cH
theorem Kf:bp ["self"] ["self"] (aI t_):=cH
theorem rV:bp ["self","grammar","remembered"] ["self","grammar"] (aI kZ):=cH
theorem Eh:bp ["self"] ["self"] (aI pA):=cH
theorem rn:bp ["self","was_left"] ["self"] (aI j7):=cH
theorem BN:bp ["self","row"] ["self","row"] (aI mU):=cH
theorem ud:bp ["self","least","most","taken"] ["self","least","most"] (aI mX):=cH
theorem yM:bp ["self"] ["self"] (aI j8):=cH
theorem yn:bp ["reader","nonterminals","lo"] ["reader","nonterminals"] (aI qV):=cH
theorem p_:bp ["reader","nonterminals","owner","size","place","symbols"] ["reader","nonterminals"] (aI qX):=cH
theorem iQ:bp ["row","reader","nonterminals","size","place","rules"] ["row"] (aI kh):=cH
theorem tF:bp ["row","nonterminals","reader","rule"] ["row","nonterminals"] (aI qN):=cH
theorem jK:bp ["grammar","row","owner","symbols","symbol"] ["grammar"] (aI mQ):=cH
theorem k7:bp ["grammars","ranges","grammar","owner","symbols","symbol"] ["grammars"] (aI rh):=cH
theorem gk:bp ["grammars","ranges","lo","hi","cuts","cut"] ["grammars"] (aI oM):=cH
theorem jE:bp ["signs","most","texts","longest","size"] ["signs","most"] (aI pN):=cH
theorem jT:bp ["signs","most","texts","longest","size","longer","text","sign"] ["signs","most"] (aI tS):=cH
theorem HG:bp ["self","grammar"] ["self","grammar"] (aI sL):=cH
theorem tf:bp ["self","piece","marks","known","new"] ["self","piece","marks"] (aI qR):=cH
theorem jH:bp ["self","piece","marks","place","first","last","back","ends"] ["self","piece","marks"] (aI pV):=cH
theorem eB:bp ["self","text","used_before","waited","new","rule","end"] ["self","text"] (aI gv):=cH
theorem nV:bp ["grammar","texts","using","uses","text","rules"] ["grammar","texts"] (aI sx):=cH
theorem nH:bp ["grammar","rule","texts","using","text"] ["grammar","rule","texts"] (aI kN):=cH
theorem O9:bp ["number"] ["number"] (aI zb):=cH
theorem Br:bp ["row"] ["row"] (aI mV):=cH
theorem B2:bp ["number","grammar"] ["number","grammar"] (aI mO):=cH
theorem HS:bp ["pair","side"] ["pair","side"] (aI sh):=cH
theorem G7:bp ["grammar"] ["grammar"] (aI qU):=cH
theorem Kr:bp ["pair","grammar"] ["pair","grammar"] (aI uA):=cH
theorem ET:bp ["pair","reader","side","row","grammar"] ["pair","reader"] (aI s_load):=cH
theorem Pr:bp ["pair","reader","side"] ["pair","reader"] (aI JL):=cH
theorem RL:bp ["pair","reader"] ["pair","reader"] (aI Bn):=cH
theorem QV:bp ["pair","reader"] ["pair","reader"] (aI BO):=cH
theorem VJ:bp ["pair","reader"] ["pair","reader"] (aI J6):=cH
theorem TJ:bp ["pair","reader","place"] ["pair","reader"] (aI Qc):=cH
theorem WM:bp ["pair","reader"] ["pair","reader"] (aI JD):=cH
theorem Jw:bp ["pair","reader","order"] ["pair","reader"] (aI BU):=cH
theorem PJ:bp ["pair","reader","dropped"] ["pair","reader"] (aI K7):=cH
theorem Pb:bp ["pair","reader","row","rule"] ["pair","reader"] (aI Qh):=cH
theorem Wu:bp ["pair","reader"] ["pair","reader"] (aI Ko):=cH
theorem VP:bp ["pair","reader"] ["pair","reader"] (aI K2):=cH
theorem xx:bp ["pair","reader","side","text","byte"] ["pair","reader"] (aI Bq):=cH
theorem OZ:bp ["numbers"] ["numbers"] (aI zx):=cH
theorem A_:bp ["pair","reader","of_left","of_right"] ["pair","reader"] (aI zr):=cH
theorem zH:bp ["signs","most"] ["signs","most"] (aI k6):=cH
theorem E_:bp ["text"] ["text"] (aI qH):=cH
theorem wK:bp ["pair","reader","differs","most","signs","refusal"] ["pair","reader","differs"] (aI zA):=cH
theorem Rr:bp ["pair","reader"] ["pair","reader"] (aI BV):=cH
theorem WT:bp ["pair","reader"] ["pair","reader"] (aI s_same):=cH
theorem qZ:bp ["pair","reader","rule","most","signs","refusal"] ["pair","reader"] (aI wj):=cH
theorem rf:bp ["pair","reader","most","signs","refusal","uses","answer","text","rules"] ["pair","reader"] (aI E3):=cH
theorem nP:bp ["pair","calls","reader","told","call","answer"] ["pair","calls"] (aI sk):=cH
theorem N5:bp ["calls"] ["calls"] (aI vk):=cH
structure Cl where
 Fx:Addr
 dW:Addr
 qW:Addr
 ve:Addr
 aL:Addr
 Grammar:Addr
 eQ:Addr
 aV:Addr
 Pair:Addr
 bF:Addr
 fH:Addr
structure Txt(K:Frag)(mg:Str->Option Value)(c:Cl):Prop where
 nt:KI mg "MOST_NONTERMINALS" 20
 wo:KI mg "MOST_RULES" 60
 yQ:KI mg "MOST_SYMBOLS" 8
 pJ:KI mg "HIGHEST_BYTE" 255
 BF:KI mg "MOST_BYTES" 24
 sQ:KI mg "START" 0
 i8:KI mg "NONTERMINAL" 0
 E6:KI mg "RANGE" 1
 Ah:KI mg "MOST_BEFORE" 16
 sP:KI mg "BELOW_ZERO" (-1)
 IU:KI mg "NO_BYTE" (-1)
 uU:KI mg "NO_GRAMMAR_ROW" (-2)
 Jd:KI mg "NO_RULE" (-2)
 FA:KI mg "TOO_LONG" (-3)
 qi:KI mg "NO_SUCH_NONTERMINAL" (-4)
 pB:KI mg "NO_SUCH_SIDE" (-5)
 DK:KI mg "TOO_GREAT" (-6)
 uW:KI mg "NO_SUCH_LENGTH" (-7)
 tq:KI mg "NO_SUCH_RULE" (-8)
 F5:KI mg "NO_ORDER" (-9)
 vn:KI mg "TOO_MANY_TEXTS" (-10)
 Ax:KI mg "NONE_BEFORE" (-11)
 Bw:KI mg "MOST_TEXTS" 300
 JJ:KI mg "LEFT" 0
 Qn:KI mg "RIGHT" 1
 r6:KI mg "MOST_GONE_THROUGH" 8
 WZ:mg "all"=none
 W8:mg "any"=none
 yl:mg "enumerate"=none
 pZ:mg "len"=none
 JF:mg "list"=none
 W_:mg "min"=none
 pF:mg "range"=none
 G9:mg "reversed"=none
 Xx:mg "set"=none
 GN:mg "sorted"=none
 W9:mg "sum"=none
 zh:mg "tuple"=none
 Xu:mg "zip"=none
 eK:Kh K c.aL
 jg:gQ K c.aL "told"
 fF:gQ K c.aL "place"
 b_:Kh K c.Grammar
 bo:gQ K c.Grammar "nonterminals"
 cN:gQ K c.Grammar "rules"
 fc:Kh K c.eQ
 lH:gQ K c.eQ "firsts"
 iK:gQ K c.eQ "ahead_of"
 ib:gQ K c.eQ "ends_of"
 kM:gQ K c.eQ "rule_ends"
 iu:gQ K c.eQ "ahead_of_ranges"
 cG:Kh K c.aV
 gp:gQ K c.aV "marks"
 dO:gQ K c.aV "reached"
 fR:gQ K c.aV "passed"
 cO:Kh K c.Pair
 cn:gQ K c.Pair "left"
 fC:gQ K c.Pair "right"
 iB:gQ K c.Pair "before"
 dR:Kh K c.bF
 kE:gQ K c.bF "row"
 ie:gQ K c.bF "place"
 fU:gQ K c.bF "sound"
 fO:Kh K c.fH
 fN:gQ K c.fH "covering"
 lX:gQ K c.fH "standing"
 kn:gQ K c.fH "waiting"
 lJ:gQ K c.fH "used"
 uq:wJ K mg "CallReader" c.aL "CallReader.__init__" l6 ["self","told"]
 qf:jA K c.aL "has_more" "CallReader.has_more" jm ["self"]
 nQ:jA K c.aL "take_number" "CallReader.take_number" iy ["self"]
 qj:jA K c.aL "take_row" "CallReader.take_row" jl ["self"]
 xE:wJ K mg "Grammar" c.Grammar "Grammar.__init__" pT ["self","nonterminals","rules"]
 yF:dS K mg "is_too_great" "is_too_great" pw ["grammar"]
 Cb:wJ K mg "Marks" c.eQ "Marks.__init__" sO ["self","grammar"]
 rX:jA K c.eQ "note_symbol" "Marks.note_symbol" j5 ["self","mark","symbol"]
 qd:jA K c.eQ "ahead_of_byte" "Marks.ahead_of_byte" hX ["self","byte"]
 p4:jA K c.eQ "ahead_of_ended" "Marks.ahead_of_ended" i4 ["self","marks"]
 qY:jA K c.eQ "ends_of_next" "Marks.ends_of_next" jQ ["self","marks"]
 yh:dS K mg "joined_where" "joined_where" pj ["marks","asked","given"]
 wY:wJ K mg "Covering" c.aV "Covering.__init__" oy ["self","grammar"]
 uV:jA K c.aV "learn" "Covering.learn" mS ["self","piece"]
 tw:jA K c.aV "stepped" "Covering.stepped" kX ["self","first","last"]
 uo:jA K c.aV "settle" "Covering.settle" me ["self","piece"]
 qg:jA K c.aV "start_ends" "Covering.start_ends" jk ["self","text"]
 o7:jA K c.aV "covers_whole" "Covering.covers_whole" iL ["self","text"]
 Ce:dS K mg "reads_text" "reads_text" si ["grammar","text"]
 yr:dS K mg "rules_not_in" "rules_not_in" mH ["grammar","other"]
 Bz:dS K mg "left_alone" "left_alone" sJ ["left_reads","right_reads"]
 F6:dS K mg "just_one" "just_one" wh ["left_reads","right_reads"]
 tQ:dS K mg "first_difference" "first_difference" kY ["left","right","texts","differs"]
 p0:dS K mg "rule_of_nonterminals" "rule_of_nonterminals" gP ["owner","numbers"]
 rZ:dS K mg "renumbered_symbol" "renumbered_symbol" j_ ["symbol","order"]
 tU:dS K mg "renumbered_rules" "renumbered_rules" ji ["rules","order"]
 zY:dS K mg "moved_rules" "moved_rules" qP ["grammar","by"]
 Ar:dS K mg "right_start" "right_start" qQ ["left"]
 t9:dS K mg "under_new_start" "under_new_start" ma ["left","right","start_rules"]
 DO:dS K mg "choice_of" "choice_of" uf ["left","right"]
 rq:dS K mg "one_behind_another" "one_behind_another" jY ["left","right"]
 IY:dS K mg "many_of" "many_of" zg ["left"]
 LC:dS K mg "put_at" "put_at" xH ["left","right","place"]
 Lp:dS K mg "turned" "turned" yd ["left"]
 Gg:dS K mg "is_order" "is_order" wq ["numbers","size"]
 Ia:dS K mg "renamed" "renamed" yY ["left","order"]
 xq:dS K mg "without_rule" "without_rule" p6 ["left","dropped"]
 DZ:dS K mg "with_rule" "with_rule" uD ["left","rule"]
 D0:wJ K mg "Pair" c.Pair "Pair.__init__" t_ ["self"]
 sZ:jA K c.Pair "become_left" "Pair.become_left" kZ ["self","grammar"]
 yu:jA K c.Pair "go_back" "Pair.go_back" pA ["self"]
 rT:jA K c.Pair "change_sides" "Pair.change_sides" j7 ["self"]
 uZ:wJ K mg "RowReader" c.bF "RowReader.__init__" mU ["self","row"]
 uS:jA K c.bF "take" "RowReader.take" mX ["self","least","most"]
 rW:jA K c.bF "is_done" "RowReader.is_done" j8 ["self"]
 Av:dS K mg "read_symbol" "read_symbol" qV ["reader","nonterminals"]
 DC:dS K mg "read_rule" "read_rule" qX ["reader","nonterminals"]
 vE:dS K mg "grammar_of_row" "grammar_of_row" kh ["row"]
 Ac:dS K mg "rule_of_row" "rule_of_row" qN ["row","nonterminals"]
 uY:dS K mg "row_of_grammar" "row_of_grammar" mQ ["grammar"]
 DE:dS K mg "ranges_of" "ranges_of" rh ["grammars"]
 Fj:dS K mg "signs_of" "signs_of" oM ["grammars"]
 yG:dS K mg "are_too_many" "are_too_many" pN ["signs","most"]
 Hb:dS K mg "texts_of" "texts_of" tS ["signs","most"]
 BM:wJ K mg "Using" c.fH "Using.__init__" sL ["self","grammar"]
 Aw:jA K c.fH "stand" "Using.stand" qR ["self","piece","marks"]
 xY:jA K c.fH "follow" "Using.follow" pV ["self","piece","marks"]
 oa:jA K c.fH "rules_first_used" "Using.rules_first_used" gv ["self","text"]
 Bm:dS K mg "first_uses" "first_uses" sx ["grammar","texts"]
 tP:dS K mg "first_text_using" "first_text_using" kN ["grammar","rule","texts"]
 Iu:dS K mg "is_side" "is_side" zb ["number"]
 vx:dS K mg "has_below_zero" "has_below_zero" mV ["row"]
 vv:dS K mg "is_rule_number" "is_rule_number" mO ["number","grammar"]
 Cr:dS K mg "grammar_at" "grammar_at" sh ["pair","side"]
 Af:dS K mg "size_answer" "size_answer" qU ["grammar"]
 DL:dS K mg "make_left" "make_left" uA ["pair","grammar"]
 Vf:dS K mg "load" "load" s_load ["pair","reader"]
 TV:dS K mg "held" "held" JL ["pair","reader"]
 LW:dS K mg "choice" "choice" Bn ["pair","reader"]
 MF:dS K mg "behind" "behind" BO ["pair","reader"]
 TB:dS K mg "many" "many" J6 ["pair","reader"]
 Xv:dS K mg "put" "put" Qc ["pair","reader"]
 Uu:dS K mg "turn" "turn" JD ["pair","reader"]
 LO:dS K mg "rename" "rename" BU ["pair","reader"]
 Th:dS K mg "drop" "drop" K7 ["pair","reader"]
 Xk:dS K mg "add" "add" Qh ["pair","reader"]
 SG:dS K mg "undo" "undo" Ko ["pair","reader"]
 UP:dS K mg "swap" "swap" K2 ["pair","reader"]
 f_reads:dS K mg "reads" "reads" Bq ["pair","reader"]
 Ii:dS K mg "counted" "counted" zx ["numbers"]
 Ip:dS K mg "changed" "changed" zr ["pair","reader"]
 tK:dS K mg "refusal_of_texts" "refusal_of_texts" k6 ["signs","most"]
 Ay:dS K mg "text_answer" "text_answer" qH ["text"]
 Iz:dS K mg "compare" "compare" zA ["pair","reader","differs"]
 Mr:dS K mg "within" "within" BV ["pair","reader"]
 UL:dS K mg "same" "same" s_same ["pair","reader"]
 GX:dS K mg "sentence" "sentence" wj ["pair","reader"]
 QN:dS K mg "cover" "cover" E3 ["pair","reader"]
 Bl:dS K mg "answers_on" "answers_on" sk ["pair","calls"]
 IC:dS K mg "answers" "answers" vk ["calls"]
 uy:c.Pair≠c.Grammar
 zW:c.aL≠c.Grammar
 JZ:c.bF≠c.Grammar
 Y7:c.aL≠c.Pair
 Qt:mg "CALLS"=some (.ref c.Fx)
 qu:mg "NO_BYTES"=some (.ref c.dW)
 F9:∃o n,K.lookup c.dW=some o/\o.cls=.type "tuple"/\o.data=.seq #[] n
 vP:mg "left_alone"=some (.ref c.qW)
 AG:mg "just_one"=some (.ref c.ve)
 Lj:c.eQ≠c.Grammar
 MW:c.aV≠c.Grammar
 T9:c.fH≠c.Grammar
open Vaglrc (Grammar Rule Sym)
open Vaglrn (State)
theorem SY{H:Hp}{a:Addr}{o:HO}(h:H a=some o):upd H a o=H:=by
 funext b;unfold upd;split
 ·rename_i e;rw[e];exact h.symm
 ·rfl
abbrev c4(ns:List Int):List V:=ns.map V.int
abbrev cB(a:List Nat):List V:=a.map λ(n:Nat)=>V.int (n:Int)
def LstAt(H:Hp)(v:V)(b:List Int):Prop:=∃a,v=.ref a/\H a=some (.lst (c4 b))
def js(H b:Hp)(v:V)(ns:List Int):Prop:=∃a,v=.ref a/\H a=none/\b a=some (.lst (c4 ns))
theorem lQ{H:Hp}{p:Addr}{ns:List Int}(h:H p=none):js H (upd H p (.lst (c4 ns))) (.ref p) ns:=⟨p,rfl,h,au⟩
theorem js.same{H b c:Hp}{v:V}{ns:List Int}(s:aZ H b)(h:js b c v ns):js H c v ns:=by
 obtain⟨a,e,d,f⟩:=h;exact⟨a,e,s.free d,f⟩
theorem js.but{H c f:Hp}{v:V}{ns:List Int}{as:List Addr}(b:jq as H c)(n:∀x∈as,c x≠none)(h:js c f v ns):js H f v ns:=by
 obtain⟨a,e,d,g⟩:=h;refine⟨a,e,?_,g⟩;cases q:H a with
 |none=>rfl
 |some o=>
  by_cases m:a∈as
  ·exact absurd d (n a m)
  ·rw[b a o q m]at d;cases d
def R9:Sym->List V
 |.non k=>[.int 0,.int k]
 |.range lo a=>[.int 1,.int lo,.int a]
def oR(H:Hp)(v:V)(s:Sym):Prop:=∃a,v=.ref a/\H a=some (.tup (R9 s))
def JQ(H:Hp)(v:V)(c:List Sym):Prop:=om λa b=>v=.ref a/\H a=some (.tup b)/\Paired (oR H) b c
def i3(H:Hp)(v:V)(r:Rule):Prop:=om λa b=>v=.ref a/\H a=some (.tup [.int r.lhs,b])/\JQ H b r.rhs
def j6(H:Hp)(v:V)(c:List Rule):Prop:=om λa b=>v=.ref a/\H a=some (.lst b)/\Paired (i3 H) b c
def gf(n:Nat)(r:V):List (Str×V):=dD "rules" r (dD "nonterminals" (.int n) [])
def f6(c:Cl)(H:Hp)(v:V)(g:Grammar):Prop:=Hl λa b r=>v=.ref a/\H a=some (.ins c.Grammar b (gf g.nons r))/\j6 H r g.rules
section
variable{H H':Hp}{v:V}{c:Cl}
theorem oR.mono{s:Sym}(t:bT H H')(h:oR H v s):oR H' v s:=by
 obtain⟨a,e,h⟩:=h;exact⟨a,e,t _ _ h⟩
theorem JQ.mono{s:List Sym}(t:bT H H')(h:JQ H v s):JQ H' v s:=by
 obtain⟨a,vs,e,h,p⟩:=h;exact⟨a,vs,e,t _ _ h,Paired.jr p λ_ _ z=>z.mono t⟩
theorem i3.mono{r:Rule}(t:bT H H')(h:i3 H v r):i3 H' v r:=by
 obtain⟨a,b,e,h,p⟩:=h;exact⟨a,b,e,t _ _ h,p.mono t⟩
theorem j6.same{b:List Rule}(t:aZ H H')(h:j6 H v b):j6 H' v b:=by
 obtain⟨a,d,e,h,p⟩:=h;exact⟨a,d,e,t _ _ h,Paired.jr p λ_ _ z=>z.mono (aZ.tup t)⟩
theorem f6.same{g:Grammar}(t:aZ H H')(h:f6 c H v g):f6 c H' v g:=by
 obtain⟨a,b,r,e,h,p⟩:=h;exact⟨a,b,r,e,t _ _ h,p.same t⟩
def Other(c:Cl)(o:Option HO):Prop:=∀u,o=some u->match u with
 |.lst _=>False
 |.tup _=>False
 |.ins C _ _=>C≠c.Grammar
 |_=>True
theorem f6.but{g:Grammar}{as:List Addr}(t:jq as H H')(n:∀a∈as,Other c (H a))(h:f6 c H v g):f6 c H' v g:=by
 have tp:bT H H':=λb j e=>t b _ e λm=>n b m _ e
 obtain⟨a,f,r,e,h,b,i,e2,d,p⟩:=h;exact⟨a,f,r,e,t _ _ h λm=>n a m _ h rfl,b,i,e2,t _ _ d λm=>n b m _ d,Paired.jr p λ_ _ z=>z.mono tp⟩
theorem uQ(n:Nat)(r:V):(gf n r).lookup ("nonterminals":Str)=some (.int n):=by
 unfold gf;rw[cU,ah (by decide),cU,az rfl]
theorem zI(n:Nat)(r:V):(gf n r).lookup ("rules":Str)=some r:=by
 unfold gf;rw[cU,az rfl]
end
def rS(l:V)(p:Nat):List (Str×V):=dD "place" (.int p) (dD "told" l [])
def nZ(K:Frag)(c:Cl)(H:Hp)(a b l:Addr)(d:List Int)(p:Nat):Prop:=H a=some (.ins c.aL b (rS (.ref l) p))/\eD K H l (c4 d)
def A0(l:V)(p:Nat)(s:Bool):List (Str×V):=dD "sound" (.bl s) (dD "place" (.int p) (dD "row" l []))
def A3(K:Frag)(c:Cl)(H:Hp)(a b l:Addr)(row:List Int)(r:RS):Prop:=H a=some (.ins c.bF b (A0 (.ref l) r.place r.sound))/\eD K H l (c4 row)/\r.place<=row.length
theorem F0(l:V)(p:Nat):(rS l p).lookup ("told":Str)=some l:=by unfold rS;rw[cU,ah (by decide),cU,az rfl]
theorem vI(l:V)(p:Nat):(rS l p).lookup ("place":Str)=some (.int p):=by unfold rS;rw[cU,az rfl]
theorem Qw(l:V)(p q:Nat):dD "place" (.int q) (rS l p)=rS l q:=by
 unfold rS dD dD dD;rfl
theorem KA(l:V)(p:Nat)(s:Bool):(A0 l p s).lookup ("row":Str)=some l:=by unfold A0;rw[cU,ah (by decide),cU,ah (by decide),cU,az rfl]
theorem ze(l:V)(p:Nat)(s:Bool):(A0 l p s).lookup ("place":Str)=some (.int p):=by unfold A0;rw[cU,ah (by decide),cU,az rfl]
theorem CO(l:V)(p:Nat)(s:Bool):(A0 l p s).lookup ("sound":Str)=some (.bl s):=by unfold A0;rw[cU,az rfl]
theorem SO(l:V)(p q:Nat)(s:Bool):dD "place" (.int q) (A0 l p s)=A0 l q s:=by unfold A0 dD dD dD dD;rfl
theorem Hi(l:V)(p:Nat)(s t:Bool):dD "sound" (.bl t) (A0 l p s)=A0 l p t:=by unfold A0 dD dD dD dD;rfl
section
variable(K:Frag)(c:Cl)
def oO(K:Frag)(c:Cl):Sp:=λb H Q _=>Hl λx a l=>b=[.ref x,.ref l]/\H x=some (.ins c.aL a [])/\Q .non (upd H x (.ins c.aL a (rS (.ref l) 0)))
def lq(K:Frag)(c:Cl):Sp:=λd H Q _=>Vu λa e l b p=>d=[.ref a]/\nZ K c H a e l b p/\Q (.bl (decide (p<b.length))) H
def a_(K:Frag)(c:Cl):Sp:=λe H Q _=>ZP λa b l d p n=>e=[.ref a]/\nZ K c H a b l d p/\d[p]?=some n/\Q (.int n) (upd H a (.ins c.aL b (rS (.ref l) (p+1))))
def dQ(K:Frag)(c:Cl):Sp:=λe H Q _=>ZP λa d l b p m=>e=[.ref a]/\nZ K c H a d l b p/\b[p]?=some ((m:Nat):Int)/\p+1+m<=b.length/\
 ∀r,H r=none->Q (.ref r) (upd (upd H a (.ins c.aL d (rS (.ref l) (p+1+m)))) r (.lst (c4 ((b.drop (p+1)).take m))))
def jU(K:Frag)(c:Cl):Sp:=λb H Q _=>Hl λx a l=>b=[.ref x,.ref l]/\H x=some (.ins c.bF a [])/\Q .non (upd H x (.ins c.bF a (A0 (.ref l) 0 true)))
def dZ(K:Frag)(c:Cl):Sp:=λf H Q _=>Ex7 λa e l row r b d=>f=[.ref a,.int b,.int d]/\A3 K c H a e l row r/\
 Q (.int (tk row r b d).1) (upd H a (.ins c.bF e (A0 (.ref l) (tk row r b d).2.place (tk row r b d).2.sound)))
def iG(K:Frag)(c:Cl):Sp:=λb H Q _=>Vu λa d l row r=>b=[.ref a]/\A3 K c H a d l row r/\Q (.bl (isDone row r)) H
def Kt{d:Type}(At:Hp->V->d->Prop)(f:List Int->Int->RS->d×RS):Sp:=λg H Q _=>ZP λa e l row r n=>g=[.ref a,.int n]/\A3 K c H a e l row r/\1<=n/\
 ∀v b,jq [a] H b->b a=some (.ins c.bF e (A0 (.ref l) (f row n r).2.place (f row n r).2.sound))->At b v (f row n r).1->Q v b
def tT(K:Frag)(c:Cl):Sp:=Kt K c oR rD
def pP(K:Frag)(c:Cl):Sp:=Kt K c i3 pk
def pG(K:Frag)(c:Cl):Sp:=λb H Q _=>om λl row=>b=[.ref l]/\eD K H l (c4 row)/\∀v a,aZ H a->(match uT row with
 |none=>v=.non
 |some g=>f6 c a v g)->Q v a
def pH(K:Frag)(c:Cl):Sp:=λd H Q _=>om λv g=>d=[v]/\f6 c H v g/\mr g/\∀b a,aZ H a->LstAt a b (Vaglrn.toInts (Vaglrc.flatGrammar g))->Q b a
def cz(K:Frag)(c:Cl):Sp:=λb H Q _=>AF λx a n r=>b=[.ref x,.int (n:Nat),r]/\H x=some (.ins c.Grammar a [])/\Q .non (upd H x (.ins c.Grammar a (gf n r)))
def rL(K:Frag)(c:Cl):Sp:=λa H Q _=>om λv g=>a=[v]/\f6 c H v g/\Q (.bl (!Vaglrn.fits g)) H
def cX(K:Frag)(c:Cl):Sp:=λd H Q _=>∃(o l:Nat) (a:List Nat),d=[.int o,.ref l]/\eD K H l (cB a)/\a.length<=8/\
 ∀v b,aZ H b->i3 b v {lhs:=o,rhs:=a.map Sym.non}->Q v b
def mG(K:Frag)(c:Cl):Sp:=λd H Q _=>∃(v:V) (s:Sym) (l:Addr) (p:List Nat),d=[v,.ref l]/\oR H v s/\Gv p.length s/\eD K H l (cB p)/\
 ∀b a,aZ H a->oR a b (Vaglrn.shiftSym (λk=>p.getD k k) s)->Q b a
def iV(K:Frag)(c:Cl):Sp:=λe H Q _=>∃(v:V) (a:List Rule) (l:Addr) (p:List Nat),e=[v,.ref l]/\j6 H v a/\(∀r∈a,k_ p.length r)/\a.length<=60/\eD K H l (cB p)/\
 ∀d b,aZ H b->j6 b d (a.map (Vaglrn.shiftRule λk=>p.getD k k))->Q d b
def iD(K:Frag)(c:Cl):Sp:=λe H Q _=>∃(v:V) (g:Grammar) (a:Nat),e=[v,.int a]/\f6 c H v g/\mr g/\a<=100/\∀d b,aZ H b->j6 b d (Vaglrn.shifted (λk=>k+a) g)->Q d b
def jc(K:Frag)(c:Cl):Sp:=λa H Q _=>om λv g=>a=[v]/\f6 c H v g/\Q (.int ((1+g.nons:Nat):Int)) H
def jd(K:Frag)(c:Cl):Sp:=λd H Q _=>ZP λl r s g h a=>d=[l,r,s]/\f6 c H l g/\f6 c H r h/\j6 H s a/\mr g/\mr h/\a.length<=60/\
 ∀v b,aZ H b->f6 c b v {nons:=1+g.nons+h.nons,rules:=a++(Vaglrn.leftRules g++Vaglrn.rightRules g h)}->Q v b
def Uj(f:Grammar->Grammar->Grammar):Sp:=λb H Q _=>AF λl r g h=>b=[l,r]/\f6 c H l g/\f6 c H r h/\mr g/\mr h/\∀v a,aZ H a->f6 c a v (f g h)->Q v a
def Ta(f:Grammar->Grammar):Sp:=λb H Q _=>om λl g=>b=[l]/\f6 c H l g/\mr g/\∀v a,aZ H a->f6 c a v (f g)->Q v a
def wm(K:Frag)(c:Cl):Sp:=Uj c Vaglrn.choice
def lO(K:Frag)(c:Cl):Sp:=Uj c Vaglrn.behind
def AN(K:Frag)(c:Cl):Sp:=Ta c Vaglrn.many
def Dm(K:Frag)(c:Cl):Sp:=Ta c Vaglrn.turned
def Dh(K:Frag)(c:Cl):Sp:=λd H Q _=>Vu λl r g h a=>d=[l,r,.int (a:Nat)]/\f6 c H l g/\f6 c H r h/\mr g/\mr h/\a<g.nons/\∀v b,aZ H b->f6 c b v (Vaglrn.putIn g h a)->Q v b
def xU(K:Frag)(c:Cl):Sp:=λd H Q _=>Hl λl a n=>d=[.ref l,.int (n:Nat)]/\eD K H l (c4 a)/\(∀x∈a,0<=x)/\1<=n/\n<=20/\∀b,aZ H b->Q (.bl (Vaglrn.isOrder n (Vaglrn.toNats a))) b
def A9(K:Frag)(c:Cl):Sp:=λd H Q _=>AF λv g l p=>d=[v,.ref l]/\f6 c H v g/\mr g/\eD K H l (cB p)/\p.length=g.nons/\∀b a,aZ H a->f6 c a b (Vaglrn.renamed g p)->Q b a
def rJ(K:Frag)(c:Cl):Sp:=λd H Q _=>Hl λv g r=>d=[v,.int (r:Nat)]/\f6 c H v g/\mr g/\r<g.rules.length/\∀b a,aZ H a->f6 c a b (Vaglrn.without g r)->Q b a
def Cu(l r b:V):List (Str×V):=dD "before" b (dD "right" r (dD "left" l []))
def lB(H:Hp)(a:Addr)(s:State):Prop:=Vu λe l r b d=>H a=some (.ins c.Pair e (Cu l r (.ref b)))/\f6 c H l s.left/\f6 c H r s.right/\H b=some (.lst d)/\Paired (f6 c H) d s.past
def vR(K:Frag)(c:Cl):Sp:=λb H Q _=>om λx d=>b=[.ref x]/\H x=some (.ins c.Pair d [])/\∀a,jq [x] H a->lB c a x Vaglrn.start->Q .non a
def iW(K:Frag)(c:Cl):Sp:=λd H Q _=>AF λa v s g=>d=[.ref a,v]/\lB c H a s/\f6 c H v g/\s.past.length<=16/\∀b,jq [a] H b->lB c b a {s with left:=g,past:=(s.left::s.past).take 16}->Q .non b
def oB(K:Frag)(c:Cl):Sp:=λb H Q _=>∃i,b=[.int i]/\∀a,aZ H a->Q (.bl (decide (i=0\/i=1))) a
def gT(K:Frag)(c:Cl):Sp:=λb H Q _=>om λl a=>b=[.ref l]/\eD K H l (c4 a)/\Q (.bl (Vaglrn.negative a)) H
def gX(K:Frag)(c:Cl):Sp:=λd H Q _=>om λv g=>d=[v]/\f6 c H v g/\∀b a,aZ H a->js H a b [0,(g.nons:Int),(g.rules.length:Int)]->Q b a
def dF(K:Frag)(c:Cl):Sp:=λe H Q _=>AF λa v s g=>e=[.ref a,v]/\lB c H a s/\f6 c H v g/\s.past.length<=16/\
 ∀d b,jq [a] H b->lB c b a (Vaglrn.hold s g).1->js H b d (Vaglrn.hold s g).2->Q d b
def Handler(p:Int):Sp:=λi H Q _=>Ex9 λa e s g l d place cc t=>i=[.ref a,.ref e]/\lB c H a s/\Ok s/\nZ K c H e g l d place/\(place<=d.length/\d.length<=17000)/\PyFlat.call PyVaglrn.shape (p::d.drop place)=some (cc,t)/\a≠e/\
 ∀h f b,jq [a,e] H f->lB c f a (VaglrnNeutral.step s cc).1->nZ K c f e g l d b->b<=d.length->d.drop b=t->js H f h (VaglrnNeutral.step s cc).2->Q h f
def Qu(K:Frag)(c:Cl):Sp:=Handler K c 0
def QQ(K:Frag)(c:Cl):Sp:=Handler K c 1
def IG(K:Frag)(c:Cl):Sp:=Handler K c 2
def Jm(K:Frag)(c:Cl):Sp:=Handler K c 3
def PV(K:Frag)(c:Cl):Sp:=Handler K c 4
def Tr(K:Frag)(c:Cl):Sp:=Handler K c 5
def Po(K:Frag)(c:Cl):Sp:=Handler K c 6
def Iw(K:Frag)(c:Cl):Sp:=Handler K c 7
def QE(K:Frag)(c:Cl):Sp:=Handler K c 8
def jX(K:Frag)(c:Cl):Sp:=λa H Q _=>Hl λi v g=>a=[.int i,v]/\f6 c H v g/\Q (.bl (decide (0<=i/\i<(g.rules.length:Int)))) H
def nU(K:Frag)(c:Cl):Sp:=λb H Q _=>Hl λa k s=>b=[.ref a,.int k]/\lB c H a s/\∀v,f6 c H v (if k=0 then s.left else s.right)->Q v H
end
def wD(K:Frag)(c:Cl):Sp:=λd H Q _=>om λl a=>d=[.ref l]/\(eD K H l (c4 a)/\a.length<=17000)/\PyVaglrn.answers_asked a=true/\∀v b,LstAt b v (PyVaglrn.answers a)->Q v b
def uP(K:Frag)(c:Cl):Sp:=λe H Q _=>Hl λa l b=>e=[.ref a,.ref l]/\lB c H a Vaglrn.start/\(eD K H l (c4 b)/\b.length<=17000)/\PyVaglrn.answers_asked b=true/\∀v d,LstAt d v (PyVaglrn.answers b)->Q v d
open Vaglrc (Text)
def c9(p:Text):List Int:=p.map λ(n:Nat)=>(n:Int)
theorem Tt(p:Text):(c9 p).map V.int=cB p:=by unfold c9 cB;rw[d4];rfl
theorem IL{p q:Text}(h:c9 p=c9 q):p=q:=by
 unfold c9 at h
 induction p generalizing q with
 |nil=>cases q with |nil=>rfl|cons _ _=>simp at h
 |cons a p c=>
  cases q with
  |nil=>simp at h
  |cons b q=>
   simp only[bf,kU]at h;rw[mT h.1,c h.2]
def rG(K:Frag)(H:Hp)(v:V)(p:Text):Prop:=∃a,v=.ref a/\Lf K H a (cB p)
def E5(K:Frag)(H:Hp)(v:V)(c:List Text):Prop:=om λa b=>v=.ref a/\H a=some (.lst b)/\Paired (rG K H) b c
def qp(H:Hp)(v:V)(p:Nat×Nat):Prop:=∃a,v=.ref a/\H a=some (.tup [.int p.1,.int p.2])
def WR(H:Hp)(v:V)(c:List (Nat×Nat)):Prop:=om λa b=>v=.ref a/\H a=some (.lst b)/\Paired (qp H) b c
def vS(H:Hp)(v:V)(t:Nat×Nat×Nat):Prop:=∃a,v=.ref a/\H a=some (.tup [.int t.1,.int t.2.1,.int t.2.2])
def MC(K:Frag)(H:Hp)(v:V)(u:Text×List Nat):Prop:=Hl λa t l=>v=.ref a/\H a=some (.tup [t,.ref l])/\rG K H t u.1/\H l=some (.lst (cB u.2))
def XT(K:Frag)(H:Hp)(v:V)(c:List (Text×List Nat)):Prop:=om λa b=>v=.ref a/\H a=some (.lst b)/\Paired (MC K H) b c
def UB(K:Frag)(H:Hp)(v:V)(w:Text×Nat):Prop:=om λa t=>v=.ref a/\H a=some (.tup [t,.int (w.2:Int)])/\rG K H t w.1
section
variable{K:Frag}{H H':Hp}{v:V}{c:Cl}
theorem rG.mono{p:Text}(t:bT H H')(h:rG K H v p):rG K H' v p:=by
 obtain⟨a,e,h⟩:=h;exact⟨a,e,h.mono t⟩
theorem qp.mono{p:Nat×Nat}(t:bT H H')(h:qp H v p):qp H' v p:=by
 obtain⟨a,e,h⟩:=h;exact⟨a,e,t _ _ h⟩
theorem vS.mono{p:Nat×Nat×Nat}(t:bT H H')(h:vS H v p):vS H' v p:=by
 obtain⟨a,e,h⟩:=h;exact⟨a,e,t _ _ h⟩
theorem UB.mono{w:Text×Nat}(t:bT H H')(h:UB K H v w):UB K H' v w:=by
 obtain⟨a,x,e,h,p⟩:=h;exact⟨a,x,e,t _ _ h,p.mono t⟩
theorem MC.same{u:Text×List Nat}(t:aZ H H')(h:MC K H v u):MC K H' v u:=by
 obtain⟨a,x,l,e,h,p,q⟩:=h;exact⟨a,x,l,e,t _ _ h,p.mono (aZ.tup t),t _ _ q⟩
end
def Ap(K:Frag)(H:Hp)(a:Addr)(c:List Text)(f:Text->Nat):Prop:=∃b,DT eG K H a b/\b.map (·.1)=c.map c9/\∀p∈c,hU b (c9 p)=some (.int (f p:Nat))
section
variable{κ:Type}[DecidableEq κ]
theorem sV{xs:List (κ×Addr×V)}{k:κ}:hU xs k=none↔k∉xs.map (·.1):=by
 unfold hU;rw[nj,lV];constructor
 ·intro h m;obtain⟨x,a,e⟩:=bq.mp m;exact h x a (by simpa using e)
 ·intro h x a e;exact h (bq.mpr ⟨x,a,by simpa using e⟩)
theorem CF{xs:List (κ×Addr×V)}{k:κ}{b:Addr}{v:V}:(mh xs k b v).map (·.1)=if k∈xs.map (·.1)then xs.map (·.1)else xs.map (·.1)++[k]:=by
 unfold mh;by_cases h:k∈xs.map (·.1)
 ·rw[az h,az]
  ·rw[d4];refine bL λx _=>?_
   show(AZ k v x).1=x.1;unfold AZ;split<;>rfl
  ·cases e:hU xs k with
   |none=>exact absurd h (sV.mp e)
   |some _=>rfl
 ·rw[ah h,ah]
  ·rw[dq];rfl
  ·rw[sV.mpr h];simp
theorem UA{g:List (κ×Addr×V)}{k d:κ}{b:Addr}{v:V}:hU (mh g k b v) d=if d=k then some v else hU g d:=by
 unfold mh;by_cases h:(hU g k).isSome=true
 ·rw[az h];have gen:∀l:List (κ×Addr×V),hU (l.map (AZ k v)) d=if d=k then(hU l k).map (λ_=>v)else hU l d:=by
   intro l
   induction l with
   |nil=>unfold hU;split<;>rfl
   |cons x l i=>
    have e1:(AZ k v x).1=x.1:=by unfold AZ;split<;>rfl
    by_cases f:x.1=d
    ·have a:hU ((x::l).map (AZ k v)) d=some (AZ k v x).2.2:=by
      unfold hU;rw[bf,hE (by rw[e1];simpa using f)];rfl
     rw[a];by_cases c:d=k
     ·have b:hU (x::l) k=some x.2.2:=by unfold hU;rw[hE (by simpa using f.trans c)];rfl
      rw[az c,b];unfold AZ;rw[az (f.trans c)];rfl
     ·have b:hU (x::l) d=some x.2.2:=by unfold hU;rw[hE (by simpa using f)];rfl
      rw[ah c,b];unfold AZ;rw[ah (λz=>c (f.symm.trans z))]
    ·have a:hU ((x::l).map (AZ k v)) d=hU (l.map (AZ k v)) d:=by
      unfold hU;rw[bf,jx (by rw[e1];simpa using f)]
     have b:hU (x::l) d=hU l d:=by unfold hU;rw[jx (by simpa using f)]
     rw[a,i];by_cases c:d=k
     ·subst c;rw[az rfl,az rfl,b]
     ·rw[ah c,ah c,b]
  rw[gen];by_cases c:d=k
  ·rw[az c,az c];cases e:hU g k with
   |none=>rw[e]at h;cases h
   |some _=>rfl
  ·rw[ah c,ah c]
 ·rw[ah h];have j:hU g k=none:=by cases e:hU g k with |none=>rfl|some _=>rw[e]at h;exact absurd rfl h
  unfold hU at *;rw[List.find?_append];by_cases c:d=k
  ·subst c;rw[az rfl,nj.mp j];simp
  ·rw[ah c];have :List.find? (λx:κ×Addr×V=>decide (x.1=d)) [(k,b,v)]=none:=by simp;exact λz=>c z.symm
   rw[this,Option.or_none]
end
section
variable{K:Frag}{H H':Hp}{a:Addr}{ks:List Text}{f f':Text->Nat}{p:Text}{xs:List (List Int×Addr×V)}
theorem B8(h:xs.map (·.1)=ks.map c9):c9 p∈xs.map (·.1)↔p∈ks:=by
 rw[h,bq];constructor
 ·rintro⟨q,b,e⟩;rw[<-IL e];exact b
 ·intro h;exact⟨p,h,rfl⟩
theorem Ap.has(h:xs.map (·.1)=ks.map c9):(hU xs (c9 p)).isSome=decide (p∈ks):=by
 by_cases b:p∈ks
 ·rw[aF b];cases e:hU xs (c9 p)with
  |none=>exact absurd ((B8 h).mpr b) (sV.mp e)
  |some _=>rfl
 ·rw[aM b,sV.mpr (λz=>b ((B8 h).mp z))];rfl
theorem Ap.len(h:xs.map (·.1)=ks.map c9):xs.length=ks.length:=by simpa using congrArg List.length h
theorem Ap.congr(h:Ap K H a ks f)(e:∀q∈ks,f q=f' q):Ap K H a ks f':=by
 obtain⟨xs,c,d,g⟩:=h;exact⟨xs,c,d,λq b=>by rw[<-e q b];exact g q b⟩
theorem Ap.keep(e:H a=H' a)(t:bT H H')(h:Ap K H a ks f):Ap K H' a ks f:=by
 obtain⟨xs,⟨b,c⟩,d,g⟩:=h;exact⟨xs,⟨by rw[<-e];exact b,c.mono t⟩,d,g⟩
theorem Ap.put{v:Nat}{b:Addr}(h:DT eG K H a xs)(d:xs.map (·.1)=ks.map c9)(i:∀q∈ks,hU xs (c9 q)=some (.int (f q:Nat)))(j:Lf K H b (cB p)):
 Ap K (upd H a (DX eG.hf a (mh xs (c9 p) b (.int v)))) a (fZ ks p) (vL f p v):=by
 have k:eG.KO K H (c9 p) b:=by show Lf K H b ((c9 p).map V.int);rw[Tt];exact j
 have l:bT H (upd H a (DX eG.hf a (mh xs (c9 p) b (.int v)))):=md (by rw[h.1];trivial);refine⟨_,⟨au,(h.2.put k).mono l⟩,?_,λq c=>?_⟩
 ·rw[CF];unfold fZ;by_cases g:p∈ks
  ·rw[az g,az ((B8 d).mpr g),d]
  ·rw[ah g,ah (λz=>g ((B8 d).mp z)),d,dq];rfl
 ·rw[UA];unfold vL;by_cases e:q=p
  ·subst e;rw[az rfl,az rfl]
  ·rw[ah (λz=>e (IL z)),ah e];rcases dt.mp c with c|c
   ·exact i q c
   ·exact absurd c e
end
def Nn(a b c d e:V):List (Str×V):=dD "ahead_of_ranges" e (dD "rule_ends" d (dD "ends_of" c (dD "ahead_of" b (dD "firsts" a []))))
structure HQ(c:Cl)(H:Hp)(mk i b d f g:Addr)(F:Nat)(A E R:List Nat)(j:List (Nat×Nat×Nat)):Prop where
 ins:H mk=some (.ins c.eQ i (Nn (.int F) (.ref b) (.ref d) (.ref f) (.ref g)))
 a:H b=some (.lst (cB A))
 e:H d=some (.lst (cB E))
 r:H f=some (.lst (cB R))
 t:∃h,H g=some (.lst h)/\Paired (vS H) h j
def GG(c:Cl)(H:Hp)(mk:Addr)(g:Grammar)(f:List Addr):Prop:=Vu λh a b d e=>f=[mk,a,b,d,e]/\
 HQ c H mk h a b d e (CT g.rules) (iJ (IA (cells g.rules)) g.nons) (iJ (uR (cells g.rules)) g.nons) (MO g.rules) (hZ 0 (cells g.rules))
theorem HQ.keep{c:Cl}{H H':Hp}{mk g a d e f:Addr}{F:Nat}{A E R:List Nat}{i:List (Nat×Nat×Nat)}(h:HQ c H mk g a d e f F A E R i)(k:∀b∈[mk,a,d,e,f],∀o,H b=some o->H' b=some o)(t:bT H H'):HQ c H' mk g a d e f F A E R i:=by
 obtain⟨j,l,m,n,p,q,r⟩:=h;exact⟨k _ (by simp) _ j,k _ (by simp) _ l,k _ (by simp) _ m,k _ (by simp) _ n,p,k _ (by simp) _ q,Paired.jr r λ_ _ z=>z.mono t⟩
theorem GG.keep{c:Cl}{H H':Hp}{mk:Addr}{g:Grammar}{a:List Addr}(h:GG c H mk g a)(k:∀b∈a,∀o,H b=some o->H' b=some o)(t:bT H H'):GG c H' mk g a:=by
 obtain⟨d,e,f,i,j,rfl,h⟩:=h;exact⟨d,e,f,i,j,rfl,h.keep k t⟩
def Sn(m r p:V):List (Str×V):=dD "passed" p (dD "reached" r (dD "marks" m []))
structure Bs(c:Cl)(K:Frag)(H:Hp)(e b d:Addr)(f:List Addr)(g:Grammar)(a:List Text)(h fs:Text->Nat):Prop where
 ins:∃i mk,H e=some (.ins c.aV i (Sn (.ref mk) (.ref b) (.ref d)))/\GG c H mk g f
 r:Ap K H b a h
 p:Ap K H d a fs
 nd:(e::b::d::f).Nodup
 keys:a.Nodup
 none:[]∈a
abbrev Cg(c:Cl)(K:Frag)(H:Hp)(a b d:Addr)(e:List Addr)(g:Grammar)(f:List Text):Prop:=Bs c K H a b d e g f (RB g.rules) (SB g.rules)
theorem Ap.G5{K:Frag}{H b:Hp}{a:Addr}{c:List Text}{f:Text->Nat}(h:Ap K H a c f)(k:∀o,H a=some o->b a=some o)(t:bT H b):Ap K b a c f:=by
 obtain⟨d,⟨e,g⟩,i,j⟩:=h;exact⟨d,⟨k _ e,g.mono t⟩,i,j⟩
theorem Bs.keep{c:Cl}{K:Frag}{H H':Hp}{e a d:Addr}{f:List Addr}{g:Grammar}{ks:List Text}{i fs:Text->Nat}(h:Bs c K H e a d f g ks i fs)(k:∀b∈e::a::d::f,∀o,H b=some o->H' b=some o)(t:bT H H'):Bs c K H' e a d f g ks i fs:=by
 obtain⟨⟨j,mk,l,m⟩,n,p,q,r,s⟩:=h;exact⟨⟨j,mk,k _ (by simp) _ l,m.keep (λb u=>k b (by simp[u])) t⟩,n.G5 (k a (by simp)) t,p.G5 (k d (by simp)) t,q,r,s⟩
def Xp(a st b c:V):List (Str×V):=dD "used" c (dD "waiting" b (dD "standing" st (dD "covering" a [])))
structure tG(c:Cl)(K:Frag)(H:Hp)(us sa b d e f:Addr)(h:List Addr)(g:Grammar)(i:List Text)(S:US):Prop where
 ins:∃k,H us=some (.ins c.fH k (Xp (.ref d) (.ref sa) (.ref b) (.int (S.us:Nat))))
 cov:Cg c K H d e f h g i
 st:∃a,Ap K H sa a S.st/\a.Nodup/\(∀p∈a,p∈i)/\∀p,p∉a->S.st p=0
 wt:∃j,H b=some (.lst j)/\Paired (UB K H) j S.wt
 nd:(us::sa::b::d::e::f::h).Nodup
def NA(H:Hp)(b:List Addr):Prop:=∀a∈b,H a=none
section
variable(K:Frag)(c:Cl)
def uK(K:Frag)(c:Cl):Sp:=λd H Q _=>AF λx e v g=>d=[.ref x,v]/\H x=some (.ins c.eQ e [])/\f6 c H v g/\mr g/\∀a b,jq [x] H a->NA H b->(x::b).Nodup->GG c a x g (x::b)->Q .non a
def ml(K:Frag)(c:Cl):Sp:=λi H Q _=>∃mk h a d e b F A E R f M v s,i=[.ref mk,.int (M:Nat),v]/\HQ c H mk h a d e b F A E R f/\[mk,a,d,e,b].Nodup/\oR H v s/\Gv A.length s/\f.length<=1000/\
 ∀g,jq [a,b] H g->(match s with
  |.non k=>HQ c g mk h a d e b F (A.set k (A.getD k 0|||M)) E R f
  |.range lo j=>HQ c g mk h a d e b F A E R (f++[(M,lo,j)]))->Q .non g
def kW(K:Frag)(c:Cl):Sp:=λd H Q _=>AF λmk g e b=>d=[.ref mk,.int (b:Nat)]/\GG c H mk g e/\mr g/\∀a,aZ H a->Q (.int (SM (cells g.rules) b:Nat)) a
def ku(K:Frag)(c:Cl):Sp:=λb H Q _=>AF λmk g d B=>b=[.ref mk,.int (B:Nat)]/\GG c H mk g d/\mr g/\∀a,aZ H a->Q (.int (Wm g.rules B:Nat)) a
def lP(K:Frag)(c:Cl):Sp:=λb H Q _=>AF λmk g d B=>b=[.ref mk,.int (B:Nat)]/\GG c H mk g d/\mr g/\∀a,aZ H a->Q (.int (XA g.rules B:Nat)) a
def lC(K:Frag)(c:Cl):Sp:=λd H Q _=>∃(B:Nat) (l a:Addr) (A E:List Nat),d=[.int B,.ref l,.ref a]/\eD K H l (cB A)/\eD K H a (cB E)/\A.length=E.length/\∀b,aZ H b->Q (.int (xo B (A.zip E) 0:Nat)) b
def f7(K:Frag)(c:Cl):Sp:=λf H Q _=>AF λx h v g=>f=[.ref x,v]/\H x=some (.ins c.aV h [])/\f6 c H v g/\mr g/\∀a b d e,jq [x] H a->NA H (b::d::e)->Cg c K a x b d e g [[]]->Q .non a
def g6(K:Frag)(c:Cl):Sp:=λe H Q _=>∃d f h i g a b fs v w p q,e=[.ref d,v,w]/\Bs c K H d f h i g a b fs/\rG K H v p/\rG K H w q/\p∈a/\q∈a/\b p<2^999/\Q (.int (2*(b p&&&fs q):Nat)) H
def gy(K:Frag)(c:Cl):Sp:=λj H Q _=>∃d e f i g b a fs v p,j=[.ref d,v]/\Bs c K H d e f i g b a fs/\mr g/\rG K H v p/\p∈b/\b.length<=5000/\(p≠[]->a []=RB g.rules []/\fs []=SB g.rules [])/\
 Sound g.rules p (a p) (fs p)/\Based g.rules p (a p) (fs p)/\∀h,jq [e,f] H h->Bs c K h d e f i g b (vL a p (RB g.rules p)) (vL fs p (SB g.rules p))->Q .non h
def gj(K:Frag)(c:Cl):Sp:=λi H Q _=>Zl λb d e h g a v p=>i=[.ref b,v]/\Cg c K H b d e h g a/\mr g/\rG K H v p/\EL a p/\a.length<=4000/\p.length<=1000/\∀f,jq [d,e] H f->Cg c K f b d e h g (fZ a p)->Q .non f
def gN(K:Frag)(c:Cl):Sp:=λd H Q _=>Zl λa e f h g b v p=>d=[.ref a,v]/\Cg c K H a e f h g b/\mr g/\rG K H v p/\p∈b/\Q (.int (RB g.rules p&&&uR (cells g.rules) 0:Nat)) H
def fD(K:Frag)(c:Cl):Sp:=λd H Q _=>Zl λa e f h g b v p=>d=[.ref a,v]/\Cg c K H a e f h g b/\mr g/\rG K H v p/\p∈b/\Q (.bl (Vaglrc.reads g p)) H
def uF(K:Frag)(c:Cl):Sp:=λb H Q _=>AF λv g t x=>b=[v,t]/\f6 c H v g/\mr g/\rG K H t x/\x.length<=24/\∀a,aZ H a->Q (.bl (Vaglrc.reads g x)) a
def ou(K:Frag)(c:Cl):Sp:=λd H Q _=>AF λv w g h=>d=[v,w]/\f6 c H v g/\f6 c H w h/\mr g/\mr h/\∀b a,aZ H a->LstAt a b (Vaglrn.toInts (Vaglrn.newRules g h))->Q b a
def Ao(K:Frag)(c:Cl):Sp:=λd H Q _=>om λa b=>d=[.bl a,.bl b]/\Q (.bl (a&& !b)) H
def Dy(K:Frag)(c:Cl):Sp:=λd H Q _=>om λa b=>d=[.bl a,.bl b]/\Q (.bl (!(a==b))) H
def Fd(K:Frag)(c:Cl)(u:Addr)(a:Sp):Prop:=(u=c.qW/\a=Ao K c)\/(u=c.ve/\a=Dy K c)
def KN(u:Addr)(D:Bool->Bool->Bool):Prop:=(u=c.qW/\D=λa b=>a&& !b)\/(u=c.ve/\D=λa b=> !(a==b))
def UD(K:Frag)(H:Hp)(v:V)(o:Option Text):Prop:=match o with
 |none=>v=.non
 |some x=>rG K H v x
def nz(K:Frag)(c:Cl):Sp:=λd H Q _=>Zl λl r t u g h a D=>d=[l,r,t,.ref u]/\f6 c H l g/\f6 c H r h/\mr g/\mr h/\E5 K H t a/\Ou a/\KN c u D/\
 ∀v b,aZ H b->UD K b v (a.find? λx=>D (Vaglrc.reads g x) (Vaglrc.reads h x))->Q v b
def vX(K:Frag)(c:Cl):Sp:=λd H Q _=>AF λv w g q=>d=[v,w]/\f6 c H v g/\mr g/\i3 H w q/\∀b a,aZ H a->f6 c a b (Vaglrn.with_ g q)->Q b a
def rK(K:Frag)(c:Cl):Sp:=λd H Q _=>AF λa s g l=>d=[.ref a]/\lB c H a s/\s.past=g::l/\∀b,jq [a] H b->lB c b a {s with left:=g,past:=l}->Q .non b
def mC(K:Frag)(c:Cl):Sp:=λd H Q _=>om λa s=>d=[.ref a]/\lB c H a s/\s.past.length<=16/\∀b,jq [a] H b->lB c b a {left:=s.right,right:=s.left,past:=(s.left::s.past).take 16}->Q .non b
def tu(K:Frag)(c:Cl):Sp:=λb H Q _=>Hl λl row n=>b=[.ref l,.int n]/\eD K H l (c4 row)/\1<=n/\∀v a,aZ H a->(match Bd row n with
 |none=>v=.non
 |some q=>i3 a v q)->Q v a
def XB(H:Hp)(v:V)(d:List Grammar):Prop:=om λa b=>v=.ref a/\H a=some (.lst b)/\Paired (f6 c H) b d
def wd(K:Frag)(c:Cl):Sp:=λe H Q _=>om λv a=>e=[v]/\XB c H v a/\(∀g∈a,mr g)/\a.length<=2/\∀d b,aZ H b->WR b d (sE a)->Q d b
def my(K:Frag)(c:Cl):Sp:=λe H Q _=>om λv a=>e=[v]/\XB c H v a/\(∀g∈a,mr g)/\a.length<=2/\∀d b,aZ H b->LstAt b d (Vaglrn.toInts (sg a))->(sg a).length<=2000->Q d b
def rF(K:Frag)(c:Cl):Sp:=λb H Q _=>∃(l:Addr) (m:Nat) (a:List Nat),b=[.ref l,.int m]/\eD K H l (cB a)/\m<=8/\a.length<=2000/\Q (.bl (decide (300<(upTo a m).length))) H
def mj(K:Frag)(c:Cl):Sp:=λd H Q _=>∃(l:Addr) (m:Nat) (a:List Nat),d=[.ref l,.int m]/\eD K H l (cB a)/\m<=8/\a.length<=2000/\(upTo a m).length<=300/\∀v b,aZ H b->E5 K b v (upTo a m)->Q v b
def lL(K:Frag)(c:Cl):Sp:=λj H Q _=>AF λx k v g=>j=[.ref x,v]/\H x=some (.ins c.fH k [])/\f6 c H v g/\mr g/\∀a b d e f h i,jq [x] H a->NA H (b::d::e::f::h::i)->tG c K a x b d e f h i g [[]] ⟨λ_=>0,[],0⟩->Q .non a
def kf(K:Frag)(c:Cl):Sp:=λm H Q _=>∃a e f i j k l g d S v p b,m=[.ref a,v,.int (b:Nat)]/\tG c K H a e f i j k l g d S/\mr g/\rG K H v p/\p∈d/\d.length<=4000/\S.wt.length<=4000000/\
 ∀h,jq [a,e,f] H h->tG c K h a e f i j k l g d (eZ p b S)->Q .non h
def rM(K:Frag)(c:Cl):Sp:=λo H Q _=>∃d e f j k l n g a S v p b T h,o=[.ref d,v,.int (b:Nat)]/\tG c K H d e f j k l n g a S/\mr g/\rG K H v p/\p∈a/\CS a/\a.length<=4000/\p.length<=1000/\
 C9 g.rules T h S/\(∀m,b.testBit m=true->Std g.rules T m p)/\uc g.rules a S/\∀i,jq [d,e,f] H i->tG c K i d e f j k l n g a (j9 g.rules p b (p.length+1) S)->Q .non i
noncomputable def gone (g:Grammar) (T:Text->Prop):US:=⟨XC g.rules T,[],Vb g.rules T⟩
def fe(K:Frag)(c:Cl):Sp:=λm H Q _=>∃b e f j h i k g a T v p,m=[.ref b,v]/\tG c K H b e f j h i k g a (gone g T)/\mr g/\rG K H v p/\EL a p/\CS a/\a.length<=3999/\p.length<=1000/\(∀q∈a,q.length<=1000)/\(∀x,T x->x∈a)/\
 ∀l d,jq [b,e,f,h,i] H d->tG c K d b e f j h i k g (fZ a p) (gone g λy=>T y\/y=p)->js H d l (Vaglrn.toInts (ig g T p))->Q l d
def uO(K:Frag)(c:Cl):Sp:=λe H Q _=>AF λv t g a=>e=[v,t]/\f6 c H v g/\mr g/\E5 K H t a/\Ou a/\∀d b,aZ H b->XT K b d (Vaglrn.coverOf g a [])->Q d b
def ny(K:Frag)(c:Cl):Sp:=λe H Q _=>Vu λv t g a r=>e=[v,.int (r:Nat),t]/\f6 c H v g/\mr g/\E5 K H t a/\Ou a/\∀d b,aZ H b->UD K b d (Vaglrn.sentenceFor g r a)->Q d b
def kT(K:Frag)(c:Cl):Sp:=λd H Q _=>∃(l:Addr) (a:List Nat),d=[.ref l]/\(eD K H l (cB a)\/kF K H l (cB a))/\a.length<=5000/\∀v b,aZ H b->LstAt b v (Vaglrn.toInts (a.length::a))->Q v b
def gd(K:Frag)(c:Cl):Sp:=λb H Q _=>∃(l:Addr) (m:Int) (a:List Nat),b=[.ref l,.int m]/\eD K H l (cB a)/\a.length<=2000/\Q (.int (refusal a m)) H
def mD(K:Frag)(c:Cl):Sp:=λd H Q _=>om λv o=>d=[v]/\UD K H v o/\(∀x,o=some x->x.length<=1000)/\∀b a,aZ H a->js H a b (Vaglrn.shownText o)->Q b a
def qE(K:Frag)(c:Cl):Sp:=λh H Q _=>∃a b u s f l e place m D,h=[.ref a,.ref b,.ref u]/\lB c H a s/\Ok s/\nZ K c H b f l e place/\e[place]?=some m/\a≠b/\KN c u D/\
 ∀g d,jq [b] H d->nZ K c d b f l e (place+1)->js H d g (Vaglrn.onTexts (Vaglrn.jointSigns s.left s.right) m λi=>Vaglrn.shownText (i.find? λx=>D (Vaglrc.reads s.left x) (Vaglrc.reads s.right x)))->Q g d
def Vk(K:Frag)(c:Cl):Sp:=Handler K c 9
def Py(K:Frag)(c:Cl):Sp:=Handler K c 10
def Qa(K:Frag)(c:Cl):Sp:=Handler K c 11
def MG(K:Frag)(c:Cl):Sp:=Handler K c 12
def F1(K:Frag)(c:Cl):Sp:=Handler K c 13
def Jq(K:Frag)(c:Cl):Sp:=Handler K c 14
def P9(K:Frag)(c:Cl):Sp:=Handler K c 15
def DI(K:Frag)(c:Cl):Sp:=Handler K c 16
def LD(K:Frag)(c:Cl):Sp:=Handler K c 17
end
section
variable{P:Program}{w:World}{K:Frag}{mg:Str->Option Value}{base:Heap}{c:Cl}(T:Txt K mg c)
include T
def tI(K:Frag)(c:Cl):TS:=
 (bO (mP K (ao 0) (ao 1) "told")
 (mP K (ao 0) (tC (.int 0)) "place"))
theorem AV:
 Tm P w K mg base ["self","told"] "CallReader.__init__" l6 0 (tI K c):=λf b A a s H E d=>
 (aw (gg (pv 0) (pv 1) rfl)
 (aH (gg (pv 0) bW rfl)))
def pQ(K:Frag)(c:Cl):TS:=
 (dC (hJ (mZ λi j=>.bl (decide (i<j))) (cA K (ao 0) "place") (Bh (xm K) (aq (cA K (ao 0) "told") aR))))
theorem vY:
 Tm P w K mg base ["self"] "CallReader.has_more" jm 0 (pQ K c):=λf b A a s H E d=>
 (aH (bE (m6 Gb (aU (pv 0) rfl) (f_ d_ rfl T.pZ cE (ae (aU (pv 0) rfl) ax)) (iR _))))
def m_(K:Frag)(c:Cl):TS:=
 (bO (dN (hJ (Hq K) (cA K (ao 0) "told") (cA K (ao 0) "place")) (bw 1))
 (bO (JK K (ao 0) (tC (.int 1)) Ye "place")
 (dC (ao 1))))
theorem tY:
 Tm P w K mg base ["self","taken"] "CallReader.take_number" iy 0 (m_ K c):=λf b A a s H E d=>
 (aw (bz 1 nh.nd (mE sm (aU (pv 0) rfl) (aU (pv 0) rfl) (λ_ _=>rfl)))
 (aw (IK (pv 0) bW Te)
 (aH (bE (pv 1)))))
def pR(K:Frag)(c:Cl):TS:=
 (bO (dN (eC c.aL "take_number" (a_ K c) [] E0 (ao 0) aR) (bw 1))
 (bO (dN (cA K (ao 0) "place") (bw 2))
 (bO (mP K (ao 0) (hJ (mZ λi j=>.int (i+j)) (ao 2) (ao 1)) "place")
 (dC (Us (R5 K) (cA K (ao 0) "told") (vA (ao 2)) (vA (cA K (ao 0) "place")))))))
theorem wu(a:eI P w K mg base c.aL "take_number" ["self"] 1 (a_ K c)):
 Tm P w K mg base ["self","size","begin"] "CallReader.take_row" jl 1 (pR K c):=λf d A b s H E e=>
 (aw (bz 1 k9.nd (fQ (pv 0) a e))
 (aw (bz 2 k9.nd (aU (pv 0) rfl))
 (aw (gg (pv 0) (eH pz (pv 2) (pv 1)) rfl)
 (aH (bE (n_ Cf (aU (pv 0) rfl) (oz (pv 2)) (oz (aU (pv 0) rfl))))))))
def ub(K:Frag)(c:Cl):TS:=
 (bO (mP K (ao 0) (ao 1) "row")
 (bO (mP K (ao 0) (tC (.int 0)) "place")
 (mP K (ao 0) (tC (.bl true)) "sound")))
theorem BB:
 Tm P w K mg base ["self","row"] "RowReader.__init__" mU 0 (ub K c):=λf b A a s H E d=>
 (aw (gg (pv 0) (pv 1) rfl)
 (aw (gg (pv 0) bW rfl)
 (aH (gg (pv 0) LV rfl))))
def zK(K:Frag)(c:Cl):TS:=
 (bO (k8 (o_ (wH (mZ λi j=>.bl (decide (i<=j))) (mZ λi j=>.bl (decide (i<=j))) (ao 1) (ao 3) (ao 2))) (dC (ao 3)) g9) (bO (mP K (ao 0) (tC (.bl false)) "sound") (dC (ao 1))))
def zQ(K:Frag)(c:Cl):TS:=
 (bO (dN (hJ (Hq K) (cA K (ao 0) "row") (cA K (ao 0) "place")) (bw 3)) (bO (JK K (ao 0) (tC (.int 1)) Ye "place") (zK K c)))
def uB(K:Frag)(c:Cl):TS:=
 (bO (k8 (o_ (hJ Uz (cA K (ao 0) "place") (Bh (xm K) (aq (cA K (ao 0) "row") aR)))) (mP K (ao 0) (tC (.bl false)) "sound") g9) (bO (k8 (EI (tB (cA K (ao 0) "sound"))) (dC (ao 1)) g9) (zQ K c)))
theorem BE:
 Tm P w K mg base ["self","least","most","taken"] "RowReader.take" mX 0 (uB K c):=λf b A a s H E d=>
 (aw (g8 (lY AA (aU (pv 0) rfl) (f_ d_ rfl T.pZ cE (ae (aU (pv 0) rfl) ax)) (iR _)) (aH (gg (pv 0) LV rfl)) d8)
 (aw (g8 (tE (kq (aU (pv 0) rfl))) (aH (bE (pv 1))) d8)
 (aw (bz 3 ud.nd (mE sm (aU (pv 0) rfl) (aU (pv 0) rfl) (λ_ _=>rfl)))
 (aw (IK (pv 0) bW Te)
 (aw (g8 (Ck wX wX (pv 1) (pv 3) (pv 2)) (aH (bE (pv 3))) d8)
 (aw (gg (pv 0) LV rfl)
 (aH (bE (pv 1)))))))))
def q_(K:Frag)(c:Cl):TS:=
 (dC (Qg (cA K (ao 0) "sound") (hJ Uz (cA K (ao 0) "place") (Bh (xm K) (aq (cA K (ao 0) "row") aR)))))
theorem yJ:
 Tm P w K mg base ["self"] "RowReader.is_done" j8 0 (q_ K c):=λf b A a s H E d=>
 (aH (bE (Ov (aU (pv 0) rfl) (F_ (m6 AA (aU (pv 0) rfl) (f_ d_ rfl T.pZ cE (ae (aU (pv 0) rfl) ax)) (iR _))))))
def w_(K:Frag)(c:Cl):TS:=
 (bO (mP K (ao 0) (ao 1) "nonterminals")
 (mP K (ao 0) (ao 2) "rules"))
theorem EJ:
 Tm P w K mg base ["self","nonterminals","rules"] "Grammar.__init__" pT 0 (w_ K c):=λf b A a s H E d=>
 (aw (gg (pv 0) (pv 1) rfl)
 (aH (gg (pv 0) (pv 2) rfl)))
def wU(K:Frag)(c:Cl):TS:=
 (dC (Ys (hJ (mZ λi j=>.bl (decide (j<i))) (cA K (ao 0) "nonterminals") (tC (.int 20))) (hJ (mZ λi j=>.bl (decide (j<i))) (Bh (xm K) (aq (cA K (ao 0) "rules") aR)) (tC (.int 60)))))
theorem Eg:
 Tm P w K mg base ["grammar"] "is_too_great" pw 0 (wU K c):=λf b A a s H E d=>
 (aH (bE (W7 (m6 QO (aU (pv 0) rfl) (fq rfl T.nt) (iR _)) (F_ (m6 QO (f_ d_ rfl T.pZ cE (ae (aU (pv 0) rfl) ax)) (fq rfl T.wo) (iR _))))))
def oV(K:Frag)(c:Cl):TS:=
 (dC (yK (aq (ao 0) (aq (Bh (B9 K) (aq (Jt (m9 K (ao 1)) (bw 2) zR (yK (aq (tC (.int 0)) (aq (ao 2) aR))) [2]) aR)) aR))))
theorem vF:
 Tm P w K mg base ["owner","numbers","number"] "rule_of_nonterminals" gP 0 (oV K c):=λf b A a s H E d=>
 (aH (bE (nJ (ae (pv 0) (ae (qD um rfl T.zh uE (ae (yA rfl kz.nd (il (pv 1)) (iX (own:=[("number",2)]) (by show xF ["owner","numbers","number"] (aI gP) _ _=true;decide+kernel)) (λ_ _ _ _ _=>(cu 2 kz.nd)) (λ_ _ _ _ _=>qI) (λ_ _ _ _ _=>(nJ (ae (fq rfl T.i8) (ae (pv 2) ax))))) ax)) ax)))))
def rg(K:Frag)(c:Cl):TS:=
 (bO (k8 (o_ (hJ Uz (hJ (Ba K) (ao 0) (tC (.int 0))) (tC (.int 0)))) (dC (yK (aq (tC (.int 0)) (aq (hJ (Hq K) (ao 1) (hJ (Ba K) (ao 0) (tC (.int 1)))) aR)))) g9)
 (dC (ao 0)))
theorem xD:
 Tm P w K mg base ["symbol","order"] "renumbered_symbol" j_ 0 (rg K c):=λf b A a s H E d=>
 (aw (g8 (lY AA (mE pK (pv 0) bW (λ_ _=>rfl)) (fq rfl T.i8) (iR _)) (aH (bE (nJ (ae (fq rfl T.i8) (ae (mE sm (pv 1) (mE pK (pv 0) bW (λ_ _=>rfl)) (λ_ _=>rfl)) ax))))) d8)
 (aH (bE (pv 0))))
def xj(K:Frag)(c:Cl):TS:=
 (bO (dN (Jt (TM K (ao 4)) (bw 5) zR (cM (mG K c) [] E0 (aq (ao 5) (aq (ao 1) aR))) [5]) (bw 6)) (i_ (NM K "list" sF (ao 2) (aq (yK (aq (hJ (Hq K) (ao 1) (ao 3)) (aq (Bh (B9 K) (aq (ao 6) aR)) aR))) aR))))
def rR(K:Frag)(c:Cl):TS:=
 (bO (dN (gR aR) (bw 2)) (bO (uM (m9 K (ao 0)) (A4 K 2 (ju (bw 3) (ju (bw 4) AL))) (xj K c)) (dC (ao 2))))
theorem zP(a:dI P w K mg base "renumbered_symbol" ["symbol","order"] 1 (mG K c)):
 Tm P w K mg base ["rules","order","renumbered","owner","symbols","symbol","row"] "renumbered_rules" ji 1 (rR K c):=λf d A b s H E e=>
 (aw (bz 2 gY.nd (c_ ax))
 (aw (km bJ rfl (il (pv 0)) (qA rfl (eW (cu 3 gY.nd) (eW (cu 4 gY.nd) mW))) (aw (yB (i:=6) rfl gY.nd rfl rfl (by exact B5 rfl rfl rfl (by decide+kernel)) (Ki (pv 4)) (iX (own:=[("symbol",5)]) (by show xF ["rules","order","renumbered","owner","symbols","symbol","row"] (aI ji) _ _=true;decide+kernel)) (λ_ _ _ _ _=>(cu 5 gY.nd)) (λ_ _ _ _ _=>qI) (λ_ _ _ _ _=>(bc a e (ae (pv 5) (ae (pv 1) ax)))))
 (aH (fL (ux bK dn dk oQ (pv 2) (ae (nJ (ae (mE sm (pv 1) (pv 3) (λ_ _=>rfl)) (ae (qD um rfl T.zh uE (ae (pv 6) ax)) ax))) ax))))))
 (aH (bE (pv 2)))))
end
section
variable{P:Program}{w:World}{K:Frag}{mg:Str->Option Value}{base:Heap}{c:Cl}(T:Txt K mg c)
include T
def xw(K:Frag)(c:Cl):TS:=
 (dC (cM (iV K c) [] E0 (aq (cA K (ao 0) "rules") (aq (Bh FQ (aq (QA (aq (ao 1) (aq (hJ (mZ λi j=>.int (i+j)) (ao 1) (cA K (ao 0) "nonterminals")) aR))) aR)) aR))))
theorem Fi(a:dI P w K mg base "renumbered_rules" ["rules","order"] 2 (iV K c)):
 Tm P w K mg base ["grammar","by"] "moved_rules" qP 2 (xw K c):=λf d A b s H E e=>
 (aH (bE (bc a e (ae (aU (pv 0) rfl) (ae (qD (BP rfl) rfl T.JF jC (ae (Sl rfl T.pF (ae (pv 1) (ae (eH pz (pv 1) (aU (pv 0) rfl)) ax))) ax)) ax)))))
def xN(K:Frag)(c:Cl):TS:=
 (dC (hJ (mZ λi j=>.int (i+j)) (tC (.int 1)) (cA K (ao 0) "nonterminals")))
theorem FK:
 Tm P w K mg base ["left"] "right_start" qQ 0 (xN K c):=λf b A a s H E d=>
 (aH (bE (eH pz bW (aU (pv 0) rfl))))
def sY(K:Frag)(c:Cl):TS:=
 (bO (dN (hJ xK (hJ xK (ao 2) (cM (iD K c) [] E0 (aq (ao 0) (aq (tC (.int 1)) aR)))) (cM (iD K c) [] E0 (aq (ao 1) (aq (cM (jc K c) [] E0 (aq (ao 0) aR)) aR)))) (bw 3))
 (dC (lu c.Grammar (cz K c) [] E0 (aq (hJ (mZ λi j=>.int (i+j)) (hJ (mZ λi j=>.int (i+j)) (tC (.int 1)) (cA K (ao 0) "nonterminals")) (cA K (ao 1) "nonterminals")) (aq (ao 3) aR)))))
theorem AI(a:dI P w K mg base "moved_rules" ["grammar","by"] 3 (iD K c))(d:dI P w K mg base "right_start" ["left"] 1 (jc K c))(b:lT P w K mg base "Grammar" c.Grammar ["self","nonterminals","rules"] 1 (cz K c)):
 Tm P w K mg base ["left","right","start_rules","rules"] "under_new_start" ma 3 (sY K c):=λf h A g s H E e=>
 (aw (bz 3 s_.nd (eH oJ (eH oJ (pv 2) (bc a e (ae (pv 0) (ae bW ax)))) (bc a e (ae (pv 1) (ae (bc d e (ae (pv 0) ax)) ax)))))
 (aH (bE (gI b e (ae (eH pz (eH pz bW (aU (pv 0) rfl)) (aU (pv 1) rfl)) (ae (pv 3) ax))))))
def B1(K:Frag)(c:Cl):TS:=
 (bO (dN (cM (cX K c) [] E0 (aq (tC (.int 0)) (aq (gR (aq (tC (.int 1)) aR)) aR))) (bw 2))
 (bO (dN (cM (cX K c) [] E0 (aq (tC (.int 0)) (aq (gR (aq (cM (jc K c) [] E0 (aq (ao 0) aR)) aR)) aR))) (bw 3))
 (dC (cM (jd K c) [] E0 (aq (ao 0) (aq (ao 1) (aq (gR (aq (ao 2) (aq (ao 3) aR))) aR)))))))
theorem KZ(a:dI P w K mg base "rule_of_nonterminals" ["owner","numbers"] 1 (cX K c))(d:dI P w K mg base "right_start" ["left"] 1 (jc K c))(b:dI P w K mg base "under_new_start" ["left","right","start_rules"] 4 (jd K c)):
 Tm P w K mg base ["left","right","to_left","to_right"] "choice_of" uf 4 (B1 K c):=λf h A g s H E e=>
 (aw (bz 2 wb.nd (bc a e (ae (fq rfl T.sQ) (ae (c_ (ae bW ax)) ax))))
 (aw (bz 3 wb.nd (bc a e (ae (fq rfl T.sQ) (ae (c_ (ae (bc d e (ae (pv 0) ax)) ax)) ax))))
 (aH (bE (bc b e (ae (pv 0) (ae (pv 1) (ae (c_ (ae (pv 2) (ae (pv 3) ax))) ax))))))))
def qh(K:Frag)(c:Cl):TS:=
 (bO (dN (cM (cX K c) [] E0 (aq (tC (.int 0)) (aq (gR (aq (tC (.int 1)) (aq (cM (jc K c) [] E0 (aq (ao 0) aR)) aR))) aR))) (bw 2))
 (dC (cM (jd K c) [] E0 (aq (ao 0) (aq (ao 1) (aq (gR (aq (ao 2) aR)) aR))))))
theorem xh(a:dI P w K mg base "rule_of_nonterminals" ["owner","numbers"] 1 (cX K c))(d:dI P w K mg base "right_start" ["left"] 1 (jc K c))(b:dI P w K mg base "under_new_start" ["left","right","start_rules"] 4 (jd K c)):
 Tm P w K mg base ["left","right","to_both"] "one_behind_another" jY 4 (qh K c):=λf h A e s H E g=>
 (aw (bz 2 qe.nd (bc a g (ae (fq rfl T.sQ) (ae (c_ (ae bW (ae (bc d g (ae (pv 0) ax)) ax))) ax))))
 (aH (bE (bc b g (ae (pv 0) (ae (pv 1) (ae (c_ (ae (pv 2) ax)) ax)))))))
def Fh(K:Frag)(c:Cl):TS:=
 (bO (dN (cM (cX K c) [] E0 (aq (tC (.int 0)) (aq (gR aR) aR))) (bw 1))
 (bO (dN (cM (cX K c) [] E0 (aq (tC (.int 0)) (aq (gR (aq (tC (.int 0)) (aq (tC (.int 1)) aR))) aR))) (bw 2))
 (dC (lu c.Grammar (cz K c) [] E0 (aq (hJ (mZ λi j=>.int (i+j)) (tC (.int 1)) (cA K (ao 0) "nonterminals")) (aq (hJ xK (gR (aq (ao 1) (aq (ao 2) aR))) (cM (iD K c) [] E0 (aq (ao 0) (aq (tC (.int 1)) aR)))) aR))))))
theorem ND(a:dI P w K mg base "rule_of_nonterminals" ["owner","numbers"] 1 (cX K c))(b:lT P w K mg base "Grammar" c.Grammar ["self","nonterminals","rules"] 1 (cz K c))(d:dI P w K mg base "moved_rules" ["grammar","by"] 3 (iD K c)):
 Tm P w K mg base ["left","none","one_more"] "many_of" zg 3 (Fh K c):=λf h A g s H E e=>
 (aw (bz 1 AS.nd (bc a e (ae (fq rfl T.sQ) (ae (c_ ax) ax))))
 (aw (bz 2 AS.nd (bc a e (ae (fq rfl T.sQ) (ae (c_ (ae (fq rfl T.sQ) (ae bW ax))) ax))))
 (aH (bE (gI b e (ae (eH pz bW (aU (pv 0) rfl)) (ae (eH oJ (c_ (ae (pv 1) (ae (pv 2) ax))) (bc d e (ae (pv 0) (ae bW ax)))) ax)))))))
def Nd(K:Frag)(c:Cl):TS:=
 (bO (dN (hJ xK (hJ xK (ao 4) (gR (aq (ao 5) aR))) (cM (iD K c) [] E0 (aq (ao 1) (aq (cA K (ao 0) "nonterminals") aR)))) (bw 6)) (dC (lu c.Grammar (cz K c) [] E0 (aq (hJ (mZ λi j=>.int (i+j)) (cA K (ao 0) "nonterminals") (cA K (ao 1) "nonterminals")) (aq (ao 6) aR)))))
def Ls(K:Frag)(c:Cl):TS:=
 (bO (dN (cM (cX K c) [] E0 (aq (ao 2) (aq (gR (aq (cA K (ao 0) "nonterminals") aR)) aR))) (bw 5)) (Nd K c))
def Jo(K:Frag)(c:Cl):TS:=
 (bO (dN (Jt (m9 K (cA K (ao 0) "rules")) (bw 3) (o_ (hJ Y3 (hJ (Ba K) (ao 3) (tC (.int 0))) (ao 2))) (ao 3) [3]) (bw 4)) (Ls K c))
theorem Q6(a:dI P w K mg base "rule_of_nonterminals" ["owner","numbers"] 1 (cX K c))(d:dI P w K mg base "moved_rules" ["grammar","by"] 3 (iD K c))(b:lT P w K mg base "Grammar" c.Grammar ["self","nonterminals","rules"] 1 (cz K c)):
 Tm P w K mg base ["left","right","place","rule","kept","to_right","rules"] "put_at" xH 3 (Jo K c):=λf h A e s H E g=>
 (aw (yB (i:=4) rfl vm.nd rfl rfl (by exact B5 rfl rfl rfl (by decide+kernel)) (il (aU (pv 0) rfl)) (iX (own:=[("rule",3)]) (by show xF ["left","right","place","rule","kept","to_right","rules"] (aI xH) _ _=true;decide+kernel)) (λ_ _ _ _ _=>(cu 3 vm.nd)) (λ_ _ _ _ _=>(y_ (lY L6 (mE pK (pv 3) bW (λ_ _=>rfl)) (pv 2) (iR _)))) (λ_ _ _ _ _=>(pv 3)))
 (aw (bz 5 vm.nd (bc a g (ae (pv 2) (ae (c_ (ae (aU (pv 0) rfl) ax)) ax))))
 (aw (bz 6 vm.nd (eH oJ (eH oJ (pv 4) (c_ (ae (pv 5) ax))) (bc d g (ae (pv 1) (ae (aU (pv 0) rfl) ax)))))
 (aH (bE (gI b g (ae (eH pz (aU (pv 0) rfl) (aU (pv 1) rfl)) (ae (pv 6) ax))))))))
def DW(K:Frag)(c:Cl):TS:=
 (dC (Qg (hJ (Y5 K) (Bh (G4 K) (aq (ao 0) aR)) (Bh FQ (aq (QH (aq (ao 1) aR)) aR))) (hJ Uz (hJ (Hq K) (ao 0) (tC (.int 0))) (tC (.int 0)))))
theorem Lw:
 Tm P w K mg base ["numbers","size"] "is_order" wq 0 (DW K c):=λf b A a s H E d=>
 (aH (bE (Ov (m6 (Yk d.units) (f_ Lb rfl T.GN lZ (ae (pv 0) ax)) (qD (BP rfl) rfl T.JF jC (ae (Si rfl T.pF (ae (pv 1) ax)) ax)) (iR _)) (F_ (m6 AA (mE sm (pv 0) bW (λ_ _=>rfl)) (fq rfl T.sQ) (iR _))))))
def Fo(K:Frag)(c:Cl):TS:=
 (dC (lu c.Grammar (cz K c) [] E0 (aq (cA K (ao 0) "nonterminals") (aq (cM (iV K c) [] E0 (aq (cA K (ao 0) "rules") (aq (ao 1) aR))) aR))))
theorem O2(b:lT P w K mg base "Grammar" c.Grammar ["self","nonterminals","rules"] 1 (cz K c))(a:dI P w K mg base "renumbered_rules" ["rules","order"] 2 (iV K c)):
 Tm P w K mg base ["left","order"] "renamed" yY 2 (Fo K c):=λf g A d s H E e=>
 (aH (bE (gI b e (ae (aU (pv 0) rfl) (ae (bc a e (ae (aU (pv 0) rfl) (ae (pv 1) ax))) ax)))))
def wW(K:Frag)(c:Cl):TS:=
 (dC (lu c.Grammar (cz K c) [] E0 (aq (cA K (ao 0) "nonterminals") (aq (hJ xK (Us (R5 K) (cA K (ao 0) "rules") sf (vA (ao 1))) (Us (R5 K) (cA K (ao 0) "rules") (vA (hJ (mZ λi j=>.int (i+j)) (ao 1) (tC (.int 1)))) sf)) aR))))
theorem EB(a:lT P w K mg base "Grammar" c.Grammar ["self","nonterminals","rules"] 1 (cz K c)):
 Tm P w K mg base ["left","dropped"] "without_rule" p6 2 (wW K c):=λf d A b s H E e=>
 (aH (bE (gI a e (ae (aU (pv 0) rfl) (ae (eH oJ (n_ Cf (aU (pv 0) rfl) uz (oz (pv 1))) (n_ Cf (aU (pv 0) rfl) (oz (eH pz (pv 1) bW)) uz)) ax)))))
def BK(K:Frag)(c:Cl):TS:=
 (bO (mP K (ao 0) (lu c.Grammar (cz K c) [] E0 (aq (tC (.int 1)) (aq (gR aR) aR))) "left")
 (bO (mP K (ao 0) (lu c.Grammar (cz K c) [] E0 (aq (tC (.int 1)) (aq (gR aR) aR))) "right")
 (mP K (ao 0) (gR aR) "before")))
theorem Kp(a:lT P w K mg base "Grammar" c.Grammar ["self","nonterminals","rules"] 1 (cz K c)):
 Tm P w K mg base ["self"] "Pair.__init__" t_ 2 (BK K c):=λf e A b s H E d=>
 (aw (gg (pv 0) (gI a d (ae bW (ae (c_ ax) ax))) rfl)
 (aw (gg (pv 0) (gI a d (ae bW (ae (c_ ax) ax))) rfl)
 (aH (gg (pv 0) (c_ ax) rfl))))
def rQ(K:Frag)(c:Cl):TS:=
 (bO (dN (hJ xK (gR (aq (cA K (ao 0) "left") aR)) (cA K (ao 0) "before")) (bw 2))
 (bO (mP K (ao 0) (Us (R5 K) (ao 2) sf (vA (tC (.int 16)))) "before")
 (mP K (ao 0) (ao 1) "left")))
theorem zL:
 Tm P w K mg base ["self","grammar","remembered"] "Pair.become_left" kZ 0 (rQ K c):=λf b A a s H E d=>
 (aw (bz 2 rV.nd (eH oJ (c_ (ae (aU (pv 0) rfl) ax)) (aU (pv 0) rfl)))
 (aw (gg (pv 0) (n_ Cf (pv 2) uz (oz (fq rfl T.Ah))) rfl)
 (aH (gg (pv 0) (pv 1) rfl))))
end
section
variable{P:Program}{w:World}{K:Frag}{mg:Str->Option Value}{base:Heap}{c:Cl}(T:Txt K mg c)
include T
def xI(K:Frag)(c:Cl):TS:=
 (bO (k8 (o_ (hJ Uz (eC c.bF "take" (dZ K c) [] E0 (ao 0) (aq (tC (.int 0)) (aq (tC (.int 1)) aR))) (tC (.int 0)))) (dC (yK (aq (tC (.int 0)) (aq (eC c.bF "take" (dZ K c) [] E0 (ao 0) (aq (tC (.int 0)) (aq (hJ (mZ λi j=>.int (i-j)) (ao 1) (tC (.int 1))) aR))) aR)))) g9)
 (bO (dN (eC c.bF "take" (dZ K c) [] E0 (ao 0) (aq (tC (.int 0)) (aq (tC (.int 255)) aR))) (bw 2))
 (dC (yK (aq (tC (.int 1)) (aq (ao 2) (aq (eC c.bF "take" (dZ K c) [] E0 (ao 0) (aq (ao 2) (aq (tC (.int 255)) aR))) aR)))))))
theorem Gf(a:eI P w K mg base c.bF "take" ["self","least","most"] 1 (dZ K c)):
 Tm P w K mg base ["reader","nonterminals","lo"] "read_symbol" qV 1 (xI K c):=λf e A d s H E b=>
 (aw (g8 (lY AA (dE (pv 0) a b (ae (fq rfl T.i8) (ae (fq rfl T.E6) ax))) (fq rfl T.i8) (iR _)) (aH (bE (nJ (ae (fq rfl T.i8) (ae (dE (pv 0) a b (ae bW (ae (eH O5 (pv 1) bW) ax))) ax))))) d8)
 (aw (bz 2 yn.nd (dE (pv 0) a b (ae bW (ae (fq rfl T.pJ) ax))))
 (aH (bE (nJ (ae (fq rfl T.E6) (ae (pv 2) (ae (dE (pv 0) a b (ae (pv 2) (ae (fq rfl T.pJ) ax))) ax))))))))
def Bu(K:Frag)(c:Cl):TS:=
 (bO (dN (eC c.bF "take" (dZ K c) [] E0 (ao 0) (aq (tC (.int 0)) (aq (hJ (mZ λi j=>.int (i-j)) (ao 1) (tC (.int 1))) aR))) (bw 2))
 (bO (dN (eC c.bF "take" (dZ K c) [] E0 (ao 0) (aq (tC (.int 0)) (aq (tC (.int 8)) aR))) (bw 3))
 (bO (dN (Jt (Gq (aq (ao 3) aR)) (bw 4) zR (cM (tT K c) [] E0 (aq (ao 0) (aq (ao 1) aR))) [4]) (bw 5))
 (dC (yK (aq (ao 2) (aq (Bh (B9 K) (aq (ao 5) aR)) aR)))))))
theorem JR(a:eI P w K mg base c.bF "take" ["self","least","most"] 1 (dZ K c))(b:dI P w K mg base "read_symbol" ["reader","nonterminals"] 2 (tT K c)):
 Tm P w K mg base ["reader","nonterminals","owner","size","place","symbols"] "read_rule" qX 2 (Bu K c):=λf g A d s H E e=>
 (aw (bz 2 p_.nd (dE (pv 0) a e (ae bW (ae (eH O5 (pv 1) bW) ax))))
 (aw (bz 3 p_.nd (dE (pv 0) a e (ae bW (ae (fq rfl T.yQ) ax))))
 (aw (yB (i:=5) rfl p_.nd rfl rfl (by exact B5 rfl rfl rfl (by decide+kernel)) (sW (by rfl) T.pF (ae (pv 3) ax)) (iX (own:=[("place",4)]) (by show xF ["reader","nonterminals","owner","size","place","symbols"] (aI qX) _ _=true;decide+kernel)) (λ_ _ _ _ _=>(cu 4 p_.nd)) (λ_ _ _ _ _=>qI) (λ_ _ _ _ _=>(bc b e (ae (pv 0) (ae (pv 1) ax)))))
 (aH (bE (nJ (ae (pv 2) (ae (qD um rfl T.zh uE (ae (pv 5) ax)) ax))))))))
def tZ(K:Frag)(c:Cl):TS:=
 (bO (dN (lu c.bF (jU K c) [] E0 (aq (ao 0) aR)) (bw 1))
 (bO (dN (eC c.bF "take" (dZ K c) [] E0 (ao 1) (aq (tC (.int 1)) (aq (tC (.int 20)) aR))) (bw 2))
 (bO (dN (eC c.bF "take" (dZ K c) [] E0 (ao 1) (aq (tC (.int 0)) (aq (tC (.int 60)) aR))) (bw 3))
 (bO (dN (Jt (Gq (aq (ao 3) aR)) (bw 4) zR (cM (pP K c) [] E0 (aq (ao 1) (aq (ao 2) aR))) [4]) (bw 5))
 (bO (k8 (tB (eC c.bF "is_done" (iG K c) [] E0 (ao 1) aR)) (dC (lu c.Grammar (cz K c) [] E0 (aq (ao 2) (aq (ao 5) aR)))) g9)
 (dC (tC .non)))))))
theorem BL(d:lT P w K mg base "RowReader" c.bF ["self","row"] 1 (jU K c))(a:eI P w K mg base c.bF "take" ["self","least","most"] 1 (dZ K c))(g:dI P w K mg base "read_rule" ["reader","nonterminals"] 3 (pP K c))(b:eI P w K mg base c.bF "is_done" ["self"] 1 (iG K c))(e:lT P w K mg base "Grammar" c.Grammar ["self","nonterminals","rules"] 1 (cz K c)):
 Tm P w K mg base ["row","reader","nonterminals","size","place","rules"] "grammar_of_row" kh 3 (tZ K c):=λf k A j s H E h=>
 (aw (bz 1 iQ.nd (gI d h (ae (pv 0) ax)))
 (aw (bz 2 iQ.nd (dE (pv 1) a h (ae bW (ae (fq rfl T.nt) ax))))
 (aw (bz 3 iQ.nd (dE (pv 1) a h (ae bW (ae (fq rfl T.wo) ax))))
 (aw (yB (i:=5) rfl iQ.nd rfl rfl (by exact B5 rfl rfl rfl (by decide+kernel)) (sW (by rfl) T.pF (ae (pv 3) ax)) (iX (own:=[("place",4)]) (by show xF ["row","reader","nonterminals","size","place","rules"] (aI kh) _ _=true;decide+kernel)) (λ_ _ _ _ _=>(cu 4 iQ.nd)) (λ_ _ _ _ _=>qI) (λ_ _ _ _ _=>(bc g h (ae (pv 1) (ae (pv 2) ax)))))
 (aw (g8 (kq (fQ (pv 1) b h)) (aH (bE (gI e h (ae (pv 2) (ae (pv 5) ax))))) d8)
 (aH (bE JO)))))))
def zB(K:Frag)(c:Cl):TS:=
 (bO (i_ (NM K "list" sF (ao 1) (aq (Bh (xm K) (aq (ao 3) aR)) aR))) (uM (TM K (ao 3)) (bw 4) (i_ (NM K "list" (MM K) (ao 1) (aq (ao 4) aR)))))
def zN(K:Frag)(c:Cl):TS:=
 (bO (uM (m9 K (cA K (ao 0) "rules")) (A4 K 2 (ju (bw 2) (ju (bw 3) AL))) (bO (i_ (NM K "list" sF (ao 1) (aq (ao 2) aR))) (zB K c))) (dC (ao 1)))
def uj(K:Frag)(c:Cl):TS:=
 (bO (dN (gR (aq (cA K (ao 0) "nonterminals") (aq (Bh (xm K) (aq (cA K (ao 0) "rules") aR)) aR))) (bw 1)) (zN K c))
theorem BJ:
 Tm P w K mg base ["grammar","row","owner","symbols","symbol"] "row_of_grammar" mQ 0 (uj K c):=λf b A a s H E d=>
 (aw (bz 1 jK.nd (c_ (ae (aU (pv 0) rfl) (ae (f_ d_ rfl T.pZ cE (ae (aU (pv 0) rfl) ax)) ax))))
 (aw (km bJ rfl (il (aU (pv 0) rfl)) (qA rfl (eW (cu 2 jK.nd) (eW (cu 3 jK.nd) mW))) (aw (fL (ux bK dn dk oQ (pv 1) (ae (pv 2) ax)))
 (aw (fL (ux bK dn dk oQ (pv 1) (ae (f_ d_ rfl T.pZ cE (ae (pv 3) ax)) ax)))
 (aH (km bJ rfl (Ki (pv 3)) (cu 4 jK.nd) (aH (fL (ux bK eO eN NX (pv 1) (ae (pv 4) ax)))))))))
 (aH (bE (pv 1)))))
def FT(K:Frag)(c:Cl):TS:=
 (dC (hJ (Z4 K false) (ao 0) (yK (aq (tC (.int 0)) (aq (tC (.int 1)) aR)))))
theorem Nw:
 Tm P w K mg base ["number"] "is_side" zb 0 (FT K c):=λf b A a s H E d=>
 (aH (bE (m6 Iq (pv 0) (nJ (ae (fq rfl T.JJ) (ae (fq rfl T.Qn) ax))) (by with_unfolding_all rfl))))
def ue(K:Frag)(c:Cl):TS:=
 (dC (hJ (mZ λi j=>.bl (decide (i<j))) (Xm K (aq (ao 0) aR) (tC (.int 0))) (tC (.int 0))))
theorem Co:
 Tm P w K mg base ["row"] "has_below_zero" mV 0 (ue K c):=λf b A a s H E d=>
 (aH (bE (m6 Gb (V4 rfl rfl T.W_ (ae (pv 0) ax) bW) bW (iR _))))
def uv(K:Frag)(c:Cl):TS:=
 (dC (wH (mZ λi j=>.bl (decide (i<=j))) (mZ λi j=>.bl (decide (i<j))) (tC (.int 0)) (ao 0) (Bh (xm K) (aq (cA K (ao 1) "rules") aR))))
theorem BH:
 Tm P w K mg base ["number","grammar"] "is_rule_number" mO 0 (uv K c):=λf b A a s H E d=>
 (aH (bE (FD wX Gb bW (pv 0) (f_ d_ rfl T.pZ cE (ae (aU (pv 1) rfl) ax)))))
def Ak(K:Frag)(c:Cl):TS:=
 (dC (ZQ (o_ (hJ Uz (ao 1) (tC (.int 0)))) (cA K (ao 0) "left") (cA K (ao 0) "right")))
theorem HF:
 Tm P w K mg base ["pair","side"] "grammar_at" sh 0 (Ak K c):=λf b A a s H E d=>
 (aH (bE (Fv (lY AA (pv 1) (fq rfl T.JJ) (iR _)) (aU (pv 0) rfl) (aU (pv 0) rfl))))
def yL(K:Frag)(c:Cl):TS:=
 (dC (gR (aq (tC (.int 0)) (aq (cA K (ao 0) "nonterminals") (aq (Bh (xm K) (aq (cA K (ao 0) "rules") aR)) aR)))))
theorem GD:
 Tm P w K mg base ["grammar"] "size_answer" qU 0 (yL K c):=λf b A a s H E d=>
 (aH (bE (c_ (ae bW (ae (aU (pv 0) rfl) (ae (f_ d_ rfl T.pZ cE (ae (aU (pv 0) rfl) ax)) ax))))))
def Cn(K:Frag)(c:Cl):TS:=
 (bO (k8 (tB (cM (rL K c) [] E0 (aq (ao 1) aR))) (dC (gR (aq (tC (.int (-6))) aR))) g9)
 (bO (i_ (eC c.Pair "become_left" (iW K c) [] E0 (ao 0) (aq (ao 1) aR)))
 (dC (cM (gX K c) [] E0 (aq (ao 1) aR)))))
theorem Ld(b:dI P w K mg base "is_too_great" ["grammar"] 1 (rL K c))(a:eI P w K mg base c.Pair "become_left" ["self","grammar"] 1 (iW K c))(d:dI P w K mg base "size_answer" ["grammar"] 1 (gX K c)):
 Tm P w K mg base ["pair","grammar"] "make_left" uA 1 (Cn K c):=λf h A e s H E g=>
 (aw (g8 (kq (bc b g (ae (pv 1) ax))) (aH (bE (c_ (ae (fq rfl T.DK) ax)))) d8)
 (aw (fL (dE (pv 0) a g (ae (pv 1) ax)))
 (aH (bE (bc d g (ae (pv 1) ax))))))
def Q5(K:Frag)(c:Cl):TS:=
 (bO (k8 (o_ (hJ Uz (ao 2) (tC (.int 0)))) (dC (cM (dF K c) [] E0 (aq (ao 0) (aq (ao 4) aR)))) g9) (bO (mP K (ao 0) (ao 4) "right") (dC (cM (gX K c) [] E0 (aq (ao 4) aR)))))
def Sm(K:Frag)(c:Cl):TS:=
 (bO (k8 (tB (Wz (ao 4))) (dC (gR (aq (tC (.int (-2))) aR))) g9) (bO (k8 (EI (tB (cM (oB K c) [] E0 (aq (ao 2) aR)))) (dC (gR (aq (tC (.int (-5))) aR))) g9) (Q5 K c)))
def Q3(K:Frag)(c:Cl):TS:=
 (bO (k8 (tB (cM (gT K c) [] E0 (aq (ao 3) aR))) (dC (gR (aq (tC (.int (-1))) aR))) g9) (bO (dN (cM (pG K c) [] E0 (aq (ao 3) aR)) (bw 4)) (Sm K c)))
def QC(K:Frag)(c:Cl):TS:=
 (bO (dN (eC c.aL "take_number" (a_ K c) [] E0 (ao 1) aR) (bw 2)) (bO (dN (eC c.aL "take_row" (dQ K c) [] E0 (ao 1) aR) (bw 3)) (Q3 K c)))
theorem Ws(a:eI P w K mg base c.aL "take_number" ["self"] 1 (a_ K c))(b:eI P w K mg base c.aL "take_row" ["self"] 2 (dQ K c))(d:dI P w K mg base "has_below_zero" ["row"] 1 (gT K c))(e:dI P w K mg base "grammar_of_row" ["row"] 4 (pG K c))(i:dI P w K mg base "is_side" ["number"] 1 (oB K c))(h:dI P w K mg base "make_left" ["pair","grammar"] 2 (dF K c))(g:dI P w K mg base "size_answer" ["grammar"] 1 (gX K c)):
 Tm P w K mg base ["pair","reader","side","row","grammar"] "load" s_load 4 (QC K c):=λf l A k s H E j=>
 (aw (bz 2 ET.nd (fQ (pv 1) a j))
 (aw (bz 3 ET.nd (fQ (pv 1) b j))
 (aw (g8 (kq (bc d j (ae (pv 3) ax))) (aH (bE (c_ (ae (fq rfl T.sP) ax)))) d8)
 (aw (bz 4 ET.nd (bc e j (ae (pv 3) ax)))
 (aw (g8 (GY (N1 (pv 4))) (aH (bE (c_ (ae (fq rfl T.uU) ax)))) d8)
 (aw (g8 (tE (kq (bc i j (ae (pv 2) ax)))) (aH (bE (c_ (ae (fq rfl T.pB) ax)))) d8)
 (aw (g8 (lY AA (pv 2) (fq rfl T.JJ) (iR _)) (aH (bE (bc h j (ae (pv 0) (ae (pv 4) ax))))) d8)
 (aw (gg (pv 0) (pv 4) rfl)
 (aH (bE (bc g j (ae (pv 4) ax))))))))))))
def Qe(K:Frag)(c:Cl):TS:=
 (bO (dN (eC c.aL "take_number" (a_ K c) [] E0 (ao 1) aR) (bw 2))
 (bO (k8 (EI (tB (cM (oB K c) [] E0 (aq (ao 2) aR)))) (dC (gR (aq (tC (.int (-5))) aR))) g9)
 (dC (hJ xK (gR (aq (tC (.int 0)) aR)) (cM (pH K c) [] E0 (aq (cM (nU K c) [] E0 (aq (ao 0) (aq (ao 2) aR))) aR))))))
theorem VR(a:eI P w K mg base c.aL "take_number" ["self"] 1 (a_ K c))(e:dI P w K mg base "is_side" ["number"] 1 (oB K c))(b:dI P w K mg base "row_of_grammar" ["grammar"] 1 (pH K c))(d:dI P w K mg base "grammar_at" ["pair","side"] 1 (nU K c)):
 Tm P w K mg base ["pair","reader","side"] "held" JL 1 (Qe K c):=λf i A h s H E g=>
 (aw (bz 2 Pr.nd (fQ (pv 1) a g))
 (aw (g8 (tE (kq (bc e g (ae (pv 2) ax)))) (aH (bE (c_ (ae (fq rfl T.pB) ax)))) d8)
 (aH (bE (eH oJ (c_ (ae bW ax)) (bc b g (ae (bc d g (ae (pv 0) (ae (pv 2) ax))) ax)))))))
def IP(K:Frag)(c:Cl):TS:=
 (dC (cM (dF K c) [] E0 (aq (ao 0) (aq (cM (wm K c) [] E0 (aq (cA K (ao 0) "left") (aq (cA K (ao 0) "right") aR))) aR))))
theorem Rf(a:dI P w K mg base "make_left" ["pair","grammar"] 2 (dF K c))(b:dI P w K mg base "choice_of" ["left","right"] 5 (wm K c)):
 Tm P w K mg base ["pair","reader"] "choice" Bn 5 (IP K c):=λf g A d s H E e=>
 (aH (bE (bc a e (ae (pv 0) (ae (bc b e (ae (aU (pv 0) rfl) (ae (aU (pv 0) rfl) ax))) ax)))))
end
section
variable{P:Program}{w:World}{K:Frag}{mg:Str->Option Value}{base:Heap}{c:Cl}(T:Txt K mg c)
include T
def Jx(K:Frag)(c:Cl):TS:=
 (dC (cM (dF K c) [] E0 (aq (ao 0) (aq (cM (lO K c) [] E0 (aq (cA K (ao 0) "left") (aq (cA K (ao 0) "right") aR))) aR))))
theorem Sh(b:dI P w K mg base "make_left" ["pair","grammar"] 2 (dF K c))(a:dI P w K mg base "one_behind_another" ["left","right"] 5 (lO K c)):
 Tm P w K mg base ["pair","reader"] "behind" BO 5 (Jx K c):=λf g A d s H E e=>
 (aH (bE (bc b e (ae (pv 0) (ae (bc a e (ae (aU (pv 0) rfl) (ae (aU (pv 0) rfl) ax))) ax)))))
def Pq(K:Frag)(c:Cl):TS:=
 (dC (cM (dF K c) [] E0 (aq (ao 0) (aq (cM (AN K c) [] E0 (aq (cA K (ao 0) "left") aR)) aR))))
theorem VY(a:dI P w K mg base "make_left" ["pair","grammar"] 2 (dF K c))(b:dI P w K mg base "many_of" ["left"] 4 (AN K c)):
 Tm P w K mg base ["pair","reader"] "many" J6 4 (Pq K c):=λf g A d s H E e=>
 (aH (bE (bc a e (ae (pv 0) (ae (bc b e (ae (aU (pv 0) rfl) ax)) ax)))))
def S5(K:Frag)(c:Cl):TS:=
 (bO (k8 (EI (o_ (wH (mZ λi j=>.bl (decide (i<=j))) (mZ λi j=>.bl (decide (i<j))) (tC (.int 0)) (ao 2) (cA K (cA K (ao 0) "left") "nonterminals")))) (dC (gR (aq (tC (.int (-4))) aR))) g9) (dC (cM (dF K c) [] E0 (aq (ao 0) (aq (cM (Dh K c) [] E0 (aq (cA K (ao 0) "left") (aq (cA K (ao 0) "right") (aq (ao 2) aR)))) aR)))))
def Vh(K:Frag)(c:Cl):TS:=
 (bO (dN (eC c.aL "take_number" (a_ K c) [] E0 (ao 1) aR) (bw 2)) (S5 K c))
theorem X2(a:eI P w K mg base c.aL "take_number" ["self"] 1 (a_ K c))(b:dI P w K mg base "make_left" ["pair","grammar"] 2 (dF K c))(d:dI P w K mg base "put_at" ["left","right","place"] 4 (Dh K c)):
 Tm P w K mg base ["pair","reader","place"] "put" Qc 4 (Vh K c):=λf h A e s H E g=>
 (aw (bz 2 TJ.nd (fQ (pv 1) a g))
 (aw (g8 (tE (Ck wX Gb bW (pv 2) (aU (aU (pv 0) rfl) rfl))) (aH (bE (c_ (ae (fq rfl T.qi) ax)))) d8)
 (aH (bE (bc b g (ae (pv 0) (ae (bc d g (ae (aU (pv 0) rfl) (ae (aU (pv 0) rfl) (ae (pv 2) ax)))) ax)))))))
def Pt(K:Frag)(c:Cl):TS:=
 (dC (cM (dF K c) [] E0 (aq (ao 0) (aq (cM (Dm K c) [] E0 (aq (cA K (ao 0) "left") aR)) aR))))
theorem Wo(a:dI P w K mg base "make_left" ["pair","grammar"] 2 (dF K c))(b:dI P w K mg base "turned" ["left"] 3 (Dm K c)):
 Tm P w K mg base ["pair","reader"] "turn" JD 3 (Pt K c):=λf g A d s H E e=>
 (aH (bE (bc a e (ae (pv 0) (ae (bc b e (ae (aU (pv 0) rfl) ax)) ax)))))
def My(K:Frag)(c:Cl):TS:=
 (bO (k8 (EI (tB (cM (xU K c) [] E0 (aq (ao 2) (aq (cA K (cA K (ao 0) "left") "nonterminals") aR))))) (dC (gR (aq (tC (.int (-9))) aR))) g9) (dC (cM (dF K c) [] E0 (aq (ao 0) (aq (cM (A9 K c) [] E0 (aq (cA K (ao 0) "left") (aq (ao 2) aR))) aR)))))
def I_(K:Frag)(c:Cl):TS:=
 (bO (dN (eC c.aL "take_row" (dQ K c) [] E0 (ao 1) aR) (bw 2)) (bO (k8 (tB (cM (gT K c) [] E0 (aq (ao 2) aR))) (dC (gR (aq (tC (.int (-1))) aR))) g9) (My K c)))
theorem RP(a:eI P w K mg base c.aL "take_row" ["self"] 2 (dQ K c))(b:dI P w K mg base "has_below_zero" ["row"] 1 (gT K c))(e:dI P w K mg base "is_order" ["numbers","size"] 1 (xU K c))(d:dI P w K mg base "make_left" ["pair","grammar"] 2 (dF K c))(g:dI P w K mg base "renamed" ["left","order"] 3 (A9 K c)):
 Tm P w K mg base ["pair","reader","order"] "rename" BU 3 (I_ K c):=λf j A i s H E h=>
 (aw (bz 2 Jw.nd (fQ (pv 1) a h))
 (aw (g8 (kq (bc b h (ae (pv 2) ax))) (aH (bE (c_ (ae (fq rfl T.sP) ax)))) d8)
 (aw (g8 (tE (kq (bc e h (ae (pv 2) (ae (aU (aU (pv 0) rfl) rfl) ax))))) (aH (bE (c_ (ae (fq rfl T.F5) ax)))) d8)
 (aH (bE (bc d h (ae (pv 0) (ae (bc g h (ae (aU (pv 0) rfl) (ae (pv 2) ax))) ax))))))))
def PF(K:Frag)(c:Cl):TS:=
 (bO (dN (eC c.aL "take_number" (a_ K c) [] E0 (ao 1) aR) (bw 2))
 (bO (k8 (EI (tB (cM (jX K c) [] E0 (aq (ao 2) (aq (cA K (ao 0) "left") aR))))) (dC (gR (aq (tC (.int (-8))) aR))) g9)
 (dC (cM (dF K c) [] E0 (aq (ao 0) (aq (cM (rJ K c) [] E0 (aq (cA K (ao 0) "left") (aq (ao 2) aR))) aR))))))
theorem WQ(a:eI P w K mg base c.aL "take_number" ["self"] 1 (a_ K c))(b:dI P w K mg base "is_rule_number" ["number","grammar"] 1 (jX K c))(e:dI P w K mg base "make_left" ["pair","grammar"] 2 (dF K c))(d:dI P w K mg base "without_rule" ["left","dropped"] 3 (rJ K c)):
 Tm P w K mg base ["pair","reader","dropped"] "drop" K7 3 (PF K c):=λf i A h s H E g=>
 (aw (bz 2 PJ.nd (fQ (pv 1) a g))
 (aw (g8 (tE (kq (bc b g (ae (pv 2) (ae (aU (pv 0) rfl) ax))))) (aH (bE (c_ (ae (fq rfl T.tq) ax)))) d8)
 (aH (bE (bc e g (ae (pv 0) (ae (bc d g (ae (aU (pv 0) rfl) (ae (pv 2) ax))) ax)))))))
def Ai(K:Frag)(c:Cl)(Fs:Addr->Sp->Prop):TS:=
 (bO (dN (lu c.aL (oO K c) [] E0 (aq (ao 1) aR)) (bw 2))
 (bO (dN (gR aR) (bw 3))
 (bO (KD (tB (eC c.aL "has_more" (lq K c) [] E0 (ao 2) aR)) (bO (dN (Tz K (tC (.ref c.Fx)) (eC c.aL "take_number" (a_ K c) [] E0 (ao 2) aR)) (bw 4))
 (bO (Xa (dN (O1 Fs 4 (aq (ao 0) (aq (ao 2) aR))) (bw 5)))
 (bO (i_ (NM K "list" sF (ao 3) (aq (Bh (xm K) (aq (ao 5) aR)) aR)))
 (i_ (NM K "list" zp (ao 3) (aq (ao 5) aR)))))))
 (dC (ao 3)))))
theorem Hs{Fs:Addr->Sp->Prop}(e:Qz P w K mg base 9 Fs)(d:lT P w K mg base "CallReader" c.aL ["self","told"] 1 (oO K c))(b:eI P w K mg base c.aL "has_more" ["self"] 1 (lq K c))(a:eI P w K mg base c.aL "take_number" ["self"] 1 (a_ K c)):
 Tm P w K mg base ["pair","calls","reader","told","call","answer"] "answers_on" sk 9 (Ai K c Fs):=λf j A h s H E g=>
 (aw (bz 2 nP.nd (gI d g (ae (pv 1) ax)))
 (aw (bz 3 nP.nd (c_ ax))
 (aw (Gw bJ (kq (fQ (pv 2) b g)) (aw (bz 4 nP.nd (U8 (Dv rfl T.Qt) (fQ (pv 2) a g) (λ_ _=>rfl)))
 (aw (WA (bz 5 nP.nd (LK (i:=4) e (g.mono (by decide)) (ae (pv 0) (ae (pv 2) ax)))))
 (aw (fL (ux bK dn dk oQ (pv 3) (ae (f_ d_ rfl T.pZ cE (ae (pv 5) ax)) ax)))
 (aH (fL (ux bK eO eN vy (pv 3) (ae (pv 5) ax))))))))
 (aH (bE (pv 3))))))
def AM(K:Frag)(c:Cl):TS:=
 (dC (cM (uP K c) [] E0 (aq (lu c.Pair (vR K c) [] E0 aR) (aq (ao 0) aR))))
theorem NT(a:dI P w K mg base "answers_on" ["pair","calls"] 10 (uP K c))(b:lT P w K mg base "Pair" c.Pair ["self"] 3 (vR K c)):
 Tm P w K mg base ["calls"] "answers" vk 10 (AM K c):=λf g A d s H E e=>
 (aH (bE (bc a e (ae (Q8 b e) (ae (pv 0) ax)))))
end
section
variable{P:Program}{w:World}{K:Frag}{mg:Str->Option Value}{base:Heap}{c:Cl}(T:Txt K mg c)
include T
def Jp(K:Frag)(c:Cl):TS:=
 (bO (dN (Jt (m9 K (cA K (ao 0) "rules")) (A4 K 2 (ju (bw 1) (ju (bw 2) AL))) zR (yK (aq (ao 1) (aq (Mw K (ao 2)) aR))) [1,2]) (bw 3))
 (dC (lu c.Grammar (cz K c) [] E0 (aq (cA K (ao 0) "nonterminals") (aq (ao 3) aR)))))
theorem Sa(a:lT P w K mg base "Grammar" c.Grammar ["self","nonterminals","rules"] 1 (cz K c)):
 Tm P w K mg base ["left","owner","symbols","rules"] "turned" yd 2 (Jp K c):=λf d A b s H E e=>
 (aw (yB (i:=3) rfl yV.nd rfl rfl (by exact B5 rfl rfl rfl (by decide+kernel)) (il (aU (pv 0) rfl)) (iX (own:=[("owner",1),("symbols",2)]) (by show xF ["left","owner","symbols","rules"] (aI yd) _ _=true;decide+kernel)) (λ_ _ _ _ _=>(qA rfl (eW (cu 1 yV.nd) (eW (cu 2 yV.nd) mW)))) (λ_ _ _ _ _=>qI) (λ_ _ _ _ _=>(nJ (ae (pv 1) (ae (N_ rfl rfl T.zh rfl T.G9 (pv 2)) ax)))))
 (aH (bE (gI a e (ae (aU (pv 0) rfl) (ae (pv 3) ax))))))
end
section
variable{P:Program}{w:World}{K:Frag}{mg:Str->Option Value}{base:Heap}{c:Cl}(T:Txt K mg c)
include T
def wZ(K:Frag)(c:Cl):TS:=
 (bO (dN (tC (.int 0)) (bw 3))
 (bO (uM (ZK K (aq (ao 1) (aq (ao 2) aR))) (A4 K 2 (ju (bw 4) (ju (bw 5) AL))) (k8 (λb H Q=>(hJ (mZ λi j=>.int (Builtin.bitAnd i j)) (ao 0) (ao 4)) b H λx a=>∃k,G_ K x a k/\Q k a) (dN (hJ (mZ λi j=>.int (Builtin.bitOr i j)) (ao 3) (ao 5)) (bw 3)) g9))
 (dC (ao 3))))
theorem Ep:
 Tm P w K mg base ["marks","asked","given","joined","one","other"] "joined_where" pj 0 (wZ K c):=λf b A a s H E d=>
 (aw (bz 3 lG.nd bW)
 (aw (km bJ rfl (Yo (by rfl) T.Xu (ae (pv 1) (ae (pv 2) ax))) (qA rfl (eW (cu 4 lG.nd) (eW (cu 5 lG.nd) mW))) (aH (g8 (tO (eH wI (pv 0) (pv 4)) (λ_=>rfl)) (aH (bz 3 lG.nd (eH Aa (pv 3) (pv 5)))) d8)))
 (aH (bE (pv 3)))))
def rl(K:Frag)(c:Cl):TS:=
 (k8 (o_ (hJ Uz (hJ (Ba K) (ao 2) (tC (.int 0))) (tC (.int 0)))) (dN (hJ (mZ λi j=>.int (Builtin.bitOr i j)) (hJ (Hq K) (cA K (ao 0) "ahead_of") (hJ (Ba K) (ao 2) (tC (.int 1)))) (ao 1)) (Yt (cA K (ao 0) "ahead_of") (hJ (Ba K) (ao 2) (tC (.int 1))) Td)) (i_ (NM K "list" sF (cA K (ao 0) "ahead_of_ranges") (aq (yK (aq (ao 1) (aq (hJ (Ba K) (ao 2) (tC (.int 1))) (aq (hJ (Ba K) (ao 2) (tC (.int 2))) aR)))) aR))))
theorem yD:
 Tm P w K mg base ["self","mark","symbol"] "Marks.note_symbol" j5 0 (rl K c):=λf b A a s H E d=>
 (aH (g8 (lY AA (mE pK (pv 2) bW (λ_ _=>rfl)) (fq rfl T.i8) (iR _)) (aH (UR (eH Aa (mE sm (aU (pv 0) rfl) (mE pK (pv 2) bW (λ_ _=>rfl)) (λ_ _=>rfl)) (pv 1)) (Vn (aU (pv 0) rfl) (mE pK (pv 2) bW (λ_ _=>rfl)) set_list (λ_=>rfl)))) (aH (fL (ux bK dn dk oQ (aU (pv 0) rfl) (ae (nJ (ae (pv 1) (ae (mE pK (pv 2) bW (λ_ _=>rfl)) (ae (mE pK (pv 2) bW (λ_ _=>rfl)) ax)))) ax))))))
def ED(K:Frag)(c:Cl):TS:=
 (bO (i_ (eC c.eQ "note_symbol" (ml K c) [] E0 (ao 0) (aq (ao 2) (aq (ao 5) aR)))) (dN (hJ (rI TC λi j=>.int (i*2^j.toNat)) (ao 2) (tC (.int 1))) (bw 2)))
def El(K:Frag)(c:Cl):TS:=
 (bO (i_ (NM K "list" sF (cA K (ao 0) "rule_ends") (aq (ao 2) aR))) (dN (hJ (rI TC λi j=>.int (i*2^j.toNat)) (ao 2) (tC (.int 1))) (bw 2)))
def Eo(K:Frag)(c:Cl):TS:=
 (bO (dN (hJ (mZ λi j=>.int (Builtin.bitOr i j)) (hJ (Hq K) (cA K (ao 0) "ends_of") (ao 3)) (ao 2)) (Yt (cA K (ao 0) "ends_of") (ao 3) Td)) (El K c))
def Er(K:Frag)(c:Cl):TS:=
 (bO (mP K (ao 0) (hJ (mZ λi j=>.int (Builtin.bitOr i j)) (cA K (ao 0) "firsts") (ao 2)) "firsts") (bO (uM (TM K (ao 4)) (bw 5) (ED K c)) (Eo K c)))
def EA(K:Frag)(c:Cl):TS:=
 (bO (mP K (ao 0) (gR aR) "ahead_of_ranges") (bO (dN (tC (.int 1)) (bw 2)) (uM (m9 K (cA K (ao 1) "rules")) (A4 K 2 (ju (bw 3) (ju (bw 4) AL))) (Er K c))))
def Eb(K:Frag)(c:Cl):TS:=
 (bO (mP K (ao 0) (hJ Yd (gR (aq (tC (.int 0)) aR)) (cA K (ao 1) "nonterminals")) "ends_of") (bO (mP K (ao 0) (gR aR) "rule_ends") (EA K c)))
def Az(K:Frag)(c:Cl):TS:=
 (bO (mP K (ao 0) (tC (.int 0)) "firsts") (bO (mP K (ao 0) (hJ Yd (gR (aq (tC (.int 0)) aR)) (cA K (ao 1) "nonterminals")) "ahead_of") (Eb K c)))
theorem HB(a:eI P w K mg base c.eQ "note_symbol" ["self","mark","symbol"] 1 (ml K c)):
 Tm P w K mg base ["self","grammar","mark","owner","symbols","symbol"] "Marks.__init__" sO 1 (Az K c):=λf d A b s H E e=>
 (aw (gg (pv 0) bW rfl)
 (aw (gg (pv 0) (eH UZ (c_ (ae bW ax)) (aU (pv 1) rfl)) rfl)
 (aw (gg (pv 0) (eH UZ (c_ (ae bW ax)) (aU (pv 1) rfl)) rfl)
 (aw (gg (pv 0) (c_ ax) rfl)
 (aw (gg (pv 0) (c_ ax) rfl)
 (aw (bz 2 jZ.nd bW)
 (aH (km bJ rfl (il (aU (pv 1) rfl)) (qA rfl (eW (cu 3 jZ.nd) (eW (cu 4 jZ.nd) mW))) (aw (gg (pv 0) (eH Aa (aU (pv 0) rfl) (pv 2)) rfl)
 (aw (km bJ rfl (Ki (pv 4)) (cu 5 jZ.nd) (aw (fL (dE (pv 0) a e (ae (pv 2) (ae (pv 5) ax))))
 (aH (bz 2 jZ.nd (eH KC (pv 2) bW)))))
 (aw (UR (eH Aa (mE sm (aU (pv 0) rfl) (pv 3) (λ_ _=>rfl)) (pv 2)) (Vn (aU (pv 0) rfl) (pv 3) set_list (λ_=>rfl)))
 (aw (fL (ux bK dn dk oQ (aU (pv 0) rfl) (ae (pv 2) ax)))
 (aH (bz 2 jZ.nd (eH KC (pv 2) bW)))))))))))))))
def pC(K:Frag)(c:Cl):TS:=
 (dC (Bh (ZE K) (aq (Jt (m9 K (cA K (ao 0) "ahead_of_ranges")) (A4 K 3 (ju (bw 2) (ju (bw 3) (ju (bw 4) AL)))) (o_ (wH (mZ λi j=>.bl (decide (i<=j))) (mZ λi j=>.bl (decide (i<=j))) (ao 3) (ao 1) (ao 4))) (ao 2) [2,3,4]) aR)))
theorem wz:
 Tm P w K mg base ["self","byte","mark","lo","hi"] "Marks.ahead_of_byte" hX 0 (pC K c):=λf b A a s H E d=>
 (aH (bE (f_ (Yy rfl) rfl T.W9 PyProof.Rows.boot_sum (ae (yA rfl gW.nd (il (aU (pv 0) rfl)) (iX (own:=[("mark",2),("lo",3),("hi",4)]) (by show xF ["self","byte","mark","lo","hi"] (aI hX) _ _=true;decide+kernel)) (λ_ _ _ _ _=>(qA rfl (eW (cu 2 gW.nd) (eW (cu 3 gW.nd) (eW (cu 4 gW.nd) mW))))) (λ_ _ _ _ _=>(y_ (Ck wX wX (pv 3) (pv 1) (pv 4)))) (λ_ _ _ _ _=>(pv 2))) ax))))
def oU(K:Frag)(c:Cl):TS:=
 (dC (cM (lC K c) [] E0 (aq (ao 1) (aq (cA K (ao 0) "ends_of") (aq (cA K (ao 0) "ahead_of") aR)))))
theorem vt(a:dI P w K mg base "joined_where" ["marks","asked","given"] 1 (lC K c)):
 Tm P w K mg base ["self","marks"] "Marks.ahead_of_ended" i4 1 (oU K c):=λf d A b s H E e=>
 (aH (bE (bc a e (ae (pv 1) (ae (aU (pv 0) rfl) (ae (aU (pv 0) rfl) ax))))))
def qk(K:Frag)(c:Cl):TS:=
 (dC (cM (lC K c) [] E0 (aq (ao 1) (aq (cA K (ao 0) "ahead_of") (aq (cA K (ao 0) "ends_of") aR)))))
theorem xg(a:dI P w K mg base "joined_where" ["marks","asked","given"] 1 (lC K c)):
 Tm P w K mg base ["self","marks"] "Marks.ends_of_next" jQ 1 (qk K c):=λf d A b s H E e=>
 (aH (bE (bc a e (ae (pv 1) (ae (aU (pv 0) rfl) (ae (aU (pv 0) rfl) ax))))))
def rY(K:Frag)(c:Cl):TS:=
 (dC (hJ (rI TC λi j=>.int (i*2^j.toNat)) (hJ (mZ λi j=>.int (Builtin.bitAnd i j)) (xO eG K (cA K (ao 0) "reached") (ao 1)) (xO eG K (cA K (ao 0) "passed") (ao 2))) (tC (.int 1))))
theorem zG:
 Tm P w K mg base ["self","first","last"] "Covering.stepped" kX 0 (rY K c):=λf d A a s H E b=>
 (aH (bE (eH KC (eH wI (qT (F:=eG) b.units (aU (pv 0) rfl) (pv 1) (λ_ _=>rfl)) (qT (F:=eG) b.units (aU (pv 0) rfl) (pv 2) (λ_ _=>rfl))) bW)))
def xP(K:Frag)(c:Cl):TS:=
 (bO (dN (Ys (hJ Y3 (ao 3) (xO eG K (cA K (ao 0) "reached") (ao 1))) (hJ Y3 (ao 4) (xO eG K (cA K (ao 0) "passed") (ao 1)))) (bw 2)) (bO (Cs eG K (cA K (ao 0) "reached") (ao 1) (ao 3)) (Cs eG K (cA K (ao 0) "passed") (ao 1) (ao 4))))
def yC(K:Frag)(c:Cl):TS:=
 (bO (dN (hJ (mZ λi j=>.int (Builtin.bitOr i j)) (xO eG K (cA K (ao 0) "passed") (ao 1)) (eC c.eQ "ahead_of_ended" (ku K c) [] E0 (cA K (ao 0) "marks") (aq (ao 3) aR))) (bw 4)) (xP K c))
def xX(K:Frag)(c:Cl):TS:=
 (bO (dN (hJ (mZ λi j=>.int (Builtin.bitOr i j)) (hJ (mZ λi j=>.int (Builtin.bitOr i j)) (xO eG K (cA K (ao 0) "reached") (ao 1)) (eC c.aV "stepped" (g6 K c) [] E0 (ao 0) (aq (tC (.ref c.dW)) (aq (ao 1) aR)))) (eC c.aV "stepped" (g6 K c) [] E0 (ao 0) (aq (ao 1) (aq (tC (.ref c.dW)) aR)))) (bw 3)) (yC K c))
def tV(K:Frag)(c:Cl):TS:=
 (bO (dN (tC (.bl true)) (bw 2)) (KD (tB (ao 2)) (xX K c)))
theorem AX(a:eI P w K mg base c.aV "stepped" ["self","first","last"] 1 (g6 K c))(b:eI P w K mg base c.eQ "ahead_of_ended" ["self","marks"] 2 (ku K c)):
 Tm P w K mg base ["self","piece","grown","reached","passed"] "Covering.settle" me 2 (tV K c):=λf g A e s H E d=>
 (aw (bz 2 jj.nd LV)
 (aH (Gw bJ (kq (pv 2)) (aw (bz 3 jj.nd (eH Aa (eH Aa (qT (F:=eG) d.units (aU (pv 0) rfl) (pv 1) (λ_ _=>rfl)) (dE (pv 0) a d (ae (Dv rfl T.qu) (ae (pv 1) ax)))) (dE (pv 0) a d (ae (pv 1) (ae (Dv rfl T.qu) ax)))))
 (aw (bz 4 jj.nd (eH Aa (qT (F:=eG) d.units (aU (pv 0) rfl) (pv 1) (λ_ _=>rfl)) (dE (aU (pv 0) rfl) b d (ae (pv 3) ax))))
 (aw (bz 2 jj.nd (W7 (m6 L6 (pv 3) (qT (F:=eG) d.units (aU (pv 0) rfl) (pv 1) (λ_ _=>rfl)) (iR _)) (F_ (m6 L6 (pv 4) (qT (F:=eG) d.units (aU (pv 0) rfl) (pv 1) (λ_ _=>rfl)) (iR _)))))
 (aw (zt (F:=eG) d.units (aU (pv 0) rfl) (pv 1) (pv 3) rfl)
 (aH (zt (F:=eG) d.units (aU (pv 0) rfl) (pv 1) (pv 4) rfl)))))))))
def pX(K:Frag)(c:Cl):TS:=
 (dC (hJ (mZ λi j=>.int (Builtin.bitAnd i j)) (xO eG K (cA K (ao 0) "reached") (ao 1)) (hJ (Hq K) (cA K (cA K (ao 0) "marks") "ends_of") (tC (.int 0)))))
theorem wB:
 Tm P w K mg base ["self","text"] "Covering.start_ends" jk 0 (pX K c):=λf b A a s H E d=>
 (aH (bE (eH wI (qT (F:=eG) d.units (aU (pv 0) rfl) (pv 1) (λ_ _=>rfl)) (mE sm (aU (aU (pv 0) rfl) rfl) (fq rfl T.sQ) (λ_ _=>rfl)))))
def oj(K:Frag)(c:Cl):TS:=
 (dC (hJ Y3 (eC c.aV "start_ends" (gN K c) [] E0 (ao 0) (aq (ao 1) aR)) (tC (.int 0))))
theorem uJ(a:eI P w K mg base c.aV "start_ends" ["self","text"] 1 (gN K c)):
 Tm P w K mg base ["self","text"] "Covering.covers_whole" iL 1 (oj K c):=λf d A b s H E e=>
 (aH (bE (m6 L6 (dE (pv 0) a e (ae (pv 1) ax)) bW (iR _))))
def zV(K:Frag)(c:Cl):TS:=
 (bO (Cs eG K (cA K (ao 0) "passed") (ao 1) (ZQ (o_ (hJ Uz (Bh (xm K) (aq (ao 1) aR)) (tC (.int 1)))) (eC c.eQ "ahead_of_byte" (kW K c) [] E0 (cA K (ao 0) "marks") (aq (hJ (Ba K) (ao 1) (tC (.int 0))) aR)) (tC (.int 0)))) (i_ (eC c.aV "settle" (gy K c) [] E0 (ao 0) (aq (ao 1) aR))))
def zM(K:Frag)(c:Cl):TS:=
 (bO (uM (U9 (aq (tC (.int 1)) (aq (Bh (xm K) (aq (ao 1) aR)) aR))) (bw 3) (dN (hJ (mZ λi j=>.int (Builtin.bitOr i j)) (ao 2) (eC c.aV "stepped" (g6 K c) [] E0 (ao 0) (aq (Us (Rg K) (ao 1) sf (vA (ao 3))) (aq (Us (Rg K) (ao 1) (vA (ao 3)) sf) aR)))) (bw 2))) (bO (Cs eG K (cA K (ao 0) "reached") (ao 1) (ao 2)) (zV K c)))
def ug(K:Frag)(c:Cl):TS:=
 (bO (k8 (tB (Zx eG K (ao 1) (cA K (ao 0) "reached"))) Xi g9) (bO (dN (tC (.int 0)) (bw 2)) (zM K c)))
theorem B0(b:eI P w K mg base c.aV "stepped" ["self","first","last"] 1 (g6 K c))(a:eI P w K mg base c.eQ "ahead_of_byte" ["self","byte"] 1 (kW K c))(d:eI P w K mg base c.aV "settle" ["self","piece"] 3 (gy K c)):
 Tm P w K mg base ["self","piece","reached","place"] "Covering.learn" mS 3 (ug K c):=λf h A g s H E e=>
 (aw (g8 (GY (YX (F:=eG) e.units (pv 1) (aU (pv 0) rfl)) (by with_unfolding_all rfl)) (aH WK) d8)
 (aw (bz 2 lW.nd bW)
 (aw (km bJ rfl (Ij (by rfl) T.pF (ae bW (ae (f_ d_ rfl T.pZ cE (ae (pv 1) ax)) ax))) (cu 3 lW.nd) (aH (bz 2 lW.nd (eH Aa (pv 2) (dE (pv 0) b e (ae (n_ B4 (pv 1) uz (oz (pv 3))) (ae (n_ B4 (pv 1) (oz (pv 3)) uz) ax)))))))
 (aw (zt (F:=eG) e.units (aU (pv 0) rfl) (pv 1) (pv 2) rfl)
 (aw (zt (F:=eG) e.units (aU (pv 0) rfl) (pv 1) (Fv (lY AA (f_ d_ rfl T.pZ cE (ae (pv 1) ax)) bW (iR _)) (dE (aU (pv 0) rfl) a e (ae (mE pK (pv 1) bW (λ_ _=>rfl)) ax)) bW) rfl)
 (aH (fL (dE (pv 0) d e (ae (pv 1) ax)))))))))
def AR(K:Frag)(c:Cl):TS:=
 (bO (mP K (ao 0) (Ky eG K (tC (.ref c.dW)) (tC (.int 0))) "passed") (i_ (eC c.aV "settle" (gy K c) [] E0 (ao 0) (aq (tC (.ref c.dW)) aR))))
def vj(K:Frag)(c:Cl):TS:=
 (bO (mP K (ao 0) (lu c.eQ (uK K c) [] E0 (aq (ao 1) aR)) "marks") (bO (mP K (ao 0) (Ky eG K (tC (.ref c.dW)) (cA K (cA K (ao 0) "marks") "firsts")) "reached") (AR K c)))
theorem Cy(b:lT P w K mg base "Marks" c.eQ ["self","grammar"] 2 (uK K c))(a:eI P w K mg base c.aV "settle" ["self","piece"] 3 (gy K c)):
 Tm P w K mg base ["self","grammar"] "Covering.__init__" oy 3 (vj K c):=λf g A e s H E d=>
 (aw (gg (pv 0) (gI b d (ae (pv 1) ax)) rfl)
 (aw (gg (pv 0) (IW (F:=eG) d.units (Dv rfl T.qu) (aU (aU (pv 0) rfl) rfl)) rfl)
 (aw (gg (pv 0) (IW (F:=eG) d.units (Dv rfl T.qu) bW) rfl)
 (aH (fL (dE (pv 0) a d (ae (Dv rfl T.qu) ax)))))))
def D_(K:Frag)(c:Cl):TS:=
 (uM (Gq (aq (hJ (mZ λi j=>.int (i+j)) (hJ (mZ λi j=>.int (i-j)) (Bh (xm K) (aq (ao 1) aR)) (ao 3)) (tC (.int 1))) aR)) (bw 4) (i_ (eC c.aV "learn" (gj K c) [] E0 (ao 2) (aq (Us (Rg K) (ao 1) (vA (ao 4)) (vA (hJ (mZ λi j=>.int (i+j)) (ao 4) (ao 3)))) aR))))
def Ej(K:Frag)(c:Cl):TS:=
 (bO (uM (U9 (aq (tC (.int 1)) (aq (hJ (mZ λi j=>.int (i+j)) (Bh (xm K) (aq (ao 1) aR)) (tC (.int 1))) aR))) (bw 3) (D_ K c)) (dC (eC c.aV "covers_whole" (fD K c) [] E0 (ao 2) (aq (ao 1) aR))))
def zX(K:Frag)(c:Cl):TS:=
 (bO (dN (lu c.aV (f7 K c) [] E0 (aq (ao 0) aR)) (bw 2)) (Ej K c))
theorem Hu(d:lT P w K mg base "Covering" c.aV ["self","grammar"] 4 (f7 K c))(b:eI P w K mg base c.aV "learn" ["self","piece"] 4 (gj K c))(a:eI P w K mg base c.aV "covers_whole" ["self","text"] 2 (fD K c)):
 Tm P w K mg base ["grammar","text","covering","size","begin"] "reads_text" si 5 (zX K c):=λf h A e s H E g=>
 (aw (bz 2 qS.nd (gI d g (ae (pv 0) ax)))
 (aw (km bJ rfl (Ij (by rfl) T.pF (ae bW (ae (eH pz (f_ d_ rfl T.pZ cE (ae (pv 1) ax)) bW) ax))) (cu 3 qS.nd) (aH (km bJ rfl (sW (by rfl) T.pF (ae (eH pz (eH O5 (f_ d_ rfl T.pZ cE (ae (pv 1) ax)) (pv 3)) bW) ax)) (cu 4 qS.nd) (aH (fL (dE (pv 2) b g (ae (n_ B4 (pv 1) (oz (pv 4)) (oz (eH pz (pv 4) (pv 3)))) ax)))))))
 (aH (bE (dE (pv 2) a g (ae (pv 1) ax))))))
end
section
variable{P:Program}{w:World}{K:Frag}{mg:Str->Option Value}{base:Heap}{c:Cl}(T:Txt K mg c)
include T
def BZ(K:Frag)(c:Cl):TS:=
 (bO (uM (m9 K (cA K (ao 1) "rules")) (bw 3) (Cs KS K (ao 2) (ao 3) (tC (.bl true)))) (dC (Jt (Va K (aq (cA K (ao 0) "rules") aR)) (A4 K 2 (ju (bw 4) (ju (bw 3) AL))) (tB (P7 KS K (ao 3) (ao 2))) (ao 4) [4,3])))
def wO(K:Frag)(c:Cl):TS:=
 (bO (dN (Tx KS) (bw 2)) (BZ K c))
theorem Ea:
 Tm P w K mg base ["grammar","other","theirs","rule","number"] "rules_not_in" mH 0 (wO K c):=λf d A a s H E b=>
 (aw (bz 2 jF.nd (Pe (F:=KS)))
 (aw (km bJ rfl (il (aU (pv 1) rfl)) (cu 3 jF.nd) (aH (zt (F:=KS) b.units (pv 2) (pv 3) LV rfl)))
 (aH (bE (yA rfl jF.nd (PB (by rfl) T.yl (ae (aU (pv 0) rfl) ax)) (iX (own:=[("number",4),("rule",3)]) (by show xF ["grammar","other","theirs","rule","number"] (aI mH) _ _=true;decide+kernel)) (λ_ _ _ _ _=>(qA rfl (eW (cu 4 jF.nd) (eW (cu 3 jF.nd) mW)))) (λ_ _ _ _ _=>(y_ (GY (Rm (F:=KS) b.units (pv 3) (pv 2)) (by with_unfolding_all rfl)))) (λ_ _ _ _ _=>(pv 4)))))))
def z_(K:Frag)(c:Cl):TS:=
 (dC (Qg (ao 0) (Xz (ao 1))))
theorem Hv:
 Tm P w K mg base ["left_reads","right_reads"] "left_alone" sJ 0 (z_ K c):=λf b A a s H E d=>
 (aH (bE (Ov (pv 0) (F_ (XD (pv 1))))))
def Dq(K:Frag)(c:Cl):TS:=
 (dC (hJ Y3 (ao 0) (ao 1)))
theorem Lm:
 Tm P w K mg base ["left_reads","right_reads"] "just_one" wh 0 (Dq K c):=λf b A a s H E d=>
 (aH (bE (m6 L6 (pv 0) (pv 1) (iR _))))
def r_(K:Frag)(c:Cl)(Fs:Addr->Sp->Prop):TS:=
 (bO (dN (lu c.aV (f7 K c) [] E0 (aq (ao 0) aR)) (bw 4))
 (bO (dN (lu c.aV (f7 K c) [] E0 (aq (ao 1) aR)) (bw 5))
 (bO (uM (m9 K (ao 2)) (bw 6) (bO (i_ (eC c.aV "learn" (gj K c) [] E0 (ao 4) (aq (ao 6) aR)))
 (bO (i_ (eC c.aV "learn" (gj K c) [] E0 (ao 5) (aq (ao 6) aR)))
 (k8 (tB (O1 Fs 3 (aq (eC c.aV "covers_whole" (fD K c) [] E0 (ao 4) (aq (ao 6) aR)) (aq (eC c.aV "covers_whole" (fD K c) [] E0 (ao 5) (aq (ao 6) aR)) aR)))) (dC (ao 6)) g9))))
 (dC (tC .non)))))
theorem zF{Fs:Addr->Sp->Prop}(e:Qz P w K mg base 1 Fs)(d:lT P w K mg base "Covering" c.aV ["self","grammar"] 4 (f7 K c))(b:eI P w K mg base c.aV "learn" ["self","piece"] 4 (gj K c))(a:eI P w K mg base c.aV "covers_whole" ["self","text"] 2 (fD K c)):
 Tm P w K mg base ["left","right","texts","differs","by_left","by_right","text"] "first_difference" kY 5 (r_ K c Fs):=λf j A h s H E g=>
 (aw (bz 4 j4.nd (gI d g (ae (pv 0) ax)))
 (aw (bz 5 j4.nd (gI d g (ae (pv 1) ax)))
 (aw (km bJ rfl (il (pv 2)) (cu 6 j4.nd) (aw (fL (dE (pv 4) b g (ae (pv 6) ax)))
 (aw (fL (dE (pv 5) b g (ae (pv 6) ax)))
 (aH (g8 (kq (LK (i:=3) e (g.mono (by decide)) (ae (dE (pv 4) a g (ae (pv 6) ax)) (ae (dE (pv 5) a g (ae (pv 6) ax)) ax)))) (aH (bE (pv 6))) d8)))))
 (aH (bE JO)))))
def BY(K:Frag)(c:Cl):TS:=
 (dC (lu c.Grammar (cz K c) [] E0 (aq (cA K (ao 0) "nonterminals") (aq (hJ xK (cA K (ao 0) "rules") (gR (aq (ao 1) aR))) aR))))
theorem KY(a:lT P w K mg base "Grammar" c.Grammar ["self","nonterminals","rules"] 1 (cz K c)):
 Tm P w K mg base ["left","rule"] "with_rule" uD 2 (BY K c):=λf d A b s H E e=>
 (aH (bE (gI a e (ae (aU (pv 0) rfl) (ae (eH oJ (aU (pv 0) rfl) (c_ (ae (pv 1) ax))) ax)))))
def wL(K:Frag)(c:Cl):TS:=
 (bO (mP K (ao 0) (hJ (Hq K) (cA K (ao 0) "before") (tC (.int 0))) "left")
 (mP K (ao 0) (Us (R5 K) (cA K (ao 0) "before") (vA (tC (.int 1))) sf) "before"))
theorem Ei:
 Tm P w K mg base ["self"] "Pair.go_back" pA 0 (wL K c):=λf b A a s H E d=>
 (aw (gg (pv 0) (mE sm (aU (pv 0) rfl) bW (λ_ _=>rfl)) rfl)
 (aH (gg (pv 0) (n_ Cf (aU (pv 0) rfl) (oz bW) uz) rfl)))
def rm(K:Frag)(c:Cl):TS:=
 (bO (dN (cA K (ao 0) "left") (bw 1))
 (bO (i_ (eC c.Pair "become_left" (iW K c) [] E0 (ao 0) (aq (cA K (ao 0) "right") aR)))
 (mP K (ao 0) (ao 1) "right")))
theorem xu(a:eI P w K mg base c.Pair "become_left" ["self","grammar"] 1 (iW K c)):
 Tm P w K mg base ["self","was_left"] "Pair.change_sides" j7 1 (rm K c):=λf d A b s H E e=>
 (aw (bz 1 rn.nd (aU (pv 0) rfl))
 (aw (fL (dE (pv 0) a e (ae (aU (pv 0) rfl) ax)))
 (aH (gg (pv 0) (pv 1) rfl))))
def xJ(K:Frag)(c:Cl):TS:=
 (bO (dN (lu c.bF (jU K c) [] E0 (aq (ao 0) aR)) (bw 2))
 (bO (dN (cM (pP K c) [] E0 (aq (ao 2) (aq (ao 1) aR))) (bw 3))
 (bO (k8 (tB (eC c.bF "is_done" (iG K c) [] E0 (ao 2) aR)) (dC (ao 3)) g9)
 (dC (tC .non)))))
theorem FP(b:lT P w K mg base "RowReader" c.bF ["self","row"] 1 (jU K c))(d:dI P w K mg base "read_rule" ["reader","nonterminals"] 3 (pP K c))(a:eI P w K mg base c.bF "is_done" ["self"] 1 (iG K c)):
 Tm P w K mg base ["row","nonterminals","reader","rule"] "rule_of_row" qN 3 (xJ K c):=λf h A e s H E g=>
 (aw (bz 2 tF.nd (gI b g (ae (pv 0) ax)))
 (aw (bz 3 tF.nd (bc d g (ae (pv 2) (ae (pv 1) ax))))
 (aw (g8 (kq (fQ (pv 2) a g)) (aH (bE (pv 3))) d8)
 (aH (bE JO)))))
def Gi(K:Frag)(c:Cl):TS:=
 (uM (m9 K (cA K (ao 2) "rules")) (A4 K 2 (ju (bw 3) (ju (bw 4) AL))) (i_ (NM K "list" zp (ao 1) (aq (Jt (TM K (ao 4)) (bw 5) (o_ (hJ Uz (hJ (Ba K) (ao 5) (tC (.int 0))) (tC (.int 1)))) (yK (aq (hJ (Ba K) (ao 5) (tC (.int 1))) (aq (hJ (Ba K) (ao 5) (tC (.int 2))) aR))) [5]) aR))))
def BC(K:Frag)(c:Cl):TS:=
 (bO (dN (gR aR) (bw 1)) (bO (uM (m9 K (ao 0)) (bw 2) (Gi K c)) (dC (ao 1))))
theorem KQ:
 Tm P w K mg base ["grammars","ranges","grammar","owner","symbols","symbol"] "ranges_of" rh 0 (BC K c):=λf b A a s H E d=>
 (aw (bz 1 k7.nd (c_ ax))
 (aw (km bJ rfl (il (pv 0)) (cu 2 k7.nd) (aH (km bJ rfl (il (aU (pv 2) rfl)) (qA rfl (eW (cu 3 k7.nd) (eW (cu 4 k7.nd) mW))) (aH (fL (ux bK eO eN vy (pv 1) (ae (yA rfl k7.nd (Ki (pv 4)) (iX (own:=[("symbol",5)]) (by show xF ["grammars","ranges","grammar","owner","symbols","symbol"] (aI rh) _ _=true;decide+kernel)) (λ_ _ _ _ _=>(cu 5 k7.nd)) (λ_ _ _ _ _=>(y_ (lY AA (mE pK (pv 5) bW (λ_ _=>rfl)) (fq rfl T.E6) (iR _)))) (λ_ _ _ _ _=>(nJ (ae (mE pK (pv 5) bW (λ_ _=>rfl)) (ae (mE pK (pv 5) bW (λ_ _=>rfl)) ax))))) ax)))))))
 (aH (bE (pv 1)))))
def D8(K:Frag)(c:Cl):TS:=
 (bO (dN (cM (wd K c) [] E0 (aq (ao 0) aR)) (bw 1))
 (bO (dN (hJ xK (Jt (m9 K (ao 1)) (A4 K 2 (ju (bw 2) (ju (bw 3) AL))) zR (ao 2) [2,3]) (Jt (m9 K (ao 1)) (A4 K 2 (ju (bw 2) (ju (bw 3) AL))) zR (hJ (mZ λi j=>.int (i+j)) (ao 3) (tC (.int 1))) [2,3])) (bw 4))
 (dC (Jt (m9 K (MZ K (ao 4))) (bw 5) (tB (Bh (Zb K) (aq (Jt (m9 K (ao 1)) (A4 K 2 (ju (bw 2) (ju (bw 3) AL))) zR (wH (mZ λi j=>.bl (decide (i<=j))) (mZ λi j=>.bl (decide (i<=j))) (ao 2) (ao 5) (ao 3)) [2,3]) aR))) (ao 5) [5]))))
theorem LJ(a:dI P w K mg base "ranges_of" ["grammars"] 1 (wd K c)):
 Tm P w K mg base ["grammars","ranges","lo","hi","cuts","cut"] "signs_of" oM 1 (D8 K c):=λf d A b s H E e=>
 (aw (bz 1 gk.nd (bc a e (ae (pv 0) ax)))
 (aw (bz 4 gk.nd (eH oJ (yA rfl gk.nd (il (pv 1)) (iX (own:=[("lo",2),("hi",3)]) (by show xF ["grammars","ranges","lo","hi","cuts","cut"] (aI oM) _ _=true;decide+kernel)) (λ_ _ _ _ _=>(qA rfl (eW (cu 2 gk.nd) (eW (cu 3 gk.nd) mW)))) (λ_ _ _ _ _=>qI) (λ_ _ _ _ _=>(pv 2))) (yA rfl gk.nd (il (pv 1)) (iX (own:=[("lo",2),("hi",3)]) (by show xF ["grammars","ranges","lo","hi","cuts","cut"] (aI oM) _ _=true;decide+kernel)) (λ_ _ _ _ _=>(qA rfl (eW (cu 2 gk.nd) (eW (cu 3 gk.nd) mW)))) (λ_ _ _ _ _=>qI) (λ_ _ _ _ _=>(eH pz (pv 3) bW)))))
 (aH (bE (yA rfl gk.nd (il (Oc (by rfl) (by rfl) T.GN (by rfl) T.Xx (pv 4))) (iX (own:=[("cut",5)]) (by show xF ["grammars","ranges","lo","hi","cuts","cut"] (aI oM) _ _=true;decide+kernel)) (λ_ _ _ _ _=>(cu 5 gk.nd)) (λ_ _ _ _ _=>(y_ (kq (f_ (YC rfl) rfl T.W8 PyProof.Rows.boot_any (ae (yA rfl gk.nd (il (pv 1)) (iX (own:=[("lo",2),("hi",3)]) (by rfl)) (λ_ _ _ _ _=>(qA rfl (eW (cu 2 gk.nd) (eW (cu 3 gk.nd) mW)))) (λ_ _ _ _ _=>qI) (λ_ _ _ _ _=>(FD wX wX (pv 2) (pv 5) (pv 3)))) ax))))) (λ_ _ _ _ _=>(pv 5)))))))
def wQ(K:Frag)(c:Cl):TS:=
 (bO (dN (tC (.int 0)) (bw 2))
 (bO (dN (tC (.int 1)) (bw 3))
 (bO (uM (Gq (aq (hJ (mZ λi j=>.int (i+j)) (ao 1) (tC (.int 1))) aR)) (bw 4) (bO (ZG 2 (ao 3) (ipI λi j=>i+j))
 (dN (hJ (rI WS λi j=>.int (i*j)) (ao 3) (Bh (xm K) (aq (ao 0) aR))) (bw 3))))
 (dC (hJ (mZ λi j=>.bl (decide (j<i))) (ao 2) (tC (.int 300)))))))
theorem Ew:
 Tm P w K mg base ["signs","most","texts","longest","size"] "are_too_many" pN 0 (wQ K c):=λf b A a s H E d=>
 (aw (bz 2 jE.nd bW)
 (aw (bz 3 jE.nd bW)
 (aw (km bJ rfl (sW (by rfl) T.pF (ae (eH pz (pv 1) bW) ax)) (cu 4 jE.nd) (aw (YN (i:=2) jE.nd rfl (Or.inl rfl) (pv 3) Yu)
 (aH (bz 3 jE.nd (eH XE (pv 3) (f_ d_ rfl T.pZ cE (ae (pv 0) ax)))))))
 (aH (bE (m6 QO (pv 2) (fq rfl T.Bw) (iR _)))))))
def Hy(K:Frag)(c:Cl):TS:=
 (bO (uM (m9 K (ao 3)) (bw 6) (i_ (NM K "list" zp (ao 5) (aq (Jt (m9 K (ao 0)) (bw 7) zR (hJ (Xc K) (ao 6) (yK (aq (ao 7) aR))) [7]) aR)))) (bO (dN (ao 5) (bw 3)) (i_ (NM K "list" zp (ao 2) (aq (ao 3) aR)))))
def HJ(K:Frag)(c:Cl):TS:=
 (bO (dN (gR (aq (yK aR) aR)) (bw 3)) (bO (uM (Gq (aq (ao 1) aR)) (bw 4) (bO (dN (gR aR) (bw 5)) (Hy K c))) (dC (ao 2))))
def DA(K:Frag)(c:Cl):TS:=
 (bO (dN (gR (aq (yK aR) aR)) (bw 2)) (HJ K c))
theorem Mz:
 Tm P w K mg base ["signs","most","texts","longest","size","longer","text","sign"] "texts_of" tS 0 (DA K c):=λf b A a s H E d=>
 (aw (bz 2 jT.nd (c_ (ae (nJ ax) ax)))
 (aw (bz 3 jT.nd (c_ (ae (nJ ax) ax)))
 (aw (km bJ rfl (sW (by rfl) T.pF (ae (pv 1) ax)) (cu 4 jT.nd) (aw (bz 5 jT.nd (c_ ax))
 (aw (km bJ rfl (il (pv 3)) (cu 6 jT.nd) (aH (fL (ux bK eO eN vy (pv 5) (ae (yA rfl jT.nd (il (pv 0)) (iX (own:=[("sign",7)]) (by show xF ["signs","most","texts","longest","size","longer","text","sign"] (aI tS) _ _=true;decide+kernel)) (λ_ _ _ _ _=>(cu 7 jT.nd)) (λ_ _ _ _ _=>qI) (λ_ _ _ _ _=>(eH Wx (pv 6) (nJ (ae (pv 7) ax))))) ax)))))
 (aw (bz 3 jT.nd (pv 5))
 (aH (fL (ux bK eO eN vy (pv 2) (ae (pv 3) ax))))))))
 (aH (bE (pv 2))))))
end
section
variable{P:Program}{w:World}{K:Frag}{mg:Str->Option Value}{base:Heap}{c:Cl}(T:Txt K mg c)
include T
def Ab(K:Frag)(c:Cl):TS:=
 (bO (mP K (ao 0) (lu c.aV (f7 K c) [] E0 (aq (ao 1) aR)) "covering")
 (bO (mP K (ao 0) (Tx eG) "standing")
 (bO (mP K (ao 0) (gR aR) "waiting")
 (mP K (ao 0) (tC (.int 0)) "used"))))
theorem HV(a:lT P w K mg base "Covering" c.aV ["self","grammar"] 4 (f7 K c)):
 Tm P w K mg base ["self","grammar"] "Using.__init__" sL 5 (Ab K c):=λf d A b s H E e=>
 (aw (gg (pv 0) (gI a e (ae (pv 1) ax)) rfl)
 (aw (gg (pv 0) (Pe (F:=eG)) rfl)
 (aw (gg (pv 0) (c_ ax) rfl)
 (aH (gg (pv 0) bW rfl)))))
def CB(K:Frag)(c:Cl):TS:=
 (bO (mP K (ao 0) (hJ (mZ λi j=>.int (Builtin.bitOr i j)) (cA K (ao 0) "used") (ao 4)) "used") (i_ (NM K "list" sF (cA K (ao 0) "waiting") (aq (yK (aq (ao 1) (aq (ao 4) aR))) aR))))
def C8(K:Frag)(c:Cl):TS:=
 (k8 (λb H Q=>(ao 4) b H λx a=>∃k,G_ K x a k/\Q k a) (bO (Cs eG K (cA K (ao 0) "standing") (ao 1) (hJ (mZ λi j=>.int (Builtin.bitOr i j)) (ao 3) (ao 4))) (CB K c)) g9)
def xR(K:Frag)(c:Cl):TS:=
 (bO (dN (Sw eG K (cA K (ao 0) "standing") (ao 1) (tC (.int 0))) (bw 3)) (bO (dN (hJ (mZ λi j=>.int (Builtin.bitAnd i j)) (ao 2) (Z6 (rU λi=>.int (Builtin.bitNot i)) (ao 3))) (bw 4)) (C8 K c)))
theorem Hh:
 Tm P w K mg base ["self","piece","marks","known","new"] "Using.stand" qR 0 (xR K c):=λf d A a s H E b=>
 (aw (bz 3 tf.nd (SK (F:=eG) b.units (aU (pv 0) rfl) (pv 1) bW ⟨rfl,rfl,rfl,rfl⟩))
 (aw (bz 4 tf.nd (eH wI (pv 2) (Xn Uh (pv 3))))
 (aH (g8 (tO (pv 4) (λ_=>rfl)) (aw (zt (F:=eG) b.units (aU (pv 0) rfl) (pv 1) (eH Aa (pv 3) (pv 4)) rfl)
 (aw (gg (pv 0) (eH Aa (aU (pv 0) rfl) (pv 4)) rfl)
 (aH (fL (ux bK dn dk oQ (aU (pv 0) rfl) (ae (nJ (ae (pv 1) (ae (pv 4) ax))) ax)))))) d8))))
def By(K:Frag)(c:Cl):TS:=
 (bO (dN (eC c.eQ "ends_of_next" (lP K c) [] E0 (cA K (cA K (ao 0) "covering") "marks") (aq (ao 6) aR)) (bw 7)) (i_ (eC c.fH "stand" (kf K c) [] E0 (ao 0) (aq (ao 5) (aq (hJ (mZ λi j=>.int (Builtin.bitAnd i j)) (ao 7) (xO eG K (cA K (cA K (ao 0) "covering") "reached") (ao 5))) aR)))))
def Bp(K:Frag)(c:Cl):TS:=
 (k8 (λb H Q=>(ao 6) b H λx a=>∃k,G_ K x a k/\Q k a) (bO (i_ (eC c.fH "stand" (kf K c) [] E0 (ao 0) (aq (ao 4) (aq (ao 6) aR)))) (By K c)) g9)
def Cm(K:Frag)(c:Cl):TS:=
 (bO (dN (hJ (mZ λi j=>.int (Builtin.bitAnd i j)) (hJ (mZ λi j=>.int (Builtin.bitAnd i j)) (hJ (rI (λ_ j=>0<=j) λi j=>.int (i/2^j.toNat)) (ao 2) (tC (.int 1))) (xO eG K (cA K (cA K (ao 0) "covering") "reached") (ao 4))) (xO eG K (cA K (cA K (ao 0) "covering") "passed") (ao 5))) (bw 6)) (Bp K c))
def BS(K:Frag)(c:Cl):TS:=
 (bO (dN (Us (Rg K) (ao 1) sf (vA (ao 3))) (bw 4)) (bO (dN (Us (Rg K) (ao 1) (vA (ao 3)) sf) (bw 5)) (Cm K c)))
def wN(K:Frag)(c:Cl):TS:=
 (uM (Gq (aq (hJ (mZ λi j=>.int (i+j)) (Bh (xm K) (aq (ao 1) aR)) (tC (.int 1))) aR)) (bw 3) (BS K c))
theorem EH(b:eI P w K mg base c.fH "stand" ["self","piece","marks"] 1 (kf K c))(a:eI P w K mg base c.eQ "ends_of_next" ["self","marks"] 2 (lP K c)):
 Tm P w K mg base ["self","piece","marks","place","first","last","back","ends"] "Using.follow" pV 2 (wN K c):=λf g A e s H E d=>
 (aH (km bJ rfl (sW (by rfl) T.pF (ae (eH pz (f_ d_ rfl T.pZ cE (ae (pv 1) ax)) bW) ax)) (cu 3 jH.nd) (aw (bz 4 jH.nd (n_ B4 (pv 1) uz (oz (pv 3))))
 (aw (bz 5 jH.nd (n_ B4 (pv 1) (oz (pv 3)) uz))
 (aw (bz 6 jH.nd (eH wI (eH wI (eH XF (pv 2) bW) (qT (F:=eG) d.units (aU (aU (pv 0) rfl) rfl) (pv 4) (λ_ _=>rfl))) (qT (F:=eG) d.units (aU (aU (pv 0) rfl) rfl) (pv 5) (λ_ _=>rfl))))
 (aH (g8 (tO (pv 6) (λ_=>rfl)) (aw (fL (dE (pv 0) b d (ae (pv 4) (ae (pv 6) ax))))
 (aw (bz 7 jH.nd (dE (aU (aU (pv 0) rfl) rfl) a d (ae (pv 6) ax)))
 (aH (fL (dE (pv 0) b d (ae (pv 5) (ae (eH wI (pv 7) (qT (F:=eG) d.units (aU (aU (pv 0) rfl) rfl) (pv 5) (λ_ _=>rfl))) ax))))))) d8)))))))
def sT(K:Frag)(c:Cl):TS:=
 (bO (dN (ZD K "list" ZC (cA K (ao 0) "waiting")) (bw 3)) (i_ (eC c.fH "follow" (rM K c) [] E0 (ao 0) (aq (hJ (Ba K) (ao 3) (tC (.int 0))) (aq (hJ (Ba K) (ao 3) (tC (.int 1))) aR)))))
def sI(K:Frag)(c:Cl):TS:=
 (bO (dN (hJ (mZ λi j=>.int (Builtin.bitAnd i j)) (cA K (ao 0) "used") (Z6 (rU λi=>.int (Builtin.bitNot i)) (ao 2))) (bw 4)) (dC (Jt (Va K (aq (cA K (cA K (cA K (ao 0) "covering") "marks") "rule_ends") aR)) (A4 K 2 (ju (bw 5) (ju (bw 6) AL))) (λb H Q=>(hJ (mZ λi j=>.int (Builtin.bitAnd i j)) (ao 4) (ao 6)) b H λx a=>∃k,G_ K x a k/\Q k a) (ao 5) [5,6])))
def sG(K:Frag)(c:Cl):TS:=
 (bO (KD (λb H Q=>(cA K (ao 0) "waiting") b H λx a=>∃k,G_ K x a k/\Q k a) (sT K c)) (sI K c))
def su(K:Frag)(c:Cl):TS:=
 (bO (i_ (eC c.fH "stand" (kf K c) [] E0 (ao 0) (aq (ao 1) (aq (eC c.aV "start_ends" (gN K c) [] E0 (cA K (ao 0) "covering") (aq (ao 1) aR)) aR)))) (sG K c))
def m8(K:Frag)(c:Cl):TS:=
 (bO (dN (cA K (ao 0) "used") (bw 2)) (bO (i_ (eC c.aV "learn" (gj K c) [] E0 (cA K (ao 0) "covering") (aq (ao 1) aR))) (su K c)))
theorem tW(b:eI P w K mg base c.aV "learn" ["self","piece"] 4 (gj K c))(e:eI P w K mg base c.fH "stand" ["self","piece","marks"] 1 (kf K c))(a:eI P w K mg base c.aV "start_ends" ["self","text"] 1 (gN K c))(d:eI P w K mg base c.fH "follow" ["self","piece","marks"] 3 (rM K c)):
 Tm P w K mg base ["self","text","used_before","waited","new","rule","end"] "Using.rules_first_used" gv 4 (m8 K c):=λf i A h s H E g=>
 (aw (bz 2 eB.nd (aU (pv 0) rfl))
 (aw (fL (dE (aU (pv 0) rfl) b g (ae (pv 1) ax)))
 (aw (fL (dE (pv 0) e g (ae (pv 1) (ae (dE (aU (pv 0) rfl) a g (ae (pv 1) ax)) ax))))
 (aw (Gw bJ (tO (aU (pv 0) rfl) (λ_=>rfl)) (aw (bz 3 eB.nd (YO bK PySem.F.slot_list_pop PySem.F.type_list_pop YR (aU (pv 0) rfl)))
 (aH (fL (dE (pv 0) d g (ae (mE pK (pv 3) bW (λ_ _=>rfl)) (ae (mE pK (pv 3) bW (λ_ _=>rfl)) ax)))))))
 (aw (bz 4 eB.nd (eH wI (aU (pv 0) rfl) (Xn Uh (pv 2))))
 (aH (bE (yA rfl eB.nd (PB (by rfl) T.yl (ae (aU (aU (aU (pv 0) rfl) rfl) rfl) ax)) (iX (own:=[("rule",5),("end",6)]) (by show xF ["self","text","used_before","waited","new","rule","end"] (aI gv) _ _=true;decide+kernel)) (λ_ _ _ _ _=>(qA rfl (eW (cu 5 eB.nd) (eW (cu 6 eB.nd) mW)))) (λ_ _ _ _ _=>(y_ (tO (eH wI (pv 4) (pv 6)) (λ_=>rfl)))) (λ_ _ _ _ _=>(pv 5))))))))))
def Es(K:Frag)(c:Cl):TS:=
 (k8 (λb H Q=>(ao 5) b H λx a=>∃k,G_ K x a k/\Q k a) (i_ (NM K "list" sF (ao 3) (aq (yK (aq (ao 4) (aq (ao 5) aR))) aR))) g9)
def EF(K:Frag)(c:Cl):TS:=
 (bO (uM (m9 K (ao 1)) (bw 4) (bO (dN (eC c.fH "rules_first_used" (fe K c) [] E0 (ao 2) (aq (ao 4) aR)) (bw 5)) (Es K c))) (dC (ao 3)))
def Au(K:Frag)(c:Cl):TS:=
 (bO (dN (lu c.fH (lL K c) [] E0 (aq (ao 0) aR)) (bw 2)) (bO (dN (gR aR) (bw 3)) (EF K c)))
theorem HU(b:lT P w K mg base "Using" c.fH ["self","grammar"] 6 (lL K c))(a:eI P w K mg base c.fH "rules_first_used" ["self","text"] 5 (fe K c)):
 Tm P w K mg base ["grammar","texts","using","uses","text","rules"] "first_uses" sx 7 (Au K c):=λf g A d s H E e=>
 (aw (bz 2 nV.nd (gI b e (ae (pv 0) ax)))
 (aw (bz 3 nV.nd (c_ ax))
 (aw (km bJ rfl (il (pv 1)) (cu 4 nV.nd) (aw (bz 5 nV.nd (dE (pv 2) a e (ae (pv 4) ax)))
 (aH (g8 (tO (pv 5) (λ_=>rfl)) (aH (fL (ux bK dn dk oQ (pv 3) (ae (nJ (ae (pv 4) (ae (pv 5) ax))) ax)))) d8))))
 (aH (bE (pv 3))))))
def xc(K:Frag)(c:Cl):TS:=
 (k8 (o_ (hJ (Z4 K false) (ao 1) (eC c.fH "rules_first_used" (fe K c) [] E0 (ao 3) (aq (ao 4) aR)))) (dC (ao 4)) g9)
def r8(K:Frag)(c:Cl):TS:=
 (bO (dN (lu c.fH (lL K c) [] E0 (aq (ao 0) aR)) (bw 3)) (bO (uM (m9 K (ao 2)) (bw 4) (xc K c)) (dC (tC .non))))
theorem zO(b:lT P w K mg base "Using" c.fH ["self","grammar"] 6 (lL K c))(a:eI P w K mg base c.fH "rules_first_used" ["self","text"] 5 (fe K c)):
 Tm P w K mg base ["grammar","rule","texts","using","text"] "first_text_using" kN 7 (r8 K c):=λf g A d s H E e=>
 (aw (bz 3 nH.nd (gI b e (ae (pv 0) ax)))
 (aw (km bJ rfl (il (pv 2)) (cu 4 nH.nd) (aH (g8 (lY Iq (pv 1) (dE (pv 3) a e (ae (pv 4) ax)) (by with_unfolding_all rfl)) (aH (bE (pv 4))) d8)))
 (aH (bE JO))))
end
section
variable{P:Program}{w:World}{K:Frag}{mg:Str->Option Value}{base:Heap}{c:Cl}(T:Txt K mg c)
include T
def UY(K:Frag)(c:Cl):TS:=
 (bO (k8 (tB (Wz (ao 3))) (dC (gR (aq (tC (.int (-2))) aR))) g9) (dC (cM (dF K c) [] E0 (aq (ao 0) (aq (cM (vX K c) [] E0 (aq (cA K (ao 0) "left") (aq (ao 3) aR))) aR)))))
def Sy(K:Frag)(c:Cl):TS:=
 (bO (k8 (tB (cM (gT K c) [] E0 (aq (ao 2) aR))) (dC (gR (aq (tC (.int (-1))) aR))) g9) (bO (dN (cM (tu K c) [] E0 (aq (ao 2) (aq (cA K (cA K (ao 0) "left") "nonterminals") aR))) (bw 3)) (UY K c)))
def UJ(K:Frag)(c:Cl):TS:=
 (bO (dN (eC c.aL "take_row" (dQ K c) [] E0 (ao 1) aR) (bw 2)) (Sy K c))
theorem YF(a:eI P w K mg base c.aL "take_row" ["self"] 2 (dQ K c))(b:dI P w K mg base "has_below_zero" ["row"] 1 (gT K c))(d:dI P w K mg base "rule_of_row" ["row","nonterminals"] 4 (tu K c))(e:dI P w K mg base "make_left" ["pair","grammar"] 2 (dF K c))(g:dI P w K mg base "with_rule" ["left","rule"] 3 (vX K c)):
 Tm P w K mg base ["pair","reader","row","rule"] "add" Qh 4 (UJ K c):=λf j A i s H E h=>
 (aw (bz 2 Pb.nd (fQ (pv 1) a h))
 (aw (g8 (kq (bc b h (ae (pv 2) ax))) (aH (bE (c_ (ae (fq rfl T.sP) ax)))) d8)
 (aw (bz 3 Pb.nd (bc d h (ae (pv 2) (ae (aU (aU (pv 0) rfl) rfl) ax))))
 (aw (g8 (GY (N1 (pv 3))) (aH (bE (c_ (ae (fq rfl T.Jd) ax)))) d8)
 (aH (bE (bc e h (ae (pv 0) (ae (bc g h (ae (aU (pv 0) rfl) (ae (pv 3) ax))) ax)))))))))
def QK(K:Frag)(c:Cl):TS:=
 (bO (k8 (EI (λb H Q=>(cA K (ao 0) "before") b H λx a=>∃k,G_ K x a k/\Q k a)) (dC (gR (aq (tC (.int (-11))) aR))) g9)
 (bO (i_ (eC c.Pair "go_back" (rK K c) [] E0 (ao 0) aR))
 (dC (cM (gX K c) [] E0 (aq (cA K (ao 0) "left") aR)))))
theorem V7(a:eI P w K mg base c.Pair "go_back" ["self"] 1 (rK K c))(b:dI P w K mg base "size_answer" ["grammar"] 1 (gX K c)):
 Tm P w K mg base ["pair","reader"] "undo" Ko 1 (QK K c):=λf g A d s H E e=>
 (aw (g8 (tE (tO (aU (pv 0) rfl) (λ_=>rfl))) (aH (bE (c_ (ae (fq rfl T.Ax) ax)))) d8)
 (aw (fL (fQ (pv 0) a e))
 (aH (bE (bc b e (ae (aU (pv 0) rfl) ax))))))
def Pu(K:Frag)(c:Cl):TS:=
 (bO (i_ (eC c.Pair "change_sides" (mC K c) [] E0 (ao 0) aR))
 (dC (cM (gX K c) [] E0 (aq (cA K (ao 0) "left") aR))))
theorem Wk(a:eI P w K mg base c.Pair "change_sides" ["self"] 2 (mC K c))(b:dI P w K mg base "size_answer" ["grammar"] 1 (gX K c)):
 Tm P w K mg base ["pair","reader"] "swap" K2 2 (Pu K c):=λf g A d s H E e=>
 (aw (fL (fQ (pv 0) a e))
 (aH (bE (bc b e (ae (aU (pv 0) rfl) ax)))))
def Ox(K:Frag)(c:Cl):TS:=
 (bO (k8 (EI (tB (cM (oB K c) [] E0 (aq (ao 2) aR)))) (dC (gR (aq (tC (.int (-5))) aR))) g9) (dC (gR (aq (tC (.int 0)) (aq (ZQ (tB (cM (uF K c) [] E0 (aq (cM (nU K c) [] E0 (aq (ao 0) (aq (ao 2) aR))) (aq (Bh (B9 K) (aq (ao 3) aR)) aR)))) (tC (.int 1)) (tC (.int 0))) aR)))))
def OK(K:Frag)(c:Cl):TS:=
 (bO (k8 (o_ (hJ (mZ λi j=>.bl (decide (j<i))) (Bh (xm K) (aq (ao 3) aR)) (tC (.int 24)))) (dC (gR (aq (tC (.int (-3))) aR))) g9) (Ox K c))
def OT(K:Frag)(c:Cl):TS:=
 (bO (k8 (EI (tB (Bh (Zk K) (aq (Jt (m9 K (ao 3)) (bw 4) zR (wH (mZ λi j=>.bl (decide (i<=j))) (mZ λi j=>.bl (decide (i<=j))) (tC (.int 0)) (ao 4) (tC (.int 255))) [4]) aR)))) (dC (gR (aq (tC (.int (-1))) aR))) g9) (OK K c))
def MV(K:Frag)(c:Cl):TS:=
 (bO (dN (eC c.aL "take_number" (a_ K c) [] E0 (ao 1) aR) (bw 2)) (bO (dN (eC c.aL "take_row" (dQ K c) [] E0 (ao 1) aR) (bw 3)) (OT K c)))
theorem T5(a:eI P w K mg base c.aL "take_number" ["self"] 1 (a_ K c))(b:eI P w K mg base c.aL "take_row" ["self"] 2 (dQ K c))(g:dI P w K mg base "is_side" ["number"] 1 (oB K c))(d:dI P w K mg base "reads_text" ["grammar","text"] 6 (uF K c))(e:dI P w K mg base "grammar_at" ["pair","side"] 1 (nU K c)):
 Tm P w K mg base ["pair","reader","side","text","byte"] "reads" Bq 6 (MV K c):=λf j A i s H E h=>
 (aw (bz 2 xx.nd (fQ (pv 1) a h))
 (aw (bz 3 xx.nd (fQ (pv 1) b h))
 (aw (g8 (tE (kq (f_ (YS rfl) rfl T.WZ PyProof.Rows.boot_all (ae (yA rfl xx.nd (il (pv 3)) (iX (own:=[("byte",4)]) (by show xF ["pair","reader","side","text","byte"] (aI Bq) _ _=true;decide+kernel)) (λ_ _ _ _ _=>(cu 4 xx.nd)) (λ_ _ _ _ _=>qI) (λ_ _ _ _ _=>(FD wX wX bW (pv 4) (fq rfl T.pJ)))) ax)))) (aH (bE (c_ (ae (fq rfl T.IU) ax)))) d8)
 (aw (g8 (lY QO (f_ d_ rfl T.pZ cE (ae (pv 3) ax)) (fq rfl T.BF) (iR _)) (aH (bE (c_ (ae (fq rfl T.FA) ax)))) d8)
 (aw (g8 (tE (kq (bc g h (ae (pv 2) ax)))) (aH (bE (c_ (ae (fq rfl T.pB) ax)))) d8)
 (aH (bE (c_ (ae bW (ae (Fv (kq (bc d h (ae (bc e h (ae (pv 0) (ae (pv 2) ax))) (ae (qD um rfl T.zh uE (ae (pv 3) ax)) ax)))) bW bW) ax))))))))))
def FX(K:Frag)(c:Cl):TS:=
 (dC (hJ xK (gR (aq (Bh (xm K) (aq (ao 0) aR)) aR)) (Bh (PU K) (aq (ao 0) aR))))
theorem N9:
 Tm P w K mg base ["numbers"] "counted" zx 0 (FX K c):=λf b A a s H E d=>
 (aH (bE (eH oJ (c_ (ae (f_ d_ rfl T.pZ cE (ae (pv 0) ax)) ax)) (qD Nb rfl T.JF jC (ae (pv 0) ax)))))
def GV(K:Frag)(c:Cl):TS:=
 (bO (dN (cM (ou K c) [] E0 (aq (cA K (ao 0) "left") (aq (cA K (ao 0) "right") aR))) (bw 2))
 (bO (dN (cM (ou K c) [] E0 (aq (cA K (ao 0) "right") (aq (cA K (ao 0) "left") aR))) (bw 3))
 (dC (hJ xK (hJ xK (gR (aq (tC (.int 0)) aR)) (cM (kT K c) [] E0 (aq (ao 2) aR))) (cM (kT K c) [] E0 (aq (ao 3) aR))))))
theorem NB(a:dI P w K mg base "rules_not_in" ["grammar","other"] 1 (ou K c))(b:dI P w K mg base "counted" ["numbers"] 1 (kT K c)):
 Tm P w K mg base ["pair","reader","of_left","of_right"] "changed" zr 1 (GV K c):=λf g A e s H E d=>
 (aw (bz 2 A_.nd (bc a d (ae (aU (pv 0) rfl) (ae (aU (pv 0) rfl) ax))))
 (aw (bz 3 A_.nd (bc a d (ae (aU (pv 0) rfl) (ae (aU (pv 0) rfl) ax))))
 (aH (bE (eH oJ (eH oJ (c_ (ae bW ax)) (bc b d (ae (pv 2) ax))) (bc b d (ae (pv 3) ax)))))))
def r9(K:Frag)(c:Cl):TS:=
 (bO (k8 (EI (o_ (wH (mZ λi j=>.bl (decide (i<=j))) (mZ λi j=>.bl (decide (i<=j))) (tC (.int 0)) (ao 1) (tC (.int 8))))) (dC (tC (.int (-7)))) g9)
 (bO (k8 (tB (cM (rF K c) [] E0 (aq (ao 0) (aq (ao 1) aR)))) (dC (tC (.int (-10)))) g9)
 (dC (tC (.int 0)))))
theorem zT(a:dI P w K mg base "are_too_many" ["signs","most"] 1 (rF K c)):
 Tm P w K mg base ["signs","most"] "refusal_of_texts" k6 1 (r9 K c):=λf d A b s H E e=>
 (aw (g8 (tE (Ck wX wX bW (pv 1) (fq rfl T.r6))) (aH (bE (fq rfl T.uW))) d8)
 (aw (g8 (kq (bc a e (ae (pv 0) (ae (pv 1) ax)))) (aH (bE (fq rfl T.vn))) d8)
 (aH (bE bW))))
def yq(K:Frag)(c:Cl):TS:=
 (bO (k8 (tB (Wz (ao 0))) (dC (gR (aq (tC (.int 0)) aR))) g9)
 (dC (hJ xK (gR (aq (tC (.int 1)) aR)) (cM (kT K c) [] E0 (aq (ao 0) aR)))))
theorem Gs(a:dI P w K mg base "counted" ["numbers"] 1 (kT K c)):
 Tm P w K mg base ["text"] "text_answer" qH 1 (yq K c):=λf d A b s H E e=>
 (aw (g8 (GY (N1 (pv 0))) (aH (bE (c_ (ae bW ax)))) d8)
 (aH (bE (eH oJ (c_ (ae bW ax)) (bc a e (ae (pv 0) ax))))))
def KU(K:Frag)(c:Cl):TS:=
 (bO (k8 (o_ (hJ (mZ λi j=>.bl (decide (i<j))) (ao 5) (tC (.int 0)))) (dC (gR (aq (ao 5) aR))) g9) (dC (cM (mD K c) [] E0 (aq (cM (nz K c) [] E0 (aq (cA K (ao 0) "left") (aq (cA K (ao 0) "right") (aq (cM (mj K c) [] E0 (aq (ao 4) (aq (ao 3) aR))) (aq (ao 2) aR))))) aR))))
def Kq(K:Frag)(c:Cl):TS:=
 (bO (dN (cM (my K c) [] E0 (aq (gR (aq (cA K (ao 0) "left") (aq (cA K (ao 0) "right") aR))) aR)) (bw 4)) (bO (dN (cM (gd K c) [] E0 (aq (ao 4) (aq (ao 3) aR))) (bw 5)) (KU K c)))
def Fq(K:Frag)(c:Cl):TS:=
 (bO (dN (eC c.aL "take_number" (a_ K c) [] E0 (ao 1) aR) (bw 3)) (Kq K c))
theorem ON(a:eI P w K mg base c.aL "take_number" ["self"] 1 (a_ K c))(g:dI P w K mg base "signs_of" ["grammars"] 2 (my K c))(b:dI P w K mg base "refusal_of_texts" ["signs","most"] 2 (gd K c))(e:dI P w K mg base "text_answer" ["text"] 2 (mD K c))(d:dI P w K mg base "first_difference" ["left","right","texts","differs"] 6 (nz K c))(h:dI P w K mg base "texts_of" ["signs","most"] 1 (mj K c)):
 Tm P w K mg base ["pair","reader","differs","most","signs","refusal"] "compare" zA 6 (Fq K c):=λf k A j s H E i=>
 (aw (bz 3 wK.nd (fQ (pv 1) a i))
 (aw (bz 4 wK.nd (bc g i (ae (c_ (ae (aU (pv 0) rfl) (ae (aU (pv 0) rfl) ax))) ax)))
 (aw (bz 5 wK.nd (bc b i (ae (pv 4) (ae (pv 3) ax))))
 (aw (g8 (lY Gb (pv 5) bW (iR _)) (aH (bE (c_ (ae (pv 5) ax)))) d8)
 (aH (bE (bc e i (ae (bc d i (ae (aU (pv 0) rfl) (ae (aU (pv 0) rfl) (ae (bc h i (ae (pv 4) (ae (pv 3) ax))) (ae (pv 2) ax))))) ax))))))))
def ID(K:Frag)(c:Cl):TS:=
 (dC (cM (qE K c) [] E0 (aq (ao 0) (aq (ao 1) (aq (tC (.ref c.qW)) aR)))))
theorem Rb(a:dI P w K mg base "compare" ["pair","reader","differs"] 7 (qE K c)):
 Tm P w K mg base ["pair","reader"] "within" BV 7 (ID K c):=λf d A b s H E e=>
 (aH (bE (bc a e (ae (pv 0) (ae (pv 1) (ae (Dv rfl T.vP) ax))))))
def QI(K:Frag)(c:Cl):TS:=
 (dC (cM (qE K c) [] E0 (aq (ao 0) (aq (ao 1) (aq (tC (.ref c.ve)) aR)))))
theorem WB(a:dI P w K mg base "compare" ["pair","reader","differs"] 7 (qE K c)):
 Tm P w K mg base ["pair","reader"] "same" s_same 7 (QI K c):=λf d A b s H E e=>
 (aH (bE (bc a e (ae (pv 0) (ae (pv 1) (ae (Dv rfl T.AG) ax))))))
def HL(K:Frag)(c:Cl):TS:=
 (bO (k8 (o_ (hJ (mZ λi j=>.bl (decide (i<j))) (ao 5) (tC (.int 0)))) (dC (gR (aq (ao 5) aR))) g9) (dC (cM (mD K c) [] E0 (aq (cM (ny K c) [] E0 (aq (cA K (ao 0) "left") (aq (ao 2) (aq (cM (mj K c) [] E0 (aq (ao 4) (aq (ao 3) aR))) aR)))) aR))))
def HN(K:Frag)(c:Cl):TS:=
 (bO (dN (cM (my K c) [] E0 (aq (gR (aq (cA K (ao 0) "left") aR)) aR)) (bw 4)) (bO (dN (cM (gd K c) [] E0 (aq (ao 4) (aq (ao 3) aR))) (bw 5)) (HL K c)))
def Ht(K:Frag)(c:Cl):TS:=
 (bO (k8 (EI (tB (cM (jX K c) [] E0 (aq (ao 2) (aq (cA K (ao 0) "left") aR))))) (dC (gR (aq (tC (.int (-8))) aR))) g9) (HN K c))
def DM(K:Frag)(c:Cl):TS:=
 (bO (dN (eC c.aL "take_number" (a_ K c) [] E0 (ao 1) aR) (bw 2)) (bO (dN (eC c.aL "take_number" (a_ K c) [] E0 (ao 1) aR) (bw 3)) (Ht K c)))
theorem Mb(a:eI P w K mg base c.aL "take_number" ["self"] 1 (a_ K c))(e:dI P w K mg base "is_rule_number" ["number","grammar"] 1 (jX K c))(h:dI P w K mg base "signs_of" ["grammars"] 2 (my K c))(b:dI P w K mg base "refusal_of_texts" ["signs","most"] 2 (gd K c))(g:dI P w K mg base "text_answer" ["text"] 2 (mD K c))(d:dI P w K mg base "first_text_using" ["grammar","rule","texts"] 8 (ny K c))(i:dI P w K mg base "texts_of" ["signs","most"] 1 (mj K c)):
 Tm P w K mg base ["pair","reader","rule","most","signs","refusal"] "sentence" wj 8 (DM K c):=λf l A k s H E j=>
 (aw (bz 2 qZ.nd (fQ (pv 1) a j))
 (aw (bz 3 qZ.nd (fQ (pv 1) a j))
 (aw (g8 (tE (kq (bc e j (ae (pv 2) (ae (aU (pv 0) rfl) ax))))) (aH (bE (c_ (ae (fq rfl T.tq) ax)))) d8)
 (aw (bz 4 qZ.nd (bc h j (ae (c_ (ae (aU (pv 0) rfl) ax)) ax)))
 (aw (bz 5 qZ.nd (bc b j (ae (pv 4) (ae (pv 3) ax))))
 (aw (g8 (lY Gb (pv 5) bW (iR _)) (aH (bE (c_ (ae (pv 5) ax)))) d8)
 (aH (bE (bc g j (ae (bc d j (ae (aU (pv 0) rfl) (ae (pv 2) (ae (bc i j (ae (pv 4) (ae (pv 3) ax))) ax)))) ax))))))))))
def Ot(K:Frag)(c:Cl):TS:=
 (bO (uM (m9 K (ao 5)) (A4 K 2 (ju (bw 7) (ju (bw 8) AL))) (i_ (NM K "list" zp (ao 6) (aq (hJ xK (cM (kT K c) [] E0 (aq (ao 7) aR)) (cM (kT K c) [] E0 (aq (ao 8) aR))) aR)))) (dC (ao 6)))
def Om(K:Frag)(c:Cl):TS:=
 (bO (dN (cM (uO K c) [] E0 (aq (cA K (ao 0) "left") (aq (cM (mj K c) [] E0 (aq (ao 3) (aq (ao 2) aR))) aR))) (bw 5)) (bO (dN (gR (aq (tC (.int 0)) (aq (Bh (xm K) (aq (ao 5) aR)) aR))) (bw 6)) (Ot K c)))
def O6(K:Frag)(c:Cl):TS:=
 (bO (dN (cM (gd K c) [] E0 (aq (ao 3) (aq (ao 2) aR))) (bw 4)) (bO (k8 (o_ (hJ (mZ λi j=>.bl (decide (i<j))) (ao 4) (tC (.int 0)))) (dC (gR (aq (ao 4) aR))) g9) (Om K c)))
def Nf(K:Frag)(c:Cl):TS:=
 (bO (dN (eC c.aL "take_number" (a_ K c) [] E0 (ao 1) aR) (bw 2)) (bO (dN (cM (my K c) [] E0 (aq (gR (aq (cA K (ao 0) "left") aR)) aR)) (bw 3)) (O6 K c)))
theorem S2(a:eI P w K mg base c.aL "take_number" ["self"] 1 (a_ K c))(g:dI P w K mg base "signs_of" ["grammars"] 2 (my K c))(b:dI P w K mg base "refusal_of_texts" ["signs","most"] 2 (gd K c))(e:dI P w K mg base "first_uses" ["grammar","texts"] 8 (uO K c))(h:dI P w K mg base "texts_of" ["signs","most"] 1 (mj K c))(d:dI P w K mg base "counted" ["numbers"] 1 (kT K c)):
 Tm P w K mg base ["pair","reader","most","signs","refusal","uses","answer","text","rules"] "cover" E3 8 (Nf K c):=λf k A j s H E i=>
 (aw (bz 2 rf.nd (fQ (pv 1) a i))
 (aw (bz 3 rf.nd (bc g i (ae (c_ (ae (aU (pv 0) rfl) ax)) ax)))
 (aw (bz 4 rf.nd (bc b i (ae (pv 3) (ae (pv 2) ax))))
 (aw (g8 (lY Gb (pv 4) bW (iR _)) (aH (bE (c_ (ae (pv 4) ax)))) d8)
 (aw (bz 5 rf.nd (bc e i (ae (aU (pv 0) rfl) (ae (bc h i (ae (pv 3) (ae (pv 2) ax))) ax))))
 (aw (bz 6 rf.nd (c_ (ae bW (ae (f_ d_ rfl T.pZ cE (ae (pv 5) ax)) ax))))
 (aw (km bJ rfl (il (pv 5)) (qA rfl (eW (cu 7 rf.nd) (eW (cu 8 rf.nd) mW))) (aH (fL (ux bK eO eN vy (pv 6) (ae (eH oJ (bc d i (ae (pv 7) ax)) (bc d i (ae (pv 8) ax))) ax)))))
 (aH (bE (pv 6))))))))))
end
section
variable{K:Frag}{mg:Str->Option Value}{c:Cl}
theorem iF(a:List Int):(c4 a).length=a.length:=aP _
theorem G0{a:List Int}{i:Nat}{n:Int}(h:a[i]?=some n):(c4 a)[i]?=some (.int n):=by simp[h]
theorem vi{a:List Nat}{i:Nat}{n:Nat}(h:a[i]?=some n):(cB a)[i]?=some (.int n):=by simp[h]
theorem dec_lt(a b:Nat):decide ((a:Int)<(b:Int))=decide (a<b):=by
 by_cases h:a<b
 ·rw[aF h,aF (by omega)]
 ·rw[aM h,aM (by omega)]
theorem JV(a b:Nat):decide ((a:Int)<=(b:Int))=decide (a<=b):=by
 by_cases h:a<=b
 ·rw[aF h,aF (by omega)]
 ·rw[aM h,aM (by omega)]
theorem GI{H:Hp}{a l C e:Addr}{fs:List (Str×V)}{o:HO}{b:List V}(d:H a=some (.ins C e fs))(h:eD K H l b):eD K (upd H a o) l b:=by
 rcases h with(h|⟨u,h⟩)|h
 ·exact .inl (.inl (by rw[aO (xS h d (by intro z;cases z))];exact h))
 ·exact .inl (.inr ⟨u,by rw[aO (xS h d (by intro z;cases z))];exact h⟩)
 ·exact .inr h
theorem JC{l:V}{p:Nat}{m:Str}(a:m≠"place")(b:m≠"told"):(rS l p).lookup m=none:=by
 unfold rS;rw[cU,ah a,cU,ah b];rfl
theorem uL{l:V}{p:Nat}{s:Bool}{m:Str}(a:m≠"sound")(b:m≠"place")(d:m≠"row"):(A0 l p s).lookup m=none:=by
 unfold A0;rw[cU,ah a,cU,ah b,cU,ah d];rfl
theorem zC(T:Txt K mg c):Run ["self","told"] ["self","told"] (oO K c) (tI K c):=by
 rintro d H Q E ⟨x,a,l,rfl,b,q⟩;refine⟨rfl,?_⟩;refine⟨_,rfl,_,rfl,x,c.aL,a,[],rfl,b,T.eK,T.jg,by decide,?_⟩;refine⟨_,rfl,x,c.aL,a,_,rfl,au,T.eK,T.fF,(by show 1<1000;decide),?_⟩;rw[gJ];exact q
theorem vH(T:Txt K mg c):Run ["self"] ["self"] (lq K c) (pQ K c):=by
 rintro g H Q E ⟨a,b,l,e,p,rfl,⟨d,f⟩,q⟩;refine⟨rfl,?_⟩;refine⟨_,rfl,a,c.aL,b,_,_,rfl,d,T.eK,T.fF,vI _ _,?_⟩;refine⟨_,rfl,a,c.aL,b,_,_,rfl,d,T.eK,T.jg,F0 _ _,l,_,rfl,.inl f,_,_,rfl,rfl,?_⟩;show Q (.bl (decide ((p:Int)<((c4 e).length:Int)))) H;rw[iF,dec_lt];exact q
theorem tR(T:Txt K mg c):Run ["self","taken"] ["self"] (a_ K c) (m_ K c):=by
 rintro h H Q E ⟨a,b,l,i,p,n,rfl,⟨d,f⟩,g,q⟩;refine⟨rfl,?_⟩;refine⟨_,rfl,a,c.aL,b,_,_,rfl,d,T.eK,T.jg,F0 _ _,_,rfl,a,c.aL,b,_,_,rfl,d,T.eK,T.fF,vI _ _,
  l,_,_,_,rfl,rfl,f,qb (G0 g),?_⟩
 refine⟨_,rfl,a,c.aL,b,_,_,rfl,d,T.eK,T.fF,vI _ _,_,_,rfl,rfl,b,_,d,(by show 2<1000;decide),_,rfl,?_⟩;have e:dD "place" (V.int ((p:Int)+1)) (rS (V.ref l) p)=rS (V.ref l) (p+1):=Qw _ p (p+1);rw[e];exact q
theorem vf(T:Txt K mg c):Run ["self","size","begin"] ["self"] (dQ K c) (pR K c):=by
 rintro k H Q E ⟨a,b,l,f,p,m,rfl,⟨g,i⟩,j,n,q⟩;refine⟨rfl,?_⟩;refine⟨_,rfl,a,b,_,rfl,g,JC (by decide) (by decide),a,b,l,f,p,(m:Int),rfl,⟨g,i⟩,j,?_⟩;refine⟨_,rfl,a,c.aL,b,_,_,rfl,au,T.eK,T.fF,vI _ _,?_⟩;refine⟨_,rfl,_,rfl,_,_,rfl,rfl,_,rfl,a,c.aL,b,_,rfl,au,T.eK,T.fF,(by show 2<1000;decide),?_⟩;have e:dD "place" (V.int (((p+1:Nat):Int)+(m:Int))) (rS (V.ref l) (p+1))=rS (V.ref l) (p+1+m):=Qw _ (p+1) (p+1+m);rw[e,gJ];refine⟨_,rfl,a,c.aL,b,_,_,rfl,au,T.eK,T.jg,F0 _ _,_,rfl,_,rfl,_,rfl,a,c.aL,b,_,_,rfl,au,T.eK,T.fF,vI _ _,_,rfl,l,_,rfl,
  GI g i,λr d=>?_⟩
 have h:H r=none:=by
  have z:r≠a:=λe=>by subst e;rw[au]at d;cases d
  rw[aO z]at d;exact d
 have e2:mf (c4 f) (some ((p+1:Nat):Int)) (some ((p+1+m:Nat):Int))=c4 ((f.drop (p+1)).take m):=by
  unfold mf;rw[HT.qJ,HT.qJ,iF,c7 (by omega),c7 (by omega),show p+1+m-(p+1)=m by omega];unfold c4;rw[List.map_take,List.map_drop]
 rw[e2];exact q r h
theorem AQ(T:Txt K mg c):Run ["self","row"] ["self","row"] (jU K c) (ub K c):=by
 rintro d H Q E ⟨x,a,l,rfl,b,q⟩;refine⟨rfl,?_⟩;refine⟨_,rfl,_,rfl,x,c.bF,a,[],rfl,b,T.dR,T.kE,by decide,?_⟩;refine⟨_,rfl,x,c.bF,a,_,rfl,au,T.dR,T.ie,(by show 1<1000;decide),?_⟩;refine⟨_,rfl,x,c.bF,a,_,rfl,au,T.dR,T.fU,(by show 2<1000;decide),?_⟩;rw[gJ,gJ];exact q
theorem xf(T:Txt K mg c):Run ["self"] ["self"] (iG K c) (q_ K c):=by
 rintro g H Q E ⟨a,b,l,row,r,rfl,⟨d,f,i⟩,q⟩;refine⟨rfl,?_⟩;refine⟨_,rfl,a,c.bF,b,_,_,rfl,d,T.dR,T.fU,CO _ _ _,_,rfl,?_⟩;unfold isDone at q;refine oI (λh=>?_) (λh=>?_)
 ·refine⟨_,rfl,a,c.bF,b,_,_,rfl,d,T.dR,T.ie,ze _ _ _,_,rfl,a,c.bF,b,_,_,rfl,d,T.dR,T.kE,KA _ _ _,l,_,rfl,.inl f,rfl,?_⟩;have e:decide (V.int (r.place:Int)=V.int ((c4 row).length:Int))=(r.sound&&decide (r.place=row.length)):=by
   rw[h,fY,iF];by_cases z:r.place=row.length
   ·rw[z];simp
   ·rw[aM z,aM];intro e;injection e with e;omega
  rw[e];exact q
 ·have e:r.sound=false:=cY.mpr h;rw[e,gM]at q;exact q
theorem AK(T:Txt K mg c):Run ["self","least","most","taken"] ["self","least","most"] (dZ K c) (uB K c):=by
 rintro u H Q E ⟨a,f,l,row,r,b,d,rfl,⟨g,p,v⟩,q⟩;refine⟨rfl,?_⟩;refine⟨_,rfl,a,c.bF,f,_,_,rfl,g,T.dR,T.ie,ze _ _ _,_,rfl,a,c.bF,f,_,_,rfl,g,T.dR,T.kE,KA _ _ _,l,_,rfl,.inl p,rfl,_,rfl,?_⟩;have s:(decide (V.int (r.place:Int)=V.int ((c4 row).length:Int))=true)↔r.place=row.length:=by
  rw[dA,iF];constructor
  ·intro e;injection e with e;omega
  ·intro e;rw[e]
 refine oI (λh=>?_) (λh=>?_)
 ·have i:=s.mp h;refine⟨_,rfl,a,c.bF,f,_,rfl,g,T.dR,T.fU,(by show 3<1000;decide),?_⟩;rw[Hi];refine⟨_,rfl,a,c.bF,f,_,_,rfl,au,T.dR,T.fU,CO _ _ _,_,rfl,?_⟩;refine⟨_,rfl,?_⟩;have e:tk row r b d=(b,⟨r.place,false⟩):=by unfold tk;rw[az i]
  rw[e]at q;exact q
 ·have i:¬r.place=row.length:=λz=>h (s.mpr z)
  refine⟨_,rfl,a,c.bF,f,_,_,rfl,g,T.dR,T.fU,CO _ _ _,_,rfl,?_⟩;cases j:r.sound with
  |false=>
   refine⟨_,rfl,?_⟩;have e:tk row r b d=(b,r):=by unfold tk;rw[ah i,az j]
   rw[e,SY g]at q;exact q
  |true=>
   have k:r.place<row.length:=by omega
   have t:row[r.place]?=some (row.getD r.place 0):=by
    rw[bC,aB k];rfl
   refine⟨_,rfl,a,c.bF,f,_,_,rfl,g,T.dR,T.kE,KA _ _ _,_,rfl,a,c.bF,f,_,_,rfl,g,T.dR,T.ie,ze _ _ _,
    l,_,_,_,rfl,rfl,p,qb (G0 t),?_⟩
   refine⟨_,rfl,a,c.bF,f,_,_,rfl,g,T.dR,T.ie,ze _ _ _,_,_,rfl,rfl,f,_,g,(by show 3<1000;decide),?_⟩;have e1:dD "place" (V.int ((r.place:Int)+1)) (A0 (V.ref l) r.place r.sound)=A0 (V.ref l) (r.place+1) r.sound:=SO _ _ (r.place+1) _;rw[e1];refine⟨_,rfl,_,rfl,_,_,rfl,rfl,_,rfl,?_⟩;have m:¬r.sound=false:=by rw[j];simp
   refine oI (λn=>?_) (λn=>?_)
   ·refine⟨_,rfl,_,_,rfl,rfl,_,rfl,?_⟩;refine oI (λo=>?_) (λo=>?_)
    ·refine⟨_,rfl,?_⟩;have e:tk row r b d=(row.getD r.place 0,⟨r.place+1,true⟩):=by
      unfold tk;rw[ah i,ah m,az ⟨bU n,bU o⟩]
     rw[e]at q;rw[j];exact q
    ·refine⟨_,rfl,a,c.bF,f,_,rfl,au,T.dR,T.fU,(by show 3<1000;decide),_,rfl,?_⟩;have e:tk row r b d=(b,⟨r.place+1,false⟩):=by
      unfold tk;rw[ah i,ah m,ah (λz=>o (aF z.2))]
     rw[e]at q;rw[gJ,Hi];exact q
   ·refine⟨_,rfl,?_⟩;refine⟨_,rfl,a,c.bF,f,_,rfl,au,T.dR,T.fU,(by show 3<1000;decide),_,rfl,?_⟩;have e:tk row r b d=(b,⟨r.place+1,false⟩):=by
     unfold tk;rw[ah i,ah m,ah (λz=>n (aF z.1))]
    rw[e]at q;rw[gJ,Hi];exact q
end
section
variable{K:Frag}{mg:Str->Option Value}{c:Cl}
theorem ui{H:Hp}{Q:VK}{n:Nat}{i:Int}{r:V}{rs:List Rule}(e:i=(n:Int))(f:j6 H r rs)(q:∀v b,aZ H b->f6 c b v {nons:=n,rules:=rs}->Q v b):
 ∀x a,H x=none->H a=none->a≠x->cz K c (.ref x::([.int i,r]++[])) (upd (upd H a (.own x)) x (.ins c.Grammar a [])) (λv g=>v=.non/\Q (.ref x) g) E0:=by
 subst e;intro x a h d j;refine⟨x,a,n,r,rfl,au,rfl,?_⟩;rw[gJ];have s:aZ H (upd (upd H a (.own x)) x (.ins c.Grammar a (gf n r))):=(aD d).trans (aD (by rw[aO (aY j)];exact h));exact q _ _ s ⟨x,a,r,rfl,au,f.same s⟩
theorem qy{H:Hp}{Q:VK}{v e:V}{rs rs':List Rule}(h:j6 H v rs)(l:j6 H e rs')(r:rs.length+rs'.length<=1000)(q:∀w d,aZ H d->j6 d w (rs++rs')->Q w d):xK v e H Q:=by
 obtain⟨a,f,rfl,m,g⟩:=h;obtain⟨b,i,rfl,n,j⟩:=l;have e1:=g.len;have e2:=j.len;refine⟨a,b,f,i,rfl,rfl,m,n,by rw[bu];omega,λp k=>q _ _ (aD k) ⟨p,_,rfl,au,?_⟩⟩;have t:=EU (o:=.lst (f++i)) k;exact Paired.app (Paired.jr g λ_ _ z=>z.mono t) (Paired.jr j λ_ _ z=>z.mono t)
theorem yR{H:Hp}{a:List V}{rs:List Rule}(h:Paired (i3 H) a rs){p:Addr}(b:H p=none):aZ H (upd H p (.lst a))/\j6 (upd H p (.lst a)) (.ref p) rs:=
 ⟨aD b,p,_,rfl,au,Paired.jr h λ_ _ z=>z.mono (EU b)⟩
theorem j1{a b:Nat}(h:Nat.ble a b=true):a<=b:=Nat.le_of_ble_eq_true h
theorem small{n:Nat}(h:n<=1000):n<=sizeLine:=by rw[bu];omega
theorem rC{n:Nat}(h:n<=1000):n<sizeLine:=by rw[bu];omega
theorem J1{a:L2.St}{H:Hp}{Q:Bool->Hp->Prop}(h:Q true H):zR a H Q:=h
theorem Ic{R:Hp->V->V->Prop}{i:Nat}{f:TE}{a:List Nat}{d:L2.St}{g:Hp}{x:V}(j:wipe ((wipe d a).set i (some x)) a=wipe d a)
 (h:∀H,aZ g H->∀e:V->Hp->Prop,(∀y b,aZ H b->R b x y->e y b)->f ((wipe d a).set i (some x)) H e):Kw R (λ_=>true) (bw i) zR f a d g x:=
 λH s m e n k=>⟨j,J1 (pM (h H s e λy b l r=>k y b l rfl r))⟩
theorem filter_all{a:Type}(l:List a):l.filter (λ_=>true)=l:=List.filter_eq_self.mpr λ_ _=>rfl
theorem Lq{d i:Type}{R:V->V->Prop}{S:V->i->Prop}{f:d->V}{g:d->i}(h:∀a y,R (f a) y->S y (g a)){b:List d}{e:List V}(p:Paired R (b.map f) e):Paired S e (b.map g):=by
 induction b generalizing e with
 |nil=>cases p;exact .nil
 |cons a b j=>cases p with |cons r t=>exact .cons (h a _ r) (j t)
theorem AE{b e:Type}{A:V->b->Prop}{R:V->V->Prop}{S:V->e->Prop}{g:b->e}(h:∀x a y,A x a->R x y->S y (g a)){f:List V}{i:List b}{d:List V}(p:Paired A f i)(q:Paired R f d):Paired S d (i.map g):=by
 induction p generalizing d with
 |nil=>cases q;exact .nil
 |cons p _ j=>cases q with |cons r t=>exact .cons (h _ _ _ p r) (j t)
theorem qo{b:Type}{A:V->b->Prop}{d:List V}{e:List b}{x:V}(p:Paired A d e)(h:x∈d):∃a∈e,A x a:=by
 induction p with
 |nil=>cases h
 |cons p q f=>
  cases h with
  |head=>exact⟨_,.head _,p⟩
  |tail _ h=>
   obtain⟨a,g,i⟩:=f h;exact⟨a,.tail _ g,i⟩
theorem uI(T:Txt K mg c):Run ["owner","numbers","number"] ["owner","numbers"] (cX K c) (oV K c):=by
 rintro B H Q E ⟨o,l,C,rfl,h,j,q⟩;refine⟨rfl,?_⟩;refine⟨_,rfl,_,rfl,l,rfl,⟨_,h⟩,λD k=>?_⟩;refine o5 (λH x y=>∃n:Nat,x=.int n/\oR H y (.non n)) (λ_=>true) (λH b x y t ⟨n,e,z⟩=>⟨n,e,z.mono t⟩) k h (by rw[aP];exact rC (by omega)) (λx m=>?_) (λb a s r d=>?_)
 ·obtain⟨n,j,rfl⟩:=bq.mp m;refine Ic rfl λG I J u=>?_
  refine⟨_,rfl,small (by show 2<=1000;decide),λp d=>?_⟩;exact u _ _ (aD d) ⟨n,rfl,p,rfl,au⟩
 ·refine⟨D,a,rfl,eD.of r,λt i=>?_⟩;refine⟨small (by show 2<=1000;decide),λp f=>?_⟩;rw[filter_all]at d;have v:aZ H (upd b t (.tup a)):=s.trans (aD i);have g:aZ (upd b t (.tup a)) (upd (upd b t (.tup a)) p (.tup [.int o,.ref t])):=aD f;refine q _ _ (v.trans g) ⟨p,.ref t,rfl,au,t,a,rfl,g _ _ au,?_⟩;refine Lq (λn y z=>?_) d;obtain⟨w,e,z⟩:=z;injection e with e
  have A:n=w:=by omega
  subst A;exact z.mono ((aZ.tup (aD i)).trans (aZ.tup g))
theorem xk(T:Txt K mg c):Run ["symbol","order"] ["symbol","order"] (mG K c) (rg K c):=by
 rintro i H Q E ⟨v,s,l,p,rfl,⟨a,rfl,b⟩,d,e,q⟩;refine⟨rfl,?_⟩;cases s with
 |non k=>
  have f:k<p.length:=d;refine⟨_,rfl,a,_,0,_,rfl,rfl,kF.of b,rfl,rfl,_,rfl,pM ?_⟩;have g:p[k]?=some (p.getD k k):=by rw[bC,aB f];rfl
  refine⟨_,rfl,_,rfl,a,_,1,_,rfl,rfl,kF.of b,rfl,l,_,_,_,rfl,rfl,e,qb (vi g),small (by show 2<=1000;decide),λt h=>?_⟩;exact q _ _ (aD h) ⟨t,rfl,au⟩
 |range lo j=>
  refine⟨_,rfl,a,_,0,_,rfl,rfl,kF.of b,rfl,rfl,_,rfl,rj ?_⟩;exact⟨_,rfl,q _ _ (aZ.refl H) ⟨a,rfl,b⟩⟩
theorem yf(T:Txt K mg c):Run ["rules","order","renumbered","owner","symbols","symbol","row"] ["rules","order"] (iV K c) (rR K c):=by
 rintro vs H Q E ⟨v,rs,l,p,rfl,⟨a,ws,rfl,ha,hp⟩,x0,x5,hl,q⟩;refine⟨rfl,?_⟩;refine⟨small (by show 0<=1000;decide),λD hD=>?_⟩;have x1:=hp.len;refine⟨_,rfl,a,rfl,⟨_,eD.of (aD hD _ _ ha)⟩,mx (K:=K) (a:=a) (xs:=ws) (λi U j=>∃v3 v4 v5 v6:Option V,U=[some (.ref a),some (.ref l),some (.ref D),v3,v4,v5,v6]/\aZ H j/\∃m,j D=some (.lst m)/\Paired (i3 j) m ((rs.take i).map (Vaglrn.shiftRule λk=>p.getD k k)))
  ⟨_,_,_,_,rfl,aD hD,[],au,.nil⟩ (by rintro i U j _ ⟨_,_,_,_,_,s,_⟩;exact eD.of (s _ _ ha)) ?_ ?_⟩
 ·rintro i y U j hi ⟨v3,v4,v5,v6,rfl,s,m,h,f⟩;obtain⟨r,Y,x2⟩:=hp.at hi;obtain⟨b,w,rfl,hb,cc,zs,rfl,hz,n⟩:=x2.mono (aZ.tup s);have g:=x0 r (bj Y);refine⟨b,_,rfl,kF.of hb,rfl,_,_,rfl,_,_,rfl,rfl,?_⟩;refine⟨_,rfl,cc,rfl,⟨_,kF.of hz⟩,λD2 x3=>?_⟩;refine FJ (λH x y=>∃s,oR H x s/\oR H y (Vaglrn.shiftSym (λk=>p.getD k k) s)) (λ_=>true) (λH j x y t ⟨s,z1,z2⟩=>⟨s,z1.mono t,z2.mono t⟩) x3 (kF.of hz) (rC (by have :=g.len;have :=n.len;omega)) (λx hx=>?_) (λJ d C x4 L=>?_)
  ·obtain⟨G,Yl,M⟩:=qo n hx;refine Ic rfl λH1 I Ny h1=>?_
   refine⟨_,rfl,_,rfl,x,G,l,p,rfl,M.mono (aZ.tup I),g.sym G Yl,(s.trans I).seq hl,λv' H3 s3 z=>?_⟩;exact h1 _ _ s3 ⟨G,M.mono ((aZ.tup I).trans (aZ.tup s3)),z⟩
  ·rw[filter_all]at L;have hg:p[r.lhs]?=some (p.getD r.lhs r.lhs):=by rw[bC,aB g.lhs];rfl
   refine⟨_,rfl,.inl ⟨rfl,_,eD.of (C _ _ h)⟩,_,rfl,_,rfl,l,_,_,_,rfl,rfl,(s.trans C).seq hl,qb (vi hg),_,rfl,D2,d,rfl,eD.of x4,λt ht=>?_⟩;refine⟨small (by show 2<=1000;decide),λu hu=>?_⟩;have Z:aZ J (upd J t (.tup d)):=aD ht;have N:aZ (upd J t (.tup d)) (upd (upd J t (.tup d)) u (.tup [.int (p.getD r.lhs r.lhs),.ref t])):=aD hu;have O:=N _ _ (Z _ _ (C _ _ h));have x6:m.length=i:=by
    have :=f.len;rw[aP,cq]at this;have :=(ai.mp Y).1;omega
   refine⟨D,_,_,rfl,rfl,O,rC (by have :=(ai.mp Y).1;omega),?_⟩;have tL:=jo (o:=.lst (m++[.ref u])) O;have sH:aZ H (upd (upd (upd J t (.tup d)) u (.tup [.int (p.getD r.lhs r.lhs),.ref t])) D (.lst (m++[.ref u]))):=λb o e=>by
    rw[aO (cZ e hD)];exact N _ _ (Z _ _ (C _ _ (s _ _ e)))
   refine⟨_,_,_,_,rfl,sH,_,au,?_⟩;rw[take_snoc Y,dq];refine iE (Paired.jr f λ_ _ z=>z.mono (((aZ.tup C).trans ((aZ.tup Z).trans (aZ.tup N))).trans tL)) ?_;refine i3.mono tL ⟨u,.ref t,rfl,au,t,d,rfl,N _ _ au,?_⟩;refine AE (A:=oR j) (λx G y h1 h2=>?_) n L;obtain⟨I,z1,z2⟩:=h2;have e:I=G:=by
    obtain⟨a1,e1,g1⟩:=h1.mono (aZ.tup C);obtain⟨a2,e2,B⟩:=z1;rw[e1]at e2;injection e2 with e2;subst e2
    rw[g1]at B;injection B with B;injection B with B
    cases G<;>cases I<;>simp[R9]at B
    ·congr 1;omega
    ·obtain⟨g3,g4⟩:=B;congr 1<;>omega
   subst e;exact z2.mono ((aZ.tup Z).trans (aZ.tup N))
 ·rintro U j ⟨v3,v4,v5,v6,rfl,s,m,h,f⟩;rw[x1,bP]at f;exact⟨_,rfl,q _ _ s ⟨D,m,rfl,h,f⟩⟩
end
section
variable{K:Frag}{mg:Str->Option Value}{c:Cl}
theorem Ef(T:Txt K mg c):Run ["left"] ["left"] (jc K c) (xN K c):=by
 rintro f H Q E ⟨v,g,rfl,⟨a,b,r,rfl,d,h⟩,q⟩;refine⟨rfl,?_⟩;refine⟨_,rfl,a,c.Grammar,b,_,_,rfl,d,T.b_,T.bo,uQ _ _,_,_,rfl,rfl,?_⟩;have e:((1+g.nons:Nat):Int)=1+(g.nons:Int):=by omega
 rw[e]at q;exact q
theorem Oi{a n:Nat}{k:Nat}(h:k<n):((List.range n).map λj=>a+j).getD k k=k+a:=by
 rw[bC,cf,cF h];simp;omega
theorem Gu{n:Nat}{f a:Nat->Nat}(h:∀k,k<n->f k=a k){s:Sym}(b:Gv n s):Vaglrn.shiftSym f s=Vaglrn.shiftSym a s:=by
 cases s with
 |non k=>exact cV Sym.non (h k b)
 |range lo d=>rfl
theorem Em{n:Nat}{f a:Nat->Nat}(h:∀k,k<n->f k=a k){r:Rule}(b:k_ n r):Vaglrn.shiftRule f r=Vaglrn.shiftRule a r:=by
 unfold Vaglrn.shiftRule;rw[h _ b.lhs];congr 1;exact bL λs d=>Gu h (b.sym s d)
theorem Ee(T:Txt K mg c):Run ["grammar","by"] ["grammar","by"] (iD K c) (xw K c):=by
 rintro z H Q E ⟨v,g,b,rfl,⟨a,f,r,rfl,i,d⟩,e,A,q⟩;refine⟨rfl,?_⟩;have o:=e.nons;refine⟨_,rfl,a,c.Grammar,f,_,_,rfl,i,T.b_,T.cN,zI _ _,_,rfl,_,rfl,_,rfl,a,c.Grammar,f,_,_,rfl,i,T.b_,T.bo,uQ _ _,_,_,rfl,rfl,_,_,rfl,λw p=>?_⟩;refine⟨w,_,_,rfl,au,by omega,by rw[bu];omega,λl s=>?_⟩;have m:aZ H (upd H w (.Jz b (b+g.nons))):=aD p;have n:aZ (upd H w (.Jz b (b+g.nons))) (upd (upd H w (.Jz b (b+g.nons))) l (.lst (rP b ((b+g.nons:Int)-b).toNat))):=aD s;have e1:rP (b:Int) ((b+g.nons:Int)-b).toNat=cB ((List.range g.nons).map λj=>b+j):=by
  unfold rP cB;rw[d4,show((b:Int)+(g.nons:Int)-(b:Int)).toNat=g.nons by omega];refine bL λj _=>?_
  show V.int _=V.int _;congr 1
 refine⟨r,g.rules,l,(List.range g.nons).map λj=>b+j,rfl,d.same (m.trans n),λr d=>by simpa using e.rule r d,e.len,eD.of (by rw[au,e1]),λt u x h=>?_⟩;refine q t u ((m.trans n).trans x) ?_;have e2:g.rules.map (Vaglrn.shiftRule λk=>((List.range g.nons).map λj=>b+j).getD k k)=Vaglrn.shifted (λk=>k+b) g:=
  bL λr d=>Em (λk y=>Oi y) (e.rule r d)
 rw[<-e2];exact h
theorem rp(f:Nat->Nat)(g:Grammar):(Vaglrn.shifted f g).length=g.rules.length:=aP _
theorem zS(T:Txt K mg c):Run ["left","right","start_rules","rules"] ["left","right","start_rules"] (jd K c) (sY K c):=by
 rintro M H Q E ⟨l,r,s,g,h,o,rfl,i,p,w,j,m,N,q⟩;refine⟨rfl,?_⟩;have O:=j.len;have U:=m.len;have Y:=j.nons;have Z:=m.nons;refine⟨_,rfl,_,rfl,l,g,1,rfl,i,j,by decide,λv1 H1 f x=>?_⟩;refine qy (w.same f) x (by rw[rp];omega) λw1 H2 n y=>?_
 refine⟨_,rfl,_,rfl,l,g,rfl,(i.same f).same n,?_⟩;refine⟨r,h,1+g.nons,rfl,(p.same f).same n,m,by omega,λv2 H3 t z=>?_⟩;refine qy (y.same t) z (by rw[ay,rp,rp];omega) λw2 H4 A B=>?_
 have d:=((f.trans n).trans t).trans A;obtain⟨a,C,ra,rfl,D,_⟩:=i.same d;obtain⟨b,G,rb,rfl,I,_⟩:=p.same d;refine⟨_,rfl,a,c.Grammar,C,_,_,rfl,D,T.b_,T.bo,uQ _ _,_,_,rfl,rfl,_,rfl,b,c.Grammar,G,_,_,rfl,I,T.b_,T.bo,uQ _ _,_,_,rfl,rfl,_,rfl,?_⟩;have e:(1:Int)+(g.nons:Int)+(h.nons:Int)=((1+g.nons+h.nons:Nat):Int):=by omega
 refine ui (K:=K) e B λv J L u=>q v J (d.trans L) ?_
 have e2:o++Vaglrn.shifted (λk=>k+1) g++Vaglrn.shifted (λk=>k+(1+g.nons)) h=o++(Vaglrn.leftRules g++Vaglrn.rightRules g h):=by
  rw[bN];have :(λk=>k+(1+g.nons))=λk=>k+1+g.nons:=by funext k;omega
  rw[this];rfl
 rw[e2]at u;exact u
theorem Ja{K:Frag}{H:Hp}{p:Addr}{ns:List Nat}:eD K (upd H p (.lst (cB ns))) p (cB ns):=eD.of au
theorem HM(T:Txt K mg c):Run ["left","right","to_left","to_right"] ["left","right"] (wm K c) (B1 K c):=by
 rintro D H Q E ⟨l,r,g,h,rfl,d,i,j,k,q⟩;refine⟨rfl,?_⟩;refine⟨small (by show 1<=1000;decide),λp m=>?_⟩;refine⟨0,p,[1],rfl,Ja (ns:=[1]),by decide,λG I n o=>?_⟩;have e:=(aD m).trans n;refine⟨_,rfl,l,g,rfl,d.same e,small (by show 1<=1000;decide),λs a=>?_⟩;refine⟨0,s,[1+g.nons],rfl,Ja (ns:=[1+g.nons]),j1 rfl,λJ L t u=>?_⟩;have f:=(aD a).trans t;refine⟨_,rfl,_,rfl,_,rfl,_,rfl,?_⟩;refine⟨small (j1 rfl),λw x=>?_⟩;obtain⟨y,z⟩:=yR (rs:=[_,_]) (.cons (o.mono (aZ.tup f)) (.cons u .nil)) x;have b:=(e.trans f).trans y;exact⟨l,r,.ref w,g,h,_,rfl,d.same b,i.same b,z,j,k,j1 rfl,λv A B C=>q v A (b.trans B) C⟩
theorem wg(T:Txt K mg c):Run ["left","right","to_both"] ["left","right"] (lO K c) (qh K c):=by
 rintro y H Q E ⟨l,r,g,h,rfl,b,d,e,f,q⟩;refine⟨rfl,?_⟩;refine⟨_,rfl,l,g,rfl,b,small (by show 2<=1000;decide),λp i=>?_⟩;refine⟨0,p,[1,1+g.nons],rfl,Ja (ns:=[1,1+g.nons]),j1 rfl,λz A j k=>?_⟩;have m:=(aD i).trans j;refine⟨_,rfl,_,rfl,_,rfl,?_⟩;refine⟨small (j1 rfl),λw n=>?_⟩;obtain⟨o,s⟩:=yR (rs:=[_]) (.cons k .nil) n;have a:=m.trans o;exact⟨l,r,.ref w,g,h,_,rfl,b.same a,d.same a,s,e,f,j1 rfl,λv t u x=>q v t (a.trans u) x⟩
theorem ME(T:Txt K mg c):Run ["left","none","one_more"] ["left"] (AN K c) (Fh K c):=by
 rintro M H Q E ⟨l,g,rfl,n,f,q⟩;refine⟨rfl,?_⟩;refine⟨small (by show 0<=1000;decide),λp o=>?_⟩;refine⟨0,p,[],rfl,Ja (ns:=[]),by decide,λN O s t=>?_⟩;have h:=(aD o).trans s;refine⟨small (by show 2<=1000;decide),λu b=>?_⟩;refine⟨0,u,[0,1],rfl,Ja (ns:=[0,1]),by decide,λU Y x y=>?_⟩;have d:=(aD b).trans x;obtain⟨a,i,r,rfl,j,z⟩:=n.same (h.trans d);refine⟨_,rfl,a,c.Grammar,i,_,_,rfl,j,T.b_,T.bo,uQ _ _,_,_,rfl,rfl,_,rfl,_,rfl,?_⟩;refine⟨small (j1 rfl),λw A=>?_⟩;obtain⟨k,B⟩:=yR (rs:=[_,_]) (.cons (t.mono (aZ.tup d)) (.cons y .nil)) A;have hl3:f6 c _ (.ref a) g:=f6.same k ⟨a,i,r,rfl,j,z⟩;refine⟨_,rfl,_,g,1,rfl,hl3,f,by decide,λZ H4 m C=>?_⟩;refine qy (B.same m) C (by have :=f.len;rw[rp];show 2+_<=1000;omega) λw5 H5 D G=>?_
 have e:(1:Int)+(g.nons:Int)=((1+g.nons:Nat):Int):=by omega
 exact ui (K:=K) e G λv I J L=>q v I (((((h.trans d).trans k).trans m).trans D).trans J) L
theorem M3(T:Txt K mg c):Run ["left","order"] ["left","order"] (A9 K c) (Fo K c):=by
 rintro t H Q E ⟨v,g,l,p,rfl,⟨a,d,r,rfl,e,b⟩,f,i,j,q⟩;refine⟨rfl,?_⟩;refine⟨_,rfl,a,c.Grammar,d,_,_,rfl,e,T.b_,T.bo,uQ _ _,_,rfl,a,c.Grammar,d,_,_,rfl,e,T.b_,T.cN,zI _ _,_,rfl,?_⟩;refine⟨r,g.rules,l,p,rfl,b,λr b=>by rw[j];exact f.rule r b,f.len,i,λu w s h=>?_⟩;exact ui (K:=K) rfl h λk m n o=>q k m (s.trans n) o
theorem CL(T:Txt K mg c):Run ["left","dropped"] ["left","dropped"] (rJ K c) (wW K c):=by
 rintro J H Q E ⟨v,g,k,rfl,⟨a,h,r,rfl,i,b,d,rfl,s,j⟩,y,L,q⟩;refine⟨rfl,?_⟩;have t:=j.len;have A:=y.len;refine⟨_,rfl,a,c.Grammar,h,_,_,rfl,i,T.b_,T.bo,uQ _ _,_,rfl,a,c.Grammar,h,_,_,rfl,i,T.b_,T.cN,zI _ _,_,rfl,_,rfl,b,d,rfl,eD.of s,λl m=>?_⟩;have f:aZ H (upd H l (.lst (mf d none (some (k:Int))))):=aD m;refine⟨_,rfl,a,c.Grammar,h,_,_,rfl,f _ _ i,T.b_,T.cN,zI _ _,_,rfl,_,_,rfl,rfl,_,rfl,b,d,rfl,eD.of (f _ _ s),λu n=>?_⟩;have p:=aD (o:=.lst (mf d (some ((k:Int)+1)) none)) n;have e1:mf d none (some (k:Int))=d.take k:=by
  unfold mf;rw[HT.qJ,HT.vc,c7 (by omega),jJ];rfl
 have e2:mf d (some ((k:Int)+1)) none=d.drop (k+1):=by
  unfold mf;have :(k:Int)+1=((k+1:Nat):Int):=by omega
  rw[this,HT.qJ,HT.vc,c7 (by omega)];exact dM (by rw[fI];exact ak _)
 have e:bT H (upd (upd H l (.lst (mf d none (some (k:Int))))) u (.lst (mf d (some ((k:Int)+1)) none))):=aZ.tup (f.trans p);refine qy (rs:=g.rules.take k) (rs':=g.rules.drop (k+1)) ⟨l,_,rfl,p _ _ au,?_⟩ ⟨u,_,rfl,au,?_⟩ (by rw[cq,fI];omega) λw M B C=>?_
 ·have z:=Paired.jr (Paired.take k j) λ_ _ z=>i3.mono e z
  rw[<-e1]at z;exact z
 ·have z:=Paired.jr (Paired.drop (k+1) j) λ_ _ z=>i3.mono e z
  rw[<-e2]at z;exact z
 ·refine ui (K:=K) rfl C λD G I x=>q D G (((f.trans p).trans B).trans I) ?_
  have e3:g.rules.take k++g.rules.drop (k+1)=g.rules.eraseIdx k:=(List.eraseIdx_eq_take_drop_succ ..).symm;rw[e3]at x;exact x
end
section
variable{K:Frag}{mg:Str->Option Value}{c:Cl}
theorem Ik{H:Hp}{a C b:Addr}{fs:List (Str×V)}(h:H a=some (.ins C b fs))(n:C≠c.Grammar):Other c (H a):=λu e=>by
 rw[h]at e;cases e;exact n
theorem CC{H:Hp}{a C e:Addr}{fs:List (Str×V)}(h:H a=some (.ins C e fs))(n:C≠c.Grammar):∀b∈[a],Other c (H b):=λb d=>by
 simp at d;subst d;exact Ik h n
theorem Ad{b:Type}{A:V->b->Prop}{p:V->Bool}{q:b->Bool}(h:∀x a,A x a->p x=q a){e:List V}{f:List b}(d:Paired A e f):Paired A (e.filter p) (f.filter q):=by
 induction d with
 |nil=>exact .nil
 |cons r t g=>
  rw[List.filter_cons,List.filter_cons,h _ _ r];split
  ·exact .cons r g
  ·exact g
theorem RH{a b:List V}(p:Paired (λx y=>y=x) a b):b=a:=by
 induction p with
 |nil=>rfl
 |cons r t d=>rw[r,d]
def keepR(H:Hp)(a:Nat):V->Bool
 |.ref b=>match H b with
  |some (.tup (.int i::_))=> !decide (i=(a:Int))
  |_=>false
 |_=>false
theorem MJ{H:Hp}{a:Nat}{v:V}{r:Rule}(h:i3 H v r):keepR H a v= !(r.lhs==a):=by
 obtain⟨b,w,rfl,d,_⟩:=h;simp only[keepR,d];congr 1;by_cases e:r.lhs=a
 ·rw[e];simp
 ·rw[aM (by omega)];simp[e]
theorem NQ(T:Txt K mg c):Run ["left","right","place","rule","kept","to_right","rules"] ["left","right","place"] (Dh K c) (Jo K c):=by
 rintro vs H Q E ⟨l,r,g,h,k,rfl,U,C,G,o,hk,q⟩;refine⟨rfl,?_⟩;obtain⟨a,m,ra,rfl,n,b,ws,rfl,I,p⟩:=U;have Y:=G.len;have n2:=o.len;have m1:=G.nons;have m2:=o.nons;have Z:=p.len;refine⟨_,rfl,a,c.Grammar,m,_,_,rfl,n,T.b_,T.cN,zI _ _,b,rfl,⟨_,eD.of I⟩,λD hD=>?_⟩;refine o5 (λH x y=>y=x) (keepR H k) (λH H' x y t z=>z) hD (eD.of I) (rC (by omega)) (λx hx=>?_) (λJ ys d hy s=>?_)
 ·obtain⟨u,x0,f⟩:=qo p hx;intro J d Nx Ny h0 h1;refine⟨rfl,?_⟩;have ek:=MJ (a:=k) f;obtain⟨t,w,rfl,ht,hw⟩:=f.mono (aZ.tup d);refine⟨_,rfl,t,_,0,_,rfl,rfl,kF.of ht,rfl,_,rfl,rfl,_,rfl,?_⟩;have e2:(!decide (V.int (u.lhs:Int)=V.int (k:Int)))=keepR H k (.ref t):=by
   rw[ek];by_cases e:u.lhs=k
   ·rw[e];simp
   ·have :¬V.int (u.lhs:Int)=V.int (k:Int):=λz=>by injection z with z;omega
    rw[aM this];simp[e]
  refine oI (λz=>?_) (λz=>?_)
  ·exact⟨_,rfl,h1 _ _ (aZ.refl _) (e2.symm.trans z) rfl⟩
  ·exact h0 _ (aZ.refl _) (e2.symm.trans (cY.mpr z))
 ·have ey:=RH s;subst ey;have kept:j6 J (.ref D) (g.rules.filter λr=> !(r.lhs==k)):=⟨D,_,rfl,hy,Paired.jr (Ad (λx r z=>MJ (a:=k) z) p) λ_ _ z=>z.mono (aZ.tup d)⟩;have nk:(g.rules.filter λr=> !(r.lhs==k)).length<=60:=bh (dz _ _) Y;refine⟨_,rfl,_,rfl,a,c.Grammar,m,_,_,rfl,d _ _ n,T.b_,T.bo,uQ _ _,small (j1 rfl),λp1 i=>?_⟩;refine⟨k,p1,[g.nons],rfl,Ja (ns:=[g.nons]),j1 rfl,λv2 H2 s2 h2=>?_⟩;have L:=(aD i).trans s2;refine⟨_,rfl,_,rfl,small (j1 rfl),λp3 v=>?_⟩;obtain⟨M,h3⟩:=yR (rs:=[_]) (.cons h2 .nil) v;refine qy ((kept.same L).same M) h3 (by show _+1<=1000;omega) λv4 H4 s4 h4=>?_
  have A:=((d.trans L).trans M).trans s4;refine⟨_,rfl,_,rfl,a,c.Grammar,m,_,_,rfl,A _ _ n,T.b_,T.bo,uQ _ _,r,h,g.nons,rfl,C.same A,o,by omega,λv5 H5 N h5=>?_⟩;refine qy (h4.same N) h5 (by rw[ay,rp];show _+1+_<=1000;omega) λv6 H6 s6 h6=>?_
  have B:=(A.trans N).trans s6;obtain⟨b2,dy,rb,rfl,zZ,_⟩:=C.same B;refine⟨_,rfl,a,c.Grammar,m,_,_,rfl,B _ _ n,T.b_,T.bo,uQ _ _,_,rfl,b2,c.Grammar,dy,_,_,rfl,zZ,T.b_,T.bo,uQ _ _,_,_,rfl,rfl,_,rfl,?_⟩;have e:(g.nons:Int)+(h.nons:Int)=((g.nons+h.nons:Nat):Int):=by omega
  refine ui (K:=K) e h6 λv7 H7 s7 O=>q v7 H7 (B.trans s7) ?_
  have e2:(g.rules.filter λr=> !(r.lhs==k))++[({lhs:=k,rhs:=[g.nons].map Sym.non}:Rule)]++Vaglrn.shifted (λj=>j+g.nons) h=(Vaglrn.putIn g h k).rules:=by
   rw[bN];rfl
  rw[e2]at O;exact O
theorem JP{H:Hp}:∀a:List Int,Gh K H (c4 a) (a.map PyData.int)
 |[]=>.nil
 |n::a=>.cons (.int n) (JP a)
theorem Lu:∀a b:List Int,PyData.eqvAll (a.map PyData.int) (b.map PyData.int)=decide (a=b)
 |[],[]=>by simp[PyData.eqvAll]
 |[],_::_=>by simp[PyData.eqvAll]
 |_::_,[]=>by simp[PyData.eqvAll]
 |n::a,m::b=>by
  have d:=Lu a b;simp only[bf,PyData.eqvAll,PyData.eqv,d];by_cases e:n=m
  ·subst e;simp
  ·simp[e]
theorem MA:∀a:List Int,PyData.canLayAll0 (a.map PyData.int)=true
 |[]=>rfl
 |n::a=>by rw[bf,PyData.canLayAll0,MA a];rfl
theorem Fp:∀a:List Int,PyData.depthAll (a.map PyData.int)=0
 |[]=>rfl
 |n::a=>by rw[bf,PyData.depthAll,Fp a];rfl
theorem shaped_ints(a:List Int):SeqAt.shaped (.list (a.map PyData.int))=true:=by
 unfold SeqAt.shaped;rw[bI];refine⟨MA a,aF ?_⟩;show PyData.depthAll _+1<=64;rw[Fp];decide
theorem JH(T:Txt K mg c):Run ["numbers","size"] ["numbers","size"] (xU K c) (DW K c):=by
 rintro L H Q E ⟨l,b,n,rfl,h,v,A,B,q⟩;refine⟨rfl,?_⟩;refine⟨_,rfl,l,b,rfl,h,λa C i D hl1=>?_⟩;have G:aZ H (upd H C (.lst (c4 a))):=aD hl1;refine⟨_,rfl,_,rfl,λr I=>?_⟩;have m:=aD (o:=.Jz 0 (n:Int)) I;refine⟨r,_,_,rfl,au,by omega,by rw[bu];omega,λM hl2=>?_⟩;have p:=aD (o:=.lst (rP 0 ((n:Int)-0).toNat)) hl2;have e1:rP 0 ((n:Int)-0).toNat=c4 (pL n):=by
  unfold rP pL c4;rw[show((n:Int)-0).toNat=n by omega,d4];refine bL λk _=>?_
  show V.int (0+(k:Int))=V.int (k:Int);rw[Int.zero_add]
 refine⟨_,_,.lst (eD.of (p _ _ (m _ _ au))) (JP a),.lst (eD.of (by rw[au,e1])) (JP (pL n)),shaped_ints _,shaped_ints _,_,rfl,?_⟩;have J:PyData.eqv (.list (a.map PyData.int)) (.list ((pL n).map PyData.int))=decide (a=pL n):=by
  rw[PyData.eqv];exact Lu _ _
 rw[J];have d:=Rw v A i D;have s:=(G.trans m).trans p;have f:=q _ s;refine oI (λz=>?_) (λz=>?_)
 ·have t:a=pL n:=bU z;have g:b≠[]:=λe=>by
   subst e;have :=i.length_eq;rw[t]at this;simp[pL]at this;omega
  obtain⟨x,u,rfl⟩:=kL g;refine⟨_,rfl,l,_,0,.int x,rfl,rfl,s.seq h,qb (j:=0) (G0 rfl),rfl,?_⟩;have e:decide (V.int x=V.int 0)=Vaglrn.isOrder n (Vaglrn.toNats (x::u)):=by
   by_cases w:x=0
   ·rw[d.mpr ⟨t,w⟩,w];simp
   ·have :¬Vaglrn.isOrder n (Vaglrn.toNats (x::u))=true:=λy=>w (d.mp y).2
    rw[cY.mpr this,aM];intro y;injection y with y;exact w y
  rw[e];exact f
 ·have :¬Vaglrn.isOrder n (Vaglrn.toNats b)=true:=λy=>z (aF (d.mp y).1)
  rw[cY.mpr this]at f;exact f
end
section
variable{K:Frag}{mg:Str->Option Value}{c:Cl}
theorem fb(l r b:V):(Cu l r b).lookup ("left":Str)=some l:=by
 unfold Cu;rw[cU,ah (by decide),cU,ah (by decide),cU,az rfl]
theorem mY(l r b:V):(Cu l r b).lookup ("right":Str)=some r:=by
 unfold Cu;rw[cU,ah (by decide),cU,az rfl]
theorem vZ(l r b:V):(Cu l r b).lookup ("before":Str)=some b:=by
 unfold Cu;rw[cU,az rfl]
theorem LN(l r b v:V):dD "left" v (Cu l r b)=Cu v r b:=by unfold Cu dD dD dD dD;rfl
theorem LF(l r b v:V):dD "right" v (Cu l r b)=Cu l v b:=by unfold Cu dD dD dD dD;rfl
theorem Mf(l r b v:V):dD "before" v (Cu l r b)=Cu l r v:=by unfold Cu dD dD dD dD;rfl
theorem JM{l r b:V}{m:Str}(a:m≠"before")(d:m≠"right")(e:m≠"left"):(Cu l r b).lookup m=none:=by
 unfold Cu;rw[cU,ah a,cU,ah d,cU,ah e];rfl
theorem IF{H:Hp}{p:Addr}:j6 (upd H p (.lst [])) (.ref p) []:=⟨p,[],rfl,au,.nil⟩
theorem Xd{H:Hp}{n:Nat}{i:Int}{r:V}{x a:Addr}{Q:VK}(b:i=(n:Int))(q:Q .non (upd (upd H a (.own x)) x (.ins c.Grammar a (gf n r)))):
 cz K c (.ref x::([.int i,r]++[])) (upd (upd H a (.own x)) x (.ins c.Grammar a [])) Q E0:=by
 subst b;refine⟨x,a,n,r,rfl,au,?_⟩;rw[gJ];exact q
theorem Pl{H:Hp}{n:Nat}{r:V}{d:List Rule}{x a:Addr}(e:j6 H r d)(f:H x=none)(b:H a=none)(g:a≠x):
 aZ H (upd (upd H a (.own x)) x (.ins c.Grammar a (gf n r)))/\f6 c (upd (upd H a (.own x)) x (.ins c.Grammar a (gf n r))) (.ref x) {nons:=n,rules:=d}:=by
 have s:aZ H (upd (upd H a (.own x)) x (.ins c.Grammar a (gf n r))):=(aD b).trans (aD (by rw[aO (aY g)];exact f));exact⟨s,x,a,r,rfl,au,e.same s⟩
theorem Hz(T:Txt K mg c):Run ["self"] ["self"] (vR K c) (BK K c):=by
 rintro vs H Q E ⟨x,b,rfl,L,q⟩;refine⟨rfl,?_⟩;refine⟨small (j1 rfl),λp M=>?_⟩;intro j v N O e1;refine Xd (n:=1) rfl ⟨rfl,?_⟩;obtain⟨w,k⟩:=Pl (c:=c) (n:=1) (IF (H:=H) (p:=p)) N O e1;generalize upd (upd (upd H p (.lst [])) v (.own j)) j (.ins c.Grammar v (gf 1 (.ref p)))=g at w k⊢;have y:aZ H g:=(aD M).trans w;generalize V.ref j=d at k⊢;have z:=y _ _ L;refine⟨_,rfl,x,c.Pair,b,_,rfl,z,T.cO,T.cn,j1 rfl,?_⟩;have U:jq [x] g (upd g x (.ins c.Pair b (dD "left" d []))):=eY (by simp);refine⟨small (j1 rfl),λl m=>?_⟩;intro r A Y Z e2;refine Xd (n:=1) rfl ⟨rfl,?_⟩;obtain⟨B,s⟩:=Pl (c:=c) (n:=1) (IF (H:=upd g x (.ins c.Pair b (dD "left" d []))) (p:=l)) Y Z e2;generalize upd (upd (upd (upd g x (.ins c.Pair b (dD "left" d []))) l (.lst [])) A (.own r)) r (.ins c.Grammar A (gf 1 (.ref l)))=t at B s⊢;have C:=(aD m).trans B;generalize V.ref r=h at s⊢;have D:=C _ _ au;refine⟨_,rfl,x,c.Pair,b,_,rfl,D,T.cO,T.fC,j1 rfl,?_⟩;have c2:jq [x] t (upd t x (.ins c.Pair b (dD "right" h (dD "left" d [])))):=eY (by simp);refine⟨small (j1 rfl),λi f=>?_⟩;have G:=aD (o:=.lst []) f;have x3:=G _ _ au;refine⟨_,rfl,x,c.Pair,b,_,rfl,x3,T.cO,T.iB,j1 rfl,?_⟩;have u:i≠x:=λe=>by subst e;rw[au]at f;cases f
 have c3:=eY (H:=upd (upd t x (.ins c.Pair b (dD "right" h (dD "left" d [])))) i (.lst [])) (o:=.ins c.Pair b (Cu d h (.ref i))) (as:=[x]) (a:=x) (by simp);have I:=c2.trans (G.but.trans c3);have J:=U.trans (C.but.trans I);refine q _ (y.but.trans J) ⟨b,d,h,i,[],au,k.but J (CC z T.uy),s.but I (CC D T.uy),?_,.nil⟩;rw[aO u];exact au
theorem yo(T:Txt K mg c):Run ["self","grammar","remembered"] ["self","grammar"] (iW K c) (rQ K c):=by
 rintro U H Q E ⟨a,v,s,g,rfl,⟨f,l,r,C,b,h,D,G,I,x⟩,J,Y,q⟩;refine⟨rfl,?_⟩;have L:=x.len;refine⟨_,rfl,a,c.Pair,f,_,_,rfl,h,T.cO,T.cn,fb _ _ _,small (j1 rfl),λn p=>?_⟩;have i:aZ H (upd H n (.lst [l])):=aD p;refine⟨_,rfl,a,c.Pair,f,_,_,rfl,i _ _ h,T.cO,T.iB,vZ _ _ _,?_⟩;refine⟨n,C,_,_,rfl,rfl,au,i _ _ I,small (by show 1+b.length<=1000;omega),λA t=>?_⟩;have B:=aD (o:=.lst ([l]++b)) t;refine⟨_,rfl,_,rfl,A,_,rfl,eD.of au,λj d=>?_⟩;have M:=aD (o:=.lst (mf ([l]++b) none (some 16))) d;have m:=(i.trans B).trans M;refine⟨_,rfl,a,c.Pair,f,_,rfl,m _ _ h,T.cO,T.iB,(by show 3<1000;decide),?_⟩;rw[Mf];refine⟨_,rfl,_,rfl,a,c.Pair,f,_,rfl,au,T.cO,T.cn,(by show 3<1000;decide),?_⟩;rw[LN,gJ];have e:mf ([l]++b) none (some 16)=(l::b).take 16:=by
  unfold mf;rw[HT.vc,jJ];have :HT.oh ([l]++b).length ([l]++b).length (some 16)=min 16 ([l]++b).length:=HT.qJ _ _ 16;rw[this,Nat.sub_zero];rw[<-List.take_eq_take_min];rfl
 have u:j≠a:=λz=>by subst z;rw[(i.trans B) _ _ h]at d;cases d
 have k:=eY (H:=upd (upd (upd H n (.lst [l])) A (.lst ([l]++b))) j (.lst (mf ([l]++b) none (some 16)))) (o:=.ins c.Pair f (Cu v r (.ref j))) (as:=[a]) (a:=a) (by simp);have N:jq [a] H _:=m.but.trans k;have O:=CC (m _ _ h) T.uy;have w:∀{v:V} {g:Grammar},f6 c H v g->f6 c _ v g:=λz=>(z.same m).but k O
 refine q _ N ⟨f,v,r,j,mf ([l]++b) none (some 16),au,w J,w G,?_,?_⟩
 ·rw[aO u];exact au
 ·have z:Paired (f6 c H) ((l::b).take 16) ((s.left::s.past).take 16):=Paired.take 16 (.cons D x);rw[<-e]at z;exact Paired.jr z λ_ _ y=>w y
theorem A3.put{H:Hp}{a d l:Addr}{row:List Int}{r b:RS}(h:A3 K c H a d l row r)(e:b.place<=row.length):A3 K c (upd H a (.ins c.bF d (A0 (.ref l) b.place b.sound))) a d l row b:=
 ⟨au,GI h.1 h.2.1,e⟩
theorem Kk{i:Int}(h:0<=i):V.int i=V.int (i.toNat:Nat):=by congr 1;omega
theorem EC(T:Txt K mg c):Run ["reader","nonterminals","lo"] ["reader","nonterminals"] (tT K c) (xI K c):=by
 rintro u H Q E ⟨a,b,l,row,r,n,rfl,R,v,q⟩;refine⟨rfl,?_⟩;have j:=gS (row:=row) (r:=r) (least:=0) (most:=1) R.2.2;have f:=R.put j;refine⟨_,rfl,a,b,_,rfl,R.1,uL (by decide) (by decide) (by decide),a,b,l,row,r,0,1,rfl,R,rfl,_,rfl,?_⟩;have m:(decide (V.int (tk row r 0 1).1=V.int 0)=true)↔(tk row r 0 1).1=0:=by
  rw[dA];exact⟨λz=>by injection z,λz=>by rw[z]⟩
 refine oI (λh=>?_) (λh=>?_)
 ·have g:=m.mp h;have e:rD row n r=(.non (tk row (tk row r 0 1).2 0 (n-1)).1.toNat,(tk row (tk row r 0 1).2 0 (n-1)).2):=by unfold rD;rw[az g]
  rw[e]at q;refine⟨_,rfl,a,b,_,rfl,f.1,uL (by decide) (by decide) (by decide),_,rfl,_,_,rfl,rfl,a,b,l,row,_,0,n-1,rfl,f,small (by show 2<=1000;decide),λp d=>?_⟩;rw[gJ]at d⊢;have o:=oF (row:=row) (r:=(tk row r 0 1).2) (least:=0) (most:=n-1) (by omega);have k:jq [a] H (upd H a (.ins c.bF b (A0 (.ref l) (tk row (tk row r 0 1).2 0 (n-1)).2.place (tk row (tk row r 0 1).2 0 (n-1)).2.sound))):=eY (by simp);refine q _ _ (k.trans (uC d)) ?_ ⟨p,rfl,?_⟩
  ·rw[aO (λz=>by subst z;rw[au]at d;cases d)];exact au
  ·rw[au,Kk o.1];rfl
 ·have g:¬(tk row r 0 1).1=0:=λz=>h (m.mpr z)
  have s:=gS (row:=row) (r:=(tk row r 0 1).2) (least:=0) (most:=255) j;have R2:=f.put s;rw[gJ]at R2;have e:rD row n r=(.range (tk row (tk row r 0 1).2 0 255).1.toNat (tk row (tk row (tk row r 0 1).2 0 255).2 (tk row (tk row r 0 1).2 0 255).1 255).1.toNat,
   (tk row (tk row (tk row r 0 1).2 0 255).2 (tk row (tk row r 0 1).2 0 255).1 255).2):=by unfold rD;rw[ah g]
  rw[e]at q;refine⟨_,rfl,a,b,_,rfl,f.1,uL (by decide) (by decide) (by decide),a,b,l,row,_,0,255,rfl,f,?_⟩;rw[gJ];refine⟨_,rfl,_,rfl,a,b,_,rfl,R2.1,uL (by decide) (by decide) (by decide),_,rfl,a,b,l,row,_,_,255,rfl,R2,small (by show 3<=1000;decide),λp d=>?_⟩;rw[gJ]at d⊢;have i:=oF (row:=row) (r:=(tk row r 0 1).2) (least:=0) (most:=255) (by decide);have t:=oF (row:=row) (r:=(tk row (tk row r 0 1).2 0 255).2) (least:=(tk row (tk row r 0 1).2 0 255).1) (most:=255) i.2;have k:jq [a] H (upd H a (.ins c.bF b (A0 (.ref l) (tk row (tk row (tk row r 0 1).2 0 255).2 (tk row (tk row r 0 1).2 0 255).1 255).2.place (tk row (tk row (tk row r 0 1).2 0 255).2 (tk row (tk row r 0 1).2 0 255).1 255).2.sound))):=eY (by simp);refine q _ _ (k.trans (uC d)) ?_ ⟨p,rfl,?_⟩
  ·rw[aO (λz=>by subst z;rw[au]at d;cases d)];exact au
  ·rw[au,Kk i.1,Kk (Int.le_trans i.1 t.1)];rfl
end
section
variable{K:Frag}{mg:Str->Option Value}{c:Cl}
theorem AH{a:Type}(f:RS->a×RS):∀(k:Nat) (r:RS),times f (k+1) r=((times f k r).1++[(f (times f k r).2).1],(f (times f k r).2).2)
 |0,r=>rfl
 |k+1,r=>by
  have b:=AH f k (f r).2;show((f r).1::(times f (k+1) (f r).2).1,(times f (k+1) (f r).2).2)=_;rw[b];rfl
theorem Jl{a:Type}(f:RS->a×RS):∀(k:Nat) (r:RS),(times f k r).1.length=k
 |0,r=>rfl
 |k+1,r=>by show(times f k (f r).2).1.length+1=k+1;rw[Jl f k]
theorem UO{H b:Hp}{a l C f:Addr}{fs:List (Str×V)}{d:List V}(h:jq [a] H b)(e:H a=some (.ins C f fs))(q:eD K H l d):eD K b l d:=by
 rcases q with(q|⟨u,q⟩)|q
 ·exact .inl (.inl (h l _ q (by simpa using xS q e (by intro z;cases z))))
 ·exact .inl (.inr ⟨u,h l _ q (by simpa using xS q e (by intro z;cases z))⟩)
 ·exact .inr q
theorem Pz{H d:Hp}{a C f:Addr}{fs:List (Str×V)}(h:jq [a] H d)(g:H a=some (.ins C f fs)):bT H d:=λb i e=>h b _ e λm=>by
 simp at m;subst m;rw[g]at e;cases e
theorem L7{M:Type}{At:Hp->V->M->Prop}{f:List Int->Int->RS->M×RS}(mono:∀{H d:Hp} {v:V} {x:M},bT H d->At H v x->At d v x){ir iN ip:Nat}{vs:List Nat}{σ:L2.St}{B:Hp}{D:Addr}{T:Hp->Prop}{a p l:Addr}{row:List Int}{n:Int}{r:RS}{k:Nat}
 (hv:∀x,σ=σ->wipe ((wipe σ vs).set ip (some x)) vs=wipe σ vs)(hr:∀x,((wipe σ vs).set ip (some x))[ir]?=some (some (.ref a))) (hN:∀x,((wipe σ vs).set ip (some x))[iN]?=some (some (.int n)))
 (st:∀k,FE row (times (f row n) k)) (R:A3 K c B a p l row r) (hn:1<=n) (hk:k<=1000) (w:B D=none)
 (hd:∀d g,jq [a] B d->d D=some (.lst g)->A3 K c d a p l row (times (f row n) k r).2->Paired (At d) g (times (f row n) k r).1->T d):
 ∃W:Nat->Nat->Hp->Prop,(∃m,W 0 m (upd B D (.lst [])))/\∀i m H,W i m H->
  ((Ra 0 k).stop i H/\T H)\/((Ra 0 k).go i H/\∃N:Hp->Prop,(∀d,N d->∃U,U<m/\W (i+1) U d)/\∀x d,(Ra 0 k).NL i H x d->(bw ip) x (wipe σ vs) d λs I=>wipe s vs=wipe σ vs/\zR s I λb Y=>
    if b=true then(cM (Kt K c At f) [] E0 (aq (ao ir) (aq (ao iN) aR))) s Y λy Z=>∃t,Z D=some (.lst t)/\t.length<sizeLine/\N (upd Z D (.lst (t++[y])))else N Y):=by
 have C:D≠a:=λe=>by subst e;rw[R.1]at w;cases w
 have j:∀{H:Hp} {r:RS} {o:HO},A3 K c H a p l row r->A3 K c (upd H D o) a p l row r:=λ{H r o} z=>by
  refine⟨by rw[aO C.symm];exact z.1,?_,z.2.2⟩;rcases R.2.1 with(q|⟨u,q⟩)|q
  ·have e:=cZ q w;rcases z.2.1 with(h|⟨u,h⟩)|h
   ·exact .inl (.inl (by rw[aO e];exact h))
   ·exact .inl (.inr ⟨u,by rw[aO e];exact h⟩)
   ·exact .inr h
  ·have e:=cZ q w;rcases z.2.1 with(h|⟨u,h⟩)|h
   ·exact .inl (.inl (by rw[aO e];exact h))
   ·exact .inl (.inr ⟨u,by rw[aO e];exact h⟩)
   ·exact .inr h
  ·exact .inr q
 refine Uo (λi d=>jq [a] B d/\A3 K c d a p l row (times (f row n) i r).2/\∃g,d D=some (.lst g)/\Paired (At d) g (times (f row n) i r).1) ?_ ?_ ?_
 ·exact⟨(aD w).but,j R,[],au,.nil⟩
 ·rintro i d hi ⟨b,A,g,O,J⟩;refine⟨hv _ rfl,J1 (pM ?_)⟩;refine⟨_,hr _,_,hN _,a,p,l,row,_,n,rfl,A,hn,λv I L Q hA=>?_⟩;have E:I D=some (.lst g):=L D _ O (by simpa using C);have G:g.length<sizeLine:=by rw[J.len,Jl];exact rC (by omega)
  refine⟨g,E,G,?_⟩;have pl:(f row n (times (f row n) i r).2).2.place<=row.length:=by
   have :=(st (i+1)).place r R.2.2;rw[AH]at this;exact this
  have R2:A3 K c I a p l row (f row n (times (f row n) i r).2).2:=⟨Q,UO L A.1 A.2.1,pl⟩;have tp:=Pz L A.1;have tL:=jo (o:=.lst (g++[v])) E;rw[AH];refine⟨λq o e m=>?_,j R2,g++[v],au,iE (Paired.jr J λ_ _ z=>mono (tp.trans tL) z) (mono tL hA)⟩;rw[aO (cZ e w)];exact L _ _ (b _ _ e m) m
 ·rintro d ⟨b,A,g,O,J⟩;exact hd d g b O A J
end
section
variable{K:Frag}{mg:Str->Option Value}{c:Cl}
theorem Hw(T:Txt K mg c):Run ["reader","nonterminals","owner","size","place","symbols"] ["reader","nonterminals"] (pP K c) (Bu K c):=by
 rintro vs H Q E ⟨a,b,l,row,r,n,rfl,R,v,q⟩;refine⟨rfl,?_⟩;have g:=gS (row:=row) (r:=r) (least:=0) (most:=n-1) R.2.2;have d:=R.put g;have m:=oF (row:=row) (r:=r) (least:=0) (most:=n-1) (by omega);refine⟨_,rfl,a,b,_,rfl,R.1,uL (by decide) (by decide) (by decide),_,rfl,_,_,rfl,rfl,a,b,l,row,r,0,n-1,rfl,R,?_⟩;unfold pk at q;generalize tk row r 0 (n-1)=u at g d m q⊢;have s:=gS (row:=row) (r:=u.2) (least:=0) (most:=8) g;have R2:=d.put s;have x:=oF (row:=row) (r:=u.2) (least:=0) (most:=8) (by decide);refine⟨_,rfl,a,b,_,rfl,d.1,uL (by decide) (by decide) (by decide),a,b,l,row,_,0,8,rfl,d,?_⟩;generalize tk row u.2 0 8=w at s R2 x q⊢;rw[gJ]at R2⊢;refine⟨_,rfl,_,rfl,by omega,by omega,λD y=>?_⟩;refine L7 (At:=oR) (f:=rD) (ir:=0) (iN:=1) (ip:=4) (vs:=[4]) (σ:=[some (.ref a),some (.int n),some (.int u.1),some (.int w.1),none,none]) (k:=w.1.toNat) (λt z=>oR.mono t z) (by intro _ _;rfl) (by intro _;rfl) (by intro _;rfl) (λk=>iq (qr row n) k) R2 v (by omega) y λL h A B C G=>?_
 refine⟨_,rfl,_,rfl,D,h,rfl,eD.of B,λt I=>?_⟩;have i:=aD (o:=.tup h) I;refine⟨small (j1 rfl),λp j=>?_⟩;have e:=aD (o:=.tup [.int u.1,.ref t]) j;have J:jq [a] H (upd H a (.ins c.bF b (A0 (.ref l) w.2.place w.2.sound))):=eY (by simp);refine q _ _ ((J.trans A).trans (i.trans e).but) (e _ _ (i _ _ C.1)) ⟨p,.ref t,rfl,?_,t,h,rfl,e _ _ au,Paired.jr G λ_ _ z=>z.mono (aZ.tup (i.trans e))⟩;rw[au,Kk m.1]
theorem AD(T:Txt K mg c):Run ["row","reader","nonterminals","size","place","rules"] ["row"] (pG K c) (tZ K c):=by
 rintro vs H Q E ⟨l,row,rfl,G,q⟩;refine⟨rfl,?_⟩;refine⟨_,rfl,λa b m e g=>?_⟩;refine⟨a,b,l,rfl,au,rfl,?_⟩;rw[gJ];have i:aZ H (upd (upd H b (.own a)) a (.ins c.bF b (A0 (.ref l) 0 true))):=(aD e).trans (aD (by rw[aO g.symm];exact m));have R:A3 K c (upd (upd H b (.own a)) a (.ins c.bF b (A0 (.ref l) 0 true))) a b l row ⟨0,true⟩:=⟨au,i.seq G,br _⟩;generalize upd (upd H b (.own a)) a (.ins c.bF b (A0 (.ref l) 0 true))=o at i R⊢;have j:=gS (row:=row) (r:=⟨0,true⟩) (least:=1) (most:=20) (br _);have d:=R.put j;have p:=oF (row:=row) (r:=⟨0,true⟩) (least:=1) (most:=20) (by decide);refine⟨_,rfl,a,b,_,rfl,R.1,uL (by decide) (by decide) (by decide),a,b,l,row,_,1,20,rfl,R,?_⟩;unfold uT pf at q;generalize tk row ⟨0,true⟩ 1 20=u at j d p q⊢;have s:=gS (row:=row) (r:=u.2) (least:=0) (most:=60) j;have R2:=d.put s;have I:=oF (row:=row) (r:=u.2) (least:=0) (most:=60) (by decide);refine⟨_,rfl,a,b,_,rfl,d.1,uL (by decide) (by decide) (by decide),a,b,l,row,_,0,60,rfl,d,?_⟩;generalize tk row u.2 0 60=w at s R2 I q⊢;rw[gJ]at R2⊢;refine⟨_,rfl,_,rfl,by omega,by omega,λD J=>?_⟩;refine L7 (At:=i3) (f:=pk) (ir:=1) (iN:=2) (ip:=4) (vs:=[4]) (σ:=[some (.ref l),some (.ref a),some (.int u.1),some (.int w.1),none,none]) (k:=w.1.toNat) (λt z=>i3.mono t z) (by intro _ _;rfl) (by intro _;rfl) (by intro _;rfl) (λk=>iq (o9 row u.1) k) R2 p.1 (by omega) J λy L M N A O=>?_
 have U:jq [a] o (upd o a (.ins c.bF b (A0 (.ref l) w.2.place w.2.sound))):=eY (by simp);have B:aZ H y:=Lv (i.but.trans (U.trans M)) λx C=>by simp at C;subst C;exact m
 refine⟨_,rfl,a,b,_,rfl,A.1,uL (by decide) (by decide) (by decide),a,b,l,row,_,rfl,A,_,rfl,?_⟩;dsimp only at q;refine oI (λh=>?_) (λh=>?_)
 ·rw[az h]at q;refine⟨_,rfl,_,rfl,?_⟩;refine ui (K:=K) (n:=u.1.toNat) (by omega) ⟨D,L,rfl,N,O⟩ λv Y Z h2=>q v Y (B.trans Z) h2
 ·rw[ah h]at q;exact q _ y B rfl
end
section
variable{K:Frag}{mg:Str->Option Value}{c:Cl}
theorem SA(s:Sym):R9 s=c4 (Vaglrn.toInts (Vaglrc.flatSym s)):=by cases s<;>rfl
theorem wc(a b:List Nat):Vaglrn.toInts (a++b)=Vaglrn.toInts a++Vaglrn.toInts b:=dq
theorem ints_app(a b:List Int):c4 (a++b)=c4 a++c4 b:=dq
theorem B3{a b:Type}(f:a->List b)(l:List a)(x:a):(l++[x]).flatMap f=l.flatMap f++f x:=by
 rw[cx];simp
theorem oE(l:List Nat):(Vaglrn.toInts l).length=l.length:=aP _
theorem LB(l:List Sym):(l.flatMap Vaglrc.flatSym).length<=l.length*3:=ja λs _=>by cases s<;>simp[Vaglrc.flatSym]
theorem Up{n:Nat}{r:Rule}(h:k_ n r):(Vaglrc.flatRule r).length<=26:=by
 have :=LB r.rhs;have :=h.len;show(r.rhs.flatMap Vaglrc.flatSym).length+1+1<=26;omega
def HI(l:List Nat):List V:=c4 (Vaglrn.toInts l)
theorem Ml(a b:List Nat):HI (a++b)=HI a++HI b:=by unfold HI;rw[wc,ints_app]
theorem Fy(l:List Nat):(HI l).length=l.length:=by unfold HI;rw[iF,oE]
theorem AU(T:Txt K mg c):Run ["grammar","row","owner","symbols","symbol"] ["grammar"] (pH K c) (uj K c):=by
 rintro vs H Q E ⟨v,g,rfl,⟨a,C,r,rfl,G,b,I,rfl,J,hp⟩,L,q⟩;refine⟨rfl,?_⟩;have x:=hp.len;refine⟨_,rfl,a,c.Grammar,C,_,_,rfl,G,T.b_,T.bo,uQ _ _,_,rfl,a,c.Grammar,C,_,_,rfl,G,T.b_,T.cN,zI _ _,b,I,rfl,.inl (eD.of J),small (j1 rfl),λD M=>?_⟩;have N:aZ H (upd H D (.lst [.int g.nons,.int I.length])):=aD M;refine⟨_,rfl,a,c.Grammar,C,_,_,rfl,N _ _ G,T.b_,T.cN,zI _ _,b,rfl,⟨_,eD.of (N _ _ J)⟩,mx (K:=K) (a:=b) (xs:=I) (λi m p=>∃O U z:Option V,m=[some (.ref a),some (.ref D),O,U,z]/\aZ H p/\p D=some (.lst (HI (g.nons::g.rules.length::(g.rules.take i).flatMap Vaglrc.flatRule))))
  ⟨_,_,_,rfl,N,by rw[au,x];rfl⟩ (by rintro i m p _ ⟨_,_,_,_,s,_⟩;exact eD.of (s _ _ J)) ?_ ?_⟩
 ·rintro i y m p hi ⟨O,U,z,rfl,s,f⟩;obtain⟨l,A,Y⟩:=hp.at hi;obtain⟨t,w,rfl,ht,u,Z,rfl,hu,hz⟩:=Y.mono (aZ.tup s);have x6:=(ai.mp A).1;have x7:=L.len;have x0:=L.rule l (bj A);have l1:((g.rules.take i).flatMap Vaglrc.flatRule).length<=60*26:=by
   refine bh (ja (c:=26) λr A=>Up (L.rule r (gC A))) ?_;rw[cq];exact gF _ (by omega)
  have x8:=x0.len;have B:=hz.len;have big:∀{n:Nat},n<=3000->n<sizeLine:=λh=>by rw[bu];omega
  refine⟨t,_,rfl,kF.of ht,rfl,_,_,rfl,_,_,rfl,rfl,?_⟩;refine⟨_,rfl,.inl ⟨rfl,_,eD.of f⟩,_,rfl,D,_,_,rfl,rfl,f,big (by rw[Fy,aG,aG];omega),?_⟩;refine⟨_,rfl,.inl ⟨rfl,_,eD.of au⟩,_,rfl,u,Z,rfl,.inr (kF.of (jo f _ _ hu)),D,_,_,rfl,rfl,au,big (by rw[ay,Fy,aG,aG];show _+1<=_;omega),?_⟩;rw[gJ];have tD:∀{o:HO},bT p (upd p D o):=jo f;have sD:∀{o:HO},aZ H (upd p D o):=λq o e=>by rw[aO (cZ e M)];exact s _ _ e
  have e1:HI (g.nons::g.rules.length::(g.rules.take i).flatMap Vaglrc.flatRule)++[V.int l.lhs]++[V.int Z.length]=HI ((g.nons::g.rules.length::(g.rules.take i).flatMap Vaglrc.flatRule)++[l.lhs,l.rhs.length]):=by
   rw[Ml,bN,B];rfl
  rw[e1];refine⟨_,rfl,u,rfl,⟨_,kF.of (tD _ _ hu)⟩,Ql (K:=K) (a:=u) (xs:=Z) (λj m d=>∃z:Option V,m=[some (.ref a),some (.ref D),some (.int l.lhs),some (.ref u),z]/\aZ H d/\bT p d/\d D=some (.lst (HI ((g.nons::g.rules.length::(g.rules.take i).flatMap Vaglrc.flatRule)++[l.lhs,l.rhs.length]++(l.rhs.take j).flatMap Vaglrc.flatSym))))
   ⟨_,rfl,sD,tD,by rw[au];simp⟩ (by rintro j m d _ ⟨_,_,_,tt,_⟩;exact kF.of (tt _ _ hu)) ?_ ?_⟩
  ·rintro j y m d hj ⟨x1,rfl,s2,t2,k⟩;obtain⟨sy,x2,x3⟩:=hz.at hj;obtain⟨yy,rfl,x4⟩:=x3.mono t2;have l2:=LB (l.rhs.take j);have l3:(l.rhs.take j).length<=8:=by rw[cq];omega
   refine⟨_,rfl,.inl ⟨rfl,_,eD.of k⟩,_,rfl,D,yy,_,_,rfl,rfl,k,kF.of x4,?_,?_⟩
   ·have :(R9 sy).length<=3:=by cases sy<;>simp[R9]
    rw[Fy,bu];simp only[ay,aG,fS];omega
   ·have x5:∀{o:HO},bT d (upd d D o):=jo k;refine⟨_,rfl,λq o e=>by rw[aO (cZ e M)];exact s2 _ _ e,t2.trans x5,?_⟩;rw[au,take_snoc x2,B3,<-bN,Ml _ (Vaglrc.flatSym sy),SA];rfl
  ·rintro m d ⟨x1,rfl,s2,t2,k⟩;rw[B,bP]at k;refine⟨_,_,_,rfl,s2,?_⟩;rw[k,take_snoc A,B3];unfold Vaglrc.flatRule;simp
 ·rintro m p ⟨O,U,z,rfl,s,f⟩;rw[x,bP]at f;exact⟨_,rfl,q _ _ s ⟨D,rfl,f⟩⟩
theorem Mm(T:Txt K mg c):Run ["number"] ["number"] (oB K c) (FT K c):=by
 rintro f H Q E ⟨i,rfl,q⟩;refine⟨rfl,?_⟩;refine⟨_,rfl,small (j1 rfl),λp d=>⟨p,_,rfl,.inr (kF.of au),rfl,rfl,?_⟩⟩;have e:X_ (.int i) [.int 0,.int 1]=decide (i=0\/i=1):=by
  unfold X_;simp only[ic,List.any_nil,Ss,Bool.or_false];by_cases a:i=0
  ·subst a;rfl
  ·by_cases b:i=1
   ·subst b;rfl
   ·rw[aM (by simp[a,b])];simp;omega
 show Q (.bl (X_ (.int i) [.int 0,.int 1])) _;rw[e];exact q _ (aD d)
theorem A5(T:Txt K mg c):Run ["row"] ["row"] (gT K c) (ue K c):=by
 rintro i H Q E ⟨l,b,rfl,d,q⟩;refine⟨rfl,?_⟩;refine⟨_,rfl,_,rfl,l,b,rfl,d,λe=>?_,λm f a=>?_⟩
 ·subst e;exact⟨_,_,rfl,rfl,q⟩
 ·refine⟨_,_,rfl,rfl,?_⟩;have e:decide (m<0)=Vaglrn.negative b:=by
   unfold Vaglrn.negative;by_cases h:m<0
   ·rw[aF h];exact(dP.mpr ⟨m,f,aF h⟩).symm
   ·rw[aM h];symm;rw[mI];intro x g;have :=a x g;simp;omega
  rw[<-e]at q;exact q
theorem EK(T:Txt K mg c):Run ["grammar"] ["grammar"] (gX K c) (yL K c):=by
 rintro k H Q E ⟨v,g,rfl,⟨a,d,r,rfl,e,b,h,rfl,i,j⟩,q⟩;refine⟨rfl,?_⟩;refine⟨_,rfl,a,c.Grammar,d,_,_,rfl,e,T.b_,T.bo,uQ _ _,_,rfl,a,c.Grammar,d,_,_,rfl,e,T.b_,T.cN,zI _ _,b,h,rfl,.inl (eD.of i),small (j1 rfl),λD f=>?_⟩;refine q _ _ (aD f) ⟨D,rfl,f,?_⟩;rw[au,j.len];rfl
end
section
variable{K:Frag}{mg:Str->Option Value}{c:Cl}
theorem Dk(T:Txt K mg c):Run ["self","nonterminals","rules"] ["self","nonterminals","rules"] (cz K c) (w_ K c):=by
 rintro d H Q E ⟨x,a,n,r,rfl,b,q⟩;refine⟨rfl,?_⟩;refine⟨_,rfl,_,rfl,x,c.Grammar,a,[],rfl,b,T.b_,T.bo,by decide,?_⟩;refine⟨_,rfl,_,rfl,x,c.Grammar,a,_,rfl,au,T.b_,T.cN,(by show 1<1000;decide),?_⟩;rw[gJ];exact q
theorem CI(T:Txt K mg c):Run ["grammar"] ["grammar"] (rL K c) (wU K c):=by
 rintro o H Q E ⟨v,g,rfl,⟨a,f,r,rfl,i,l,d,rfl,k,m⟩,q⟩;refine⟨rfl,?_⟩;refine⟨_,rfl,a,c.Grammar,f,_,_,rfl,i,T.b_,T.bo,uQ _ _,_,_,rfl,rfl,_,rfl,?_⟩;have b:d.length=g.rules.length:=m.len;have n:Vaglrn.fits g=(decide (g.nons<=20)&&decide (g.rules.length<=60)):=rfl;rw[n]at q;refine oI (λh=>?_) (λh=>?_)
 ·have j:20<g.nons:=by have :=bU h;omega
  have e:(!(decide (g.nons<=20)&&decide (g.rules.length<=60)))=true:=by
   rw[aM (by omega),gM];rfl
  rw[e]at q;exact q
 ·have j:g.nons<=20:=by
   have :=of_decide_eq_false (cY.mpr h);omega
  refine⟨_,rfl,a,c.Grammar,f,_,_,rfl,i,T.b_,T.cN,zI _ _,l,d,rfl,.inl (eD.of k),_,_,rfl,rfl,?_⟩;rw[aF j,fY]at q;have e:(!decide (g.rules.length<=60))=decide ((60:Int)<(d.length:Int)):=by
   rw[b];by_cases z:g.rules.length<=60
   ·rw[aF z,aM (by omega)];rfl
   ·rw[aM z,aF (by omega)];rfl
  rw[e]at q;exact q
def LL(c:Cl)(H:Hp)(a:List Addr):Prop:=∀x∈a,∃C b fs,H x=some (.ins C b fs)/\C≠c.Grammar
theorem LL.other{H:Hp}{a:List Addr}(h:LL c H a):∀x∈a,Other c (H x):=λx b=>by
 obtain⟨C,d,fs,e,n⟩:=h x b;exact Ik e n
theorem LL.one{H:Hp}{a C b:Addr}{fs:List (Str×V)}(h:H a=some (.ins C b fs))(n:C≠c.Grammar):LL c H [a]:=λx d=>by
 simp at d;subst d;exact⟨C,b,fs,h,n⟩
theorem lB.but{H b:Hp}{as:List Addr}{a:Addr}{s:State}(t:jq as H b)(n:LL c H as)(i:a∉as)(h:lB c H a s):lB c b a s:=by
 obtain⟨d,l,r,f,j,k,o,p,g,q⟩:=h;refine⟨d,l,r,f,j,t _ _ k i,o.but t n.other,p.but t n.other,t _ _ g λm=>?_,Paired.jr q λ_ _ z=>z.but t n.other⟩;obtain⟨C,d,fs,e,_⟩:=n f m;rw[g]at e;cases e
theorem lB.same{H b:Hp}{a:Addr}{s:State}(t:aZ H b)(h:lB c H a s):lB c b a s:=by
 obtain⟨d,l,r,e,f,g,i,j,k,m⟩:=h;exact⟨d,l,r,e,f,t _ _ g,i.same t,j.same t,t _ _ k,Paired.jr m λ_ _ z=>z.same t⟩
theorem nZ.but{H d:Hp}{as:List Addr}{b a l:Addr}{ns:List Int}{p:Nat}(t:jq as H d)(n:LL c H as)(f:b∉as)(h:nZ K c H b a l ns p):nZ K c d b a l ns p:=by
 refine⟨t _ _ h.1 f,?_⟩;rcases h.2 with(q|⟨u,q⟩)|q
 ·exact .inl (.inl (t _ _ q λm=>by obtain⟨C,a,fs,e,_⟩:=n l m;rw[q]at e;cases e))
 ·exact .inl (.inr ⟨u,t _ _ q λm=>by obtain⟨C,a,fs,e,_⟩:=n l m;rw[q]at e;cases e⟩)
 ·exact .inr q
theorem nZ.same{H a:Hp}{b d l:Addr}{ns:List Int}{p:Nat}(t:aZ H a)(h:nZ K c H b d l ns p):nZ K c a b d l ns p:=⟨t _ _ h.1,t.seq h.2⟩
theorem nZ.put{H:Hp}{a b l:Addr}{d:List Int}{p q:Nat}(h:nZ K c H a b l d p):nZ K c (upd H a (.ins c.aL b (rS (.ref l) q))) a b l d q:=⟨au,GI h.1 h.2⟩
theorem lB.Bc{H:Hp}{a:Addr}{s:State}(T:Txt K mg c)(h:lB c H a s):LL c H [a]:=by
 obtain⟨d,l,r,e,f,b,_⟩:=h;exact .one b T.uy
theorem nZ.Bc{H:Hp}{a b l:Addr}{d:List Int}{p:Nat}(T:Txt K mg c)(h:nZ K c H a b l d p):LL c H [a]:=.one h.1 T.zW
theorem js.back{H d f:Hp}{v:V}{g k:List Int}{a i m l:Addr}{s:State}{p:Nat}(b:jq [a,i] H d)(P:lB c d a s)(C:nZ K c d i m l k p)(h:js d f v g):js H f v g:=
 h.but b λx j=>by
  simp at j;rcases j with e|e
  ·subst e;obtain⟨_,_,_,_,_,z,_⟩:=P;rw[z];simp
  ·subst e;rw[C.1];simp
theorem HK(T:Txt K mg c):Run ["pair","grammar"] ["pair","grammar"] (dF K c) (Cn K c):=by
 rintro w H Q E ⟨a,v,s,g,rfl,b,d,n,q⟩;refine⟨rfl,?_⟩;refine⟨_,rfl,v,g,rfl,d,_,rfl,?_⟩;unfold Vaglrn.hold at q;cases i:Vaglrn.fits g with
 |false=>
  rw[i]at q;refine⟨small (j1 rfl),λp e=>?_⟩;exact q _ _ (uC e) (b.same (aD e)) (lQ (ns:=[-6]) e)
 |true=>
  rw[i]at q;obtain⟨o,l,r,y,A,t,_⟩:=id b;refine⟨_,rfl,a,o,_,rfl,t,JM (by decide) (by decide) (by decide),_,rfl,a,v,s,g,rfl,b,d,n,λB f j=>?_⟩;have h:=d.but f (b.Bc T).other;refine⟨_,rfl,v,g,rfl,h,λC D k u=>?_⟩;exact q _ _ (f.trans k.but) (j.same k) (u.but f λx m=>by simp at m;subst m;obtain⟨_,_,_,_,_,z,_⟩:=j;rw[z];simp)
end
section
variable{K:Frag}{mg:Str->Option Value}{c:Cl}
theorem Fw{a:List Int}{p:Nat}{x:Int}{t:List Int}(h:a.drop p=x::t):a[p]?=some x/\a.drop (p+1)=t/\p<a.length:=by
 have b:p<a.length:=by
  have :=cV List.length h;simp at this;omega
 rw[fA b]at h;injection h with d e
 exact⟨by rw[aB b,d],e,b⟩
theorem zf(T:Txt K mg c){p:Int}{f:Grammar->Grammar->Grammar}(B:PyVaglrn.shape p=some (0,0))(b:∀s,VaglrnNeutral.step s [[p]]=Vaglrn.hold s (f s.left s.right)){H:Hp}{Q:VK}{E:XK}{y:List V}(h:Handler K c p y H Q E):
 ∃(a k:Addr) (s:State) (z:Addr) (l r:V) (i:Addr) (m:List V),y=[.ref a,.ref k]/\H a=some (.ins c.Pair z (Cu l r (.ref i)))/\H i=some (.lst m)/\f6 c H l s.left/\f6 c H r s.right/\mr s.left/\mr s.right/\
  ∀v j,aZ H j->f6 c j v (f s.left s.right)->dF K c [.ref a,v] j Q E:=by
 obtain⟨a,k,s,z,l,ns,place,cc,t,rfl,n,d,C,o,e,u,q⟩:=h;obtain⟨w,D,G,i,m,I,J,L,M,N⟩:=id n;obtain⟨rfl,rfl⟩:=Qp B e;rw[b]at q;refine⟨a,k,s,w,D,G,i,m,rfl,I,M,J,L,d.left,d.right,λv j g O=>⟨a,v,s,_,rfl,n.same g,O,d.len,λU Y A Z L2=>?_⟩⟩;have x:=(C.same g).but A ((n.same g).Bc T) (by simpa using u.symm);exact q U Y place (g.but.trans (A.mono (by simp))) Z x o.1 rfl (L2.same g)
theorem Np(T:Txt K mg c):Run ["pair","reader"] ["pair","reader"] (IG K c) (IP K c):=by
 intro p H Q E h;obtain⟨a,q,s,b,l,r,t,u,rfl,d,w,e,g,i,j,k⟩:=zf T (f:=Vaglrn.choice) rfl (λ_=>rfl) h;refine⟨rfl,?_⟩;refine⟨_,rfl,_,rfl,a,c.Pair,b,_,_,rfl,d,T.cO,T.cn,fb _ _ _,_,rfl,a,c.Pair,b,_,_,rfl,d,T.cO,T.fC,mY _ _ _,l,r,_,_,rfl,e,g,i,j,λv m n o=>k v m n o⟩
theorem NP(T:Txt K mg c):Run ["pair","reader"] ["pair","reader"] (Jm K c) (Jx K c):=by
 intro p H Q E h;obtain⟨a,q,s,b,l,r,t,u,rfl,d,w,e,g,i,j,k⟩:=zf T (f:=Vaglrn.behind) rfl (λ_=>rfl) h;refine⟨rfl,?_⟩;refine⟨_,rfl,_,rfl,a,c.Pair,b,_,_,rfl,d,T.cO,T.cn,fb _ _ _,_,rfl,a,c.Pair,b,_,_,rfl,d,T.cO,T.fC,mY _ _ _,l,r,_,_,rfl,e,g,i,j,λv m n o=>k v m n o⟩
theorem SQ(T:Txt K mg c):Run ["pair","reader"] ["pair","reader"] (PV K c) (Pq K c):=by
 intro o H Q E h;obtain⟨a,p,s,b,l,r,q,t,rfl,d,u,e,w,i,x,k⟩:=zf T (f:=λg _=>Vaglrn.many g) rfl (λ_=>rfl) h;refine⟨rfl,?_⟩;refine⟨_,rfl,_,rfl,a,c.Pair,b,_,_,rfl,d,T.cO,T.cn,fb _ _ _,l,_,rfl,e,i,λv j m n=>k v j m n⟩
theorem UT(T:Txt K mg c):Run ["pair","reader"] ["pair","reader"] (Po K c) (Pt K c):=by
 intro o H Q E h;obtain⟨a,p,s,b,l,r,q,t,rfl,d,u,e,w,i,x,k⟩:=zf T (f:=λg _=>Vaglrn.turned g) rfl (λ_=>rfl) h;refine⟨rfl,?_⟩;refine⟨_,rfl,_,rfl,a,c.Pair,b,_,_,rfl,d,T.cO,T.cn,fb _ _ _,l,_,rfl,e,i,λv j m n=>k v j m n⟩
theorem i5(T:Txt K mg c){H:Hp}{a b:Addr}{s:State}{e l:Addr}{d:List Int}{place:Nat}{x:Int}{t:List Int}(h:lB c H a s)(g:nZ K c H b e l d place)(f:a≠b)(i:d.drop place=x::t):
 d[place]?=some x/\d.drop (place+1)=t/\place+1<=d.length/\jq [a,b] H (upd H b (.ins c.aL e (rS (.ref l) (place+1))))/\
  lB c (upd H b (.ins c.aL e (rS (.ref l) (place+1)))) a s/\nZ K c (upd H b (.ins c.aL e (rS (.ref l) (place+1)))) b e l d (place+1):=by
 obtain⟨j,k,m⟩:=Fw i;refine⟨j,k,m,eY (by simp),h.but (as:=[b]) (eY (by simp)) (g.Bc T) (by simpa using f),g.put⟩
theorem qG{l:V}{p:Nat}:(rS l p).lookup ("take_number":Str)=none:=JC (by decide) (by decide)
theorem BW{l:V}{p:Nat}:(rS l p).lookup ("take_row":Str)=none:=JC (by decide) (by decide)
theorem Wq(T:Txt K mg c):Run ["pair","reader","place"] ["pair","reader"] (Tr K c) (Vh K c):=by
 rintro vs H Q E ⟨a,k,s,C,l,U,place,cc,t,rfl,hP,d,I,x0,f,m,q⟩;refine⟨rfl,?_⟩;obtain⟨x,hd,rfl⟩:=M7 rfl f;obtain⟨g1,g2,g3,J,j,D⟩:=i5 T hP I m hd;refine⟨_,rfl,k,C,_,rfl,I.1,qG,k,C,l,U,place,x,rfl,I,g1,?_⟩;generalize upd H k (.ins c.aL C (rS (.ref l) (place+1)))=n at J j D⊢;obtain⟨g,l',r',lb,gs,L,⟨M,o,gr,rfl,r,N⟩,hr,hb,x1⟩:=id j;have hl:f6 c n (.ref M) s.left:=⟨M,o,gr,rfl,r,N⟩;have u:∀w i,jq [a,k] n i->lB c i a (VaglrnNeutral.step s [[5,x]]).1->nZ K c i k C l U (place+1)->js n i w (VaglrnNeutral.step s [[5,x]]).2->Q w i:=λw i b p cr ls=>q w i (place+1) (J.trans b) p cr g3 g2 (ls.back J j D)
 clear q;have es:VaglrnNeutral.step s [[5,x]]=if x<0 then(s,[-4])else if(s.left.nons:Int)<=x then(s,[-4])else Vaglrn.hold s (Vaglrn.putIn s.left s.right x.toNat):=by
  show(Vaglrn.step s (.put x))=_;rfl
 rw[es]at u;have y:¬(0<=x/\x<s.left.nons)->∀p,n p=none->Q (.ref p) (upd n p (.lst (c4 [-4]))):=λY p G=>by
  have e:(if x<0 then(s,[-4])else if(s.left.nons:Int)<=x then(s,[-4])else Vaglrn.hold s (Vaglrn.putIn s.left s.right x.toNat):State×Vaglrn.Answer)=(s,[-4]):=by
   by_cases A:x<0
   ·rw[az A]
   ·rw[ah A,az (by omega)]
  rw[e]at u;exact u _ _ (uC G) (j.same (aD G)) (D.same (aD G)) (lQ G)
 refine⟨_,rfl,_,_,rfl,rfl,_,rfl,?_⟩;refine oI (λh=>?_) (λh=>?_)
 ·have A:0<=x:=bU h;refine⟨_,rfl,a,c.Pair,g,_,_,rfl,L,T.cO,T.cn,fb _ _ _,M,c.Grammar,o,_,_,rfl,r,T.b_,T.bo,uQ _ _,_,_,rfl,rfl,_,rfl,?_⟩;by_cases O:x<(s.left.nons:Int)
  ·rw[aF O];refine rj ?_;have e:(if x<0 then(s,[-4])else if(s.left.nons:Int)<=x then(s,[-4])else Vaglrn.hold s (Vaglrn.putIn s.left s.right x.toNat):State×Vaglrn.Answer)=Vaglrn.hold s (Vaglrn.putIn s.left s.right x.toNat):=by
    rw[ah (by omega),ah (by omega)]
   rw[e]at u;have Y:x=((x.toNat:Nat):Int):=by omega
   refine⟨_,rfl,_,rfl,a,c.Pair,g,_,_,rfl,L,T.cO,T.cn,fb _ _ _,_,rfl,a,c.Pair,g,_,_,rfl,L,T.cO,T.fC,mY _ _ _,_,rfl,_,r',s.left,s.right,x.toNat,by rw[<-Y];rfl,hl,hr,d.left,d.right,by omega,λv H2 B h2=>?_⟩;refine⟨a,v,s,_,rfl,j.same B,h2,d.len,λw H3 Z P3 L3=>?_⟩;exact u _ _ (B.but.trans (Z.mono (by simp))) P3 ((D.same B).but Z ((j.same B).Bc T) (by simpa using m.symm)) (L3.same B)
  ·rw[aM O];refine pM ?_;exact⟨small (j1 rfl),y (λz=>O z.2)⟩
 ·have A:¬0<=x:=λz=>h (aF z)
  refine⟨_,rfl,?_⟩;refine pM ?_;exact⟨small (j1 rfl),y (λz=>A z.1)⟩
end
section
variable{K:Frag}{mg:Str->Option Value}{c:Cl}
theorem AB(T:Txt K mg c):Run ["number","grammar"] ["number","grammar"] (jX K c) (uv K c):=by
 rintro o H Q E ⟨i,v,g,rfl,⟨m,b,p,rfl,d,n,f,rfl,j,k⟩,q⟩;refine⟨rfl,?_⟩;have a:=k.len;refine⟨_,rfl,_,_,rfl,rfl,_,rfl,?_⟩;refine oI (λh=>?_) (λh=>?_)
 ·have l:0<=i:=bU h;refine⟨_,rfl,m,c.Grammar,b,_,_,rfl,d,T.b_,T.cN,zI _ _,n,f,rfl,.inl (eD.of j),_,_,rfl,rfl,?_⟩;rw[a];have e:decide (0<=i/\i<(g.rules.length:Int))=decide (i<(g.rules.length:Int)):=by simp[l]
  rw[e]at q;exact q
 ·have l:¬0<=i:=λz=>h (aF z)
  have e:decide (0<=i/\i<(g.rules.length:Int))=false:=aM (λz=>l z.1);rw[e]at q;exact q
theorem FH(T:Txt K mg c):Run ["pair","side"] ["pair","side"] (nU K c) (Ak K c):=by
 rintro j H Q E ⟨a,k,s,rfl,⟨b,l,m,n,o,f,g,h,p,i⟩,q⟩;refine⟨rfl,?_⟩;refine⟨_,rfl,rfl,_,rfl,?_⟩;by_cases d:k=0
 ·subst d;refine pM ?_;exact⟨_,rfl,a,c.Pair,b,_,_,rfl,f,T.cO,T.cn,fb _ _ _,q _ g⟩
 ·have e:(decide (V.int k=V.int 0))=false:=aM (λz=>d (by injection z));rw[e];refine rj ?_;exact⟨_,rfl,a,c.Pair,b,_,_,rfl,f,T.cO,T.fC,mY _ _ _,q _ (by rw[ah d];exact h)⟩
theorem Uy(T:Txt K mg c):Run ["pair","reader","dropped"] ["pair","reader"] (QE K c) (PF K c):=by
 rintro vs H Q E ⟨a,h,s,w,l,N,place,cc,t,rfl,hP,i,B,x0,d,j,q⟩;refine⟨rfl,?_⟩;obtain⟨x,hd,rfl⟩:=M7 rfl d;obtain⟨g1,g2,g3,C,g,y⟩:=i5 T hP B j hd;refine⟨_,rfl,h,w,_,rfl,B.1,qG,h,w,l,N,place,x,rfl,B,g1,?_⟩;generalize upd H h (.ins c.aL w (rS (.ref l) (place+1)))=k at C g y⊢;obtain⟨m,l',r',lb,gs,O,⟨U,D,gr,rfl,G,gb,I,rfl,J,n⟩,hr,hb,x1⟩:=id g;have Y:f6 c k (.ref U) s.left:=⟨U,D,_,rfl,G,gb,I,rfl,J,n⟩;have Z:=n.len;have o:∀r f,jq [a,h] k f->lB c f a (Vaglrn.dropping s x).1->nZ K c f h w l N (place+1)->js k f r (Vaglrn.dropping s x).2->Q r f:=λr f b p cr ls=>q r f (place+1) (C.trans b) p cr g3 g2 (ls.back C g y)
 clear q;unfold Vaglrn.dropping at o;have L:¬(0<=x/\x<s.left.rules.length)->∀p,k p=none->Q (.ref p) (upd k p (.lst (c4 [-8]))):=λz p A=>by
  have e:(if x<0 then(s,[-8])else if(s.left.rules.length:Int)<=x then(s,[-8])else Vaglrn.hold s (Vaglrn.without s.left x.toNat):State×Vaglrn.Answer)=(s,[-8]):=by
   by_cases h0:x<0
   ·rw[az h0]
   ·rw[ah h0,az (by omega)]
  rw[e]at o;exact o _ _ (uC A) (g.same (aD A)) (y.same (aD A)) (lQ A)
 refine⟨_,rfl,_,rfl,a,c.Pair,m,_,_,rfl,O,T.cO,T.cn,fb _ _ _,x,_,s.left,rfl,Y,_,rfl,?_⟩;by_cases z:0<=x/\x<(s.left.rules.length:Int)
 ·rw[aF z];refine rj ?_;have e:(if x<0 then(s,[-8])else if(s.left.rules.length:Int)<=x then(s,[-8])else Vaglrn.hold s (Vaglrn.without s.left x.toNat):State×Vaglrn.Answer)=Vaglrn.hold s (Vaglrn.without s.left x.toNat):=by
   rw[ah (by omega),ah (by omega)]
  rw[e]at o;have M:x=((x.toNat:Nat):Int):=by omega
  refine⟨_,rfl,_,rfl,a,c.Pair,m,_,_,rfl,O,T.cO,T.cn,fb _ _ _,_,rfl,_,s.left,x.toNat,by rw[<-M];rfl,Y,i.left,by omega,λv H2 u h2=>?_⟩;refine⟨a,v,s,_,rfl,g.same u,h2,i.len,λr H3 b3 P3 L3=>?_⟩;exact o _ _ (u.but.trans (b3.mono (by simp))) P3 ((y.same u).but b3 ((g.same u).Bc T) (by simpa using j.symm)) (L3.same u)
 ·rw[aM z];refine pM ?_;exact⟨small (j1 rfl),L z⟩
theorem za(T:Txt K mg c){H:Hp}{a b:Addr}{s:State}{e l:Addr}{d:List Int}{place:Nat}{m:Int}{w:List Int}(i:lB c H a s)(h:nZ K c H b e l d place)(f:a≠b)(j:d.drop place=m::w)(o:0<=m)(p:m.toNat<=w.length):
 d[place]?=some ((m.toNat:Nat):Int)/\place+1+m.toNat<=d.length/\d.drop (place+1+m.toNat)=w.drop m.toNat/\(d.drop (place+1)).take m.toNat=w.take m.toNat/\
  jq [a,b] H (upd H b (.ins c.aL e (rS (.ref l) (place+1+m.toNat))))/\
  lB c (upd H b (.ins c.aL e (rS (.ref l) (place+1+m.toNat)))) a s/\nZ K c (upd H b (.ins c.aL e (rS (.ref l) (place+1+m.toNat)))) b e l d (place+1+m.toNat):=by
 obtain⟨k,g,q⟩:=Fw j;have n:=cV List.length g;rw[fI]at n;refine⟨by rw[k];congr 1;omega,by omega,by rw[<-qa,g],by rw[g],eY (by simp),i.but (as:=[b]) (eY (by simp)) (h.Bc T) (by simpa using f),h.put⟩
theorem DJ{a:List Int}(b:∀x∈a,0<=x):c4 a=cB (Vaglrn.toNats a):=by
 unfold c4 cB Vaglrn.toNats;rw[d4];refine bL λx d=>?_
 have :=b x d;show V.int x=V.int ((x.toNat:Nat):Int);congr 1;omega
theorem vQ{a:List Int}(h:Vaglrn.negative a=false):∀x∈a,0<=x:=λx b=>by
 unfold Vaglrn.negative at h;rw[mI]at h;have :=h x b;simp at this;omega
theorem NF(T:Txt K mg c):Run ["pair","reader","order"] ["pair","reader"] (Iw K c) (I_ K c):=by
 rintro vs H Q E ⟨a,h,s,u,l,ns,place,cc,t,rfl,hP,e,J,x0,i,x,q⟩;refine⟨rfl,?_⟩;obtain⟨m,w,hd,h0,hm,rfl,rfl⟩:=W6 rfl i;obtain⟨g1,g2,g3,g4,n,d,f⟩:=za T hP J x hd h0 hm;refine⟨_,rfl,h,u,_,rfl,J.1,BW,h,u,l,ns,place,m.toNat,rfl,J,g1,g2,λo L=>?_⟩;rw[g4];have y:(upd H h (.ins c.aL u (rS (.ref l) (place+1+m.toNat)))) o=none:=by
  rw[aO (λz=>by subst z;rw[J.1]at L;cases L)];exact L
 generalize upd H h (.ins c.aL u (rS (.ref l) (place+1+m.toNat)))=H0 at n d f y⊢;have M:=aD (o:=.lst (c4 (w.take m.toNat))) y;replace n:=n.trans (M.but (as:=[a,h]));replace d:=d.same M;replace f:=f.same M;have A:eD K (upd H0 o (.lst (c4 (w.take m.toNat)))) o (c4 (w.take m.toNat)):=eD.of au;generalize upd H0 o (.lst (c4 (w.take m.toNat)))=N at n d f A⊢;generalize w.take m.toNat=ord at A q⊢;have g:∀B j,jq [a,h] N j->lB c j a (Vaglrn.step s (.rename ord)).1->nZ K c j h u l ns (place+1+m.toNat)->js N j B (Vaglrn.step s (.rename ord)).2->Q B j:=λB j b p cr ls=>q B j _ (n.trans b) p cr g2 g3 (ls.back n d f)
 clear q;have es:Vaglrn.step s (.rename ord)=if Vaglrn.negative ord then(s,[-1])else if Vaglrn.isOrder s.left.nons (Vaglrn.toNats ord)then Vaglrn.hold s (Vaglrn.renamed s.left (Vaglrn.toNats ord))else(s,[-9]):=rfl
 rw[es]at g;obtain⟨C,l',r',lb,gs,ha,⟨O,D,gr,rfl,G,U⟩,hr,hb,x1⟩:=id d;have hl:f6 c N (.ref O) s.left:=⟨O,D,gr,rfl,G,U⟩;refine⟨_,rfl,o,ord,rfl,A,_,rfl,?_⟩;cases Y:Vaglrn.negative ord with
 |true=>
  rw[Y]at g;refine⟨small (j1 rfl),λp k=>?_⟩;exact g _ _ (uC k) (d.same (aD k)) (f.same (aD k)) (lQ (ns:=[-1]) k)
 |false=>
  rw[Y]at g;have nn:=vQ Y;refine⟨_,rfl,_,rfl,a,c.Pair,C,_,_,rfl,ha,T.cO,T.cn,fb _ _ _,O,c.Grammar,D,_,_,rfl,G,T.b_,T.bo,uQ _ _,o,ord,s.left.nons,rfl,A,nn,e.left.pos,e.left.nons,λH2 r=>⟨_,rfl,?_⟩⟩;cases Z:Vaglrn.isOrder s.left.nons (Vaglrn.toNats ord)with
  |false=>
   rw[Z]at g;refine⟨small (j1 rfl),λp k=>?_⟩;have t2:=r.trans (aD (o:=.lst (c4 [-9])) k);exact g _ _ t2.but (d.same t2) (f.same t2) ((lQ (ns:=[-9]) k).same r)
  |true=>
   rw[Z]at g;refine⟨_,rfl,_,rfl,a,c.Pair,C,_,_,rfl,r _ _ ha,T.cO,T.cn,fb _ _ _,_,rfl,_,s.left,o,Vaglrn.toNats ord,rfl,hl.same r,e.left,(by rw[<-DJ nn];exact r.seq A),(LZ Z).1,λv H3 s3 h3=>?_⟩;have I:=r.trans s3;refine⟨a,v,s,_,rfl,d.same I,h3,e.len,λB H4 b4 P4 L4=>?_⟩;exact g _ _ (I.but.trans (b4.mono (by simp))) P4 ((f.same I).but b4 ((d.same I).Bc T) (by simpa using x.symm)) (L4.same I)
theorem Vo(T:Txt K mg c):Run ["pair","reader","side"] ["pair","reader"] (QQ K c) (Qe K c):=by
 rintro vs H Q E ⟨a,y,s,z,l,ns,place,cc,t,rfl,O,i,A,U,d,B,q⟩;refine⟨rfl,?_⟩;obtain⟨x,Y,rfl⟩:=M7 rfl d;obtain⟨Z,g2,g3,C,u,D⟩:=i5 T O A B Y;refine⟨_,rfl,y,z,_,rfl,A.1,qG,y,z,l,ns,place,x,rfl,A,Z,?_⟩;generalize upd H y (.ins c.aL z (rS (.ref l) (place+1)))=J at C u D⊢;have j:∀k m,aZ J m->js J m k (Vaglrn.step s (.held x)).2->Q k m:=λk m b ls=>q k m (place+1) (C.trans b.but) (u.same b) (D.same b) g3 g2 (ls.back C u D)
 clear q;have es:(Vaglrn.step s (.held x)).2=match Vaglrn.side s x with
  |none=>[-5]
  |some g=>0::Vaglrn.toInts (Vaglrc.flatGrammar g):=rfl
 rw[es]at j;refine⟨_,rfl,x,rfl,λH2 n=>⟨_,rfl,?_⟩⟩;by_cases f:x=0\/x=1
 ·rw[aF f];refine rj ?_;have hs:Vaglrn.side s x=some (if x=0 then s.left else s.right):=by
   unfold Vaglrn.side;rcases f with h|h<;>subst h<;>rfl
  have L:mr (if x=0 then s.left else s.right):=by
   by_cases h:x=0
   ·rw[az h];exact i.left
   ·rw[ah h];exact i.right
  refine⟨small (j1 rfl),λp w=>?_⟩;have G:=aD (o:=.lst [.int 0]) w;refine⟨_,rfl,_,rfl,a,x,s,rfl,(u.same n).same G,λv hv=>?_⟩;refine⟨v,_,rfl,hv,L,?_⟩;rintro k H3 I ⟨b,e2,h3⟩;subst e2;have M:=LA L;refine⟨p,b,_,_,rfl,rfl,I _ _ au,h3,by rw[iF,oE,bu];show 1+_<=_;omega,λr N=>?_⟩;rw[hs]at j;exact j _ _ (((n.trans G).trans I).trans (aD N)) ⟨r,rfl,((n.trans G).trans I).free N,au⟩
 ·rw[aM f];refine pM ?_;refine⟨small (j1 rfl),λp w=>?_⟩;have e:Vaglrn.side s x=none:=by
   unfold Vaglrn.side;rw[ah (by simp;omega),ah (by simp;omega)]
  rw[e]at j;exact j _ _ (n.trans (aD w)) ((lQ (ns:=[-5]) w).same n)
end
section
variable{K:Frag}{mg:Str->Option Value}{c:Cl}
theorem Mc{s:State}{k:Int}{x:List Int}(h:Vaglrn.negative x=true):Vaglrn.loading s k x=(s,[-1]):=by unfold Vaglrn.loading;rw[az h]
theorem Ke{s:State}{k:Int}{x:List Int}(h:Vaglrn.negative x=false)(g:Vaglrc.readGrammar (Vaglrn.toNats x)=none):Vaglrn.loading s k x=(s,[-2]):=by
 unfold Vaglrn.loading;rw[ah (by rw[h];exact aQ),g]
theorem KL{s:State}{k:Int}{x:List Int}{a:Grammar}(h:Vaglrn.negative x=false)(g:Vaglrc.readGrammar (Vaglrn.toNats x)=some a):
 Vaglrn.loading s k x=if k==0 then Vaglrn.hold s a else if k==1 then({s with right:=a},[0,(a.nons:Int),(a.rules.length:Int)])else(s,[-5]):=by
 unfold Vaglrn.loading;rw[ah (by rw[h];exact aQ),g]
theorem run_load(T:Txt K mg c):Run ["pair","reader","side","row","grammar"] ["pair","reader"] (Qu K c) (QC K c):=by
 rintro vs H Q E ⟨a,h,s,A,l,ns,place,cc,t,rfl,hP,x1,hC,x4,D,r,q⟩;refine⟨rfl,?_⟩;obtain⟨k,m,w,hd,h0,hm,rfl,rfl⟩:=W2 rfl D;obtain⟨f1,f2,f3,b0,P0,M⟩:=i5 T hP hC r hd;refine⟨_,rfl,h,A,_,rfl,hC.1,qG,h,A,l,ns,place,k,rfl,hC,f1,?_⟩;generalize upd H h (.ins c.aL A (rS (.ref l) (place+1)))=H0 at b0 P0 M⊢;obtain⟨g1,g2,g3,g4,B,u,C⟩:=za T P0 M r f2 h0 hm;refine⟨_,rfl,h,A,_,rfl,M.1,BW,h,A,l,ns,place+1,m.toNat,rfl,M,g1,g2,λo ho=>?_⟩;rw[g4];have N:(upd H0 h (.ins c.aL A (rS (.ref l) (place+1+1+m.toNat)))) o=none:=by
  rw[aO (λz=>by subst z;rw[M.1]at ho;cases ho)];exact ho
 replace B:=b0.trans B;generalize upd H0 h (.ins c.aL A (rS (.ref l) (place+1+1+m.toNat)))=HH at B u C N⊢;have s1:=aD (o:=.lst (c4 (w.take m.toNat))) N;replace B:=B.trans (s1.but (as:=[a,h]));replace u:=u.same s1;replace C:=C.same s1;have hL:eD K (upd HH o (.lst (c4 (w.take m.toNat)))) o (c4 (w.take m.toNat)):=eD.of au;generalize upd HH o (.lst (c4 (w.take m.toNat)))=H1 at B u C hL⊢;generalize w.take m.toNat=row at hL q⊢;have I:∀J G,jq [a,h] H1 G->lB c G a (Vaglrn.loading s k row).1->nZ K c G h A l ns (place+1+1+m.toNat)->js H1 G J (Vaglrn.loading s k row).2->Q J G:=λJ G b p cr ls=>q J G _ (B.trans b) p cr g2 g3 (ls.back B u C)
 clear q;have no:∀{i:Int} {L:Hp},aZ H1 L->Vaglrn.loading s k row=(s,[i])->∀p,L p=none->Q (.ref p) (upd L p (.lst (c4 [i]))):=λ{i L} O e p hp=>by
  rw[e]at I;have t2:=O.trans (aD (o:=.lst (c4 [i])) hp);exact I _ _ t2.but (u.same t2) (C.same t2) ((lQ hp).same O)
 refine⟨_,rfl,o,row,rfl,hL,_,rfl,?_⟩;cases hn:Vaglrn.negative row with
 |true=>exact⟨small (j1 rfl),no (aZ.refl _) (Mc hn)⟩
 |false=>
  have nn:=vQ hn;have em:=Nk nn;refine⟨_,rfl,o,row,rfl,hL,λv L O U=>?_⟩;rw[em]at U;refine⟨_,rfl,_,rfl,?_⟩;cases hg:Vaglrc.readGrammar (row.map Int.toNat)with
  |none=>
   rw[hg]at U;have d:v=.non:=U;subst d;exact⟨small (j1 rfl),no O (Ke hn hg)⟩
  |some g=>
   rw[hg]at U;have d:f6 c L v g:=U;have hv:decide (v=V.non)=false:=by
    obtain⟨ga,_,_,e,_⟩:=d;rw[e];rfl
   rw[hv];refine rj ?_;have eg:=KL (s:=s) (k:=k) hn hg;refine⟨_,rfl,k,rfl,λH3 s3=>⟨_,rfl,?_⟩⟩;have j:=O.trans s3;by_cases Y:k=0\/k=1
   ·rw[aF Y];refine rj ?_;refine⟨_,rfl,rfl,_,rfl,?_⟩;by_cases hk:k=0
    ·subst hk;refine pM ?_;have e:(if((0:Int)==0)=true then Vaglrn.hold s g else if((0:Int)==1)=true then({s with right:=g},[0,(g.nons:Int),(g.rules.length:Int)])else(s,[-5]):State×Vaglrn.Answer)=Vaglrn.hold s g:=rfl;rw[eg,e]at I;refine⟨_,rfl,_,rfl,a,v,s,g,rfl,u.same j,d.same s3,x1.len,λJ H4 n P4 L4=>?_⟩;exact I _ _ (j.but.trans (n.mono (by simp))) P4 ((C.same j).but n ((u.same j).Bc T) (by simpa using r.symm)) (L4.same j)
    ·have x2:k=1:=by omega
     subst x2;refine rj ?_;have e:(if((1:Int)==0)=true then Vaglrn.hold s g else if((1:Int)==1)=true then({s with right:=g},[0,(g.nons:Int),(g.rules.length:Int)])else(s,[-5]):State×Vaglrn.Answer)=({s with right:=g},[0,(g.nons:Int),(g.rules.length:Int)]):=rfl;rw[eg,e]at I;have P3:=u.same j;have f:=P3.Bc T;have Z:=d.same s3;obtain⟨y,l',r',lb,gs,ha,hl,hr,hb,x3⟩:=P3;refine⟨_,rfl,_,rfl,a,c.Pair,y,_,rfl,ha,T.cO,T.fC,(by show 3<1000;decide),?_⟩;rw[LF];have n:jq [a] H3 (upd H3 a (.ins c.Pair y (Cu l' v (.ref lb)))):=eY (by simp);have x0:lb≠a:=xS hb ha (by intro z;cases z);have P4:lB c (upd H3 a (.ins c.Pair y (Cu l' v (.ref lb)))) a {s with right:=g}:=
      ⟨y,l',v,lb,gs,au,hl.but n f.other,Z.but n f.other,(by rw[aO x0];exact hb),Paired.jr x3 λ_ _ z=>z.but n f.other⟩
     have C4:=(C.same j).but n f (by simpa using r.symm);refine⟨_,rfl,v,g,rfl,Z.but n f.other,λJ H5 s5 h5=>?_⟩;exact I _ _ ((j.but.trans (n.mono (by simp))).trans s5.but) (P4.same s5) (C4.same s5) ((h5.but n λx hx=>by simp at hx;subst hx;rw[au];simp).same j)
   ·rw[aM Y];refine pM ?_;refine⟨small (j1 rfl),no j ?_⟩;rw[eg,ah (by simp;omega),ah (by simp;omega)]
end
section
variable{K:Frag}{mg:Str->Option Value}{c:Cl}
def hide(H:Hp)(D:Addr):Hp:=λb=>if b=D then none else H b
theorem hide_ne{H:Hp}{D b:Addr}(h:b≠D):hide H D b=H b:=ah h
theorem vW{H:Hp}{D:Addr}:hide H D D=none:=az rfl
theorem GK{H:Hp}{D:Addr}{o:HO}:aZ (hide H D) (upd H D o):=λb u e=>by
 by_cases h:b=D
 ·subst h;rw[vW]at e;cases e
 ·rw[hide_ne h]at e;rw[aO h];exact e
theorem Ry{H:Hp}{D:Addr}:aZ (hide H D) H:=λb u e=>by
 by_cases h:b=D
 ·subst h;rw[vW]at e;cases e
 ·rw[hide_ne h]at e;exact e
theorem Lx{H:Hp}{D:Addr}{o:HO}:hide (upd H D o) D=hide H D:=by
 funext b;by_cases h:b=D
 ·subst h;rw[vW,vW]
 ·rw[hide_ne h,hide_ne h,aO h]
theorem Mi{H:Hp}{D a:Addr}{o:HO}(n:a≠D):hide (upd H a o) D=upd (hide H D) a o:=by
 funext b;by_cases h:b=D
 ·subst h;rw[vW,aO n.symm,vW]
 ·rw[hide_ne h];by_cases d:b=a
  ·subst d;rw[au,au]
  ·rw[aO d,aO d,hide_ne h]
theorem GH{H:Hp}{D:Addr}:jq [D] H (hide H D):=λb o e n=>by rw[hide_ne (by simpa using n)];exact e
theorem Um{H:Hp}{D:Addr}{o:HO}(h:H D=none):aZ H (hide (upd H D o) D):=λb u e=>by
 rw[hide_ne (cZ e h),aO (cZ e h)];exact e
theorem lB.hide{H:Hp}{D a:Addr}{s:State}{o:Obj}{u:HO}(h:lB c H a s)(b:H D=some (.zJ o u)):lB c (hide H D) a s:=by
 have d:∀x∈[D],Other c (H x):=λx f=>by
  simp at f;subst f;intro v e;rw[b]at e;cases e;trivial
 obtain⟨j,l,r,k,m,g,n,p,i,q⟩:=h;refine⟨j,l,r,k,m,?_,n.but GH d,p.but GH d,?_,Paired.jr q λ_ _ z=>z.but GH d⟩
 ·rw[hide_ne (xS g b (by intro z;cases z))];exact g
 ·rw[hide_ne (xS i b (by intro z;cases z))];exact i
def Calls(K:Frag)(c:Cl)(Fs:Addr->Sp->Prop):Prop:=∃f,Ha K c.Fx f/\∀p:Int,0<=p->p<=17->∃u,f p=some (.ref u)/\Fs u (Handler K c p)
structure Turn(K:Frag)(c:Cl)(a l e f D:Addr)(ns:List Int)(H:Hp)(m:Nat):Prop where
 ex:∃(s:State) (place:Nat) (d:List (List (List Int))) (g:Nat) (b:List Int),lB c (hide H D) a s/\Ok s/\nZ K c (hide H D) e f l ns place/\place<=ns.length/\
  PyFlat.calls PyVaglrn.shape g (ns.drop place)=some d/\H D=some (.lst (c4 b))/\b++PyFlat.told (PyFlat.played VaglrnNeutral.step s d)=PyVaglrn.answers ns/\b.length+d.length*30001<=60*30001/\m=d.length
theorem FO(T:Txt K mg c){Fs:Addr->Sp->Prop}(hF:Calls K c Fs):Run ["pair","calls","reader","told","call","answer"] ["pair","calls"] (uP K c) (Ai K c Fs):=by
 rintro vs H Q E ⟨a,l,A,rfl,hP,⟨hl,y5⟩,Z,q⟩;refine⟨rfl,?_⟩;obtain⟨cs,x,y6,z6⟩:=MN Z;have eA:=O_ x;obtain⟨f,hD,hf⟩:=hF;refine⟨_,rfl,λg h x0 y7 y8=>?_⟩;refine⟨g,h,l,rfl,au,rfl,?_⟩;rw[gJ];have s0:aZ H (upd (upd H h (.own g)) g (.ins c.aL h (rS (.ref l) 0))):=(aD y7).trans (aD (by rw[aO y8.symm];exact x0));have C0:nZ K c (upd (upd H h (.own g)) g (.ins c.aL h (rS (.ref l) 0))) g h l A 0:=⟨au,s0.seq hl⟩;have I:a≠g:=by
  obtain⟨_,_,_,_,_,ha,_⟩:=hP;exact cZ ha x0
 generalize upd (upd H h (.own g)) g (.ins c.aL h (rS (.ref l) 0))=H0 at s0 C0⊢;refine⟨small (j1 rfl),λD B=>?_⟩;have s1:=Um (o:=.lst (c4 [])) B;have j:D≠g:=λz=>by subst z;rw[C0.1]at B;cases B
 have y9:D≠a:=λz=>by
  obtain⟨_,_,_,_,_,ha,_⟩:=hP.same s0;subst z;rw[ha]at B;cases B
 refine⟨λm σ H'=>∃v4 v5:Option V,σ=[some (.ref a),some (.ref l),some (.ref g),some (.ref D),v4,v5]/\Turn K c a l g h D A H' m,
  ⟨cs.length,_,_,rfl,⟨Vaglrn.start,0,cs,A.length,[],(hP.same s0).same s1,S3,C0.same s1,br _,x,au,eA.symm,?_,rfl⟩⟩,?_⟩
 ·rw[fS,iU];exact gF _ y6
 rintro m σ H' ⟨v4,v5,rfl,s,place,cs,fu,d,P,x1,C,z9,x,x2,J,z0,rfl⟩;have CW:=C.same Ry;refine⟨_,rfl,g,h,_,rfl,CW.1,JC (by decide) (by decide),g,h,l,A,place,rfl,CW,_,rfl,?_⟩;by_cases x3:place<A.length
 ·rw[aF x3];refine pM ?_;have L:A.drop place≠[]:=λe=>by
   have :=cV List.length e;simp at this;omega
  obtain⟨z1,cc,t,G,i,N,rfl⟩:=Of L x;obtain⟨p,r,x4⟩:=kL L;rw[x4]at i;obtain⟨g1,g2,g3,b1,P1,U⟩:=i5 T P C I x4;obtain⟨n,k,xs,z2,_⟩:=vC i;obtain⟨z3,x5⟩:=Md z2;obtain⟨u,hu,z4⟩:=hf p z3 x5;obtain⟨z7,x6⟩:=UI x1 cc;refine⟨λx7 x8=>∃m',m'<(cc::G).length/\∃v4 v5:Option V,x7=[some (.ref a),some (.ref l),some (.ref g),some (.ref D),v4,v5]/\Turn K c a l g h D A x8 m',λx7 x8 z=>z,?_⟩;refine⟨_,rfl,g,h,_,rfl,CW.1,qG,g,h,l,A,place,p,rfl,CW,g1,c.Fx,f,p,.ref u,.ref u,rfl,rfl,hD,hu,rfl,?_⟩;have x9:(upd H' g (.ins c.aL h (rS (.ref l) (place+1)))) D=some (.lst (c4 d)):=by rw[aO j];exact x2
  rw[<-Mi j.symm]at b1 P1 U;generalize upd H' g (.ins c.aL h (rS (.ref l) (place+1)))=H1 at b1 P1 U x9⊢;refine⟨D,_,x9,trivial,λod=>?_⟩;refine⟨u,Handler K c p,rfl,z4,_,rfl,_,rfl,?_⟩;refine⟨a,g,s,h,l,A,place+1,cc,t,rfl,P1.same GK,x1,U.same GK,⟨g3,y5⟩,by rw[g2];exact i,I,?_⟩;rintro v' Y v b2 P2 C2 y0 O ⟨b,e,M,hb⟩;subst e;have y1:Y D=some (.zJ od (.lst (c4 d))):=b2 D _ au (by simp[y9,j]);have y2:b≠D:=λz=>by subst z;rw[au]at M;cases M
  have z8:d.length+(G.length+1)*30001<=60*30001:=z0;have wx:d.length<sizeLine:=by rw[bu];omega
  refine⟨y1,?_⟩;have P3:lB c (Gp.hide Y D) a (VaglrnNeutral.step s cc).1:=P2.hide y1;have C3:nZ K c (Gp.hide Y D) g h l A v:=by
   refine⟨by rw[hide_ne j.symm];exact C2.1,?_⟩;have y3:∀o,(Gp.hide H1 D) l=some o->l≠a->l≠g->(Gp.hide Y D) l=some o:=λo e n1 n2=>by
    have z5:l≠D:=λz=>by subst z;rw[vW]at e;cases e
    rw[hide_ne z5];exact b2 l _ (GK _ _ e) (by simp[n1,n2])
   obtain⟨_,_,_,_,_,y4,_⟩:=P1;rcases U.2 with(z|⟨w,z⟩)|z
   ·exact .inl (.inl (y3 _ z (xS z y4 (by intro y;cases y)) (xS z U.1 (by intro y;cases y))))
   ·exact .inl (.inr ⟨w,y3 _ z (xS z y4 (by intro y;cases y)) (xS z U.1 (by intro y;cases y))⟩)
   ·exact .inr z
  have zZ:(upd Y D (.lst (c4 d))) b=some (.lst (c4 (VaglrnNeutral.step s cc).2)):=by rw[aO y2];exact hb
  refine⟨_,rfl,.inl ⟨rfl,_,eD.of au⟩,_,rfl,b,_,rfl,.inl (eD.of zZ),D,_,_,rfl,rfl,au,by rw[iF];exact wx,?_⟩;rw[iF,gJ];have DD:(upd Y D (.lst (c4 d++[V.int ((VaglrnNeutral.step s cc).2.length:Int)]))) b=some (.lst (c4 (VaglrnNeutral.step s cc).2)):=by rw[aO y2];exact hb
  refine⟨_,rfl,.inl ⟨rfl,_,eD.of au⟩,_,rfl,D,b,_,_,rfl,rfl,au,DD,?_,?_⟩
  ·rw[ay,iF,iF,bu];show d.length+1+_<=_;omega
  ·rw[gJ];refine⟨G.length,by simp,_,_,rfl,⟨(VaglrnNeutral.step s cc).1,v,G,z1,d++((VaglrnNeutral.step s cc).2.length:Int)::(VaglrnNeutral.step s cc).2,?_,x6,?_,y0,by rw[O];exact N,?_,?_,?_,rfl⟩⟩
   ·rw[Lx];exact P3
   ·rw[Lx];exact C3
   ·rw[au,ints_app];show some (HO.lst (c4 d++[_]++c4 _))=_;rw[bN];rfl
   ·rw[<-J,Mp,RD,bN];rfl
   ·rw[ay,aG];omega
 ·rw[aM x3];refine rj ?_;have e0:A.drop place=[]:=List.drop_eq_nil_of_le (by omega);rw[e0]at x;have ec:=QW x;subst ec;refine⟨_,rfl,q _ _ ⟨D,rfl,?_⟩⟩;have :d=PyVaglrn.answers A:=by rw[<-J];show d=d++[];simp
  rw[x2,this]
theorem L_(T:Txt K mg c):Run ["calls"] ["calls"] (wD K c) (AM K c):=by
 rintro p H Q E ⟨l,h,rfl,⟨i,d⟩,b,q⟩;refine⟨rfl,?_⟩;intro a e j f g;have k:aZ H (upd (upd H e (.own a)) a (.ins c.Pair e [])):=(aD f).trans (aD (by rw[aO g.symm];exact j));refine⟨a,e,rfl,au,λm n o=>⟨rfl,?_⟩⟩;have hl1:eD K m l (c4 h):=UO n au (k.seq i);exact⟨_,rfl,a,l,h,rfl,o,⟨hl1,d⟩,b,q⟩
end
section
variable{K:Frag}{mg:Str->Option Value}{c:Cl}
theorem P5{H:Hp}{v:V}{s t:Sym}(h:oR H v s)(b:oR H v t):s=t:=by
 obtain⟨e,e1,d⟩:=h;obtain⟨f,e2,a⟩:=b;rw[e1]at e2;injection e2 with e2;subst e2
 rw[d]at a;injection a with a;injection a with a
 cases s<;>cases t<;>simp[R9]at a
 ·congr 1;omega
 ·obtain⟨g,i⟩:=a;congr 1<;>omega
theorem Oe{d:Type}{A:V->d->Prop}(inj:∀v a b,A v a->A v b->a=b){e:List V}{f bs:List d}(p:Paired A e f)(q:Paired A e bs):f=bs:=by
 induction p generalizing bs with
 |nil=>cases q;rfl
 |cons p _ g=>cases q with |cons r t=>rw[inj _ _ _ p r,g t]
theorem Vm{H:Hp}{v:V}{s t:Rule}(h:i3 H v s)(g:i3 H v t):s=t:=by
 obtain⟨u,w,e1,i,x,y,f1,j,k⟩:=h;obtain⟨B,C,e2,a,D,E,d,b,m⟩:=g;rw[e1]at e2;injection e2 with e2;subst e2
 rw[i]at a;injection a with a;injection a with a
 injection a with e f
 injection f with f _
 subst f;rw[f1]at d;injection d with d;subst d
 rw[j]at b;injection b with b;injection b with b;subst b
 injection e with e
 obtain⟨l,r⟩:=s;obtain⟨n,o⟩:=t;have e3:l=n:=by dsimp only at e;omega
 have p:r=o:=Oe (A:=oR H) (λ_ _ _ z q=>P5 z q) k m;rw[e3,p]
theorem Oa(T:Txt K mg c):Run ["left","owner","symbols","rules"] ["left"] (Dm K c) (Jp K c):=by
 rintro vs H Q E ⟨v,g,rfl,⟨a,G,r,rfl,I,b,ws,rfl,J,l⟩,N,q⟩;refine⟨rfl,?_⟩;have O:=l.len;have U:=N.len;refine⟨_,rfl,a,c.Grammar,G,_,_,rfl,I,T.b_,T.cN,zI _ _,b,rfl,⟨_,eD.of J⟩,λD Y=>?_⟩;refine o5 (λH x y=>∃d:Rule,i3 H x d/\i3 H y {d with rhs:=d.rhs.reverse}) (λ_=>true) (λH Z x y t ⟨n,e,z⟩=>⟨n,e.mono t,z.mono t⟩) Y (eD.of J) (rC (by omega)) (λx hx=>?_) (λZ ys s hy h=>?_)
 ·obtain⟨d,x0,i⟩:=qo l hx;intro H1 L Nx Ny h0 m;obtain⟨p,w,rfl,B,u,zs,rfl,hu,hz⟩:=id (i.mono (aZ.tup L));refine⟨p,_,rfl,kF.of B,rfl,_,_,rfl,_,_,rfl,rfl,rfl,J1 (pM ?_)⟩;refine⟨_,rfl,_,rfl,u,zs,rfl,kF.of hu,λt M j x1 ht=>?_⟩;refine⟨small (by show 2<=1000;decide),λf hf=>?_⟩;have k:=aD (o:=.tup [.int d.lhs,.ref t]) hf;refine m _ _ (j.trans k) rfl ⟨d,i.mono (aZ.tup (L.trans (j.trans k))),f,_,rfl,au,t,_,rfl,k _ _ ht,?_⟩;exact Paired.rev (Paired.jr hz λ_ _ z=>z.mono (aZ.tup (j.trans k)))
 ·rw[filter_all]at h;refine⟨_,rfl,a,c.Grammar,G,_,_,rfl,s _ _ I,T.b_,T.bo,uQ _ _,_,rfl,?_⟩;refine ui (K:=K) rfl (rs:=(Vaglrn.turned g).rules) ⟨D,ys,rfl,hy,?_⟩ λv2 M j C=>q v2 M (s.trans j) C
  refine AE (A:=i3 H) (λx r0 y m C=>?_) l h;obtain⟨r1,z1,z2⟩:=C;rw[Vm (m.mono (aZ.tup s)) z1];exact z2
end
section
variable{K:Frag}{mg:Str->Option Value}{c:Cl}
theorem Xg(a b c d e:V):(Nn a b c d e).lookup ("firsts":Str)=some a:=rfl
theorem Qk(a b c d e:V):(Nn a b c d e).lookup ("ahead_of":Str)=some b:=rfl
theorem LM(a b c d e:V):(Nn a b c d e).lookup ("ends_of":Str)=some c:=rfl
theorem Xs(a b c d e:V):(Nn a b c d e).lookup ("rule_ends":Str)=some d:=rfl
theorem Xh(a b c d e:V):(Nn a b c d e).lookup ("ahead_of_ranges":Str)=some e:=rfl
theorem Ut(a b c d e v:V):dD "firsts" v (Nn a b c d e)=Nn v b c d e:=rfl
theorem dU(a:List Nat):(cB a).length=a.length:=aP _
theorem Vz{a b:Addr}{xs ys:List V}{g:TG}{r:TS}{D:Ends}{d:L2.St}{H:Hp}(Pv:Nat->L2.St->Hp->Prop)(v:Pv 0 d H)(L:xs.length=ys.length)(z:∀i d H,i<=xs.length->Pv i d H->eD K H a xs/\eD K H b ys)
 (A:∀i x y t d H,xs[i]?=some x->ys[i]?=some y->Pv i d H->H t=none->g (.ref t) d (upd H t (.tup [x,y])) λf n=>r {D with nx:=Pv (i+1),ct:=Pv (i+1),bk:=D.nx} f n) (B:∀d H,Pv xs.length d H->D.nx d H):
 ∃W:Nat->Nat->L2.St->Hp->Prop,(∃m,W 0 m d H)/\∀i m d H,W i m d H->
  ((Zt K a b).stop i H/\D.nx d H)\/((Zt K a b).go i H/\∃N:L2.St->Hp->Prop,(∀h j,N h j->∃s,s<m/\W (i+1) s h j)/\∀x j,(Zt K a b).NL i H x j->g x d j λf n=>r {D with nx:=N,ct:=N,bk:=D.nx} f n):=by
 refine⟨λi m d H=>m=xs.length-i/\i<=xs.length/\Pv i d H,⟨xs.length,by simp,br _,v⟩,?_⟩;rintro i m d H ⟨rfl,C,p⟩;obtain⟨q,o⟩:=z i d H C p;by_cases k:i<xs.length
 ·have l:i<ys.length:=by omega
  refine .inr ⟨⟨xs,ys,xs[i],ys[i],q,o,by simp[k],by simp[l]⟩,Pv (i+1),λh j E=>⟨xs.length-(i+1),by omega,rfl,k,E⟩,λx j y=>?_⟩;obtain⟨t,u,w,rfl,G,rfl,I,J⟩:=y;exact A i u w t d H (I xs q) (J ys o) p G
 ·have e:i=xs.length:=by omega
  subst e;exact .inl ⟨⟨xs,ys,q,o,.inl (ak _)⟩,B d H p⟩
theorem Wi{H:Hp}{i:Int}{n:Nat}{b:Bool}(e:i=(n:Int))(h:b=decide (n≠0)):G_ K (.int i) H b:=by
 show b=(i !=0);rw[h,e];by_cases e:n=0
 ·subst e;rfl
 ·rw[aF e];have :(n:Int)≠0:=by omega
  exact(bne_iff_ne.mpr this).symm
theorem QB{n k:Nat}(h:k<n):VL n (k:Int)=some k:=by
 unfold VL;rw[az (by omega),az (by omega),dc]
theorem CK(T:Txt K mg c):Run ["marks","asked","given","joined","one","other"] ["marks","asked","given"] (lC K c) (wZ K c):=by
 rintro G H Q E ⟨B,l,m,A,F,rfl,n,d,v,q⟩;refine⟨rfl,?_⟩;refine⟨_,rfl,_,rfl,l,m,_,_,rfl,n,d,?_⟩;refine Vz (K:=K) (xs:=cB A) (ys:=cB F) (λi e f=>∃j k:Option V,e=[some (.int B),some (.ref l),some (.ref m),some (.int (xo B ((A.zip F).take i) 0:Nat)),j,k]/\aZ H f) ⟨_,_,rfl,aZ.refl _⟩ (by rw[dU,dU];exact v)
  (by rintro i e f _ ⟨_,_,_,s⟩;exact⟨s.seq n,s.seq d⟩) ?_ ?_
 ·rintro i x y t e f p r ⟨j,k,rfl,s⟩ w;rw[cf]at p r;obtain⟨a,z,rfl⟩:=cy.mp p;obtain⟨b,C,rfl⟩:=cy.mp r;have u:=s.trans (aD (o:=.tup [V.int (a:Int),V.int (b:Int)]) w);have D:(A.zip F)[i]?=some (a,b):=fB.mpr ⟨z,C⟩;have g:xo B ((A.zip F).take (i+1)) 0=if B&&&a=0 then xo B ((A.zip F).take i) 0 else xo B ((A.zip F).take i) 0|||b:=by
   rw[take_snoc D];unfold xo;rw[mB];rfl
  refine⟨t,_,rfl,kF.of au,rfl,_,_,rfl,_,_,rfl,rfl,?_⟩;refine⟨_,rfl,_,rfl,_,_,rfl,rfl,?_⟩;refine⟨_,Wi (qc B a) rfl,?_⟩;by_cases h:B&&&a=0
  ·rw[aM (by simpa using h)];refine rj ?_;rw[az h]at g;exact⟨_,_,by rw[g];rfl,u⟩
  ·rw[aF h];refine pM ?_;rw[ah h]at g;exact⟨_,rfl,_,rfl,_,_,rfl,rfl,_,_,by rw[g,<-qF];rfl,u⟩
 ·rintro e f ⟨j,k,rfl,s⟩;rw[dU,dM (by rw[oK];omega)];exact⟨_,rfl,q _ s⟩
theorem uN(T:Txt K mg c):Run ["self","marks"] ["self","marks"] (ku K c) (oU K c):=by
 rintro k H Q E ⟨mk,g,l,B,rfl,⟨b,d,f,m,n,rfl,h⟩,i,q⟩;refine⟨rfl,?_⟩;refine⟨_,rfl,_,rfl,mk,c.eQ,b,_,_,rfl,h.ins,T.fc,T.ib,LM _ _ _ _ _,_,rfl,mk,c.eQ,b,_,_,rfl,h.ins,T.fc,T.iK,Qk _ _ _ _ _,B,f,d,_,_,rfl,eD.of h.e,eD.of h.a,by simp[iJ],λj s=>?_⟩;rw[Wb i.lhs];exact q j s
theorem v_(T:Txt K mg c):Run ["self","marks"] ["self","marks"] (lP K c) (qk K c):=by
 rintro k H Q E ⟨mk,g,l,B,rfl,⟨b,d,f,m,n,rfl,h⟩,i,q⟩;refine⟨rfl,?_⟩;refine⟨_,rfl,_,rfl,mk,c.eQ,b,_,_,rfl,h.ins,T.fc,T.iK,Qk _ _ _ _ _,_,rfl,mk,c.eQ,b,_,_,rfl,h.ins,T.fc,T.ib,LM _ _ _ _ _,B,d,f,_,_,rfl,eD.of h.a,eD.of h.e,by simp[iJ],λj s=>?_⟩;rw[VV i.lhs];exact q j s
theorem M5(a:List Nat)(k v:Nat):(cB a).set k (.int v)=cB (a.set k v):=by unfold cB;rw[List.map_set]
theorem G8(a b:List Nat):cB (a++b)=cB a++cB b:=dq
theorem xb(T:Txt K mg c):Run ["self","mark","symbol"] ["self","mark","symbol"] (ml K c) (rl K c):=by
 rintro i H Q E ⟨mk,m,u,Z,l3,B,F,A,En,R,ts,M,v,s,rfl,h,w,⟨f,rfl,g⟩,C,D,q⟩;refine⟨rfl,?_⟩;simp only[aT,af,aS,cC,not_or]at w;obtain⟨⟨G,n2,n3,I⟩,⟨J,L,x⟩,⟨n8,N⟩,n,_⟩:=w;cases s with
 |non k=>
  have y:k<A.length:=C;have O:A[k]?=some (A.getD k 0):=by rw[bC,aB y];rfl
  refine⟨_,rfl,f,_,0,_,rfl,rfl,kF.of g,rfl,rfl,_,rfl,pM ?_⟩;refine⟨_,rfl,mk,c.eQ,m,_,_,rfl,h.ins,T.fc,T.iK,Qk _ _ _ _ _,_,rfl,f,_,1,_,rfl,rfl,kF.of g,rfl,u,_,_,_,rfl,rfl,eD.of h.a,qb (vi O),_,rfl,_,_,rfl,rfl,?_⟩;refine⟨_,rfl,mk,c.eQ,m,_,_,rfl,h.ins,T.fc,T.iK,Qk _ _ _ _ _,_,rfl,f,_,1,_,rfl,rfl,kF.of g,rfl,u,_,(k:Int),k,rfl,rfl,h.a,?_,?_⟩
  ·rw[dU];exact QB y
  ·have e:(cB A).set k (V.int (Builtin.bitOr (A.getD k 0:Nat) (M:Nat)))=cB (A.set k (A.getD k 0|||M)):=by rw[qF,M5]
   rw[e];have t:=jo (o:=.lst (cB (A.set k (A.getD k 0|||M)))) h.a;refine q _ (eY (by simp)) ?_;obtain⟨i,j,l⟩:=h.t;exact⟨by rw[aO G];exact h.ins,au,by rw[aO (aY J)];exact h.e,by rw[aO (aY L)];exact h.r,i,by rw[aO (aY x)];exact j,Paired.jr l λ_ _ z=>z.mono t⟩
 |range lo U=>
  obtain⟨i,j,l⟩:=h.t;refine⟨_,rfl,f,_,0,_,rfl,rfl,kF.of g,rfl,rfl,_,rfl,rj ?_⟩;refine⟨_,rfl,mk,c.eQ,m,_,_,rfl,h.ins,T.fc,T.iu,Xh _ _ _ _ _,.inl ⟨rfl,_,eD.of j⟩,?_⟩;refine⟨_,rfl,_,rfl,f,_,1,_,rfl,rfl,kF.of g,rfl,_,rfl,f,_,2,_,rfl,rfl,kF.of g,rfl,small (j1 rfl),λp Y=>?_⟩;have b:=aD (o:=.tup [V.int (M:Int),V.int (lo:Int),V.int (U:Int)]) Y;have d:=b _ _ j;have hl:=l.len;refine⟨B,i,_,rfl,rfl,d,rC (by omega),?_⟩;have t:=(aZ.tup b).trans (jo (o:=.lst (i++[.ref p])) d);refine q _ (b.but.trans (eY (by simp))) ?_;refine⟨by rw[aO I];exact b _ _ h.ins,by rw[aO x];exact b _ _ h.a,by rw[aO N];exact b _ _ h.e,by rw[aO n];exact b _ _ h.r,_,au,?_⟩;exact iE (Paired.jr l λ_ _ z=>z.mono t) ⟨p,rfl,jo d _ _ au⟩
end
section
variable{K:Frag}{mg:Str->Option Value}{c:Cl}
def PX(H:Hp)(b:Nat):V->Bool
 |.ref a=>match H a with
  |some (.tup [_,.int lo,.int d])=>decide (lo<=(b:Int))&&decide ((b:Int)<=d)
  |_=>false
 |_=>false
theorem LX{H:Hp}{b:Nat}{v:V}{t:Nat×Nat×Nat}(h:vS H v t):PX H b v=T7 b t:=by
 obtain⟨a,rfl,h⟩:=h;unfold PX T7;dsimp only;rw[h];dsimp only;rw[JV,JV]
theorem Ur{H:Hp}{v:V}{t d:Nat×Nat×Nat}(h:vS H v t)(b:vS H v d):t=d:=by
 obtain⟨a,rfl,h⟩:=h;obtain⟨f,e,b⟩:=b;cases e;rw[h]at b;simp only[Option.some.injEq,HO.tup.injEq,kU,V.int.injEq,and_true]at b;obtain⟨e1,e2,e3⟩:=b;exact gB (by omega) (gB (by omega) (by omega))
theorem OS{b:Type}{A R:V->b->Prop}{f:b->V}{S:V->V->Prop}(h:∀x a y,A x a->S x y->y=f a){e:List V}{g:List b}{d:List V}(p:Paired A e g)(q:Paired S e d):d=g.map f:=by
 induction p generalizing d with
 |nil=>cases q;rfl
 |cons p _ i=>cases q with |cons r t=>rw[h _ _ _ p r,i t];rfl
theorem yN{g:Grammar}(a:mr g):(cells g.rules).length<=540:=by
 have :(cells g.rules).length<=g.rules.length*9:=ja λq b=>by rw[sX];have :=(a.rule q b).len;omega
 have :=a.len;omega
theorem va(T:Txt K mg c):Run ["self","byte","mark","lo","hi"] ["self","byte"] (kW K c) (pC K c):=by
 rintro vs H Q E ⟨mk,g,fm,b,rfl,⟨w,l1,l2,l3,A,rfl,h⟩,B,q⟩;refine⟨rfl,?_⟩;obtain⟨ws,r,o⟩:=h.t;have hl:=o.len;have C:=Ow (cells g.rules) 0;have hc:=yN B;refine⟨_,rfl,mk,c.eQ,w,_,_,rfl,h.ins,T.fc,T.iu,Xh _ _ _ _ _,A,rfl,⟨_,eD.of r⟩,λD G=>?_⟩;refine o5 (λH x y=>∃t,vS H x t/\y=.int (t.1:Nat)) (PX H b) (λH u x y t ⟨n,e,z⟩=>⟨n,e.mono t,z⟩) G (eD.of r) (rC (by omega)) (λx I=>?_) (λu J s L M=>?_)
 ·obtain⟨t,_,m⟩:=qo o I;intro u s Nx Ny v N;have k:=m.mono (aZ.tup s);obtain⟨a,rfl,O⟩:=id k;have d:=LX (b:=b) m;refine⟨a,_,rfl,kF.of O,rfl,_,_,rfl,_,_,rfl,_,_,rfl,rfl,rfl,?_⟩;refine⟨_,rfl,_,rfl,_,_,rfl,rfl,_,rfl,?_⟩;unfold T7 at d;rw[<-JV,<-JV]at d;by_cases i:(t.2.1:Int)<=(b:Int)
  ·rw[aF i];rw[aF i,fY]at d;refine pM ?_;refine⟨_,rfl,_,_,rfl,rfl,_,rfl,?_⟩;by_cases j:(b:Int)<=(t.2.2:Int)
   ·rw[aF j];rw[aF j]at d;refine pM ?_;exact⟨_,rfl,N _ _ (aZ.refl _) d ⟨t,k,rfl⟩⟩
   ·rw[aM j];rw[aM j]at d;exact rj (v _ (aZ.refl _) d)
  ·rw[aM i];rw[aM i,gM]at d;refine rj ?_;exact⟨_,rfl,rj (v _ (aZ.refl _) d)⟩
 ·have U:=Ad (p:=PX H b) (q:=T7 b) (λx t m=>LX m) o;have e:=OS (R:=vS H) (f:=λt:Nat×Nat×Nat=>V.int (t.1:Nat)) (λx t y i ⟨t',j,Y⟩=>by rw[Y,Ur j (i.mono (aZ.tup s))]) U M;have e2:J=((((hZ 0 (cells g.rules)).filter (T7 b)).map λt=>((t.1:Nat):Int))).map V.int:=by rw[e,d4];rfl
  refine⟨D,_,rfl,by rw[<-e2];exact eD.of L,?_⟩;have e3:((((hZ 0 (cells g.rules)).filter (T7 b)).map λt=>((t.1:Nat):Int))).sum=((SM (cells g.rules) b:Nat):Int):=by
   rw[<-YI];generalize(hZ 0 (cells g.rules)).filter (T7 b)=l
   induction l with
   |nil=>rfl
   |cons t l Z=>rw[bf,ia,Z,bf,ia];omega
  rw[e3];exact q _ s
theorem VW{a:List pE}{s:Sym}{n:Nat}:iJ (IA (a++[.sym s])) n=match s with
 |.non k=>(iJ (IA a) n).set k ((iJ (IA a) n).getD k 0|||2^a.length)
 |.range _ _=>iJ (IA a) n:=by
 unfold iJ;cases s with
 |non k=>
  refine jO λi=>?_
  rw[List.getElem?_set];by_cases b:i<n
  ·rw[cf,cF b,ll,Gy];by_cases e:k=i
   ·subst e;rw[az rfl,az rfl,az (by simpa using b),bC,cf,cF b];rfl
   ·rw[ah (λz=>e (by injection z with z;injection z)),ah e,cf,cF b];rfl
  ·rw[cR (by simp;omega)];split
   ·rw[ah (by simp;omega)]
   ·rw[cR (by simp;omega)]
 |range lo b=>
  refine bL λk _=>?_
  rw[Gy,ah (λz=>by injection z with z;cases z)]
theorem XI{a:List pE}{s:Sym}{n:Nat}:iJ (uR (a++[.sym s])) n=iJ (uR a) n:=by
 unfold iJ;refine bL λk _=>?_
 rw[MR,ah (λz=>by cases z)]
theorem YU{a:List pE}{k n:Nat}:iJ (IA (a++[.fin k])) n=iJ (IA a) n:=by
 unfold iJ;refine bL λk _=>?_
 rw[Gy,ah (λz=>by cases z)]
theorem Vv{a:List pE}{k n:Nat}:iJ (uR (a++[.fin k])) n=(iJ (uR a) n).set k ((iJ (uR a) n).getD k 0|||2^a.length):=by
 unfold iJ;refine jO λi=>?_
 rw[List.getElem?_set];by_cases b:i<n
 ·rw[cf,cF b,ll,MR];by_cases e:k=i
  ·subst e;rw[az rfl,az rfl,az (by simpa using b),bC,cf,cF b];rfl
  ·rw[ah (λz=>e (by injection z)),ah e,cf,cF b];rfl
 ·rw[cR (by simp;omega)];split
  ·rw[ah (by simp;omega)]
  ·rw[cR (by simp;omega)]
theorem WD{a:List pE}{s:Sym}:hZ 0 (a++[.sym s])=match s with
 |.non _=>hZ 0 a
 |.range lo b=>hZ 0 a++[(2^a.length,lo,b)]:=by
 rw[Kx,iU];cases s with
 |non k=>simp[hZ]
 |range lo b=>rfl
theorem X5{a:List pE}{k:Nat}:hZ 0 (a++[.fin k])=hZ 0 a:=by rw[Kx];simp[hZ]
theorem Tq(n:Nat):iJ (IA []) n=List.replicate n 0/\iJ (uR []) n=List.replicate n 0:=by
 have h:∀f:Nat->Nat,(∀k,f k=0)->iJ f n=List.replicate n 0:=λf a=>by
  unfold iJ;refine List.eq_replicate_iff.mpr ⟨by simp,λb d=>?_⟩;obtain⟨k,_,rfl⟩:=bq.mp d;exact a k
 exact⟨h _ λ_=>rfl,h _ λ_=>rfl⟩
theorem UH{n m:Nat}(h:n<m):((2^n:Nat):Int)<2^m:=by
 have :(2^n:Nat)<2^m:=Nat.pow_lt_pow_right (by omega) h
 exact_mod_cast this
theorem SD{n:Nat}(h:n<=900):TC ((2^n:Nat):Int) 1:=⟨rfl,gq _,UH (by omega)⟩
theorem Pp(n:Nat):((2^n:Nat):Int)*2^(1:Int).toNat=((2^(n+1):Nat):Int):=by
 rw[PN,jD,oo]
theorem Ln(a:List pE)(x:pE):(a++[x]).length=a.length+1:=by simp
def Fn(c:Cl)(H:Hp)(x b d e f g:Addr)(n F:Nat)(a:List pE)(R:List Nat):Prop:=HQ c H x b d e f g F (iJ (IA a) n) (iJ (uR a) n) R (hZ 0 a)
theorem NO{H:Hp}{x i b d f g:Addr}{n F F':Nat}{j:List pE}{R:List Nat}(h:Fn c H x i b d f g n F j R)(k:[x,b,d,f,g].Nodup):Fn c (upd H x (.ins c.eQ i (Nn (.int F') (.ref b) (.ref d) (.ref f) (.ref g)))) x i b d f g n F' j R:=by
 simp only[aT,af,aS,cC,not_or]at k;obtain⟨⟨l,m,o,p⟩,_⟩:=k;have t:bT H (upd H x (.ins c.eQ i (Nn (.int F') (.ref b) (.ref d) (.ref f) (.ref g)))):=md (by rw[h.ins];trivial);obtain⟨q,s,u⟩:=h.t;exact⟨au,by rw[aO (aY l)];exact h.a,by rw[aO (aY m)];exact h.e,by rw[aO (aY o)];exact h.r,q,by rw[aO (aY p)];exact s,Paired.jr u λ_ _ z=>z.mono t⟩
theorem Gk(T:Txt K mg c):Run ["self","grammar","mark","owner","symbols","symbol"] ["self","grammar"] (uK K c) (Az K c):=by
 rintro vs H Q E ⟨x,A,v,g,rfl,hx,hg,fg,q⟩;refine⟨rfl,?_⟩;obtain⟨ga,N,gr,rfl,x4,gb,u6,rfl,O,y6⟩:=id hg;have w0:=fg.nons;have x5:ga≠x:=λe=>by subst e;rw[x4]at hx;injection hx with hx;injection hx with e1 _ _;exact T.Lj e1.symm
 have y7:gb≠x:=λe=>by subst e;rw[O]at hx;cases hx
 refine⟨_,rfl,x,c.eQ,A,_,rfl,hx,T.fc,T.lH,j1 rfl,?_⟩;generalize x6:upd H x (.ins c.eQ A (dD "firsts" (.int 0) []))=U;have b1:jq [x] H U:=by rw[<-x6];exact eY (by simp)
 have Y:U x=some (.ins c.eQ A (dD "firsts" (.int 0) [])):=by rw[<-x6];exact au
 have nn:∀{p:Addr},U p=none->H p=none:=λ{p} Z=>by
  cases e:H p with
  |none=>rfl
  |some o=>
   by_cases z:p=x
   ·subst z;rw[Y]at Z;cases Z
   ·rw[b1 p o e (by simpa using z)]at Z;cases Z
 have x3:U ga=some (.ins c.Grammar N (gf g.nons (.ref gb))):=b1 _ _ x4 (by simpa using x5);refine⟨small (j1 rfl),λp1 u7=>?_⟩;have s1:=aD (o:=.lst [.int 0]) u7;refine⟨_,rfl,ga,c.Grammar,N,_,_,rfl,s1 _ _ x3,T.b_,T.bo,uQ _ _,p1,_,_,rfl,rfl,au,by omega,by omega,small (by show 1*_<=_;rw[dc];omega),λh hl1=>?_⟩;have s2:=s1.trans (aD (o:=.lst ((List.replicate ((g.nons:Nat):Int).toNat [V.int 0]).flatten)) hl1);have e0:(List.replicate ((g.nons:Nat):Int).toNat [V.int 0]).flatten=cB (List.replicate g.nons 0):=by
  rw[dc];unfold cB;rw[List.map_replicate,List.flatten_replicate_singleton];rfl
 rw[e0]at s2⊢;generalize y8:upd (upd U p1 (.lst [.int 0])) h (.lst (cB (List.replicate g.nons 0)))=H2 at s2;have y9:H2 h=some (.lst (cB (List.replicate g.nons 0))):=by rw[<-y8];exact au
 have f1:U h=none:=s1.free hl1;refine⟨_,rfl,x,c.eQ,A,_,rfl,s2 _ _ Y,T.fc,T.iK,j1 rfl,?_⟩;generalize x0:upd H2 x (.ins c.eQ A (dD "ahead_of" (.ref h) (dD "firsts" (.int 0) [])))=H3;have b3:jq [x] U H3:=s2.but.trans (by rw[<-x0];exact eY (by simp));have x7:h≠x:=λe=>by subst e;rw[f1]at Y;cases Y
 have x1:H3 x=some (.ins c.eQ A (dD "ahead_of" (.ref h) (dD "firsts" (.int 0) []))):=by rw[<-x0];exact au
 have hl13:H3 h=some (.lst (cB (List.replicate g.nons 0))):=by rw[<-x0,aO x7];exact y9
 have x8:∀{p:Addr},H3 p=none->U p=none:=λ{p} Z=>by
  cases e:U p with
  |none=>rfl
  |some o=>
   by_cases z:p=x
   ·subst z;rw[x1]at Z;cases Z
   ·rw[b3 p o e (by simpa using z)]at Z;cases Z
 have z0:=b3 _ _ x3 (by simpa using x5);clear y8 x0 x6;refine⟨small (j1 rfl),λp2 u8=>?_⟩;have s4:=aD (o:=.lst [.int 0]) u8;refine⟨_,rfl,ga,c.Grammar,N,_,_,rfl,s4 _ _ z0,T.b_,T.bo,uQ _ _,p2,_,_,rfl,rfl,au,by omega,by omega,small (by show 1*_<=_;rw[dc];omega),λf hl2=>?_⟩;have s5:=s4.trans (aD (o:=.lst ((List.replicate ((g.nons:Nat):Int).toNat [V.int 0]).flatten)) hl2);rw[e0]at s5⊢;generalize z1:upd (upd H3 p2 (.lst [.int 0])) f (.lst (cB (List.replicate g.nons 0)))=H5 at s5;have I:H5 f=some (.lst (cB (List.replicate g.nons 0))):=by rw[<-z1];exact au
 have f2:H3 f=none:=s4.free hl2;refine⟨_,rfl,x,c.eQ,A,_,rfl,s5 _ _ x1,T.fc,T.ib,j1 rfl,?_⟩;refine⟨small (j1 rfl),λl hl3=>?_⟩;refine⟨_,rfl,x,c.eQ,A,_,rfl,aD hl3 _ _ au,T.fc,T.kM,j1 rfl,?_⟩;refine⟨small (j1 rfl),λs hl4=>?_⟩;refine⟨_,rfl,x,c.eQ,A,_,rfl,aD hl4 _ _ au,T.fc,T.iu,j1 rfl,?_⟩;have x9:f≠x:=λe=>by subst e;rw[f2]at x1;cases x1
 have C:H5 l=none/\l≠x:=by
  by_cases z:l=x
  ·subst z;rw[au]at hl3;cases hl3
  ·rw[aO z]at hl3;exact⟨hl3,z⟩
 have B:H5 s=none/\s≠x/\s≠l:=by
  by_cases z:s=x
  ·subst z;rw[au]at hl4;cases hl4
  ·rw[aO z]at hl4;by_cases z3:s=l
   ·subst z3;rw[au]at hl4;cases hl4
   ·rw[aO z3,aO z]at hl4;exact⟨hl4,z,z3⟩
 generalize J:upd _ x (.ins c.eQ A (dD "ahead_of_ranges" (V.ref s) _))=H6;have g1:H3 l=none:=s5.free C.1;have g4:H3 s=none:=s5.free B.1;have z2:l≠h:=λe=>by subst e;rw[hl13]at g1;cases g1
 have u9:s≠h:=λe=>by subst e;rw[hl13]at g4;cases g4
 have z4:f≠h:=λe=>by subst e;rw[hl13]at f2;cases f2
 have x2:l≠f:=λe=>by subst e;rw[I]at C;cases C.1
 have y0:s≠f:=λe=>by subst e;rw[I]at B;cases B.1
 have y1:∀b,b≠x->b≠l->b≠s->H6 b=H5 b:=λb h1 h2 h3=>by rw[<-J,aO h1,aO h3,aO h1,aO h2,aO h1]
 have b6:jq [x] H3 H6:=λb o e n=>by
  have n':b≠x:=by simpa using n
  rw[y1 b n' (λz=>by subst z;rw[g1]at e;cases e) (λz=>by subst z;rw[g4]at e;cases e)];exact s5 _ _ e
 have bH:jq [x] H H6:=(b1.trans b3).trans b6;have M6:Fn c H6 x A h f l s g.nons (CT ([]:List Rule)) (cells []) (MO []):=by
  obtain⟨t1,t2⟩:=Tq g.nons;refine⟨by rw[<-J];exact au,?_,?_,?_,[],?_,.nil⟩
  ·show H6 h=some (.lst (cB (iJ (IA []) g.nons)));rw[t1];exact b6 _ _ hl13 (by simpa using x7)
  ·show H6 f=some (.lst (cB (iJ (uR []) g.nons)));rw[t2,y1 f x9 (aY x2) (aY y0)];exact I
  ·rw[<-J,aO C.2,aO (aY B.2.2),aO C.2,au];rfl
  ·rw[<-J,aO B.2.1,au]
 have nd:[x,h,f,l,s].Nodup:=by
  simp only[aT,af,aS,cC,not_or,not_false_eq_true,and_true,jM];exact⟨⟨aY x7,aY x9,aY C.2,aY B.2.1⟩,⟨aY z4,aY z2,aY u9⟩,⟨aY x2,aY y0⟩,aY B.2.2⟩
 have z5:NA H [h,f,l,s]:=by
  intro a ha;simp only[af,aS,cC]at ha;rcases ha with e|e|e|e
  ·rw[e];exact nn f1
  ·rw[e];exact nn (x8 f2)
  ·rw[e];exact nn (x8 g1)
  ·rw[e];exact nn (x8 g4)
 clear J y1 z1;have z6:∀{b:Addr} {o:HO},H b=some o->b≠x->b∉[x,h,f,l,s]:=λ{b o} e z m=>by
  rcases af.mp m with m|m
  ·exact z m
  ·rw[z5 b m]at e;cases e
 have v0:=y6.len;have w1:=fg.len;have y2:=yN fg;refine⟨_,rfl,ga,c.Grammar,N,_,_,rfl,bH _ _ x4 (by simpa using x5),T.b_,T.cN,zI _ _,gb,rfl,⟨_,eD.of (bH _ _ O (by simpa using y7))⟩,?_⟩;refine mx (K:=K) (a:=gb) (xs:=u6) (λi σ G=>∃v3 v4 v5:Option V,σ=[some (.ref x),some (.ref ga),some (.int (2^(cells (g.rules.take i)).length:Nat)),v3,v4,v5]/\jq [x,h,f,l,s] H G/\bT H G/\Fn c G x A h f l s g.nons (CT (g.rules.take i)) (cells (g.rules.take i)) (MO (g.rules.take i)))
  ⟨_,_,_,rfl,bH.mono (by simp),Pz bH hx,M6⟩ (by rintro i σ G _ ⟨_,_,_,_,b,_⟩;exact eD.of (b _ _ O (z6 O y7))) ?_ ?_
 ·rintro i y σ G hi ⟨v3,v4,v5,rfl,bb,tt,M⟩;obtain⟨d,hr,v1⟩:=y6.at hi;obtain⟨t,w,rfl,ht,u,zs,rfl,hu,hz⟩:=v1.mono tt;have z7:=fg.rule d (bj hr);have w2:=(ai.mp hr).1;have v2:=hz.len;have w3:(cells (g.rules.take i)).length+(d.rhs.length+1)<=540:=by
   have e:=Ds hr;rw[e,ay,ay,sX]at y2;omega
  refine⟨t,_,rfl,kF.of ht,rfl,_,_,rfl,_,_,rfl,rfl,?_⟩;refine⟨_,rfl,x,c.eQ,A,_,_,rfl,M.ins,T.fc,T.lH,Xg _ _ _ _ _,_,rfl,_,_,rfl,rfl,_,rfl,x,c.eQ,A,_,rfl,M.ins,T.fc,T.lH,j1 rfl,?_⟩;have M1:=NO (F':=CT (g.rules.take i)|||2^(cells (g.rules.take i)).length) M nd;have eF:dD "firsts" (V.int (Builtin.bitOr (CT (g.rules.take i):Nat) (2^(cells (g.rules.take i)).length:Nat))) (Nn (.int (CT (g.rules.take i):Nat)) (.ref h) (.ref f) (.ref l) (.ref s))=Nn (.int (CT (g.rules.take i)|||2^(cells (g.rules.take i)).length:Nat)) (.ref h) (.ref f) (.ref l) (.ref s):=by
   rw[qF,Ut]
  rw[eF];have bx:jq [x,h,f,l,s] G (upd G x (.ins c.eQ A (Nn (.int (CT (g.rules.take i)|||2^(cells (g.rules.take i)).length:Nat)) (.ref h) (.ref f) (.ref l) (.ref s)))):=eY (by simp);have tx:bT G (upd G x (.ins c.eQ A (Nn (.int (CT (g.rules.take i)|||2^(cells (g.rules.take i)).length:Nat)) (.ref h) (.ref f) (.ref l) (.ref s)))):=md (by rw[M.ins];trivial);generalize upd G x (.ins c.eQ A (Nn (.int (CT (g.rules.take i)|||2^(cells (g.rules.take i)).length:Nat)) (.ref h) (.ref f) (.ref l) (.ref s)))=z8 at M1 bx tx;refine⟨_,rfl,u,rfl,⟨_,kF.of (tx _ _ hu)⟩,?_⟩;refine Ql (K:=K) (a:=u) (xs:=zs) (λj σ D=>∃v5:Option V,σ=[some (.ref x),some (.ref ga),some (.int (2^(cells (g.rules.take i)++(d.rhs.take j).map pE.sym).length:Nat)),some (.int d.lhs),some (.ref u),v5]/\jq [x,h,f,l,s] z8 D/\bT z8 D/\Fn c D x A h f l s g.nons (CT (g.rules.take i)|||2^(cells (g.rules.take i)).length) (cells (g.rules.take i)++(d.rhs.take j).map pE.sym) (MO (g.rules.take i)))
   ⟨v5,by simp,jq.refl,bT.refl _,by simpa using M1⟩ (by rintro j σ D _ ⟨_,_,_,t2,_⟩;exact kF.of (t2 _ _ (tx _ _ hu))) ?_ ?_
  ·rintro j y σ D hj ⟨z9,rfl,b2,t2,M2⟩;obtain⟨sy,y3,v6⟩:=hz.at hj;have u0:=v6.mono (tx.trans t2);have w4:=(ai.mp y3).1;have so:Gv (iJ (IA (cells (g.rules.take i)++(d.rhs.take j).map pE.sym)) g.nons).length sy:=by
    have :(iJ (IA (cells (g.rules.take i)++(d.rhs.take j).map pE.sym)) g.nons).length=g.nons:=by simp[iJ]
    rw[this];exact z7.sym sy (bj y3)
   have u1:(cells (g.rules.take i)++(d.rhs.take j).map pE.sym).length=(cells (g.rules.take i)).length+j:=by
    rw[ay,aP,cq,c7 (by omega)]
   refine⟨_,rfl,x,A,_,rfl,M2.ins,rfl,_,rfl,_,rfl,x,A,h,f,l,s,_,_,_,_,_,_,_,sy,rfl,M2,nd,u0,so,?_,λHk b3 r3=>?_⟩
   ·have :=Ow (cells (g.rules.take i)++(d.rhs.take j).map pE.sym) 0;omega
   refine⟨_,rfl,_,_,rfl,rfl,SD (by omega),?_⟩;have e1:cells (g.rules.take i)++(d.rhs.take (j+1)).map pE.sym=cells (g.rules.take i)++(d.rhs.take j).map pE.sym++[.sym sy]:=by
    rw[take_snoc y3,dq,bN];rfl
   have t3:bT D Hk:=λb xs e=>b3 b _ e (λm=>by
    obtain⟨u2,y4,_⟩:=M2.t;simp only[af,aS,cC]at m;rcases m with m|m
    ·subst m;rw[M2.a]at e;cases e
    ·subst m;rw[y4]at e;cases e)
   refine⟨some y,?_,b2.trans (b3.mono (by simp)),t2.trans t3,?_⟩
   ·rw[e1,Ln,<-Pp];rfl
   ·rw[e1];show HQ c Hk x A h f l s _ _ _ _ _;rw[VW,XI,WD];cases sy with
    |non k=>exact r3
    |range lo hi=>exact r3
  ·rintro σ D ⟨z9,rfl,b2,t2,M2⟩;rw[v2,bP]at M2⊢;have u1:(cells (g.rules.take i)++d.rhs.map pE.sym).length=(cells (g.rules.take i)).length+d.rhs.length:=by
    rw[ay,aP]
   have hk:d.lhs<g.nons:=z7.lhs;have u3:(iJ (uR (cells (g.rules.take i)++d.rhs.map pE.sym)) g.nons).length=g.nons:=by simp[iJ]
   have v7:(iJ (uR (cells (g.rules.take i)++d.rhs.map pE.sym)) g.nons)[d.lhs]?=some ((iJ (uR (cells (g.rules.take i)++d.rhs.map pE.sym)) g.nons).getD d.lhs 0):=by
    rw[bC,aB (by rw[u3];exact hk)];rfl
   refine⟨_,rfl,x,c.eQ,A,_,_,rfl,M2.ins,T.fc,T.ib,LM _ _ _ _ _,_,rfl,f,_,_,_,rfl,rfl,eD.of M2.e,qb (vi v7),_,rfl,_,_,rfl,rfl,?_⟩;refine⟨_,rfl,x,c.eQ,A,_,_,rfl,M2.ins,T.fc,T.ib,LM _ _ _ _ _,_,rfl,f,_,(d.lhs:Int),d.lhs,rfl,rfl,M2.e,by rw[dU,u3];exact QB hk,?_⟩;have eE:(cB (iJ (uR (cells (g.rules.take i)++d.rhs.map pE.sym)) g.nons)).set d.lhs (V.int (Builtin.bitOr ((iJ (uR (cells (g.rules.take i)++d.rhs.map pE.sym)) g.nons).getD d.lhs 0:Nat) (2^(cells (g.rules.take i)++d.rhs.map pE.sym).length:Nat)))=cB (iJ (uR (cells (g.rules.take i)++d.rhs.map pE.sym++[.fin d.lhs])) g.nons):=by
    rw[qF,M5,<-Vv]
   rw[eE];obtain⟨u2,y4,v8⟩:=M2.t;have t4:=jo (o:=.lst (cB (iJ (uR (cells (g.rules.take i)++d.rhs.map pE.sym++[.fin d.lhs])) g.nons))) M2.e;have L:∀b,b≠f->(upd D f (.lst (cB (iJ (uR (cells (g.rules.take i)++d.rhs.map pE.sym++[.fin d.lhs])) g.nons)))) b=D b:=λb hb=>aO hb
   have u4:(upd D f (.lst (cB (iJ (uR (cells (g.rules.take i)++d.rhs.map pE.sym++[.fin d.lhs])) g.nons)))) f=some (.lst (cB (iJ (uR (cells (g.rules.take i)++d.rhs.map pE.sym++[.fin d.lhs])) g.nons))):=au;have b4:jq [x,h,f,l,s] D (upd D f (.lst (cB (iJ (uR (cells (g.rules.take i)++d.rhs.map pE.sym++[.fin d.lhs])) g.nons)))):=eY (by simp);generalize upd D f (.lst (cB (iJ (uR (cells (g.rules.take i)++d.rhs.map pE.sym++[.fin d.lhs])) g.nons)))=H7 at t4 L u4 b4;have u5:H7 x=some (.ins c.eQ A (Nn (.int (CT (g.rules.take i)|||2^(cells (g.rules.take i)).length:Nat)) (.ref h) (.ref f) (.ref l) (.ref s))):=by rw[L x (aY x9)];exact M2.ins
   have y5:H7 l=some (.lst (cB (MO (g.rules.take i)))):=by rw[L l x2];exact M2.r
   have w5:(MO (g.rules.take i)).length<=60:=by unfold MO;rw[aP,df,cq];omega
   refine⟨_,rfl,x,c.eQ,A,_,_,rfl,u5,T.fc,T.kM,Xs _ _ _ _ _,.inl ⟨rfl,_,eD.of y5⟩,_,rfl,l,_,_,rfl,rfl,y5,rC (by rw[dU];omega),?_⟩;refine⟨_,rfl,_,_,rfl,rfl,SD (by omega),?_⟩;have er:cells (g.rules.take (i+1))=cells (g.rules.take i)++d.rhs.map pE.sym++[.fin d.lhs]:=by
    rw[take_snoc hr,zi,bN];show _++(kl d++[])=_;rw[bQ];rfl
   have eR:MO (g.rules.take (i+1))=MO (g.rules.take i)++[2^((cells (g.rules.take i)).length+d.rhs.length)]:=by rw[take_snoc hr,Wc]
   have v9:CT (g.rules.take (i+1))=CT (g.rules.take i)|||2^(cells (g.rules.take i)).length:=by rw[take_snoc hr,VM]
   have t8:=jo (o:=.lst (cB (MO (g.rules.take i))++[V.int (2^(cells (g.rules.take i)++d.rhs.map pE.sym).length:Nat)])) y5;refine⟨some (.int d.lhs),some (.ref u),z9,?_,((bb.trans bx).trans (b2.trans b4)).trans (eY (by simp)),((tt.trans tx).trans (t2.trans t4)).trans t8,?_⟩
   ·rw[er,Ln,<-Pp];rfl
   ·rw[er,eR,v9];show HQ c _ x A h f l s _ _ _ _ _;rw[YU,X5];refine⟨by rw[aO (aY C.2)];exact u5,by rw[aO (aY z2),L h (aY z4)];exact M2.a,by rw[aO (aY x2)];exact u4,?_,u2,by rw[aO B.2.2,L s y0];exact y4,Paired.jr v8 λ_ _ z=>z.mono (t4.trans t8)⟩;rw[au,G8,u1];rfl
 ·rintro σ G ⟨v3,v4,v5,rfl,bb,tt,M⟩;rw[v0,bP]at M;refine q G [h,f,l,s] (λb o e n=>bb b o e (λm=>?_)) z5 nd ⟨A,h,f,l,s,rfl,M⟩;exact z6 e (by simpa using n) m
end
section
variable{K:Frag}{mg:Str->Option Value}{c:Cl}
theorem Me(a b c:V):(Sn a b c).lookup ("marks":Str)=some a:=rfl
theorem BR(a b c:V):(Sn a b c).lookup ("reached":Str)=some b:=rfl
theorem Il(a b c:V):(Sn a b c).lookup ("passed":Str)=some c:=rfl
theorem B_(T:Txt K mg c)(H:Hp):Lf K H c.dW (cB []):=by
 obtain⟨o,n,a,b,d⟩:=T.F9;exact .inr ⟨o,#[],n,a,b,d,by simp,.nil⟩
theorem KR(T:Txt K mg c)(H:Hp):rG K H (.ref c.dW) []:=⟨_,rfl,B_ T H⟩
theorem Ib{H:Hp}{b:Addr}{p:Text}(h:Lf K H b (cB p)):eG.KO K H (c9 p) b:=by
 show Lf K H b ((c9 p).map V.int);rw[Tt];exact h
theorem Jf{a:List Text}{p:Text}(h:p∈a):fZ a p=a:=az h
theorem jN(f:Text->Nat)(p:Text)(v:Nat):vL f p v p=v:=az rfl
theorem yc{f:Text->Nat}{p q:Text}{v:Nat}(h:q≠p):vL f p v q=f q:=ah h
theorem yb(T:Txt K mg c):Run ["self","first","last"] ["self","first","last"] (g6 K c) (rY K c):=by
 rintro I H Q E ⟨l,o,r,J,g,L,d,fs,v,w,p,a,rfl,⟨⟨m,mk,f,s⟩,⟨t,u,M,x⟩,⟨y,z,N,A⟩,O,n,none⟩,⟨b,rfl,B⟩,⟨C,rfl,h⟩,D,i,j,q⟩;refine⟨rfl,?_⟩;refine⟨_,rfl,l,c.aV,m,_,_,rfl,f,T.cG,T.dO,BR _ _ _,_,rfl,o,b,t,c9 p,_,rfl,rfl,u,Ib B,x p D,?_⟩;refine⟨_,rfl,l,c.aV,m,_,_,rfl,f,T.cG,T.fR,Il _ _ _,_,rfl,r,C,y,c9 a,_,rfl,rfl,z,Ib h,A a i,_,_,rfl,rfl,?_⟩;have k:d p&&&fs a<=d p:=Nat.and_le_left;have e:Builtin.bitAnd (d p:Nat) (fs a:Nat)*2^(1:Int).toNat=((2*(d p&&&fs a):Nat):Int):=by rw[qc,PN]
 refine⟨Builtin.bitAnd (d p:Nat) (fs a:Nat),1,rfl,rfl,⟨rfl,?_,?_⟩,?_⟩
 ·rw[qc];exact gq _
 ·rw[qc];have G:((d p&&&fs a:Nat):Int)<((2^999:Nat):Int):=Int.ofNat_lt.mpr (fJ k j);exact Int.lt_trans G (UH (by omega))
 ·show Q (.int (Builtin.bitAnd (d p:Nat) (fs a:Nat)*2^(1:Int).toNat)) H;rw[e];exact q
theorem u_(T:Txt K mg c):Run ["self","text"] ["self","text"] (gN K c) (pX K c):=by
 rintro w H Q E ⟨h,k,x,y,g,z,v,p,rfl,⟨⟨i,mk,a,d⟩,⟨l,m,A,n⟩,⟨B,C,D,G⟩,I,j,none⟩,o,⟨b,rfl,r⟩,s,q⟩;refine⟨rfl,?_⟩;obtain⟨f,J,t,L,N,rfl,M⟩:=d;have u:(iJ (uR (cells g.rules)) g.nons)[0]?=some (uR (cells g.rules) 0):=by
  unfold iJ;rw[cf,cF o.pos];rfl
 refine⟨_,rfl,h,c.aV,i,_,_,rfl,a,T.cG,T.dO,BR _ _ _,_,rfl,k,b,l,c9 p,_,rfl,rfl,m,Ib r,n p s,?_⟩;refine⟨_,rfl,h,c.aV,i,_,_,rfl,a,T.cG,T.gp,Me _ _ _,mk,c.eQ,f,_,_,rfl,M.ins,T.fc,T.ib,LM _ _ _ _ _,t,_,((0:Nat):Int),_,rfl,rfl,eD.of M.e,qb (vi u),_,_,rfl,rfl,?_⟩;show Q (.int (Builtin.bitAnd _ _)) H;rw[qc];exact q
theorem tX(T:Txt K mg c):Run ["self","text"] ["self","text"] (fD K c) (oj K c):=by
 rintro r H Q E ⟨b,f,i,j,g,k,v,p,rfl,h,d,l,m,q⟩;refine⟨rfl,?_⟩;obtain⟨n,mk,a,o⟩:=h.ins;refine⟨_,rfl,b,n,_,rfl,a,rfl,_,rfl,b,f,i,j,g,k,_,p,rfl,h,d,l,m,rfl,?_⟩;have e:(!decide (V.int ((RB g.rules p&&&uR (cells g.rules) 0:Nat):Int)=V.int 0))=Vaglrc.reads g p:=by
  have :=OH (x:=p) d.lhs;rw[dJ,<-this];by_cases z:RB g.rules p&&&uR (cells g.rules) 0=0
  ·rw[z];simp
  ·have :¬V.int ((RB g.rules p&&&uR (cells g.rules) 0:Nat):Int)=V.int 0:=λy=>z (by injection y with y;omega)
   simp only[this,decide_false,Bool.not_false,true_iff];exact z
 rw[e];exact q
theorem Qq{R a n:Nat}(h:Sub R a)(b:a≠R)(d:a<n):n-a<n-R:=by
 exact Nat.sub_lt_sub_left (fJ h.le d) (Nat.lt_of_le_of_ne h.le b.symm)
theorem NZ{d:List Rule}{p:Text}{R S f g:Nat}(h:Based d p R S)(i:Sub R f)(j:Sub S g):Based d p f g:=
 ⟨λe=>(h.1 e).trans i,λa b e1 e2 e3=>(h.2.1 a b e1 e2 e3).trans i,λb e=>(h.2.2 b e).trans j⟩
theorem N7{g:Grammar}(a:mr g){p:Text}{R:Nat}(h:Sub R (RB g.rules p)):R<2^999:=by
 have b:RB g.rules p<2^(cells g.rules).length:=Xq;have d:2^(cells g.rules).length<=2^999:=kd (by omega) (by have :=yN a;omega);exact fJ h.le (bB b d)
theorem Vl(a b:Nat):(!decide (V.int (a:Int)=V.int (b:Int)))=decide (a≠b):=by
 by_cases e:a=b
 ·subst e;simp
 ·have :¬V.int (a:Int)=V.int (b:Int):=λz=>e (by injection z with z;omega)
  simp[this,e]
def SW(K:Frag)(c:Cl)(H:Hp)(e f h b:Addr)(i:List Addr)(g:Grammar)(j:List Text)(k fs:Text->Nat)(p:Text)(m:Nat)(l:L2.St)(a:Hp):Prop:=
 ∃R S d n o,m=(2^(cells g.rules).length-R)+(2^(cells g.rules).length-S)+(if d=true then 1 else 0)/\l=[some (.ref e),some (.ref b),some (.bl d),n,o]/\jq [f,h] H a/\bT H a/\
  Bs c K a e f h i g j (vL k p R) (vL fs p S)/\Sound g.rules p R S/\Based g.rules p R S/\(d=false->kG g.rules p R S=R/\xa g.rules S R=S)
theorem Ga(T:Txt K mg c){H H' k:Hp}{h f a b:Addr}{fm:List Addr}{g:Grammar}{A:List Text}{fr fs:Text->Nat}{p:Text}{R S:Nat}(hb:Lf K H b (cB p))(hp:p∈A)(x7:A.length<=5000)
 (bH:jq [f,a] H H')(tH:bT H H')(C:Bs c K H' h f a fm g A (vL fr p R) (vL fs p S))(so:Sound g.rules p R S)(ba:Based g.rules p R S)(u:aZ H' k){D:Ends}{gr:Bool}{x3 x4:Int}(e3:x3=(kG g.rules p R S:Nat))(e4:x4=(xa g.rules S (kG g.rules p R S):Nat))
 (B:gr=decide (kG g.rules p R S≠R\/xa g.rules S (kG g.rules p R S)≠S))
 (hD:∀E H',(∃m',m'<(2^(cells g.rules).length-R)+(2^(cells g.rules).length-S)+1/\SW K c H h f a b fm g A fr fs p m' E H')->D.nx E H'):
 bO (Cs eG K (cA K (ao 0) "reached") (ao 1) (ao 3)) (Cs eG K (cA K (ao 0) "passed") (ao 1) (ao 4)) D [some (.ref h),some (.ref b),some (.bl gr),some (.int x3),some (.int x4)] k:=by
 subst e3 e4;obtain⟨⟨dx,mk,x0,x1⟩,⟨G,dr,kr,vr⟩,⟨w,dp,kp,vp⟩,nd,I,n⟩:=C;have t2:=aZ.tup u;have r:=dr.same u;have J:=dp.same u;have i:=u _ _ x0;have zZ:=hb.mono (tH.trans t2);obtain⟨L,M⟩:=RX so;have sR:Sub R (kG g.rules p R S):=(zc _ _).trans (zc _ _);have sS:Sub S (xa g.rules S (kG g.rules p R S)):=zc _ _;have lR:=fJ L.le (Xq (rs:=g.rules) (p:=p));have lS:=fJ M.le (Zq (rs:=g.rules) (p:=p));have x2:=Ap.len kr;have x5:=Ap.len kp;refine⟨_,rfl,_,rfl,h,c.aV,dx,_,_,rfl,i,T.cG,T.dO,BR _ _ _,_,rfl,f,b,G,c9 p,rfl,rfl,r,Ib zZ,by rw[x2,bu];omega,?_⟩;have D1:=Ap.put (v:=kG g.rules p R S) r kr vr zZ;have N:bT k (upd k f (DX eG.hf f (mh G (c9 p) b (.int (kG g.rules p R S:Nat))))):=md (by rw[r.1];trivial);have b3:jq [f,a] k (upd k f (DX eG.hf f (mh G (c9 p) b (.int (kG g.rules p R S:Nat))))):=eY (by simp);have j:∀x,x≠f->(upd k f (DX eG.hf f (mh G (c9 p) b (.int (kG g.rules p R S:Nat))))) x=k x:=λx y=>aO y
 generalize upd k f (DX eG.hf f (mh G (c9 p) b (.int (kG g.rules p R S:Nat))))=m at D1 N b3 j;have O:=nd;rw[aT,aT,aT]at O;obtain⟨n1,n2,n3,n4⟩:=O;have Q:h≠f:=λe=>n1 (by rw[e];simp)
 have x6:h≠a:=λe=>n1 (by rw[e];simp)
 have U:f≠a:=λe=>n2 (by rw[e];simp)
 have s:DT eG K m a w:=⟨by rw[j a (aY U)];exact J.1,J.2.mono N⟩;have DD:=zZ.mono N;refine⟨_,rfl,_,rfl,h,c.aV,dx,_,_,rfl,by rw[j h Q];exact i,T.cG,T.fR,Il _ _ _,_,rfl,a,b,w,c9 p,rfl,rfl,s,Ib DD,by rw[x5,bu];omega,?_⟩;have D2:=Ap.put (v:=xa g.rules S (kG g.rules p R S)) s kp vp DD;have t4:bT m (upd m a (DX eG.hf a (mh w (c9 p) b (.int (xa g.rules S (kG g.rules p R S):Nat))))):=md (by rw[s.1];trivial);have b4:jq [f,a] m (upd m a (DX eG.hf a (mh w (c9 p) b (.int (xa g.rules S (kG g.rules p R S):Nat))))):=eY (by simp);have l:∀x,x≠a->(upd m a (DX eG.hf a (mh w (c9 p) b (.int (xa g.rules S (kG g.rules p R S):Nat))))) x=m x:=λx y=>aO y
 generalize upd m a (DX eG.hf a (mh w (c9 p) b (.int (xa g.rules S (kG g.rules p R S):Nat))))=H4 at D2 t4 b4 l;have Y:=tH.trans (t2.trans (N.trans t4));have Z:=Ap.keep (H':=H4) (by rw[l f U]) t4 D1;rw[Jf hp]at Z D2;have t:∀x∈fm,∀o,H' x=some o->H4 x=some o:=λx y o e=>by
  rw[l x (λz=>n3 (by rw[<-z];exact y)),j x (λz=>n2 (by rw[<-z];simp[y]))];exact u _ _ e
 have C4:Bs c K H4 h f a fm g A (vL fr p (kG g.rules p R S)) (vL fs p (xa g.rules S (kG g.rules p R S))):=by
  refine⟨⟨dx,mk,by rw[l h x6,j h Q];exact i,x1.keep t (t2.trans (N.trans t4))⟩,Z.congr λq _=>?_,D2.congr λq _=>?_,nd,I,n⟩
  ·unfold vL;split<;>rfl
  ·unfold vL;split<;>rfl
 refine hD _ _ ⟨_,?_,kG g.rules p R S,xa g.rules S (kG g.rules p R S),gr,_,_,rfl,rfl,bH.trans (u.but.trans (b3.trans b4)),Y,C4,⟨L,M⟩,NZ ba sR sS,λeg=>?_⟩
 ·rw[B];by_cases d:kG g.rules p R S≠R\/xa g.rules S (kG g.rules p R S)≠S
  ·rw[az (aF d)];exact Nat.succ_lt_succ (d.elim (λd=>Nat.add_lt_add_of_lt_of_le (Qq sR d lR) (i0 sS.le _)) λd=>Nat.add_lt_add_of_le_of_lt (i0 sR.le _) (Qq sS d lS))
  ·rw[ah (by simpa using d),ly];exact Nat.lt_succ_of_le (Nat.add_le_add (i0 sR.le _) (i0 sS.le _))
 ·rw[B]at eg;have d:=of_decide_eq_false eg;have d1:kG g.rules p R S=R:=fw λz=>d (.inl z)
  have d2:xa g.rules S (kG g.rules p R S)=S:=fw λz=>d (.inr z)
  rw[d1]at d2⊢;rw[d2];exact⟨d1,d2⟩
theorem zU(T:Txt K mg c):Run ["self","piece","grown","reached","passed"] ["self","piece"] (gy K c) (tV K c):=by
 rintro vs H Q E ⟨j,A,B,N,g,Y,l,fs,v,p,rfl,h,Z,⟨b,rfl,hb⟩,w,D,G,n,I,q⟩;refine⟨rfl,?_⟩;refine⟨SW K c H j A B b N g Y l fs p,⟨_,l p,fs p,true,none,none,rfl,rfl,jq.refl,bT.refl _,⟨h.ins,h.r.congr (λq _=>?_),h.p.congr (λq _=>?_),h.nd,h.keys,h.none⟩,n,I,λe=>by cases e⟩,?_⟩
 ·unfold vL;split
  ·rename_i e;rw[e]
  ·rfl
 ·unfold vL;split
  ·rename_i e;rw[e]
  ·rfl
 rintro m σ x ⟨R,S,gr,v3,v4,rfl,rfl,bH,tH,C,n,I,done⟩;refine⟨_,rfl,gr,rfl,?_⟩;cases gr with
 |false=>
  refine rj ?_;obtain⟨e1,e2⟩:=done rfl;obtain⟨e1,e2⟩:=TH n I e1 e2;rw[e1,e2]at C;exact q x bH C
 |true=>
  refine pM ?_;refine⟨_,λJ x z=>z,?_⟩;have f:=hb.mono tH;have O:=C;obtain⟨⟨o,mk,a,L⟩,⟨xr,dr,kr,vr⟩,⟨xp,dp,kp,vp⟩,nd,x3,i⟩:=C;have eR:vL l p R []=W5 g.rules p R:=by
   unfold W5;by_cases e:p=[]
   ·subst e;rw[az rfl,jN]
   ·rw[ah e,yc (aY e)];exact(G e).1
  have eS:vL fs p S []=W3 g.rules p S:=by
   unfold W3;by_cases e:p=[]
   ·subst e;rw[az rfl,jN]
   ·rw[ah e,yc (aY e)];exact(G e).2
  have s:=vr p w;have t:=vp p w;rw[jN]at s t;refine⟨_,rfl,j,c.aV,o,_,_,rfl,a,T.cG,T.dO,BR _ _ _,_,rfl,A,b,xr,c9 p,_,rfl,rfl,dr,Ib f,s,?_⟩;refine⟨_,rfl,j,o,_,rfl,a,rfl,_,rfl,j,A,B,N,g,Y,_,_,_,_,[],p,rfl,O,KR T x,⟨b,rfl,f⟩,i,w,?_,_,_,rfl,rfl,?_⟩
  ·rw[eR];exact N7 Z (Qi n.1)
  refine⟨_,rfl,j,o,_,rfl,a,rfl,_,rfl,j,A,B,N,g,Y,_,_,_,_,p,[],rfl,O,⟨b,rfl,f⟩,KR T x,w,i,?_,_,_,rfl,rfl,?_⟩
  ·rw[jN];exact N7 Z n.1
  have U:(Builtin.bitOr (Builtin.bitOr (R:Nat) (2*(vL l p R []&&&vL fs p S p):Nat)) (2*(vL l p R p&&&vL fs p S []):Nat))=((kG g.rules p R S:Nat):Int):=by
   rw[qF,qF,jN,jN,eR,eS];rfl
  refine⟨_,rfl,j,c.aV,o,_,_,rfl,a,T.cG,T.fR,Il _ _ _,_,rfl,B,b,xp,c9 p,_,rfl,rfl,dp,Ib f,t,?_⟩;obtain⟨x0,l1,l2,l3,l4,x4,M⟩:=id L;refine⟨_,rfl,j,c.aV,o,_,_,rfl,a,T.cG,T.gp,Me _ _ _,mk,x0,_,rfl,M.ins,rfl,_,rfl,mk,g,N,kG g.rules p R S,cV (λz=>[V.ref mk,V.int z]) U,L,Z,λH2 y=>?_⟩;refine⟨_,_,rfl,rfl,?_⟩;have u:(Builtin.bitOr (S:Nat) (Wm g.rules (kG g.rules p R S):Nat))=((xa g.rules S (kG g.rules p R S):Nat):Int):=by rw[qF];rfl
  have x1:=dr.same y;have x2:=dp.same y;have k:=y _ _ a;have zZ:=f.mono (aZ.tup y);refine⟨_,rfl,_,rfl,j,c.aV,o,_,_,rfl,k,T.cG,T.dO,BR _ _ _,_,rfl,A,b,xr,c9 p,_,rfl,rfl,x1,Ib zZ,s,rfl,_,rfl,?_⟩;have n1:(!decide (V.int (Builtin.bitOr (Builtin.bitOr (R:Nat) (2*(vL l p R []&&&vL fs p S p):Nat)) (2*(vL l p R p&&&vL fs p S []):Nat))=V.int (R:Int)))=decide (kG g.rules p R S≠R):=by rw[U];exact Vl _ _
  have n2:(!decide (V.int (Builtin.bitOr (S:Nat) (Wm g.rules (kG g.rules p R S):Nat))=V.int (S:Int)))=decide (xa g.rules S (kG g.rules p R S)≠S):=by rw[u];exact Vl _ _
  refine oI (λd=>?_) (λd=>?_)
  ·have d':kG g.rules p R S≠R:=bU (n1.symm.trans d);exact Ga T (gr:=true) hb w D bH tH O n I y U u (by rw[aF (.inl d')]) λJ x z=>z
  ·have d':kG g.rules p R S=R:=fw λz=>d (n1.trans (aF z))
   refine⟨_,rfl,_,rfl,j,c.aV,o,_,_,rfl,k,T.cG,T.fR,Il _ _ _,_,rfl,B,b,xp,c9 p,_,rfl,rfl,x2,Ib zZ,t,rfl,?_⟩;exact Ga T hb w D bH tH O n I y U u (n2.trans (by simp[d'])) λJ x z=>z
end
section
variable{K:Frag}{mg:Str->Option Value}{c:Cl}
theorem Jc(p:Text)(i:Nat):(cB p).take i=cB (p.take i):=by unfold cB;rw[List.map_take]
theorem IT(p:Text)(i:Nat):(cB p).drop i=cB (p.drop i):=by unfold cB;rw[List.map_drop]
theorem Lo(p:Text)(i:Nat):mf (cB p) none (some ((i:Nat):Int))=cB (p.take i):=by
 unfold mf;rw[HT.vc,HT.qJ,jJ,Nat.sub_zero,Jc,dU];congr 1;by_cases h:i<=p.length
 ·rw[c7 h]
 ·rw[Nat.min_eq_right (by omega),dM (ak _),dM (by omega)]
theorem LQ(p:Text)(i:Nat):mf (cB p) (some ((i:Nat):Int)) none=cB (p.drop i):=by
 unfold mf;rw[HT.vc,HT.qJ,IT,dU];by_cases h:i<=p.length
 ·rw[c7 h,dM (by rw[dU,fI];exact ak _)]
 ·rw[Nat.min_eq_right (by omega),jy (ak _),jy (by omega)];simp
theorem Vx(p:Text){i j:Nat}(h:i<=j)(a:j<=p.length):mf (cB p) (some ((i:Nat):Int)) (some ((j:Nat):Int))=cB ((p.drop i).take (j-i)):=by
 unfold mf;rw[HT.qJ,HT.qJ,IT,dU,c7 a,c7 (bh h a),Jc]
theorem AJ(T:Txt K mg c):Run ["self","piece","reached","place"] ["self","piece"] (gj K c) (ug K c):=by
 rintro vs H Q E ⟨l,f,j,fm,g,ks,v,p,rfl,h,fg,⟨b,rfl,hb⟩,lo,y9,z0,q⟩;refine⟨rfl,?_⟩;have h0:=h;obtain⟨⟨J,mk,C,y0⟩,⟨Z,dr,kr,vr⟩,⟨xp,dp,kp,vp⟩,nd,x0,w⟩:=h;refine⟨_,rfl,_,rfl,l,c.aV,J,_,_,rfl,C,T.cG,T.dO,BR _ _ _,f,b,Z,c9 p,rfl,rfl,dr,Ib hb,_,rfl,?_⟩;rw[Ap.has kr];by_cases hp:p∈ks
 ·rw[aF hp];refine pM ?_;rw[Jf hp]at q;exact q H jq.refl h0
 ·rw[aM hp];refine rj ?_;have x1:p≠[]:=λe=>hp (by rw[e];exact w)
  have y8:0<p.length:=lp.mpr x1;refine⟨_,rfl,b,_,rfl,.inr hb.sq,(1:Int),(((cB p).length:Nat):Int),rfl,⟨by decide,by decide,?_,?_⟩,?_⟩
  ·rw[dU];omega
  ·rw[dU];omega
  rw[dU];have en:(((p.length:Nat):Int)-1).toNat=p.length-1:=Int.toNat_sub _ 1;rw[en];refine sU (λi σ H'=>∃(R:Nat) (v3:Option V),σ=[some (.ref l),some (.ref b),some (.int (R:Nat)),v3]/\aZ H H'/\Sub R (RB g.rules p)/\∀a d,a≠[]->d≠[]->p=a++d->a.length<1+i->Sub (2*(RB g.rules a&&&SB g.rules d)) R)
   ⟨0,_,rfl,aZ.refl _,λm z=>by simp at z,λa d e1 e2 e3 e4=>absurd (lp.mpr e1) (by omega)⟩ ?_ ?_
  ·rintro i σ H' hi ⟨R,v3,rfl,s,sub,all⟩;have ei:(1:Int)+(i:Int)=((1+i:Nat):Int):=by omega
   have x2:=hb.mono (aZ.tup s);refine⟨_,rfl,_,rfl,l,J,_,rfl,s _ _ C,rfl,_,rfl,_,rfl,_,rfl,b,_,rfl,x2,λf1 L s1 x3=>?_⟩;rw[ei,Lo]at x3;have wx:=x2.mono (aZ.tup s1);refine⟨_,rfl,_,rfl,_,rfl,b,_,rfl,wx,λf2 H2 s2 x4=>?_⟩;rw[ei,LQ]at x4;have sA:=(s.trans s1).trans s2;obtain⟨m1,m2⟩:=lo (1+i) (by omega) (by omega);refine⟨l,f,j,fm,g,ks,_,_,_,_,p.take (1+i),p.drop (1+i),rfl,h0.keep (λx _ o e=>sA _ _ e) (aZ.tup sA),⟨f1,rfl,x3.mono (aZ.tup s2)⟩,⟨f2,rfl,x4⟩,m1,m2,N7 fg (Sub.refl _),_,_,rfl,rfl,?_⟩;refine⟨R|||2*(RB g.rules (p.take (1+i))&&&SB g.rules (p.drop (1+i))),_,by rw[<-qF];rfl,sA,Sub.or sub ?_,λa d e1 e2 e3 e4=>?_⟩
   ·have :=step_sound (rs:=g.rules) (a:=p.take (1+i)) (b:=p.drop (1+i))
    rwa [eL]at this
   ·by_cases z:a.length<1+i
    ·exact(all a d e1 e2 e3 z).trans (zc _ _)
    ·have el:a.length=1+i:=by omega
     have ea:p.take (1+i)=a:=by rw[e3,<-el];simp
     have ed:p.drop (1+i)=d:=by rw[e3,<-el];simp
     rw[ea,ed];exact BA _ _
  ·rintro σ L ⟨R,v3,rfl,s,sub,all⟩;have wx:=hb.mono (aZ.tup s);have O:=dr.same s;have x5:=dp.same s;have y1:=Ap.len kr;have y2:=Ap.len kp;have x6:=nd;rw[aT,aT,aT]at x6;obtain⟨n1,n2,n3,n4⟩:=x6;have y3:l≠f:=λe=>n1 (by rw[e];simp)
   have x7:l≠j:=λe=>n1 (by rw[e];simp)
   have x8:f≠j:=λe=>n2 (by rw[e];simp)
   refine⟨_,rfl,_,rfl,l,c.aV,J,_,_,rfl,s _ _ C,T.cG,T.dO,BR _ _ _,_,rfl,f,b,Z,c9 p,rfl,rfl,O,Ib wx,by rw[y1,bu];omega,?_⟩;have D1:=Ap.put (v:=R) O kr vr wx;have t3:bT L (upd L f (DX eG.hf f (mh Z (c9 p) b (.int (R:Nat))))):=md (by rw[O.1];trivial);have b3:jq [f,j] L (upd L f (DX eG.hf f (mh Z (c9 p) b (.int (R:Nat))))):=eY (by simp);have G:∀x,x≠f->(upd L f (DX eG.hf f (mh Z (c9 p) b (.int (R:Nat))))) x=L x:=λx U=>aO U
   generalize upd L f (DX eG.hf f (mh Z (c9 p) b (.int (R:Nat))))=I at D1 t3 b3 G;have y4:DT eG K I j xp:=⟨by rw[G j (aY x8)];exact x5.1,x5.2.mono t3⟩;have DD:=wx.mono t3;have n:I l=some (.ins c.aV J (Sn (.ref mk) (.ref f) (.ref j))):=by rw[G l y3];exact s _ _ C
   have A:GG c I mk g fm:=y0.keep (λx U o e=>by rw[G x (λz=>n2 (by rw[<-z];simp[U]))];exact s _ _ e) ((aZ.tup s).trans t3);have N:∀(S:Nat) (x:Int) (t:Hp),x=(S:Int)->aZ I t->Sub S (SB g.rules p)->(∀d,p=[d]->Sub (SM (cells g.rules) d) S)->
    ∀D:Ends,D={nx:=λ_ H'=>Q .non H',rt:=Q}->(cA K (ao 0) "passed" [some (.ref l),some (.ref b),some (.int (R:Nat)),v3] t λx' H2=>ao 1 [some (.ref l),some (.ref b),some (.int (R:Nat)),v3] H2 λy I=>AF λa b' xs k=>x'=.ref a/\y=.ref b'/\DT eG K I a xs/\eG.KO K I k b'/\xs.length<sizeLine/\i_ (eC c.aV "settle" (gy K c) [] E0 (ao 0) (aq (ao 1) aR)) D [some (.ref l),some (.ref b),some (.int (R:Nat)),v3] (upd I a (DX eG.hf a (mh xs k b' (.int x))))):=by
    rintro S x t rfl u x9 y5 D rfl;have Y:=y4.same u;have S8:=DD.mono (aZ.tup u);refine⟨_,rfl,l,c.aV,J,_,_,rfl,u _ _ n,T.cG,T.fR,Il _ _ _,_,rfl,j,b,xp,c9 p,rfl,rfl,Y,Ib S8,by rw[y2,bu];omega,?_⟩;have D2:=Ap.put (v:=S) Y kp vp S8;have t5:bT t (upd t j (DX eG.hf j (mh xp (c9 p) b (.int (S:Nat))))):=md (by rw[Y.1];trivial);have b5:jq [f,j] t (upd t j (DX eG.hf j (mh xp (c9 p) b (.int (S:Nat))))):=eY (by simp);have B:∀x,x≠j->(upd t j (DX eG.hf j (mh xp (c9 p) b (.int (S:Nat))))) x=t x:=λx U=>aO U
    generalize upd t j (DX eG.hf j (mh xp (c9 p) b (.int (S:Nat))))=H5 at D2 t5 b5 B;have y6:Ap K H5 f (fZ ks p) (vL (RB g.rules) p R):=by
     have a1:=D1.G5 (λo e=>u _ _ e) (aZ.tup u);exact Ap.keep (by rw[B f x8]) t5 a1
    have C5:Bs c K H5 l f j fm g (fZ ks p) (vL (RB g.rules) p R) (vL (SB g.rules) p S):=
     ⟨⟨J,mk,by rw[B l x7];exact u _ _ n,A.keep (λx U o e=>by rw[B x (λz=>n3 (by rw[<-z];exact U))];exact u _ _ e) ((aZ.tup u).trans t5)⟩,y6,D2,nd,vM x0,dt.mpr (.inl w)⟩
    refine⟨_,rfl,l,J,_,rfl,by rw[B l x7];exact u _ _ n,rfl,_,rfl,l,f,j,fm,g,fZ ks p,_,_,_,p,rfl,C5,fg,⟨b,rfl,S8.mono t5⟩,dt.mpr (.inr rfl),by have :=vN (ks:=ks) (p:=p);omega,λe=>⟨yc (aY e),yc (aY e)⟩,?_,?_,λH6 b6 C6=>?_⟩
    ·rw[jN,jN];exact⟨sub,x9⟩
    ·rw[jN,jN];refine⟨λe=>absurd e x1,λa d e1 e2 e3=>all a d e1 e2 e3 ?_,y5⟩;have :=cV List.length e3;rw[ay]at this;have :=lp.mpr e2;omega
    ·refine q H6 (s.but.trans (b3.trans (u.but.trans (b5.trans b6)))) ⟨C6.ins,C6.r.congr λy _=>?_,C6.p.congr λy _=>?_,C6.nd,C6.keys,C6.none⟩
     ·by_cases e:y=p
      ·subst e;rw[jN]
      ·rw[yc e,yc e]
     ·by_cases e:y=p
      ·subst e;rw[jN]
      ·rw[yc e,yc e]
   refine⟨_,rfl,b,_,rfl,.inr DD.sq,rfl,_,rfl,?_⟩;rw[dU];by_cases h1:p.length=1
   ·have e1:decide (V.int ((p.length:Nat):Int)=V.int 1)=true:=aF (by rw[h1];rfl);rw[e1];refine pM ?_;obtain⟨d,rfl⟩:=List.length_eq_one_iff.mp h1;obtain⟨y7,l1,l2,l3,l4,z1,M⟩:=id A;refine⟨_,rfl,l,c.aV,J,_,_,rfl,n,T.cG,T.gp,Me _ _ _,mk,y7,_,rfl,M.ins,rfl,_,rfl,b,_,((0:Nat):Int),_,rfl,rfl,DD.sq,qb (vi (by rfl)),mk,g,fm,d,rfl,A,fg,λt u=>?_⟩;exact N (SM (cells g.rules) d) _ t rfl u SH (λd' e=>by injection e with e _;rw[e];exact Sub.refl _) _ rfl
   ·have e1:decide (V.int ((p.length:Nat):Int)=V.int 1)=false:=aM (λz=>h1 (by injection z with z;omega));rw[e1];refine rj ?_;exact N 0 0 I rfl (aZ.refl _) (λm z=>by simp at z) (λd e=>absurd (by rw[e];rfl) h1) _ rfl
theorem PR{H f:Hp}{x:Addr}{o:HO}{as:List Addr}(b:jq [x] H f)(g:f x=some o)(h:NA f as):NA H as:=λa i=>by
 have d:=h a i;cases e:H a with
 |none=>rfl
 |some u=>
  by_cases z:a=x
  ·subst z;rw[g]at d;cases d
  ·rw[b a u e (by simpa using z)]at d;cases d
theorem Ca(T:Txt K mg c):Run ["self","grammar"] ["self","grammar"] (f7 K c) (vj K c):=by
 rintro vs H Q E ⟨x,i,v,g,rfl,Y,hg,fg,q⟩;refine⟨rfl,?_⟩;refine⟨_,rfl,λmk J L x0 x5=>?_⟩;have sM:aZ H (upd (upd H J (.own mk)) mk (.ins c.eQ J [])):=(aD x0).trans (aD (by rw[aO (aY x5)];exact L));refine⟨mk,J,v,g,rfl,au,hg.same sM,fg,λH1 A b1 Z x6 M1=>⟨rfl,?_⟩⟩;have s1:aZ H H1:=λb o e=>b1 b o (sM _ _ e) (by
  intro m;rw[aE.mp m]at e;rw[L]at e;cases e)
 have x1:NA H (mk::A):=λa j=>by
  rcases af.mp j with e|j
  ·rw[e];exact L
  ·exact sM.free (Z a j)
 have N:∀a∈mk::A,a≠x:=λa j e=>by have :=x1 a j;rw[e,Y]at this;cases this
 refine⟨_,rfl,x,c.aV,i,[],rfl,s1 _ _ Y,T.cG,T.gp,j1 rfl,?_⟩;have k:(upd H1 x (.ins c.aV i (dD "marks" (.ref mk) []))) x=some (.ins c.aV i (dD "marks" (.ref mk) [])):=au;have b2:jq [x] H (upd H1 x (.ins c.aV i (dD "marks" (.ref mk) []))):=s1.but.trans (eY (by simp));have M2:GG c (upd H1 x (.ins c.aV i (dD "marks" (.ref mk) []))) mk g (mk::A):=M1.keep (λb hb o e=>by rw[aO (N b hb)];exact e) (md (by rw[s1 _ _ Y];trivial));generalize upd H1 x (.ins c.aV i (dD "marks" (.ref mk) []))=B at k b2 M2;clear b1 Z s1 M1;intro d s;obtain⟨x2,l1,l2,l3,l4,x7,M⟩:=id M2;have n0:∀(H:Hp) (p:Addr),H p=some (DX eG.hf p [])->DT eG K H p []:=λH p e=>⟨e,λx Y=>by cases Y⟩
 have sr:=aD (o:=DX eG.hf d []) s;refine⟨_,rfl,x,c.aV,i,_,_,rfl,sr _ _ k,T.cG,T.gp,rfl,mk,c.eQ,x2,_,_,rfl,sr _ _ M.ins,T.fc,T.lH,Xg _ _ _ _ _,c.dW,c9 [],rfl,n0 _ _ au,Ib (B_ T _),?_⟩;rw[gJ];have s3:aZ B (upd B d (DX eG.hf d [(c9 [],c.dW,.int (CT g.rules:Nat))])):=aD s;have D:(upd B d (DX eG.hf d [(c9 [],c.dW,.int (CT g.rules:Nat))])) d=some (DX eG.hf d [(c9 [],c.dW,.int (CT g.rules:Nat))]):=au;generalize upd B d (DX eG.hf d [(c9 [],c.dW,.int (CT g.rules:Nat))])=H3 at s3 D;refine⟨_,rfl,x,c.aV,i,_,rfl,s3 _ _ k,T.cG,T.dO,j1 rfl,?_⟩;have x3:d≠x:=λe=>by subst e;rw[k]at s;cases s
 have u:(upd H3 x (.ins c.aV i (dD "reached" (.ref d) (dD "marks" (.ref mk) [])))) x=some (.ins c.aV i (dD "reached" (.ref d) (dD "marks" (.ref mk) []))):=au;have b4:jq [x] B (upd H3 x (.ins c.aV i (dD "reached" (.ref d) (dD "marks" (.ref mk) [])))):=s3.but.trans (eY (by simp));have w:(upd H3 x (.ins c.aV i (dD "reached" (.ref d) (dD "marks" (.ref mk) [])))) d=some (DX eG.hf d [(c9 [],c.dW,.int (CT g.rules:Nat))]):=by rw[aO x3];exact D
 have t4:bT B (upd H3 x (.ins c.aV i (dD "reached" (.ref d) (dD "marks" (.ref mk) [])))):=(aZ.tup s3).trans (md (by rw[s3 _ _ k];trivial));generalize upd H3 x (.ins c.aV i (dD "reached" (.ref d) (dD "marks" (.ref mk) [])))=C at u b4 w t4;intro f l;have x4:f≠d:=λe=>by subst e;rw[w]at l;cases l
 have x8:f≠x:=λe=>by subst e;rw[u]at l;cases l
 refine⟨c.dW,c9 [],rfl,n0 _ _ au,Ib (B_ T _),?_⟩;rw[gJ];have s5:aZ C (upd C f (DX eG.hf f [(c9 [],c.dW,.int 0)])):=aD l;refine⟨_,rfl,x,c.aV,i,_,rfl,s5 _ _ u,T.cG,T.fR,j1 rfl,?_⟩;have G:(upd (upd C f (DX eG.hf f [(c9 [],c.dW,.int 0)])) x (.ins c.aV i (Sn (.ref mk) (.ref d) (.ref f)))) f=some (DX eG.hf f [(c9 [],c.dW,.int 0)]):=by rw[aO x8,au]
 have I:(upd (upd C f (DX eG.hf f [(c9 [],c.dW,.int 0)])) x (.ins c.aV i (Sn (.ref mk) (.ref d) (.ref f)))) d=some (DX eG.hf d [(c9 [],c.dW,.int (CT g.rules:Nat))]):=by rw[aO x3,aO (aY x4)];exact w
 have O:(upd (upd C f (DX eG.hf f [(c9 [],c.dW,.int 0)])) x (.ins c.aV i (Sn (.ref mk) (.ref d) (.ref f)))) x=some (.ins c.aV i (Sn (.ref mk) (.ref d) (.ref f))):=au;have b6:jq [x] C (upd (upd C f (DX eG.hf f [(c9 [],c.dW,.int 0)])) x (.ins c.aV i (Sn (.ref mk) (.ref d) (.ref f)))):=s5.but.trans (eY (by simp));have t6:bT C (upd (upd C f (DX eG.hf f [(c9 [],c.dW,.int 0)])) x (.ins c.aV i (Sn (.ref mk) (.ref d) (.ref f)))):=(aZ.tup s5).trans (md (by rw[s5 _ _ u];trivial));have x9:∀U:Hp,U=upd (upd C f (DX eG.hf f [(c9 [],c.dW,.int 0)])) x (.ins c.aV i (Sn (.ref mk) (.ref d) (.ref f)))->i_ (eC c.aV "settle" (gy K c) [] E0 (ao 0) (aq (tC (.ref c.dW)) aR)) {nx:=λ_ H'=>Q .non H',rt:=Q} [some (.ref x),some v] U:=by
  intro U e6;rw[<-e6]at G I O b6 t6;have y0:B d=none:=s;have y1:B f=none:=by
   have :=PR (as:=[f]) b4 u (λa j=>by rw[aE.mp j];exact l);exact this f (by simp)
  have Z:NA H (d::f::(mk::A)):=by
   have a1:NA B [d,f]:=λa j=>by
    simp only[af,aS,cC]at j;rcases j with e|e<;>rw[e]<;>assumption
   have a2:=PR b2 k a1;intro a j;simp only[af]at j;rcases j with e|e|e
   ·rw[e];exact a2 d (by simp)
   ·rw[e];exact a2 f (by simp)
   ·exact x1 a (af.mpr e)
  have nm:∀a∈mk::A,a≠d/\a≠f:=λa j=>by
   have :∃o,B a=some o:=by
    rw[x7]at j;simp only[af,aS,cC]at j;obtain⟨ws,ht,_⟩:=M.t;rcases j with e|e|e|e|e<;>rw[e]
    ·exact⟨_,M.ins⟩
    ·exact⟨_,M.a⟩
    ·exact⟨_,M.e⟩
    ·exact⟨_,M.r⟩
    ·exact⟨_,ht⟩
   obtain⟨o,ho⟩:=this;exact⟨λe=>(by rw[e,y0]at ho;cases ho),λe=>(by rw[e,y1]at ho;cases ho)⟩
  have nd:(x::d::f::(mk::A)).Nodup:=by
   rw[aT,aT,aT];refine⟨λh=>?_,λh=>?_,λh=>(nm f h).2 rfl,x6⟩
   ·have :=Z x h;rw[Y]at this;cases this
   ·rcases af.mp h with e|h
    ·exact x4 e.symm
    ·exact(nm d h).1 rfl
  have one:∀(a:Addr) (z:Nat),U a=some (DX eG.hf a [(c9 [],c.dW,.int (z:Nat))])->Ap K U a [[]] (λ_=>z):=λa z e=>by
   refine⟨_,⟨e,λy hy=>?_⟩,rfl,λp hp=>?_⟩
   ·rw[aE.mp hy];exact Ib (B_ T _)
   ·rw[aE.mp hp];rfl
  have M6:GG c U mk g (mk::A):=M2.keep (λb hb o e=>b6 b o (b4 b o e (by simpa using N b hb)) (by simpa using N b hb)) (t4.trans t6);have C6:Bs c K U x d f (mk::A) g [[]] (λ_=>CT g.rules) (λ_=>0):=⟨⟨i,mk,O,M6⟩,one d _ I,one f 0 G,nd,by simp,by simp⟩;refine⟨_,rfl,x,i,_,rfl,O,rfl,x,d,f,mk::A,g,[[]],_,_,_,[],rfl,C6,fg,KR T _,by simp,j1 rfl,λe=>absurd rfl e,⟨UM,λm z=>by simp at z⟩,⟨λ_=>Sub.refl _,λa b e1 e2 e3=>?_,λb e=>by cases e⟩,λH7 b7 C7=>?_⟩
  ·exact absurd (List.append_eq_nil_iff.mp e3.symm).1 e1
  ·refine q H7 d f (mk::A) (λb o e n=>?_) Z ⟨C7.ins,C7.r.congr λy hy=>?_,C7.p.congr λy hy=>?_,C7.nd,C7.keys,C7.none⟩
   ·have o6:=b6 b o (b4 b o (b2 b o e n) n) n;refine b7 b o o6 (λm=>?_);have :=Z b (by
     simp only[af,aS,cC]at m;rcases m with e|e<;>simp[e])
    rw[e]at this;cases this
   ·rw[aE.mp hy,jN]
   ·rw[aE.mp hy,jN]
 exact x9 _ rfl
end
section
variable{K:Frag}{mg:Str->Option Value}{c:Cl}
theorem Pw{H:Hp}{v:V}{g:Grammar}{x d:Addr}{Q:VK}(s:f6 c H v g)(t:mr g)(k:H x=none)(l:H d=none)(n:d≠x)(q:∀h i j f,aZ H f->NA H (x::h::i::j)->Cg c K f x h i j g [[]]->Q .non f):
 f7 K c (.ref x::([v]++[])) (upd (upd H d (.own x)) x (.ins c.aV d [])) Q E0:=by
 have p:aZ H (upd (upd H d (.own x)) x (.ins c.aV d [])):=(aD l).trans (aD (by rw[aO (aY n)];exact k));refine⟨x,d,v,g,rfl,au,s.same p,t,λf h i j u w C=>q h i j f (λb o e=>?_) (λa r=>?_) C⟩
 ·exact u b o (p _ _ e) (λm=>by rw[aE.mp m,k]at e;cases e)
 ·rcases af.mp r with e|r
  ·rw[e];exact k
  ·exact p.free (w a r)
theorem yg{H a d:Hp}{f:List Addr}(s:aZ H a)(n:NA H f)(b:jq f a d):aZ H d:=λx o e=>b x o (s _ _ e) λm=>by rw[n x m]at e;cases e
theorem NA.sub{H:Hp}{b bs:List Addr}(h:NA H bs)(s:∀a∈b,a∈bs):NA H b:=λa d=>h a (s a d)
theorem VA{x:Text}{i j k:Nat}(h:i+k<=j):(pc x i j).take k=pc x i (i+k):=by
 unfold pc;rw[List.take_take,mm,c7 (Nat.le_sub_of_add_le' h)]
theorem Wa{x:Text}{i j k:Nat}(h:i+k<=j):(pc x i j).drop k=pc x (i+k) j:=by
 unfold pc;rw[List.drop_take,qa,Nat.sub_sub]
theorem Ft(T:Txt K mg c):Run ["grammar","text","covering","size","begin"] ["grammar","text"] (uF K c) (zX K c):=by
 rintro vs H Q E ⟨v,g,t,x,rfl,hg,N,⟨u,rfl,B⟩,hx,q⟩;refine⟨rfl,?_⟩;refine⟨_,rfl,λm x5 d w O=>Pw hg N d w O λD G I H1 s1 nw C1=>⟨rfl,?_⟩⟩;have U:=B.mono (aZ.tup s1);refine⟨_,rfl,u,_,rfl,.inr U.sq,_,_,rfl,rfl,(1:Int),(((cB x).length:Nat):Int)+1,rfl,⟨by decide,by decide,?_,?_⟩,?_⟩
 ·rw[dU];omega
 ·rw[dU];omega
 rw[dU];have en:(((x.length:Nat):Int)+1-1).toNat=x.length:=by rw[Int.add_sub_cancel];rfl
 rw[en];refine sU (λi n J=>∃(Y y:Option V) (ks:List Text),n=[some v,some (.ref u),some (.ref m),Y,y]/\aZ H J/\Cg c K J m D G I g ks/\ks.length<=1+25*i/\∀b s,s<=i->b+s<=x.length->pc x b (b+s)∈ks)
  ⟨_,_,[[]],rfl,s1,C1,by simp,λb s Z h2=>?_⟩ ?_ ?_
 ·obtain rfl:s=0:=by omega
  rw[ly,EZ];simp
 ·rintro i n J hi ⟨Y,y,ks,rfl,s,C,A,all⟩;have x0:=B.mono (aZ.tup s);refine⟨_,rfl,u,_,rfl,.inr x0.sq,_,rfl,_,_,rfl,rfl,_,_,rfl,rfl,(((cB x).length:Nat):Int)-(1+(i:Int))+1,rfl,?_,?_,?_⟩
  ·rw[dU];omega
  ·rw[dU];omega
  rw[dU];have x1:(((x.length:Nat):Int)-(1+(i:Int))+1).toNat=x.length-i:=by rw[Int.add_comm 1,<-Int.sub_sub,Int.sub_add_cancel];exact Int.toNat_sub _ _
  rw[x1];refine sU (λj n l=>∃(y:Option V) (a:List Text),n=[some v,some (.ref u),some (.ref m),some (.int (1+(i:Int))),y]/\aZ H l/\Cg c K l m D G I g a/\a.length<=1+25*i+j/\(∀q∈ks,q∈a)/\∀b,b<j->pc x b (b+(1+i))∈a)
   ⟨_,ks,rfl,s,C,by omega,λq h=>h,λb h=>absurd h (oN _)⟩ ?_ ?_
  ·rintro j n l hj ⟨x2,a,rfl,L,M,r,sub,row⟩;have x3:=B.mono (aZ.tup L);obtain⟨dx,mk,d,_⟩:=M.ins;have e0:(0:Int)+(j:Int)=((j:Nat):Int):=by omega
   have e1:(j:Int)+(1+(i:Int))=((j+(1+i):Nat):Int):=by omega
   refine⟨_,rfl,m,dx,_,rfl,d,rfl,_,rfl,_,rfl,_,rfl,_,rfl,_,rfl,_,_,rfl,rfl,_,rfl,u,_,rfl,x3,λf H3 s3 hf=>?_⟩;rw[e0,e1,Vx x (by omega) (by omega)]at hf;have ep:(x.drop j).take (j+(1+i)-j)=pc x j (j+(1+i)):=rfl;rw[ep]at hf;have C3:=M.keep (λb _ o e=>s3 _ _ e) (aZ.tup s3);have x4:(pc x j (j+(1+i))).length=1+i:=by rw[Gz (by omega) (by omega),mm]
   refine⟨m,D,G,I,g,a,_,_,rfl,C3,N,⟨f,rfl,hf⟩,λk h0 Z=>?_,by omega,by omega,λH4 b4 C4=>?_⟩
   ·rw[x4]at Z;rw[VA (by omega),Wa (by omega)];refine⟨sub _ (all j k (by omega) (by omega)),sub _ ?_⟩;have :=all (j+k) (1+i-k) (by omega) (by omega);have ee:j+k+(1+i-k)=j+(1+i):=by omega
    rw[ee]at this;exact this
   ·refine⟨_,_,rfl,yg (L.trans s3) (nw.sub (by simp)) b4,C4,by have :=vN (ks:=a) (p:=pc x j (j+(1+i)));omega,λq h=>dt.mpr (.inl (sub q h)),λb hb=>?_⟩;by_cases z:b=j
    ·subst z;exact dt.mpr (.inr rfl)
    ·exact dt.mpr (.inl (row b (by omega)))
  ·rintro n l ⟨x2,a,rfl,L,M,r,sub,row⟩;refine⟨_,_,a,rfl,L,M,by omega,λb s Z h2=>?_⟩;by_cases z:s=1+i
   ·subst z;exact row b (by omega)
   ·exact sub _ (all b s (by omega) h2)
 ·rintro n J ⟨Y,y,ks,rfl,s,C,A,all⟩;obtain⟨dx,mk,d,_⟩:=C.ins;have :=all 0 x.length (ak _) (by omega);rw[iU,Fl]at this;exact⟨_,rfl,m,dx,_,rfl,d,rfl,_,rfl,m,D,G,I,g,ks,_,x,rfl,C,N,⟨u,rfl,B.mono (aZ.tup s)⟩,this,q _ s⟩
end
section
variable{K:Frag}{mg:Str->Option Value}{c:Cl}
theorem GO(T:Txt K mg c):Run ["left_reads","right_reads"] ["left_reads","right_reads"] (Ao K c) (z_ K c):=by
 rintro d H Q E ⟨a,b,rfl,q⟩;refine⟨rfl,?_⟩;refine⟨_,rfl,a,rfl,?_⟩;cases a
 ·exact rj q
 ·exact pM ⟨_,rfl,b,rfl,q⟩
theorem K_(T:Txt K mg c):Run ["left_reads","right_reads"] ["left_reads","right_reads"] (Dy K c) (Dq K c):=by
 rintro d H Q E ⟨a,b,rfl,q⟩;refine⟨rfl,?_⟩;have e:(!decide (V.bl a=V.bl b))= !(a==b):=by cases a<;>cases b<;>simp
 rw[<-e]at q;exact⟨_,rfl,_,rfl,rfl,q⟩
theorem HP(T:Txt K mg c):Run ["left","rule"] ["left","rule"] (vX K c) (BY K c):=by
 rintro B H Q E ⟨v,w,g,i,rfl,⟨a,f,r,rfl,h,b,j,rfl,k,l⟩,m,n,q⟩;refine⟨rfl,?_⟩;have o:=m.len;refine⟨_,rfl,a,c.Grammar,f,_,_,rfl,h,T.b_,T.bo,uQ _ _,_,rfl,a,c.Grammar,f,_,_,rfl,h,T.b_,T.cN,zI _ _,_,rfl,small (j1 rfl),λp e=>?_⟩;have d:aZ H (upd H p (.lst [w])):=aD e;refine qy (rs:=g.rules) (rs':=[i]) ⟨b,j,rfl,d _ _ k,Paired.jr l λ_ _ z=>i3.mono (aZ.tup d) z⟩ ⟨p,_,rfl,au,.cons (n.mono (aZ.tup d)) .nil⟩ (by simp;omega) λC D s t=>?_
 exact ui (K:=K) rfl t λu x y A=>q u x ((d.trans s).trans y) A
theorem Di(T:Txt K mg c):Run ["self"] ["self"] (rK K c) (wL K c):=by
 rintro M H Q E ⟨a,s,g,l,rfl,⟨f,N,r,i,O,m,U,B,n,y⟩,C,q⟩;refine⟨rfl,?_⟩;rw[C]at y;cases y with
 |@cons d _ b _ D t=>
  have u:i≠a:=λz=>by subst z;rw[m]at n;cases n
  refine⟨_,rfl,a,c.Pair,f,_,_,rfl,m,T.cO,T.iB,vZ _ _ _,i,_,0,d,rfl,rfl,eD.of n,at_of (j:=0) rfl rfl,_,rfl,a,c.Pair,f,_,rfl,m,T.cO,T.cn,(by show 3<1000;decide),?_⟩;rw[LN];refine⟨_,rfl,a,c.Pair,f,_,_,rfl,au,T.cO,T.iB,vZ _ _ _,_,rfl,i,_,rfl,eD.of (by rw[aO u];exact n),λp h=>?_⟩;have G:jq [a] H (upd H a (.ins c.Pair f (Cu d r (.ref i)))):=eY (by simp);have k:p≠a:=λz=>by subst z;rw[au]at h;cases h
  refine⟨_,rfl,a,c.Pair,f,_,rfl,by rw[aO (aY k)];exact au,T.cO,T.iB,(by show 3<1000;decide),?_⟩;rw[Mf];have e:mf (d::b) (some 1) none=b:=by
   unfold mf;rw[HT.vc];have :HT.oh (d::b).length 0 (some 1)=min 1 (d::b).length:=HT.qJ _ _ 1;rw[this,c7 (by simp)];simp
  have I:=aD (H:=upd H a (.ins c.Pair f (Cu d r (.ref i)))) (o:=.lst (mf (d::b) (some 1) none)) h;have J:=eY (H:=upd (upd H a (.ins c.Pair f (Cu d r (.ref i)))) p (.lst (mf (d::b) (some 1) none))) (o:=.ins c.Pair f (Cu d r (.ref p))) (as:=[a]) (a:=a) (by simp);have A:jq [a] H _:=(G.trans I.but).trans J;have L:=CC m T.uy;have w:∀{v:V} {g:Grammar},f6 c H v g->f6 c _ v g:=λz=>z.but A L
  refine q _ A ⟨f,d,r,p,mf (d::b) (some 1) none,au,w D,w B,?_,?_⟩
  ·rw[aO k];exact au
  ·have x:Paired (f6 c H) (mf (d::b) (some 1) none) l:=by rw[e];exact t
   exact Paired.jr x λ_ _ z=>w z
theorem xi(T:Txt K mg c):Run ["self","was_left"] ["self"] (mC K c) (rm K c):=by
 rintro I H Q E ⟨a,s,rfl,P,y,q⟩;refine⟨rfl,?_⟩;obtain⟨j,u,r,J,L,i,A,B,M,N⟩:=id P;refine⟨_,rfl,a,c.Pair,j,_,_,rfl,i,T.cO,T.cn,fb _ _ _,?_⟩;refine⟨_,rfl,a,j,_,rfl,i,JM (by decide) (by decide) (by decide),_,rfl,a,c.Pair,j,_,_,rfl,i,T.cO,T.fC,mY _ _ _,a,r,s,s.right,rfl,P,B,y,λw x C=>?_⟩;obtain⟨b,h,O,d,l,e,m,D,f,n⟩:=C;refine⟨_,rfl,_,rfl,a,c.Pair,b,_,rfl,e,T.cO,T.fC,(by show 3<1000;decide),?_⟩;rw[LF];have k:=eY (H:=w) (o:=.ins c.Pair b (Cu h u (.ref d))) (as:=[a]) (a:=a) (by simp);have G:=CC e T.uy;have p:∀{v:V} {g:Grammar},f6 c w v g->f6 c _ v g:=λz=>z.but k G
 have t:d≠a:=λz=>by subst z;rw[e]at f;cases f
 exact q _ (x.trans k) ⟨b,h,u,d,l,au,p m,p (A.but x (CC i T.uy)),by rw[aO t];exact f,Paired.jr n λ_ _ z=>p z⟩
theorem Ed(T:Txt K mg c):Run ["row","nonterminals","reader","rule"] ["row","nonterminals"] (tu K c) (xJ K c):=by
 rintro u H Q E ⟨l,row,n,rfl,j,p,q⟩;refine⟨rfl,?_⟩;refine⟨_,rfl,λa b k e f=>?_⟩;refine⟨a,b,l,rfl,au,rfl,?_⟩;rw[gJ];have g:aZ H (upd (upd H b (.own a)) a (.ins c.bF b (A0 (.ref l) 0 true))):=(aD e).trans (aD (by rw[aO f.symm];exact k));have R:A3 K c (upd (upd H b (.own a)) a (.ins c.bF b (A0 (.ref l) 0 true))) a b l row ⟨0,true⟩:=⟨au,g.seq j,br _⟩;generalize upd (upd H b (.own a)) a (.ins c.bF b (A0 (.ref l) 0 true))=w at g R⊢;refine⟨_,rfl,_,rfl,a,b,l,row,_,n,rfl,R,p,λv d r s t=>?_⟩;have i:aZ H d:=Lv (g.but.trans r) λx m=>by simp at m;subst m;exact k
 have o:A3 K c d a b l row (pk row n ⟨0,true⟩).2:=⟨s,i.seq j,(o9 row n).place ⟨0,true⟩ (br _)⟩;refine⟨_,rfl,a,b,_,rfl,o.1,uL (by decide) (by decide) (by decide),a,b,l,row,_,rfl,o,_,rfl,?_⟩;unfold Bd at q;refine oI (λh=>?_) (λh=>?_)
 ·rw[az h]at q;exact⟨_,rfl,q v d i t⟩
 ·rw[ah h]at q;exact q _ d i rfl
theorem CD(T:Txt K mg c):Run ["signs","most","texts","longest","size"] ["signs","most"] (rF K c) (wQ K c):=by
 rintro j H Q E ⟨l,m,a,rfl,g,k,n,q⟩;refine⟨rfl,?_⟩;refine⟨_,rfl,_,_,rfl,rfl,_,rfl,by omega,by omega,?_⟩;have h:((m:Int)+1).toNat=m+1:=by omega
 rw[h];refine sU (λi b d=>∃f:Option V,b=[some (.ref l),some (.int m),some (.int ((((List.range i).flatMap (level a)).length:Nat):Int)),some (.int ((a.length^i:Nat):Int)),f]/\d=H) ⟨_,rfl,rfl⟩ ?_ ?_
 ·rintro i b d o ⟨f,rfl,rfl⟩;refine⟨_,rfl,_,rfl,_,_,rfl,rfl,_,rfl,_,rfl,l,cB a,rfl,.inl g,_,_,rfl,rfl,?_,?_⟩
  ·rw[dU];refine .inr ⟨by omega,by omega⟩
  ·rw[dU];refine⟨some (.int (0+(i:Int))),?_,rfl⟩;rw[OI,jD,Int.natCast_add,Int.natCast_mul];rfl
 ·rintro b d ⟨f,rfl,rfl⟩;refine⟨_,rfl,_,_,rfl,rfl,?_⟩;have e:(decide ((300:Int)<((((List.range (m+1)).flatMap (level a)).length:Nat):Int)))=decide (300<(upTo a m).length):=by
   apply decide_eq_decide.mpr;unfold upTo;omega
  rw[<-e]at q;exact q
end
section
variable{K:Frag}{mg:Str->Option Value}{c:Cl}
theorem mN(a:List Nat):cB a=c4 (Vaglrn.toInts a):=by
 unfold cB c4 Vaglrn.toInts;rw[d4];rfl
theorem B7{a D:Addr}{xs:List V}{g:TG}{tt:TT}{te:TE}{vs:List Nat}{v:L2.St}{j:Hp}{B:Hp->Prop}(p:Nat->Bool)(C:j D=none)(J:eD K j a xs)(U:xs.length<sizeLine)
 (L:∀i x,xs[i]?=some x->∀H t,aZ j H->H t=some (.tup [.int (i:Nat),x])->∀l:Hp->Prop,∀E:V->Hp->Prop,(∀d,aZ H d->p i=false->l d)->(∀d,aZ H d->p i=true->E (.int (i:Nat)) d)->
   g (.ref t) (wipe v vs) H λf w=>wipe f vs=wipe v vs/\tt f w λb n=>if b=true then te f n E else l n)
 (M:∀H,aZ j H->H D=some (.lst (cB ((List.range xs.length).filter p)))->B H):
 ∃W:Nat->Nat->Hp->Prop,(∃m,W 0 m (upd j D (.lst [])))/\∀i m H,W i m H->
  ((Zy K a).stop i H/\B H)\/((Zy K a).go i H/\∃l:Hp->Prop,(∀d,l d->∃G,G<m/\W (i+1) G d)/\∀x d,(Zy K a).NL i H x d->g x (wipe v vs) d λf w=>wipe f vs=wipe v vs/\tt f w λb n=>
    if b=true then te f n λy I=>∃k,I D=some (.lst k)/\k.length<sizeLine/\l (upd I D (.lst (k++[y])))else l n):=by
 have r:∀i,i<xs.length->(cB ((List.range i).filter p)).length<sizeLine:=λi N=>by
  rw[dU];have :=dz p (List.range i);rw[df]at this;omega
 refine⟨λi m H=>m=xs.length-i/\i<=xs.length/\aZ j H/\H D=some (.lst (cB ((List.range i).filter p))),⟨xs.length,by simp,br _,aD C,au⟩,?_⟩;rintro i m H ⟨rfl,N,s,z⟩;have q:=s.seq J;by_cases h:i<xs.length
 ·refine .inr ⟨⟨xs,xs[i],q,by simp[h]⟩,λH=>aZ j H/\H D=some (.lst (cB ((List.range (i+1)).filter p))),λd O=>⟨xs.length-(i+1),Nat.sub_succ_lt_self _ _ h,rfl,h,O⟩,λx d y=>?_⟩;obtain⟨t,x,rfl,Q,rfl,T⟩:=y;have st:=aD (o:=.tup [.int (i:Nat),x]) Q;refine L i x (T xs q) _ t (s.trans st) au _ _ (λd u A=>?_) (λd u A=>?_)
  ·refine⟨(s.trans st).trans u,?_⟩;rw[fi,hW,ck (by rw[A];exact aQ),lg,bQ];exact u _ _ (st _ _ z)
  ·refine⟨_,u _ _ (st _ _ z),r i h,λb o e=>?_,?_⟩
   ·rw[aO (cZ e C)];exact u _ _ (st _ _ (s _ _ e))
   ·rw[au,fi,hW,bX A,lg,G8];rfl
 ·have e:i=xs.length:=by omega
  subst e;exact .inl ⟨⟨xs,q,ak _⟩,M H s z⟩
theorem Xj{H:Hp}{v:V}{r:Rule}(h:i3 H v r):∃a,v=.ref a/\Zw H (xM r) a:=by
 obtain⟨a,b,rfl,g,i,j,rfl,k,l⟩:=h;refine⟨a,rfl,i,j,g,k,Paired.mapR (f:=NK) (?_) l⟩;rintro v s ⟨d,e,m⟩;refine⟨d,e,?_⟩;rw[m];cases s<;>rfl
theorem YD(g h:Grammar){p:Nat->Bool}(f:∀i r,g.rules[i]?=some r->(p i=true↔r∉h.rules)):Vaglrn.newRules g h=(List.range g.rules.length).filter p:=by
 unfold Vaglrn.newRules;refine KW ?_ ((vz _).sublist fk) λr=>?_
 ·refine oe (List.Sublist.map _ fk) ?_;unfold Vaglrc.numbered;rw[List.map_fst_zip (by simp)];exact vz _
 ·rw[bq,cK,bS];constructor
  ·rintro⟨x,j,rfl⟩;obtain⟨a,b⟩:=cK.mp j;have a:=sC.mp a;obtain⟨d,_⟩:=ai.mp a;refine⟨d,(f _ _ a).mpr λm=>?_⟩;rw[MI.mpr m]at b;cases b
  ·rintro⟨d,b⟩;have a:=aB d;refine⟨(r,g.rules[r]),cK.mpr ⟨sC.mpr a,?_⟩,rfl⟩;cases e:Vaglrn.hasRule h.rules g.rules[r]with
   |false=>rfl
   |true=>exact absurd (MI.mp e) ((f _ _ a).mp b)
theorem Dg(T:Txt K mg c):Run ["grammar","other","theirs","rule","number"] ["grammar","other"] (ou K c) (wO K c):=by
 rintro vs H Q E ⟨v,w,g,h,rfl,⟨a,dx,r,rfl,ha,b,ws,rfl,hb,hp⟩,⟨a2,L,r2,rfl,M,b2,u,rfl,zZ,y⟩,fg,fh,q⟩;refine⟨rfl,?_⟩;have hl:=hp.len;have hl2:=y.len;have x1:=fg.len;have x0:=fh.len;refine λD hD=>?_
 have N:aZ H (upd H D (DX KS.hf D [])):=aD hD;refine⟨_,rfl,a2,c.Grammar,L,_,_,rfl,N _ _ M,T.b_,T.cN,zI _ _,b2,rfl,⟨u,eD.of (N _ _ zZ)⟩,?_⟩;refine mx (xs:=u) (λi I j=>∃(O:Option V) (xs:List (Bb×Addr×V)),I=[some (.ref a),some (.ref a2),some (.ref D),O,none]/\aZ H j/\DT KS K j D xs/\xs.length<=i/\∀k,k∈xs.map (·.1)↔k∈(h.rules.take i).map xM)
  ⟨_,[],rfl,N,⟨au,λx n=>by cases n⟩,ak _,λk=>by simp⟩ (by rintro i I j _ ⟨_,_,_,s,_⟩;exact eD.of (s _ _ zZ)) ?_ ?_
 ·rintro i x I j n ⟨O,xs,rfl,s,A,B,C⟩;obtain⟨p,l,G⟩:=Paired.at y n;obtain⟨d,rfl,f⟩:=Xj (G.mono (aZ.tup s));refine⟨_,rfl,_,rfl,D,d,xs,xM p,rfl,rfl,A,f,rC (by have :=(ai.mp n).1;omega),?_⟩;have mu:bT j (upd j D (DX KS.hf D (mh xs (xM p) d (.bl true)))):=md (by rw[A.1];trivial);refine⟨some (.ref d),_,rfl,λb o e=>?_,⟨au,(A.2.put f).mono mu⟩,?_,λk=>?_⟩
  ·rw[aO (cZ e hD)];exact s _ _ e
  ·have :=cV List.length (CF (xs:=xs) (k:=xM p) (b:=d) (v:=.bl true));rw[aP]at this;rw[this];split
   ·rw[aP];omega
   ·rw[ay,aP];simp;omega
  ·rw[CF,take_snoc l,dq,bg,<-C];split
   ·rename_i hm;constructor
    ·exact .inl
    ·rintro(z|z)
     ·exact z
     ·rw[bf,iT,aE]at z;rw[z];exact hm
   ·rw[bg];rfl
 ·rintro I j ⟨O,xs,rfl,s,A,B,C⟩;rw[hl2,bP]at C;refine⟨_,rfl,a,c.Grammar,dx,_,_,rfl,s _ _ ha,T.b_,T.cN,zI _ _,b,ws,rfl,eD.of (s _ _ hb),λD2 U=>?_⟩;have Y:∀(i:Nat) (r:Rule),g.rules[i]?=some r->((λi=>match g.rules[i]? with |some r=> !(hU xs (xM r)).isSome|none=>false) i=true↔r∉h.rules):=λi r G=>by
   show(match g.rules[i]? with |some r=> !(hU xs (xM r)).isSome|none=>false)=true↔_;rw[G];show(!(hU xs (xM r)).isSome)=true↔_;constructor
   ·intro e m;have :xM r∈xs.map (·.1):=(C _).mpr (bq.mpr ⟨r,m,rfl⟩);cases e2:hU xs (xM r)with
    |none=>exact sV.mp e2 this
    |some _=>rw[e2]at e;cases e
   ·intro m;have :xM r∉xs.map (·.1):=λz=>by
     obtain⟨r',Z,e⟩:=bq.mp ((C _).mp z);rw[<-Uk e]at m;exact m Z
    rw[sV.mpr this];rfl
  refine B7 (xs:=ws) (λi=>match g.rules[i]? with |some r=> !(hU xs (xM r)).isSome|none=>false) U (eD.of (s _ _ hb)) (rC (by omega)) (λi x n H2 t J ht Nx Ny k1 k2=>?_) (λH2 J hy=>?_)
  ·obtain⟨p,l,G⟩:=Paired.at hp n;obtain⟨d,rfl,f⟩:=Xj (G.mono (aZ.tup (s.trans J)));rw[l]at k1 k2;dsimp only at k1 k2;refine⟨t,_,rfl,kF.of ht,rfl,_,_,rfl,_,_,rfl,rfl,rfl,?_⟩;refine⟨_,rfl,_,rfl,D,d,xs,xM p,rfl,rfl,A.same J,f,_,rfl,?_⟩;cases e:(!(hU xs (xM p)).isSome)with
   |false=>exact rj (k1 _ (aZ.refl _) e)
   |true=>exact pM ⟨_,rfl,k2 _ (aZ.refl _) e⟩
  ·refine q _ H2 (s.trans J) ⟨D2,rfl,?_⟩;rw[YD g h Y,<-hl,<-mN];exact hy
end
section
variable{K:Frag}{mg:Str->Option Value}{c:Cl}
theorem FV{C M:Type}{At:V->C->Prop}{Bt:Hp->V->M->Prop}{a D:Addr}{E:List V}{G:List C}{g:TG}{r:TE}{j:List Nat}{p:L2.St}{u:Hp}{N:Hp->Prop}(f:C->M)(mono:∀H h y b,bT H h->Bt H y b->Bt h y b)(inj:∀x a I,At x a->At x I->a=I)
 (U:u D=none)(Y:eD K u a E)(O:Paired At E G)(Z:E.length<sizeLine)
 (hs:∀x a,a∈G->At x a->∀H,aZ u H->∀l:V->Hp->Prop,(∀y h,aZ H h->Bt h y (f a)->l y h)->g x (wipe p j) H λd k=>wipe d j=wipe p j/\r d k l)
 (hd:∀H B,aZ u H->H D=some (.lst B)->Paired (Bt H) B (G.map f)->N H):
 ∃W:Nat->Nat->Hp->Prop,(∃m,W 0 m (upd u D (.lst [])))/\∀i m H,W i m H->
  ((Px K a).stop i H/\N H)\/((Px K a).go i H/\∃q:Hp->Prop,(∀h,q h->∃Q,Q<m/\W (i+1) Q h)/\∀x h,(Px K a).NL i H x h->g x (wipe p j) h λd k=>wipe d j=wipe p j/\zR d k λb v=>
    if b=true then r d v λy T=>∃o,T D=some (.lst o)/\o.length<sizeLine/\q (upd T D (.lst (o++[y])))else q v):=by
 refine o5 (λH x y=>∃a,At x a/\Bt H y (f a)) (λ_=>true) (λH h x y t ⟨n,e,z⟩=>⟨n,e,mono _ _ _ _ t z⟩) U Y Z (λx hx=>?_) (λh B s hy w=>?_)
 ·obtain⟨b,J,A⟩:=qo O hx;intro H s q l k1 k2;have :=hs x b J A H s l (λy h s' J=>k2 y h s' rfl ⟨b,A,J⟩);have L:(λ(d:L2.St) k=>wipe d j=wipe p j/\zR d k λb v=>if b=true then r d v l else q v)=λd k=>wipe d j=wipe p j/\r d k l:=by
   funext d k;show(_/\(if true=true then r d k l else q k))=_;rw[az rfl]
  rw[L];exact this
 ·rw[List.filter_eq_self.mpr (λ_ _=>rfl)]at w;exact hd h B s hy (AE (λx a y h1 ⟨I,h2,h3⟩=>by rw[inj _ _ _ h1 h2];exact h3) O w)
def QL(H:Hp):V->Bool
 |.ref a=>match H a with
  |some (.tup [.int 1,_,_])=>true
  |_=>false
 |_=>false
theorem MQ{H:Hp}{v:V}{s:Sym}(h:oR H v s):QL H v=(og s).isSome:=by
 obtain⟨a,rfl,h⟩:=h;unfold QL;dsimp only;rw[h];cases s<;>rfl
def Rng(H:Hp)(x y:V):Prop:=∃s p,oR H x s/\og s=some p/\qp H y p
theorem UX{H b:Hp}(t:bT H b){f d:List V}{g:List Sym}(p:Paired (oR H) f g)(h:Paired (Rng b) (f.filter (QL H)) d):Paired (qp b) d (g.filterMap og):=by
 induction p generalizing d with
 |nil=>cases h;exact .nil
 |@cons x s _ _ q r i=>
  have e:=MQ q;cases a:og s with
  |none=>
   rw[a]at e;rw[ck (by rw[e];exact aQ)]at h;rw[List.filterMap_cons_none a];exact i h
  |some p=>
   rw[a]at e;rw[bX (by rw[e];rfl)]at h;rw[l7 a];cases h with
   |cons k l=>
    obtain⟨o,u,m,j,n⟩:=k;rw[<-P5 (q.mono t) m,a]at j;cases j;exact .cons n (i l)
theorem CA{a b:Type}(f:a->List b)(l:List a)(j:Nat):((l.take j).flatMap f).length<=(l.flatMap f).length:=by
 have :(l.flatMap f).length=((l.take j).flatMap f).length+((l.drop j).flatMap f).length:=by
  rw[<-ay,<-cx,eL]
 omega
theorem Hr(T:Txt K mg c):Run ["grammars","ranges","grammar","owner","symbols","symbol"] ["grammars"] (wd K c) (BC K c):=by
 rintro vs H Q E ⟨v,gs,rfl,⟨l,ws,rfl,hl,hp⟩,O,h2,q⟩;refine⟨rfl,?_⟩;have U:=hp.len;refine⟨small (j1 rfl),λD hD=>?_⟩;have s0:aZ H (upd H D (.lst [])):=aD hD;refine⟨_,rfl,l,rfl,⟨_,eD.of (s0 _ _ hl)⟩,mx (K:=K) (a:=l) (xs:=ws) (λi n C=>∃(v2 Y Z:Option V) (A:List V),n=[some (.ref l),some (.ref D),v2,Y,Z,none]/\aZ H C/\C D=some (.lst A)/\Paired (qp C) A (sE (gs.take i)))
  ⟨_,_,_,[],rfl,s0,au,.nil⟩ (by rintro i n C _ ⟨_,_,_,_,_,s,_⟩;exact eD.of (s _ _ hl)) ?_ ?_⟩
 ·rintro i x n C hx ⟨v2,Y,Z,A,rfl,s,J,B⟩;obtain⟨g,hg,a,dx,r,rfl,ha,b,rs,rfl,hb,hr⟩:=hp.at hx;have fg:=O g (bj hg);have x2:=hr.len;have hi:=(ai.mp hx).1;have n1:(sE (gs.take i)).length<=960:=by
   have :=FG (gs:=gs.take i) (λg hg=>O g (gC hg));rw[cq]at this;omega
  have n2:(g.rules.flatMap λr=>r.rhs.filterMap og).length<=480:=by
   have :=FG (gs:=[g]) (λg' x3=>by rw[aE.mp x3];exact fg);unfold sE at this;rw[cb,ef,bQ]at this;exact this
  refine⟨_,rfl,a,c.Grammar,dx,_,_,rfl,s _ _ ha,T.b_,T.cN,zI _ _,b,rfl,⟨_,eD.of (s _ _ hb)⟩,mx (K:=K) (a:=b) (xs:=rs) (λj n f=>∃(Y Z:Option V) (A:List V),n=[some (.ref l),some (.ref D),some (.ref a),Y,Z,none]/\aZ H f/\f D=some (.lst A)/\Paired (qp f) A (sE (gs.take i)++(g.rules.take j).flatMap λr=>r.rhs.filterMap og))
   ⟨_,_,A,rfl,s,J,by rw[px,ef,bQ];exact B⟩ (by rintro j n f _ ⟨_,_,_,_,s,_⟩;exact eD.of (s _ _ hb)) ?_ ?_⟩
  ·rintro j y n f hy ⟨w3,w4,zs,rfl,s2,h,m⟩;obtain⟨ru,x0,x4⟩:=hr.at hy;obtain⟨t,w,rfl,ht,u,us,rfl,hu,L⟩:=x4.mono (aZ.tup s2);have x5:=fg.rule ru (bj x0);have x9:=L.len;have h8:=x5.len;refine⟨t,_,rfl,kF.of ht,rfl,_,_,rfl,_,_,rfl,rfl,?_⟩;refine⟨_,rfl,.inl ⟨rfl,_,eD.of h⟩,_,rfl,u,rfl,⟨us,kF.of hu⟩,λD2 G=>?_⟩;refine FJ Rng (QL f) (λH C x y t ⟨s,p,e1,e2,e3⟩=>⟨s,p,e1.mono t,e2,e3.mono t⟩) G (kF.of hu) (rC (by omega)) (λx hx=>?_) (λH3 M N x6 x7=>?_)
   ·obtain⟨sy,_,x1⟩:=qo L hx;intro H3 N Nx Ny k1 k2;have ek:=MQ x1;have I:=x1.mono (aZ.tup N);obtain⟨d,rfl,hd⟩:=id I;refine⟨rfl,?_⟩;cases sy with
    |non k=>
     exact⟨_,rfl,d,_,0,_,rfl,rfl,kF.of hd,at_of (j:=0) rfl rfl,rfl,false,by simp,rj (k1 _ (aZ.refl _) ek)⟩
    |range lo hi=>
     refine⟨_,rfl,d,_,0,_,rfl,rfl,kF.of hd,at_of (j:=0) rfl rfl,rfl,true,by simp,pM ?_⟩;refine⟨_,rfl,d,_,1,_,rfl,rfl,kF.of hd,at_of (j:=1) rfl rfl,_,rfl,d,_,2,_,rfl,rfl,kF.of hd,at_of (j:=2) rfl rfl,small (j1 rfl),λp x8=>?_⟩;have sp:=aD (o:=.tup [.int lo,.int hi]) x8;exact k2 _ _ sp ek ⟨_,(lo,hi),I.mono (aZ.tup sp),rfl,p,rfl,au⟩
   ·have y0:D2≠D:=λz=>by subst z;rw[G]at h;cases h
    have hq:=UX (aZ.tup N) L x7;have l1:=m.len;have l2:=hq.len;have l3:=CA (λr:Rule=>r.rhs.filterMap og) g.rules j;have l4:(ru.rhs.filterMap og).length<=ru.rhs.length:=l8 _ _;rw[ay]at l1;refine⟨D,D2,zs,M,rfl,rfl,N _ _ h,x6,by rw[bu];omega,?_⟩;have tD:bT H3 (upd H3 D (.lst (zs++M))):=jo (N _ _ h);refine⟨_,_,zs++M,rfl,λb o e=>?_,au,?_⟩
    ·rw[aO (cZ e hD)];exact N _ _ (s2 _ _ e)
    ·rw[take_snoc x0,cx,cb,ef,bQ,<-bN];exact Paired.app (Paired.jr m λ_ _ z=>z.mono ((aZ.tup N).trans tD)) (Paired.jr hq λ_ _ z=>z.mono tD)
  ·rintro n f ⟨w3,w4,zs,rfl,s2,h,m⟩;refine⟨_,_,_,zs,rfl,s2,h,?_⟩;rw[x2,bP]at m;rw[take_snoc hg];unfold sE;rw[cx,cb,ef,bQ];exact m
 ·rintro n C ⟨v2,Y,Z,A,rfl,s,J,B⟩;rw[U,bP]at B;exact⟨_,rfl,q _ C s ⟨D,A,rfl,J,B⟩⟩
end
section
variable{K:Frag}{mg:Str->Option Value}{c:Cl}
theorem Fm{H:Hp}{v:V}{t f:Nat×Nat}(h:qp H v t)(d:qp H v f):t=f:=by
 obtain⟨a,rfl,h⟩:=h;obtain⟨b,e,d⟩:=d;cases e;rw[h]at d;obtain⟨x,y⟩:=t;obtain⟨g,i⟩:=f;simp at d;obtain⟨j,k⟩:=d;have :x=g:=by exact_mod_cast j
 have :y=i:=by exact_mod_cast k
 subst_vars;rfl
theorem yW{a:Type}{f:a->V}{d:List V}{e:List a}(p:Paired (λ(y:V) (b:a)=>y=f b) d e):d=e.map f:=by
 induction p with
 |nil=>rfl
 |cons q r g=>rw[q,g];rfl
def Xl(a:List (Nat×Nat)):V->Bool
 |.int z=>Xe a z
 |_=>false
theorem JS(T:Txt K mg c):Run ["grammars","ranges","lo","hi","cuts","cut"] ["grammars"] (my K c) (D8 K c):=by
 rintro vs H Q E ⟨v,a,rfl,hv,m,h2,q⟩;refine⟨rfl,?_⟩;refine⟨_,rfl,v,a,rfl,hv,m,h2,?_⟩;rintro v1 G s1 ⟨l,u,e,n,w⟩;subst e;have x9:=w.len;have n1:=FG m;have I:u.length<sizeLine:=by rw[bu];omega
 refine⟨_,rfl,l,rfl,⟨_,eD.of n⟩,λD1 J=>?_⟩;refine FV (At:=qp G) (Bt:=λ_ y b=>y=V.int b) (λp:Nat×Nat=>(p.1:Int)) (λ_ _ _ _ _ z=>z) (λ_ _ _ z s=>Fm z s) J (eD.of n) w I (λx p _ i H2 j L k=>?_) (λH2 y0 j M N=>?_)
 ·obtain⟨d,rfl,t⟩:=i.mono (aZ.tup j);exact⟨d,_,rfl,kF.of t,rfl,_,_,rfl,_,_,rfl,rfl,rfl,_,rfl,k _ _ (aZ.refl _) rfl⟩
 obtain rfl:=yW N;refine⟨_,rfl,l,rfl,⟨_,eD.of (j _ _ n)⟩,λD2 O=>?_⟩;refine FV (At:=qp G) (Bt:=λ_ y b=>y=V.int b) (λp:Nat×Nat=>(p.2:Int)+1) (λ_ _ _ _ _ z=>z) (λ_ _ _ z s=>Fm z s) O (eD.of (j _ _ n)) w I (λx p _ i H3 A L k=>?_) (λH3 y1 A U Y=>?_)
 ·obtain⟨d,rfl,t⟩:=i.mono (aZ.tup (j.trans A));exact⟨d,_,rfl,kF.of t,rfl,_,_,rfl,_,_,rfl,rfl,rfl,_,rfl,_,_,rfl,rfl,k _ _ (aZ.refl _) rfl⟩
 obtain rfl:=yW Y;refine⟨D1,D2,_,_,rfl,rfl,A _ _ M,U,by simp only[aP];rw[bu];omega,λD4 Z=>?_⟩;have s4:=aD (o:=.lst (((sE a).map λp=>(p.1:Int)).map V.int++((sE a).map λp=>(p.2:Int)+1).map V.int)) Z;have ec:((sE a).map λp=>(p.1:Int)).map V.int++((sE a).map λp=>(p.2:Int)+1).map V.int=(JN (sE a)).map V.int:=by
  unfold JN;rw[dq]
 refine⟨_,rfl,D4,JN (sE a),rfl,eD.of (by rw[au,ec]),by unfold JN;simp only[ay,aP];omega,λl5 B hl5 h5 h6=>?_⟩;have s5:=aD (o:=.lst (B.map V.int)) hl5;have f:=((j.trans A).trans s4).trans s5;generalize x0:upd _ l5 (HO.lst (B.map V.int))=H5 at s5 f⊢;have g:H5 l5=some (.lst (B.map V.int)):=by rw[<-x0];exact au
 have x1:B.length<=2000:=by
  have e:=vw (h5.imp λh=>Int.ne_of_lt h) (λz hz=>(h6 z).mp hz);unfold JN at e;simp only[ay,aP]at e;omega
 refine⟨l5,rfl,⟨_,eD.of g⟩,λD6 x2=>?_⟩;refine o5 (λ_ x y=>y=x) (Xl (sE a)) (λ_ _ _ _ _ z=>z) x2 (eD.of g) (by rw[aP,bu];omega) (λx i=>?_) (λH6 x3 C x4 x5=>?_)
 ·obtain⟨z,_,rfl⟩:=bq.mp i;intro H6 C Nx L k1 k2;refine⟨rfl,?_⟩;have hl6:=C _ _ (f _ _ n);refine⟨_,rfl,l,rfl,⟨_,eD.of hl6⟩,λD7 x6=>?_⟩;refine FV (At:=qp G) (Bt:=λ_ y b=>y=V.bl b) (λp:Nat×Nat=>decide ((p.1:Int)<=z)&&decide (z<=(p.2:Int))) (λ_ _ _ _ _ z=>z) (λ_ _ _ z s=>Fm z s) x6 (eD.of hl6) w I (λx p _ i H7 D L k=>?_) (λH7 y2 D x7 x8=>?_)
  ·obtain⟨d,rfl,t⟩:=i.mono (aZ.tup ((f.trans C).trans D));refine⟨d,_,rfl,kF.of t,rfl,_,_,rfl,_,_,rfl,rfl,rfl,_,rfl,_,rfl,_,_,rfl,rfl,_,rfl,?_⟩;refine oI (λh=>⟨_,rfl,_,_,rfl,rfl,k _ _ (aZ.refl _) ?_⟩) (λh=>k _ _ (aZ.refl _) ?_)
   ·rw[h,fY]
   ·rw[cY.mpr h,gM]
  ·obtain rfl:=yW x8;refine⟨D7,_,rfl,eD.of x7,_,rfl,?_⟩;have ek:(((sE a).map λp:Nat×Nat=>decide ((p.1:Int)<=z)&&decide (z<=(p.2:Int))).any id)=Xl (sE a) (.int z):=by
    show _=Xe (sE a) z;unfold Xe;rw[rE];rfl
   rw[ek];refine oI (λh=>⟨_,rfl,k2 _ _ D h rfl⟩) (λh=>k1 _ D (cY.mpr h))
 ·have e6:x3=c4 (Vaglrn.toInts (sg a)):=by
   rw[<-GR h5 h6];have :∀{u ys:List V},Paired (λx y=>y=x) u ys->ys=u:=λh=>by
    induction h with
    |nil=>rfl
    |cons q r ih=>rw[q,ih]
   rw[this x5,List.filter_map];rfl
  refine q _ H6 ((s1.trans f).trans C) ⟨D6,rfl,by rw[x4,e6]⟩ ?_;have e7:=cV List.length (GR h5 h6);rw[uw]at e7;rw[<-e7];exact bh (dz _ _) x1
theorem SU{a:List Nat}{m i:Nat}(h:(upTo a m).length<=300)(b:i<=m):((List.range (i+1)).flatMap (level a)).length<=300:=by
 refine bh ?_ h;unfold upTo;have e:(List.range (m+1)).take (i+1)=List.range (i+1):=by rw[List.take_range,c7 (by omega)]
 rw[<-e];exact CA _ _ _
theorem Kn(T:Txt K mg c):Run ["signs","most","texts","longest","size","longer","text","sign"] ["signs","most"] (mj K c) (DA K c):=by
 rintro vs H Q E ⟨l,m,J,rfl,hl,hm,hn,hu,q⟩;refine⟨rfl,?_⟩;refine⟨small (j1 rfl),λe1 x3=>⟨small (j1 rfl),λu Z=>?_⟩⟩;have s1:aZ H (upd H e1 (.tup [])):=aD x3;have s2:=aD (o:=.lst [.ref e1]) Z;refine⟨small (j1 rfl),λe3 x4=>⟨small (j1 rfl),λb3 DD=>?_⟩⟩;have s3:=aD (o:=.tup []) x4;have s4:=aD (o:=.lst [.ref e3]) DD;have x5:=((s1.trans s2).trans s3).trans s4;refine⟨_,rfl,_,rfl,by omega,by omega,?_⟩;have en:((m:Nat):Int).toNat=m:=by omega
 rw[en];refine sU (λi C w=>∃(v4 v5 v6:Option V) (b:Addr) (G zs:List V),C=[some (.ref l),some (.int m),some (.ref u),some (.ref b),v4,v5,v6,none]/\aZ H w/\w u=some (.lst G)/\Paired (rG K w) G ((List.range (i+1)).flatMap (level J))/\w b=some (.lst zs)/\Paired (rG K w) zs (level J i)/\b≠u/\H b=none)
  ⟨_,_,_,b3,[.ref e1],[.ref e3],rfl,x5,(s3.trans s4) _ _ au,?_,au,?_,λz=>?_,(s1.trans (s2.trans s3)).free DD⟩ ?_ ?_
 ·exact .cons ⟨e1,rfl,.inl ((s2.trans (s3.trans s4)) _ _ au)⟩ .nil
 ·rw[wC];exact .cons ⟨e3,rfl,.inl (s4 _ _ au)⟩ .nil
 ·subst z;rw[s3 _ _ au]at DD;cases DD
 ·rintro i C w hi ⟨v4,v5,v6,b,G,zs,rfl,s,L,y,hb,M,x6,x7⟩;have x0:H u=none:=s1.free Z;refine⟨small (j1 rfl),λA U0=>?_⟩;have s5:=aD (o:=.lst []) U0;have x8:=M.len;have y2:=y.len;have n1:=SU hu (i:=i) (by omega);have n2:=level_le (k:=i) (by omega) hu;have n3:=level_le (k:=i+1) (by omega) hu;have x1:H A=none:=s.free U0;refine⟨_,rfl,b,rfl,⟨_,eD.of (s5 _ _ hb)⟩,mx (K:=K) (a:=b) (xs:=zs) (λj C d=>∃(v6:Option V) (g:List V),C=[some (.ref l),some (.int m),some (.ref u),some (.ref b),some (.int (0+(i:Int))),some (.ref A),v6,none]/\aZ w d/\d A=some (.lst g)/\Paired (rG K d) g (((level J i).take j).flatMap λt=>J.map λs=>t++[s]))
   ⟨_,[],rfl,s5,au,by rw[px,ef];exact .nil⟩ (by rintro j C d _ ⟨_,_,_,s,_⟩;exact eD.of (s _ _ hb)) ?_ ?_⟩
  ·rintro j x C d hx ⟨w6,g,rfl,B,I,f⟩;obtain⟨t,N,x9⟩:=M.at hx;obtain⟨ta,rfl,y0⟩:=x9.mono (aZ.tup B);have y3:=(o8 (bj N)).1;have hl6:=(s.trans B).seq hl;refine⟨_,rfl,.inl ⟨rfl,_,eD.of I⟩,_,rfl,l,rfl,⟨_,hl6⟩,λD hD=>?_⟩;refine FV (At:=λ(v:V) (n:Nat)=>v=.int n) (Bt:=rG K) (λs=>t++[s]) (λ_ _ _ _ z h=>h.mono z) (λx a a' z z'=>by rw[z]at z';injection z' with z';exact_mod_cast z') hD hl6 (paired_ints J) (by rw[dU,bu];omega) (λx sn _ hx H7 U Ny k=>?_) (λH7 O U y1 x2=>?_)
   ·subst hx;refine⟨rfl,_,rfl,_,rfl,small (j1 rfl),λp hp=>?_⟩;have s8:=aD (o:=.tup [.int (sn:Nat)]) hp;refine⟨ta,p,cB t,[.int (sn:Nat)],rfl,rfl,y0.mono (aZ.tup (U.trans s8)),.inl au,small (by rw[dU];show _+1<=_;omega),λp9 H9 s9 h9=>k _ _ (s8.trans s9) ⟨p9,rfl,?_⟩⟩;rw[G8];exact h9
   ·have r:D≠A:=λz=>by subst z;rw[hD]at I;cases I
    have l1:=f.len;have l2:=x2.len;have l3:=CA (λt:Text=>J.map λs=>t++[s]) (level J i) (j+1);rw[<-qm,take_snoc N,cx,cb,ef,bQ,ay]at l3;refine⟨A,D,g,O,rfl,rfl,U _ _ I,y1,small (by omega),?_⟩;have Y:bT H7 (upd H7 A (.lst (g++O))):=jo (U _ _ I);refine⟨_,g++O,rfl,λb o e=>?_,au,?_⟩
    ·rw[aO (cZ e U0)];exact U _ _ (B _ _ e)
    ·rw[take_snoc N,cx,cb,ef,bQ];exact Paired.app (Paired.jr f λ_ _ z=>z.mono ((aZ.tup U).trans Y)) (Paired.jr x2 λ_ _ z=>z.mono Y)
  ·rintro C d ⟨w6,g,rfl,B,I,f⟩;rw[x8,bP,<-qm]at f;have y4:=f.len;have r:A≠u:=λz=>by subst z;rw[U0]at L;cases L
   refine⟨_,rfl,_,rfl,.inl ⟨rfl,_,eD.of (B _ _ L)⟩,_,rfl,u,A,G,g,rfl,rfl,B _ _ L,I,small (by omega),?_⟩;have Y:bT d (upd d u (.lst (G++g))):=jo (B _ _ L);refine⟨_,_,_,A,G++g,g,rfl,λb o e=>?_,au,?_,?_,Paired.jr f λ_ _ z=>z.mono Y,r,x1⟩
   ·rw[aO (cZ e x0)];exact B _ _ (s _ _ e)
   ·rw[RF];exact Paired.app (Paired.jr y λ_ _ z=>z.mono ((aZ.tup B).trans Y)) (Paired.jr f λ_ _ z=>z.mono Y)
   ·rw[aO r];exact I
 ·rintro C w ⟨v4,v5,v6,b,G,zs,rfl,s,L,y,hb,M,x6,x7⟩;exact⟨_,rfl,q _ w s ⟨u,G,rfl,L,y⟩⟩
end
section
variable{K:Frag}{mg:Str->Option Value}{c:Cl}
theorem pD{H f:Hp}{g:List Addr}(h:jq g H f)(n:∀a∈g,∀d,H a≠some (.tup d)):bT H f:=λb d e=>h b _ e λm=>n b m d e
section
variable{H H':Hp}{cv ra pa:Addr}{fm:List Addr}{g:Grammar}{ks:List Text}{fr fs:Text->Nat}
theorem Ku(C:Bs c K H cv ra pa fm g ks fr fs):∀b∈cv::ra::pa::fm,H b≠none:=by
 obtain⟨⟨d,mk,f,h,i,j,k,l,rfl,m,n,o,p,q,r,_⟩,⟨_,⟨s,_⟩,_⟩,⟨_,⟨t,_⟩,_⟩,_,_,_⟩:=C;intro b a e;simp only[af,aS,cC]at a;rcases a with rfl|rfl|rfl|rfl|rfl|rfl|rfl|rfl<;>simp_all
theorem BG(C:Bs c K H cv ra pa fm g ks fr fs):∀a∈[ra,pa],∀d,H a≠some (.tup d):=by
 obtain⟨_,⟨_,⟨h,_⟩,_⟩,⟨_,⟨i,_⟩,_⟩,_,_,_⟩:=C;intro b f d e;simp only[af,aS,cC]at f;rcases f with rfl|rfl
 ·rw[h]at e;cases e
 ·rw[i]at e;cases e
end
theorem VU{u:Addr}{D:Bool->Bool->Bool}(h:KN c u D):∃e,Fd K c u e/\∀a b H (Q:VK),Q (.bl (D a b)) H->e [.bl a,.bl b] H Q E0:=by
 rcases h with⟨d,rfl⟩|⟨d,rfl⟩
 ·exact⟨_,.inl ⟨d,rfl⟩,λa b H Q q=>⟨a,b,rfl,q⟩⟩
 ·exact⟨_,.inr ⟨d,rfl⟩,λa b H Q q=>⟨a,b,rfl,q⟩⟩
theorem xV(T:Txt K mg c):Run ["left","right","texts","differs","by_left","by_right","text"] ["left","right","texts","differs"] (nz K c) (r_ K c (Fd K c)):=by
 rintro vs H Q E ⟨l,r,t,u,g,h,L,D,rfl,hg,hh,fg,fh,⟨ta,ws,rfl,ht,hp⟩,ok,hd,q⟩;refine⟨rfl,?_⟩;obtain⟨sp,x5,M⟩:=VU (K:=K) hd;refine⟨_,rfl,λk y2 h1 h2 h3=>Pw hg fg h1 h2 h3 λN O U H1 s1 nw C1=>⟨rfl,?_⟩⟩;refine⟨_,rfl,λn y3 h4 h5 h6=>Pw (hh.same s1) fh h4 h5 h6 λY Z fn H2 s2 x0 C2=>⟨rfl,?_⟩⟩;have j:∀b∈k::N::O::U,∀b'∈n::Y::Z::fn,b≠b':=λb hb b' x6 e=>by
  subst e;exact Ku C1 b hb (x0 b x6)
 have hl:=hp.len;refine⟨_,rfl,ta,rfl,⟨_,eD.of ((s1.trans s2) _ _ ht)⟩,mx (K:=K) (a:=ta) (xs:=ws) (λi σ v=>∃(v6:Option V) (I f:List Text),σ=[some l,some r,some (.ref ta),some (.ref u),some (.ref k),some (.ref n),v6]/\aZ H v/\Cg c K v k N O U g I/\Cg c K v n Y Z fn h f/\N3 L i I/\N3 L i f/\∀y∈L.take i,D (Vaglrc.reads g y) (Vaglrc.reads h y)=false)
  ⟨_,_,_,rfl,s1.trans s2,C1.keep (λb _ o e=>s2 _ _ e) (aZ.tup s2),C2,Cw L,Cw L,λy p=>by simp at p⟩ (by rintro i σ v _ ⟨_,_,_,_,s,_⟩;exact eD.of (s _ _ ht)) ?_ ?_⟩
 ·rintro i x σ v hx ⟨v6,I,f,rfl,s,C,C',G,G',none⟩;obtain⟨J,d,w⟩:=hp.at hx;have hi:=(ai.mp d).1;have x4:=ok.short J (bj d);have y4:=ok.len;have g1:=G.len;have g2:=G'.len;have x1:=w.mono (aZ.tup s);obtain⟨dx,mk,x7,_⟩:=C.ins;refine⟨_,rfl,k,dx,_,rfl,x7,rfl,_,rfl,k,N,O,U,g,I,_,J,rfl,C,fg,x1,we ok G d,by omega,by omega,λH4 b4 C4=>?_⟩;have s4:aZ H H4:=yg s (nw.sub (by simp)) b4;have z:Cg c K H4 n Y Z fn h f:=C'.keep (λb hb o e=>b4 _ _ e λm=>j b (by simp only[af,aS,cC]at m;simp only[af];rcases m with rfl|rfl<;>simp) b hb rfl) (pD b4 (BG C));obtain⟨x8,y5,x9,_⟩:=z.ins;refine⟨_,rfl,n,x8,_,rfl,x9,rfl,_,rfl,n,Y,Z,fn,h,f,_,J,rfl,z,fh,w.mono (aZ.tup s4),we ok G' d,by omega,by omega,λH5 b5 A=>?_⟩;have s5:aZ H H5:=yg s4 (λa ha=>s1.free (x0 a (by simp only[af,aS,cC]at ha;rcases ha with rfl|rfl<;>simp))) b5;have C5:Cg c K H5 k N O U g (fZ I J):=C4.keep (λb hb o e=>b5 _ _ e λm=>j b hb b (by simp only[af,aS,cC]at m;simp only[af];rcases m with rfl|rfl<;>simp) rfl) (pD b5 (BG z));obtain⟨y0,y6,x2,_⟩:=C5.ins;obtain⟨y1,y7,x3,_⟩:=A.ins;have B:=w.mono (aZ.tup s5);refine⟨u,sp,rfl,x5,_,rfl,k,y0,_,rfl,x2,rfl,_,rfl,k,N,O,U,g,_,_,J,rfl,C5,fg,B,dt.mpr (.inr rfl),?_⟩;refine⟨_,rfl,n,y1,_,rfl,x3,rfl,_,rfl,n,Y,Z,fn,h,_,_,J,rfl,A,fh,B,dt.mpr (.inr rfl),?_⟩;refine M _ _ _ _ ⟨_,rfl,oI (λe=>?_) (λe=>?_)⟩
  ·refine⟨_,rfl,q _ H5 s5 ?_⟩;rw[Kc (P:=λx=>D (Vaglrc.reads g x) (Vaglrc.reads h x)) d e none];exact B
  ·refine⟨_,_,_,rfl,s5,C5,A,Dc ok G d,Dc ok G' d,λy p=>?_⟩;rw[take_snoc d]at p;rcases bg.mp p with p|p
   ·exact none y p
   ·rw[aE.mp p];exact cY.mpr e
 ·rintro σ v ⟨v6,I,f,rfl,s,C,C',G,G',none⟩;refine q _ v s ?_;rw[hl,bP]at none;rw[PQ (P:=λx=>D (Vaglrc.reads g x) (Vaglrc.reads h x)) none];rfl
end
section
variable{K:Frag}{mg:Str->Option Value}{c:Cl}
theorem G1(a b d e:V):(Xp a b d e).lookup ("covering":Str)=some a:=rfl
theorem Xw(a b d e:V):(Xp a b d e).lookup ("standing":Str)=some b:=rfl
theorem Tf(a b d e:V):(Xp a b d e).lookup ("waiting":Str)=some d:=rfl
theorem Tu(a b d e:V):(Xp a b d e).lookup ("used":Str)=some e:=rfl
theorem V5(a b d e v:V):dD "used" v (Xp a b d e)=Xp a b d v:=rfl
section
variable{H H':Hp}{us sa wa cv ra pa:Addr}{fm:List Addr}{g:Grammar}{ks:List Text}{S:US}
theorem Pk(U:tG c K H us sa wa cv ra pa fm g ks S)(k:∀b∈us::sa::wa::cv::ra::pa::fm,∀o,H b=some o->H' b=some o)(t:bT H H'):tG c K H' us sa wa cv ra pa fm g ks S:=by
 obtain⟨⟨a,d⟩,e,⟨f,h,i⟩,⟨j,l,m⟩,n⟩:=U;exact⟨⟨a,k _ (by simp) _ d⟩,e.keep (λb p=>k b (aA _ (aA _ (aA _ p)))) t,⟨f,h.G5 (k sa (by simp)) t,i⟩,⟨j,k _ (by simp) _ l,Paired.jr m λ_ _ z=>z.mono t⟩,n⟩
theorem EW(s:aZ H H')(U:tG c K H us sa wa cv ra pa fm g ks S):tG c K H' us sa wa cv ra pa fm g ks S:=Pk U (λb _ o e=>s _ _ e) (aZ.tup s)
theorem E8(U:tG c K H us sa wa cv ra pa fm g ks S):∀a∈[us,sa,wa,ra,pa],∀d,H a≠some (.tup d):=by
 obtain⟨⟨l,h⟩,i,⟨m,⟨_,⟨j,_⟩,_⟩,n⟩,⟨o,k,p⟩,q⟩:=U;intro b f d e;have :=BG i;simp only[af,aS,cC]at f this;rcases f with rfl|rfl|rfl|rfl|rfl
 ·rw[h]at e;cases e
 ·rw[j]at e;cases e
 ·rw[k]at e;cases e
 ·exact this _ (.inl rfl) _ e
 ·exact this _ (.inr rfl) _ e
end
theorem YB{a:List (List Int×Addr×V)}{b:List Text}{f:Text->Nat}{p:Text}(g:a.map (·.1)=b.map c9)(h:∀q∈b,hU a (c9 q)=some (.int (f q:Nat)))(i:∀p,p∉b->f p=0):(hU a (c9 p)).getD (.int 0)=.int (f p:Nat):=by
 by_cases d:p∈b
 ·rw[h p d];rfl
 ·rw[i p d];have :=Ap.has (p:=p) g;rw[aM d]at this;cases e:hU a (c9 p)with
  |none=>rfl
  |some _=>rw[e]at this;cases this
theorem Fz(T:Txt K mg c):Run ["self","grammar"] ["self","grammar"] (lL K c) (Ab K c):=by
 rintro vs H Q E ⟨x,w,v,g,rfl,y,hg,fg,q⟩;refine⟨rfl,?_⟩;refine⟨_,rfl,λU x0 h1 h2 h3=>Pw hg fg h1 h2 h3 λY Z fm L M nw N=>⟨rfl,?_⟩⟩;have G:=M _ _ y;have I:∀b∈U::Y::Z::fm,b≠x:=λb u e=>by subst e;rw[nw b u]at y;cases y
 refine⟨_,rfl,x,c.fH,w,_,rfl,G,T.fO,T.fN,j1 rfl,?_⟩;refine λl k=>?_
 have f:l≠x:=λz=>by subst z;rw[au]at k;cases k
 have i:L l=none:=by rw[aO f]at k;exact k
 refine⟨_,rfl,x,c.fH,w,_,rfl,by rw[aO (aY f)];exact au,T.fO,T.lX,j1 rfl,?_⟩;refine⟨small (j1 rfl),λr h=>?_⟩;have d:r≠x:=λz=>by subst z;rw[au]at h;cases h
 have s:r≠l:=λz=>by subst z;rw[aO d,au]at h;cases h
 have j:L r=none:=by rw[aO d,aO s,aO d]at h;exact h
 refine⟨_,rfl,x,c.fH,w,_,rfl,by rw[aO (aY d)];exact au,T.fO,T.kn,j1 rfl,?_⟩;refine⟨_,rfl,x,c.fH,w,_,rfl,au,T.fO,T.lJ,j1 rfl,?_⟩;have bt:∀{A B C D E F:HO},jq [x] L (upd (upd (upd (upd (upd (upd L x A) l B) x C) r D) x E) x F):=λ{A B C D E F} b o e n=>by
  have O:b≠x:=λz=>n (by simp[z])
  rw[aO O,aO O,aO (cZ e j),aO O,aO (cZ e i),aO O];exact e
 have J:∀b∈U::Y::Z::fm,b≠l/\b≠r:=λb u=>⟨λe=>by subst e;exact Ku N b u i,λe=>by subst e;exact Ku N b u j⟩
 refine q _ l r U Y Z fm (M.but.trans bt) (λa t=>?_) ⟨⟨w,au⟩,N.keep (λb u o e=>bt b o e λm=>I b u (aE.mp m)) (pD bt λa t xs=>by rw[aE.mp t,G];simp),⟨[],⟨[],⟨?_,λx y=>by cases y⟩,rfl,λp hp=>(by cases hp)⟩,jM,λp hp=>(by cases hp),λp _=>rfl⟩,⟨[],?_,.nil⟩,?_⟩
 ·rcases af.mp t with e|t
  ·rw[e];exact M.free i
  ·rcases af.mp t with e|t
   ·rw[e];exact M.free j
   ·exact nw a t
 ·rw[aO f,aO f,aO (aY s),aO f];exact au
 ·rw[aO d,aO d];exact au
 ·refine aT.mpr ⟨λm=>?_,aT.mpr ⟨λm=>?_,aT.mpr ⟨λm=>(J r m).2 rfl,N.nd⟩⟩⟩
  ·rcases af.mp m with e|m
   ·exact f e.symm
   ·rcases af.mp m with e|m
    ·exact d e.symm
    ·exact I x m rfl
  ·rcases af.mp m with e|m
   ·exact s e.symm
   ·exact(J l m).1 rfl
theorem Ec(T:Txt K mg c):Run ["self","piece","marks","known","new"] ["self","piece","marks"] (kf K c) (xR K c):=by
 rintro vs H Q E ⟨d,f,j,cv,ra,pa,fm,g,ks,S,v,p,b,rfl,U,fg,⟨l,rfl,ht⟩,hp,x0,x4,q⟩;refine⟨rfl,?_⟩;obtain⟨⟨t,u⟩,C,⟨ss,⟨w,M,y,N⟩,O,Y,Yl⟩,⟨I,x1,Z⟩,nd⟩:=id U;have ev:(hU w (c9 p)).getD (.int 0)=.int (S.st p:Nat):=YB y N Yl;have x5:w.length<=4000:=by
  rw[Ap.len y];exact bh (vw O Y) x0
 refine⟨_,rfl,d,c.fH,t,_,_,rfl,u,T.fO,T.lX,Xw _ _ _ _,f,w,rfl,M,_,rfl,l,w,c9 p,rfl,M,Ib ht,?_⟩;rw[ev];refine⟨_,rfl,_,rfl,_,rfl,_,_,rfl,rfl,?_⟩;dsimp only;rw[Jb];refine⟨_,rfl,_,Wi rfl rfl,oI (λh=>?_) (λh=>?_)⟩
 ·have h:=bU h;have n1:d≠f:=λz=>(aT.mp nd).1 (by simp[z])
  have n2:d≠j:=λz=>(aT.mp nd).1 (by simp[z])
  have n3:f≠j:=λz=>(aT.mp (aT.mp nd).2).1 (by simp[z])
  refine⟨_,rfl,_,rfl,_,_,rfl,rfl,_,rfl,d,c.fH,t,_,_,rfl,u,T.fO,T.lX,Xw _ _ _ _,_,rfl,f,l,w,c9 p,rfl,rfl,M,Ib ht,by rw[bu];omega,?_⟩;dsimp only;rw[qF];have D1:=Ap.put (v:=S.st p|||iP b (S.st p)) M y N ht;have t1:bT H (upd H f (DX eG.hf f (mh w (c9 p) l (.int ((S.st p|||iP b (S.st p):Nat):Int))))):=md (by rw[M.1];trivial);generalize x2:upd H f (DX eG.hf f (mh w (c9 p) l (.int ((S.st p|||iP b (S.st p):Nat):Int))))=A1 at D1 t1⊢;have k1:∀b,b≠f->A1 b=H b:=λb hb=>by rw[<-x2,aO hb]
  have k:A1 d=_:=(k1 d n1).trans u;refine⟨_,rfl,d,c.fH,t,_,_,rfl,k,T.fO,T.lJ,Tu _ _ _ _,_,rfl,_,_,rfl,rfl,_,rfl,d,c.fH,t,_,rfl,k,T.fO,T.lJ,j1 rfl,?_⟩;dsimp only;rw[qF,V5];generalize A:upd A1 d _=J;have k2:∀b,b≠d->J b=A1 b:=λb hb=>by rw[<-A,aO hb]
  have t2:bT A1 J:=by rw[<-A];exact md (by rw[k];trivial)
  have m:J d=some (.ins c.fH t (Xp (.ref cv) (.ref f) (.ref j) (.int ((S.us|||iP b (S.st p):Nat):Int)))):=by rw[<-A];exact au
  have i:J j=some (.lst I):=by rw[k2 j (aY n2),k1 j (aY n3)];exact x1
  refine⟨_,rfl,d,c.fH,t,_,_,rfl,m,T.fO,T.kn,Tf _ _ _ _,.inl ⟨rfl,_,eD.of i⟩,_,rfl,_,rfl,small (j1 rfl),λtp B=>?_⟩;have L:=aD (o:=.tup [.ref l,.int ((iP b (S.st p):Nat):Int)]) B;have x6:=Z.len;refine⟨j,I,_,rfl,rfl,L _ _ i,by rw[bu];omega,?_⟩;have t4:=jo (o:=.lst (I++[.ref tp])) (L _ _ i);have kA:∀x o,x≠d->x≠f->x≠j->H x=some o->upd (upd J tp (.tup [.ref l,.int ((iP b (S.st p):Nat):Int)])) j (.lst (I++[.ref tp])) x=some o:=λx o e1 e2 e3 e=>by
   rw[aO e3];exact L _ _ (by rw[k2 x e1,k1 x e2];exact e)
  have kB:jq [d,f,j] H (upd (upd J tp (.tup [.ref l,.int ((iP b (S.st p):Nat):Int)])) j (.lst (I++[.ref tp]))):=λx o e n=>kA x o (λz=>n (by simp[z])) (λz=>n (by simp[z])) (λz=>n (by simp[z])) e
  have tA:bT H _:=pD kB λa ha=>E8 U a (by simp only[af,aS,cC]at ha⊢;rcases ha with rfl|rfl|rfl<;>simp)
  have D:∀x∈cv::ra::pa::fm,x≠d/\x≠f/\x≠j:=λx G=>by
   obtain⟨m1,m2⟩:=aT.mp nd;obtain⟨m3,m4⟩:=aT.mp m2;obtain⟨m5,_⟩:=aT.mp m4;refine⟨λe=>m1 ?_,λe=>m3 ?_,λe=>m5 ?_⟩
   ·rw[<-e];exact aA _ (aA _ G)
   ·rw[<-e];exact aA _ G
   ·rw[<-e];exact G
  have x3:tp≠j:=λz=>by subst z;rw[i]at B;cases B
  have eS:eZ p b S=⟨vL S.st p (S.st p|||iP b (S.st p)),S.wt++[(p,iP b (S.st p))],S.us|||iP b (S.st p)⟩:=by unfold eZ;rw[ah h]
  refine q _ kB ?_;rw[eS];refine⟨⟨t,by rw[aO n2];exact L _ _ m⟩,C.keep (λx G o e=>kA x o (D x G).1 (D x G).2.1 (D x G).2.2 e) tA,⟨fZ ss p,D1.G5 (λo e=>?_) (t2.trans ((aZ.tup L).trans t4)),vM O,λr s=>?_,λr s=>?_⟩,⟨I++[.ref tp],au,iE (Paired.jr Z λ_ _ z=>z.mono tA) ⟨tp,.ref l,rfl,by rw[aO x3];exact au,l,rfl,ht.mono tA⟩⟩,nd⟩
  ·rw[aO n3];exact L _ _ (by rw[k2 f (aY n1)];exact e)
  ·rcases dt.mp s with s|s
   ·exact Y r s
   ·rw[s];exact hp
  ·have h1:r≠p:=λz=>s (dt.mpr (.inr z))
   have h2:r∉ss:=λz=>s (dt.mpr (.inl z))
   show vL _ _ _ r=0;unfold vL;rw[ah h1];exact Yl r h2
 ·have h:iP b (S.st p)=0:=fw λz=>h (aF z)
  have e:eZ p b S=S:=by unfold eZ;rw[az h]
  refine q _ (aZ.refl H).but ?_;rw[e];exact U
theorem Dl(T:Txt K mg c):Run ["self","piece","marks","place","first","last","back","ends"] ["self","piece","marks"] (rM K c) (wN K c):=by
 rintro vs H Q E ⟨d,y,A,n,B,pa,fm,g,o,S,v,p,b,TT,y7,rfl,U,fg,⟨ta,rfl,ht⟩,hp,hc,r,y8,I,hb,hR,q⟩;refine⟨rfl,?_⟩;refine⟨_,rfl,ta,cB p,rfl,.inr ht.sq,_,_,rfl,rfl,_,rfl,by omega,by rw[dU];omega,?_⟩;have en:(((cB p).length:Nat)+1:Int).toNat=p.length+1:=by rw[dU];omega
 rw[en];have t:=yN fg;have e:∀i,p.take i∈o/\p.drop i∈o:=λi=>hc p hp i
 have room:∀{s:US},uc g.rules o s->s.wt.length<=4000000:=λ{s} h=>by
  unfold uc at h;have :o.length*(cells g.rules).length<=4000*540:=Nat.mul_le_mul r t;omega
 refine sU (λi σ x=>∃v3 v4 v5 v6 v7:Option V,σ=[some (.ref d),some (.ref ta),some (.int (b:Nat)),v3,v4,v5,v6,v7]/\jq [d,y,A] H x/\tG c K x d y A n B pa fm g o (j9 g.rules p b i S))
  ⟨_,_,_,_,_,rfl,(aZ.refl H).but,U⟩ ?_ ?_
 ·rintro i σ x hi ⟨v3,v4,v5,v6,v7,rfl,bt,U'⟩;have tB:bT H x:=pD bt λa D=>E8 U a (by simp only[af,aS,cC]at D⊢;rcases D with rfl|rfl|rfl<;>simp)
  have e0:(0:Int)+(i:Int)=((i:Nat):Int):=by omega
  have R':=wk hb e hR i;refine⟨_,rfl,_,rfl,_,rfl,ta,_,rfl,ht.mono tB,λf1 H1 s1 G=>?_⟩;rw[e0,Lo]at G;refine⟨_,rfl,_,rfl,_,rfl,ta,_,rfl,(ht.mono tB).mono (aZ.tup s1),λf2 H2 s2 u=>?_⟩;rw[e0,LQ]at u;have f:=G.mono (aZ.tup s2);have U2:=EW (s1.trans s2) U';obtain⟨⟨dx,w⟩,C,⟨ss,y9,_⟩,_,nd⟩:=id U2;obtain⟨⟨J,mk,L,z0⟩,⟨xr,x4,z1,x5⟩,⟨xp,x6,z2,x7⟩,_,_,_⟩:=id C;have m1:=(e i).1;have m2:=(e i).2;refine⟨_,rfl,_,_,rfl,rfl,(by decide:(0:Int)<=1),?_⟩;refine⟨_,rfl,d,c.fH,dx,_,_,rfl,w,T.fO,T.fN,G1 _ _ _ _,n,c.aV,J,_,_,rfl,L,T.cG,T.dO,BR _ _ _,_,rfl,B,f1,xr,c9 (p.take i),_,rfl,rfl,x4,Ib f,x5 _ m1,_,_,rfl,rfl,?_⟩;refine⟨_,rfl,d,c.fH,dx,_,_,rfl,w,T.fO,T.fN,G1 _ _ _ _,n,c.aV,J,_,_,rfl,L,T.cG,T.fR,Il _ _ _,_,rfl,pa,f2,xp,c9 (p.drop i),_,rfl,rfl,x6,Ib u,x7 _ m2,_,_,rfl,rfl,?_⟩;dsimp only;rw[Vw,qc,qc];have eb:b/2&&&RB g.rules (p.take i)&&&SB g.rules (p.drop i)=oC g.rules p b i:=rfl;rw[eb];have b2:jq [d,y,A] H H2:=bt.trans (s1.trans s2).but;refine⟨_,rfl,_,Wi rfl rfl,oI (λh=>?_) (λh=>?_)⟩
  ·have h:=bU h;have x8:∀m,(oC g.rules p b i).testBit m=true->Std g.rules TT m (p.take i):=λm hm=>(Bk hb hm).1
   refine⟨_,rfl,d,dx,_,rfl,w,rfl,_,rfl,_,rfl,d,y,A,n,B,pa,fm,g,o,_,_,p.take i,_,rfl,U2,fg,⟨f1,rfl,f⟩,m1,r,room R'.1,λH3 b3 U3=>?_⟩;have t3:bT H2 H3:=pD b3 λa D=>E8 U2 a (by simp only[af,aS,cC]at D⊢;rcases D with rfl|rfl|rfl<;>simp)
   have R3:=(wy x8 m1 R'.1).1;obtain⟨⟨x9,M⟩,C3,_,_,_⟩:=id U3;obtain⟨⟨N,O,Y,j⟩,⟨z3,y2,y3,y4⟩,_,_,_,_⟩:=id C3;obtain⟨dm,l1,l2,l3,l4,z4,y0⟩:=id j;refine⟨_,rfl,d,c.fH,x9,_,_,rfl,M,T.fO,T.fN,G1 _ _ _ _,n,c.aV,N,_,_,rfl,Y,T.cG,T.gp,Me _ _ _,O,dm,_,rfl,y0.ins,rfl,_,rfl,O,g,fm,_,rfl,j,fg,λH4 s4=>?_⟩;have U4:=EW s4 U3;obtain⟨⟨Z,k⟩,C4,_,_,_⟩:=id U4;obtain⟨⟨x0,z5,x1,y5⟩,⟨y1,x2,y6,x3⟩,_,_,_,_⟩:=id C4;have l:=(u.mono t3).mono (aZ.tup s4);refine⟨_,rfl,d,Z,_,rfl,k,rfl,_,rfl,_,rfl,_,rfl,d,c.fH,Z,_,_,rfl,k,T.fO,T.fN,G1 _ _ _ _,n,c.aV,x0,_,_,rfl,x1,T.cG,T.dO,BR _ _ _,_,rfl,B,f2,y1,c9 (p.drop i),_,rfl,rfl,x2,Ib l,x3 _ m2,_,_,rfl,rfl,?_⟩;dsimp only;rw[qc];refine⟨d,y,A,n,B,pa,fm,g,o,_,_,p.drop i,_,rfl,U4,fg,⟨f2,rfl,l⟩,m2,r,room R3,λH5 b5 U5=>?_⟩;refine⟨_,_,_,_,_,rfl,(b2.trans b3).trans (s4.but.trans b5),?_⟩;have eF:j9 g.rules p b (i+1) S=eZ (p.drop i) (XA g.rules (oC g.rules p b i)&&&RB g.rules (p.drop i)) (eZ (p.take i) (oC g.rules p b i) (j9 g.rules p b i S)):=by
    show i7 g.rules p b i _=_;unfold i7;rw[ah h]
   rw[eF];exact U5
  ·have h:oC g.rules p b i=0:=fw λz=>h (aF z)
   refine⟨_,_,_,_,_,rfl,b2,?_⟩;have eF:j9 g.rules p b (i+1) S=j9 g.rules p b i S:=by
    show i7 g.rules p b i _=_;unfold i7;rw[az h]
   rw[eF];exact U2
 ·rintro σ x ⟨v3,v4,v5,v6,v7,rfl,bt,U'⟩;exact q x bt U'
end
section
variable{K:Frag}{mg:Str->Option Value}{c:Cl}
section
variable{H H':Hp}{us sa wa cv ra pa:Addr}{fm:List Addr}{g:Grammar}{ks:List Text}{S:US}
theorem NH(U:tG c K H us sa wa cv ra pa fm g ks S):∀b∈us::sa::wa::cv::ra::pa::fm,H b≠none:=by
 obtain⟨⟨j,d⟩,f,⟨k,⟨_,⟨h,_⟩,_⟩,l⟩,⟨m,i,n⟩,o⟩:=U;intro b a e;rcases af.mp a with z|a
 ·rw[z,d]at e;cases e
 rcases af.mp a with z|a
 ·rw[z,h]at e;cases e
 rcases af.mp a with z|a
 ·rw[z,i]at e;cases e
 exact Ku f b a e
theorem Ug{a:List Text}(U:tG c K H us sa wa cv ra pa fm g ks S)(b:jq [ra,pa] H H')(C:Cg c K H' cv ra pa fm g a)(sub:∀q∈ks,q∈a):tG c K H' us sa wa cv ra pa fm g a S:=by
 obtain⟨⟨n,r⟩,s,⟨u,v,w,f,h⟩,⟨A,B,D⟩,j⟩:=U;have t:=pD b (BG s);have d:∀x∈[us,sa,wa],x∉[ra,pa]:=λx k m=>by
  have e:∀y∈[ra,pa],y∈cv::ra::pa::fm:=λy l=>by simp only[af,aS,cC]at l⊢;rcases l with rfl|rfl<;>simp
  have i:=e x m;obtain⟨E,G⟩:=aT.mp j;obtain⟨I,J⟩:=aT.mp G;obtain⟨L,_⟩:=aT.mp J;simp only[af,aS,cC]at k;rcases k with rfl|rfl|rfl
  ·exact E (aA _ (aA _ i))
  ·exact I (aA _ i)
  ·exact L i
 exact⟨⟨n,b _ _ r (d us (by simp))⟩,C,⟨u,v.G5 (λo e=>b _ _ e (d sa (by simp))) t,w,λp M=>sub p (f p M),h⟩,⟨A,b _ _ B (d wa (by simp)),Paired.jr D λ_ _ z=>z.mono t⟩,j⟩
theorem XO{w:Text×Nat}{f:List (Text×Nat)}(U:tG c K H us sa wa cv ra pa fm g ks S)(e:S.wt=f++[w]):∃a y,H wa=some (.lst a)/\a[a.length-1]?=some y/\UB K H y w/\tG c K (upd H wa (.lst a.dropLast)) us sa wa cv ra pa fm g ks ⟨S.st,f,S.us⟩:=by
 obtain⟨⟨p,q⟩,r,⟨s,u,v⟩,⟨a,m,h⟩,n⟩:=id U;have A:=h.len;rw[e,ay,cT]at A;have i:a.length-1<a.length:=by omega
 have d:=aB i;obtain⟨B,j,C⟩:=h.at d;have D:B=w:=by
  rw[e]at j;have :a.length-1=f.length:=by omega
  rw[this]at j;simpa using j.symm
 subst D;have t:bT H (upd H wa (.lst a.dropLast)):=jo m;have l:∀x∈us::sa::cv::ra::pa::fm,x≠wa:=λx d e=>by
  obtain⟨E,G⟩:=aT.mp n;obtain⟨I,J⟩:=aT.mp G;obtain⟨L,_⟩:=aT.mp J;rcases af.mp d with z|d
  ·exact E (by rw[<-z,e];simp)
  rcases af.mp d with z|d
  ·exact I (by rw[<-z,e];simp)
  exact L (by rw[<-e];exact d)
 have k:∀x∈us::sa::cv::ra::pa::fm,∀o,H x=some o->upd H wa (.lst a.dropLast) x=some o:=λx d o e=>by rw[aO (l x d)];exact e
 refine⟨a,a[a.length-1],m,d,C,⟨p,k us (by simp) _ q⟩,r.keep (λb M=>k b (aA _ (aA _ M))) t,⟨s,u.G5 (k sa (by simp)) t,v⟩,⟨a.dropLast,au,?_⟩,n⟩;have :=Paired.take (a.length-1) (Paired.jr h λ_ _ z=>z.mono t);rw[<-List.dropLast_eq_take]at this;have e2:S.wt.take (a.length-1)=f:=by
  rw[e];have :a.length-1=f.length:=by omega
  rw[this];simp
 rw[e2]at this;exact this
end
theorem Ig{a:List Rule}{T:Text->Prop}{p:Text}(b:T p){m:Nat}(h:(RB a p&&&uR (cells a) 0).testBit m=true):Std a T m p:=by
 obtain⟨d,e⟩:=g_.mp h;exact .root b (yw.mp e) (nO.mp d)
theorem Od(a:List Rule):(MO a).length=a.length:=by unfold MO;simp
structure Wt(a:List Rule)(T:Text->Prop)(d:List Text)(S:US):Prop where
 inv:C9 a T (λ_ _=>False) S
 room:uc a d S
 inU:∀p b,(p,b)∈S.wt->p∈d
 roots:∀x,T x->Sub (RB a x&&&uR (cells a) 0) (S.st x)
theorem NR{a:List Rule}{p:Text}{b i:Nat}{s:US}{U:List Text}(h:∀q c,(q,c)∈s.wt->q∈U)(d:p.take i∈U)(e:p.drop i∈U):∀q c,(q,c)∈(i7 a p b i s).wt->q∈U:=by
 have st:∀{s:US} {p:Text} {b:Nat},(∀q c,(q,c)∈s.wt->q∈U)->p∈U->∀q c,(q,c)∈(eZ p b s).wt->q∈U:=λ{s p b} h f q c m=>by
  unfold eZ at m;split at m
  ·exact h q c m
  ·rcases bg.mp m with m|m
   ·exact h q c m
   ·rw[aE]at m;cases m;exact f
 unfold i7;split
 ·exact h
 ·exact st (st h d) e
theorem GJ{d:List Rule}{p:Text}{b:Nat}{s:US}{U:List Text}(h:∀q c,(q,c)∈s.wt->q∈U)(a:∀i,p.take i∈U/\p.drop i∈U):∀n,∀q c,(q,c)∈(j9 d p b n s).wt->q∈U
 |0=>h
 |n+1=>NR (GJ h a n) (a n).1 (a n).2
theorem tJ(T:Txt K mg c):Run ["self","text","used_before","waited","new","rule","end"] ["self","text"] (fe K c) (m8 K c):=by
 rintro vs H Q E ⟨d,u,f,Y,l,s,fm,g,ks,TT,v,p,rfl,U,fg,⟨ta,rfl,ht⟩,x9,hc,v5,y0,z6,hT,q⟩;refine⟨rfl,?_⟩;obtain⟨⟨dx,y2⟩,C,_,_,nd⟩:=id U;obtain⟨z7,mk,z8,_⟩:=C.ins;have z9:=yN fg;have y3:(fZ ks p).length<=4000:=by have :=vN (ks:=ks) (p:=p);omega
 have x5:CS (fZ ks p):=Ae C.none hc x9;have y4:∀q∈fZ ks p,q.length<=1000:=λq hq=>by
  rcases dt.mp hq with z|z
  ·exact z6 q z
  ·rw[z];exact y0
 refine⟨_,rfl,d,c.fH,dx,_,_,rfl,y2,T.fO,T.lJ,Tu _ _ _ _,?_⟩;refine⟨_,rfl,d,c.fH,dx,_,_,rfl,y2,T.fO,T.fN,G1 _ _ _ _,Y,z7,_,rfl,z8,rfl,_,rfl,Y,l,s,fm,g,ks,_,p,rfl,C,fg,⟨ta,rfl,ht⟩,x9,by omega,y0,λH1 b1 C1=>?_⟩;have U1:=Ug U b1 C1 (λq hq=>dt.mpr (.inl hq));have t1:bT H H1:=pD b1 (BG C);obtain⟨⟨y5,x3⟩,_,_,_,_⟩:=id U1;obtain⟨y6,v6,y7,_⟩:=C1.ins;have y8:=ht.mono t1;have Z:p∈fZ ks p:=dt.mpr (.inr rfl);refine⟨_,rfl,d,y5,_,rfl,x3,rfl,_,rfl,_,rfl,d,c.fH,y5,_,_,rfl,x3,T.fO,T.fN,G1 _ _ _ _,Y,y6,_,rfl,y7,rfl,_,rfl,Y,l,s,fm,g,_,_,p,rfl,C1,fg,⟨ta,rfl,y8⟩,Z,?_⟩;refine⟨d,u,f,Y,l,s,fm,g,_,_,_,p,_,rfl,U1,fg,⟨ta,rfl,y8⟩,Z,y3,by show 0<=_;omega,λH2 b2 U2=>?_⟩;have x4:∀a∈[d,u,f],a∈[d,u,f,l,s]:=λa ha=>by simp only[af,aS,cC]at ha⊢;rcases ha with rfl|rfl|rfl<;>simp
 have x6:∀a∈[l,s],a∈[d,u,f,l,s]:=λa ha=>by simp only[af,aS,cC]at ha⊢;rcases ha with rfl|rfl<;>simp
 have wide:∀{A B:Hp} {as:List Addr},(∀a∈as,a∈[d,u,f,l,s])->jq as A B->jq [d,u,f,l,s] A B:=λh b x o e n=>b x o e λm=>n (h x m)
 have u0:jq [d,u,f,l,s] H H2:=(wide x6 b1).trans (wide x4 b2);have G:∀m,(RB g.rules p&&&uR (cells g.rules) 0).testBit m=true->Std g.rules (λy=>TT y\/y=p) m p:=λm h=>Ig (.inr rfl) h
 have W0:Wt g.rules (λy=>TT y\/y=p) (fZ ks p) (eZ p (RB g.rules p&&&uR (cells g.rules) 0) (gone g TT)):=by
  refine⟨CV (RV λx h=>.inl h) G,(wy G Z ?_).1,λq b m=>?_,λx O m h=>?_⟩
  ·unfold uc;show 0+_<=_;rw[iU];exact V2 _ _ _
  ·unfold eZ at m;split at m
   ·cases m
   ·rcases bg.mp m with m|m
    ·cases m
    ·rw[aE]at m;cases m;exact Z
  ·rcases O with O|rfl
   ·refine qx x m ?_;show(XC g.rules TT x).testBit m=true;rw[yz];exact Ig O h
   ·exact vq m h
 generalize eZ p (RB g.rules p&&&uR (cells g.rules) 0) (gone g TT)=S1 at U2 W0;refine⟨λm σ J=>∃(v3:Option V) (S:US),σ=[some (.ref d),some (.ref ta),some (.int ((gone g TT).us:Nat)),v3,none,none,none]/\jq [d,u,f,l,s] H J/\tG c K J d u f Y l s fm g (fZ ks p) S/\Wt g.rules (λy=>TT y\/y=p) (fZ ks p) S/\m=2*free g.rules (fZ ks p) S+S.wt.length,⟨_,_,S1,rfl,u0,U2,W0,rfl⟩,?_⟩;rintro m σ J ⟨v3,S,rfl,bb,U',W,rfl⟩;obtain⟨⟨x0,L⟩,C',_,⟨ws,u1,u2⟩,_⟩:=id U';have x1:=u2.len;refine⟨_,rfl,d,c.fH,x0,_,_,rfl,L,T.fO,T.kn,Tf _ _ _ _,!ws.isEmpty,.inl ⟨ws,eD.of u1,rfl⟩,oI (λh=>?_) (λh=>?_)⟩
 ·have u3:S.wt≠[]:=λz=>by rw[z]at x1;rw[d7.mp x1]at h;cases h
  obtain⟨wt,⟨p1,M⟩,ew⟩:∃wt w,S.wt=wt++[w]:=⟨_,_,(List.dropLast_concat_getLast u3).symm⟩;obtain⟨x7,y,N,hy,u4,U3⟩:=XO U' ew;refine⟨λσ J=>∃(v3:Option V) (S':US),σ=[some (.ref d),some (.ref ta),some (.int ((gone g TT).us:Nat)),v3,none,none,none]/\jq [d,u,f,l,s] H J/\tG c K J d u f Y l s fm g (fZ ks p) S'/\Wt g.rules (λy=>TT y\/y=p) (fZ ks p) S'/\2*free g.rules (fZ ks p) S'+S'.wt.length<2*free g.rules (fZ ks p) S+S.wt.length,λv7 J ⟨v3,S',e1,e2,e3,e4,e5⟩=>⟨_,e5,v3,S',e1,e2,e3,e4,rfl⟩,?_⟩;refine⟨_,rfl,d,c.fH,x0,_,_,rfl,L,T.fO,T.kn,Tf _ _ _ _,.inl ⟨rfl,_,eD.of N⟩,f,x7,y,rfl,rfl,N,hy,?_⟩;have t3:bT J (upd J f (.lst x7.dropLast)):=jo N;have b3:jq [d,u,f,l,s] J (upd J f (.lst x7.dropLast)):=eY (by simp);obtain⟨yt,y1,rfl,y9,u5⟩:=u4.mono t3;obtain⟨⟨u6,z0⟩,_,_,_,_⟩:=id U3;have z1:(p1,M)∈S.wt:=by rw[ew];simp
  have x2:=W.inU p1 M z1;have z2:∀m,M.testBit m=true->Std g.rules (λy=>TT y\/y=p) m p1:=λm hm=>W.inv.sound _ _ (W.inv.RI _ _ z1 m hm)
  have z3:uc g.rules (fZ ks p) ⟨S.st,wt,S.us⟩:=by
   have :=W.room;unfold uc at this⊢;rw[ew,ay]at this;show wt.length+free g.rules (fZ ks p) S<=_;simp at this;omega
  refine⟨_,rfl,d,u6,_,rfl,z0,rfl,_,rfl,yt,_,0,y1,rfl,rfl,kF.of y9,at_of (j:=0) rfl rfl,_,rfl,yt,_,1,_,rfl,rfl,kF.of y9,at_of (j:=1) rfl rfl,?_⟩;refine⟨d,u,f,Y,l,s,fm,g,_,⟨S.st,wt,S.us⟩,_,p1,M,(λy=>TT y\/y=p),λq m=>q=p1/\M.testBit m=true,rfl,U3,fg,u5,x2,x5,y3,y4 p1 x2,⟨W.inv.sound,W.inv.used,λq m hq=>?_,λq b hq=>W.inv.RI q b (by rw[ew];exact bg.mpr (.inl hq))⟩,z2,z3,λH4 b4 U4=>?_⟩
  ·rcases W.inv.pend q m hq with z|⟨b,wx,zZ⟩|z
   ·exact .inl z
   ·rw[ew]at wx;rcases bg.mp wx with wx|wx
    ·exact .inr (.inl ⟨b,wx,zZ⟩)
    ·rw[aE]at wx;cases wx;exact .inr (.inr ⟨rfl,zZ⟩)
   ·exact z.elim
  ·have hF:=wk (n:=p1.length+1) z2 (λi=>x5 p1 x2 i) z3;refine⟨_,_,rfl,(bb.trans b3).trans (wide x4 b4),U4,⟨OW (by have :=W.inv;rw[<-ew];exact this),hF.1,?_,λx O m hm=>DV x _ m (W.roots x O m hm)⟩,?_⟩
   ·exact GJ (λq c m=>W.inU q c (by rw[ew];exact bg.mpr (.inl m))) (λi=>x5 p1 x2 i) _
   ·refine fJ hF.2 ?_;rw[ew,ay];show 2*free g.rules (fZ ks p) S+wt.length<_;simp
 ·have u7:ws=[]:=by cases ws with |nil=>rfl|cons _ _=>exact absurd rfl h
  have u8:S.wt=[]:=by rw[u7]at x1;exact d7.mp x1.symm
  have hS:S=gone g λy=>TT y\/y=p:=by
   have I:=W.inv;have Rt:=W.roots;obtain⟨st,wt,v8⟩:=S;have e:wt=[]:=u8;subst e;obtain⟨d1,d2⟩:=Sv I Rt;unfold gone;rw[<-d2,<-funext d1]
  subst hS;obtain⟨⟨dm,u9,z4,z5⟩,_,_,_,_,_⟩:=id C';obtain⟨v0,l1,l2,l3,l4,v9,x8⟩:=id z5;refine⟨_,rfl,d,c.fH,x0,_,_,rfl,L,T.fO,T.lJ,Tu _ _ _ _,_,rfl,_,rfl,_,_,rfl,rfl,?_⟩;dsimp only;rw[Jb];refine⟨_,rfl,d,c.fH,x0,_,_,rfl,L,T.fO,T.fN,G1 _ _ _ _,Y,c.aV,dm,_,_,rfl,z4,T.cG,T.gp,Me _ _ _,u9,c.eQ,v0,_,_,rfl,x8.ins,T.fc,T.kM,Xs _ _ _ _ _,l3,_,rfl,eD.of x8.r,λD hD=>?_⟩;refine B7 (K:=K) (xs:=cB (MO g.rules)) (g:=A4 K 2 (ju (bw 5) (ju (bw 6) AL))) (tt:=λσ H Q=>hJ (mZ λi j=>V.int (Builtin.bitAnd i j)) (ao 4) (ao 6) σ H λx J=>∃k,G_ K x J k/\Q k J) (te:=ao 5) (vs:=[5,6]) (λr=>decide (iP (Vb g.rules λy=>TT y\/y=p) (Vb g.rules TT)&&&2^MK g.rules r≠0)) hD (eD.of x8.r) (by rw[dU,Od,bu];have :=fg.len;omega) (λi x O H2 t s2 v1 Nx Ny k1 k2=>?_) (λH2 s2 hy=>?_)
  ·have v2:x=.int ((2^MK g.rules i:Nat):Int):=by
    have hi:=(ai.mp O).1;rw[dU,Od]at hi;unfold cB MO at O;rw[d4,cf,cF hi]at O;exact(bR O).symm
   subst v2;refine⟨t,_,rfl,kF.of v1,rfl,_,_,rfl,_,_,rfl,rfl,rfl,?_⟩;refine⟨_,rfl,_,rfl,_,_,rfl,rfl,_,Wi (qc _ _) rfl,?_⟩;refine oI (λh=>⟨_,rfl,k2 _ (aZ.refl _) h⟩) (λh=>k1 _ (aZ.refl _) (cY.mpr h))
  ·rw[dU,Od]at hy;have v4:H D=none:=by
    cases e:H D with
    |none=>rfl
    |some o=>
     by_cases m:D∈[d,u,f,l,s]
     ·refine absurd hD (NH U' D ?_);simp only[af,aS,cC]at m⊢;rcases m with rfl|rfl|rfl|rfl|rfl<;>simp
     ·rw[bb _ _ e m]at hD;cases hD
   refine q _ H2 (bb.trans s2.but) (EW s2 U') ⟨D,rfl,v4,?_⟩;rw[hy,mN];rfl
end
section
variable{K:Frag}{mg:Str->Option Value}{c:Cl}
theorem gone_none(g:Grammar):(⟨λ_=>0,[],0⟩:US)=gone g λ_=>False:=by
 unfold gone;have e1:∀p,XC g.rules (λ_=>False) p=0:=λp=>dH λm=>by
  rw[Nat.zero_testBit];refine cY.mpr λh=>?_
  obtain⟨x,a,_⟩:=ES.mp (yz.mp h);exact a
 have e2:Vb g.rules (λ_=>False)=0:=dH λm=>by
  rw[Nat.zero_testBit];refine cY.mpr λh=>?_
  obtain⟨p,h⟩:=NW.mp h;obtain⟨x,a,_⟩:=ES.mp h;exact a
 rw[e2,funext e1]
theorem Xb{H:Hp}{v:V}{g:Grammar}{x d:Addr}{Q:VK}(w:f6 c H v g)(y:mr g)(p:H x=none)(r:H d=none)(s:d≠x)(q:∀h i j k l n f,aZ H f->NA H (x::h::i::j::k::l::n)->tG c K f x h i j k l n g [[]] (gone g λ_=>False)->Q .non f):
 lL K c (.ref x::([v]++[])) (upd (upd H d (.own x)) x (.ins c.fH d [])) Q E0:=by
 have t:aZ H (upd (upd H d (.own x)) x (.ins c.fH d [])):=(aD r).trans (aD (by rw[aO (aY s)];exact p));refine⟨x,d,v,g,rfl,au,w.same t,y,λf h i j k l n z A C=>q h i j k l n f (λb o e=>?_) (λa u=>?_) (by rw[gone_none g]at C;exact C)⟩
 ·exact z b o (t _ _ e) (λm=>by rw[aE.mp m,p]at e;cases e)
 ·rcases af.mp u with e|u
  ·rw[e];exact p
  ·exact t.free (A a u)
structure Zz(c:Cl)(K:Frag)(H:Hp)(us sa b d e f:Addr)(h:List Addr)(g:Grammar)(j:List Text)(i:Nat)(T:Text->Prop)(a:List Text):Prop where
 u:tG c K H us sa b d e f h g a (gone g T)
 g:N3 j i a
 t:∀x,T x->x∈a
 k:∀q∈a,q.length<=1000
theorem MY{H:Hp}{a b d e f i:Addr}{j:List Addr}{g:Grammar}{k:List Text}(U:tG c K H a b d e f i j g [[]] (gone g λ_=>False)):Zz c K H a b d e f i j g k 0 (λ_=>False) [[]]:=
 ⟨U,Cw k,λx h=>h.elim,λq l=>by rw[aE.mp l];simp⟩
theorem Mv{H:Hp}{e f h r j l:Addr}{s:List Addr}{g:Grammar}{m:List Text}{i:Nat}{T:Text->Prop}{w:List Text}{v:V}{x:Text}{Q:VK}(ok:Ou m)(G:Zz c K H e f h r j l s g m i T w)(z:mr g)(o:m[i]?=some x) (A:rG K H v x)
 (q:∀p d,jq [e,f,h,j,l] H d->bT H d->Zz c K d e f h r j l s g m (i+1) (λy=>T y\/y=x) (fZ w x)->js H d p (Vaglrn.toInts (ig g T x))->Q p d):
 fe K c (.ref e::([v]++[])) H Q E0:=by
 have B:=(ai.mp o).1;have C:=ok.short x (bj o);have :=ok.len;have :=G.g.len;refine⟨e,f,h,r,j,l,s,g,w,T,v,x,rfl,G.u,z,A,we ok G.g o,G.g.closed,by omega,by omega,G.k,G.t,λp d b U n=>q p d b (pD b (E8 G.u)) ⟨U,Dc ok G.g o,λy a=>?_,λy a=>?_⟩ n⟩
 ·rcases a with a|a
  ·exact dt.mpr (.inl (G.t y a))
  ·exact dt.mpr (.inr a)
 ·rcases dt.mp a with a|a
  ·exact G.k y a
  ·rw[a];omega
theorem WE(r:Nat)(a:List Nat):X_ (.int (r:Nat)) (cB a)=decide (r∈a):=by
 unfold X_ cB;rw[rE]
 induction a with
 |nil=>rfl
 |cons n a b=>
  rw[ic,b];have :((λy=>Ss y (V.int (r:Nat)))∘λn:Nat=>V.int (n:Int)) n=decide (r=n):=by
   show Ss (.int (n:Int)) (.int (r:Int))=_;unfold Ss;by_cases h:r=n
   ·subst h;simp
   ·have d:¬((n:Int)=(r:Int)):=by omega
    simp[h,d]
  rw[this,<-Bool.decide_or];simp
theorem RJ(a:List Nat):(cB a).all BX=true:=by
 unfold cB;rw[List.all_map];exact fG.mpr λ_ _=>rfl
theorem ye(T:Txt K mg c):Run ["grammar","rule","texts","using","text"] ["grammar","rule","texts"] (ny K c) (r8 K c):=by
 rintro vs H Q E ⟨v,t,g,o,r,rfl,O,m,⟨p,U,rfl,I,J⟩,ok,q⟩;refine⟨rfl,?_⟩;refine⟨_,rfl,λw Y Z h2 h3=>Xb O m Z h2 h3 λsa wa cv ra pa fm H1 L nw U1=>⟨rfl,?_⟩⟩;have hl:=J.len;refine⟨_,rfl,p,rfl,⟨_,eD.of (L _ _ I)⟩,mx (K:=K) (a:=p) (xs:=U) (λi n j=>∃(z:Option V) (TT:Text->Prop) (A:List Text),n=[some v,some (.int (r:Nat)),some (.ref p),some (.ref w),z]/\aZ H j/\Zz c K j w sa wa cv ra pa fm g o i TT A/\(∀y,TT y->y∈o.take i)/\∀y∈o.take i,Vaglrc.has r (Vaglrn.usedRules g y)=false)
  ⟨_,_,_,rfl,L,MY U1,λy h=>h.elim,λy b=>by simp at b⟩ (by rintro i n j _ ⟨_,_,_,_,s,_⟩;exact eD.of (s _ _ I)) ?_ ?_⟩
 ·rintro i x n j hx ⟨z,TT,A,rfl,s,G,f,none⟩;obtain⟨B,d,k⟩:=J.at hx;obtain⟨dx,C⟩:=G.u.ins;refine⟨_,rfl,_,rfl,w,dx,_,rfl,C,rfl,_,rfl,Mv ok G m d (k.mono (aZ.tup s)) ?_⟩;rintro v' M b2 t2 G2 ⟨l,e,x0,hl2⟩;subst e;have D:aZ H M:=yg s (nw.sub λa N=>by simp only[af,aS,cC]at N⊢;rcases N with rfl|rfl|rfl|rfl|rfl<;>simp) b2;rw[<-mN]at hl2;have e1:decide (r∈ig g TT B)=Vaglrc.has r (Vaglrn.usedRules g B):=by
   rw[OU];refine decide_eq_decide.mpr ?_;rw[CN,Fu m.lhs];constructor
   ·exact λh=>h.1
   ·refine λh=>⟨h,?_⟩
    rintro⟨y,b,hu⟩;have :=none y (f y b);rw[OU,mL,Fu m.lhs]at this;exact this hu
  refine⟨l,_,rfl,.inl (eD.of hl2),rfl,RJ _,Vaglrc.has r (Vaglrn.usedRules g B),by rw[ah (by simp),WE,e1],oI (λh=>?_) (λh=>?_)⟩
  ·refine⟨_,rfl,q _ M D ?_⟩;unfold Vaglrn.sentenceFor;rw[Kc (P:=λx=>Vaglrc.has r (Vaglrn.usedRules g x)) d h none];exact k.mono (aZ.tup D)
  ·refine⟨_,_,_,rfl,D,G2,λy b=>?_,λy b=>?_⟩
   ·rw[take_snoc d];rcases b with b|b
    ·exact bg.mpr (.inl (f y b))
    ·exact bg.mpr (.inr (by simp[b]))
   ·rw[take_snoc d]at b;rcases bg.mp b with b|b
    ·exact none y b
    ·rw[aE.mp b];exact cY.mpr h
 ·rintro n j ⟨z,TT,A,rfl,s,G,f,none⟩;refine q _ j s ?_;rw[hl,bP]at none;unfold Vaglrn.sentenceFor;rw[PQ (P:=λx=>Vaglrc.has r (Vaglrn.usedRules g x)) none];rfl
def RY(K:Frag)(b D:Addr)(H:Hp)(v:V)(u:Text×List Nat):Prop:=∃a t l,v=.ref a/\H a=some (.tup [t,.ref l])/\rG K H t u.1/\H l=some (.lst (cB u.2))/\l≠b/\l≠D
theorem RY.mono{b D:Addr}{H d:Hp}{v:V}{u:Text×List Nat}(t:bT H d)(k:∀l f,l≠b->l≠D->H l=some (.lst f)->d l=some (.lst f))(h:RY K b D H v u):RY K b D d v u:=by
 obtain⟨a,j,l,e,m,n,o,g,i⟩:=h;exact⟨a,j,l,e,t _ _ m,n.mono t,k _ _ g i o,g,i⟩
theorem F7(T:Txt K mg c):Run ["grammar","texts","using","uses","text","rules"] ["grammar","texts"] (uO K c) (Au K c):=by
 rintro vs H Q E ⟨v,t,g,O,rfl,hg,fg,⟨ta,ws,rfl,ht,hp⟩,ok,q⟩;refine⟨rfl,?_⟩;refine⟨_,rfl,λU y3 h1 h2 h3=>Xb hg fg h1 h2 h3 λsa n cv ra pa fm H1 s1 nw U1=>⟨rfl,?_⟩⟩;refine⟨small (j1 rfl),λD hD=>?_⟩;have sD:=aD (o:=.lst []) hD;have y0:H D=none:=s1.free hD;have x3:∀b∈U::sa::n::cv::ra::pa::fm,b≠D:=λb hb e=>by subst e;exact NH U1 b hb hD
 have hl:=hp.len;have y4:=ok.len;refine⟨_,rfl,ta,rfl,⟨_,eD.of ((s1.trans sD) _ _ ht)⟩,mx (K:=K) (a:=ta) (xs:=ws) (λi σ A=>∃(v4 v5:Option V) (TT:Text->Prop) (ks:List Text) (done:List Nat) (j:List V) (f:List (Text×List Nat)),σ=[some v,some (.ref ta),some (.ref U),some (.ref D),v4,v5]/\aZ H A/\Zz c K A U sa n cv ra pa fm g O i TT ks/\Lc g TT done/\A D=some (.lst j)/\Paired (RY K n D A) j f/\f.length<=i/\Vaglrn.coverOf g O []=f++Vaglrn.coverOf g (O.drop i) done)
  ⟨_,_,_,_,[],[],[],rfl,s1.trans sD,MY (EW sD U1),λr=>by simp,au,.nil,ak _,rfl⟩ (by rintro i σ A _ ⟨_,_,_,_,_,_,_,_,s,_⟩;exact eD.of (s _ _ ht)) ?_ ?_⟩
 ·rintro i x σ A hx ⟨v4,v5,TT,ks,done,j,f,rfl,s,G,w,B,C,x4,d⟩;obtain⟨Y,I,x5⟩:=hp.at hx;obtain⟨dx,y1⟩:=G.u.ins;have hi:=(ai.mp I).1;obtain⟨y,x6,Z⟩:=Pc fg.lhs (x:=Y) (l:=O.drop (i+1)) w;have x0:O.drop i=Y::O.drop (i+1):=by
   rw[fA hi];congr 1;rw[aB hi]at I;exact bR I
  rw[x0,Z,<-bN]at d;refine⟨_,rfl,U,dx,_,rfl,y1,rfl,_,rfl,Mv ok G fg I (x5.mono (aZ.tup s)) ?_⟩;rintro v' J b2 t2 G2 ⟨l,e,x1,hl2⟩;subst e;have M:∀a∈[U,sa,n,ra,pa],a∈U::sa::n::cv::ra::pa::fm:=λa ha=>by simp only[af,aS,cC]at ha⊢;rcases ha with rfl|rfl|rfl|rfl|rfl<;>simp
  have s2:aZ H J:=yg s (nw.sub M) b2;rw[<-mN]at hl2;have L:J D=some (.lst j):=b2 _ _ B λm=>x3 D (M D m) rfl
  have x7:A n≠none:=NH G.u n (by simp);have x8:l≠n:=λz=>by subst z;exact x7 x1
  have lD:l≠D:=λz=>by subst z;rw[B]at x1;cases x1
  have k2:∀l xs,l≠n->l≠D->A l=some (.lst xs)->J l=some (.lst xs):=λl xs e1 e2 e=>b2 _ _ e λm=>by
   have ut:=G.u;obtain⟨⟨dx,h1⟩,y2,⟨ss,⟨_,⟨h3,_⟩,_⟩,h4⟩,_,_⟩:=ut;obtain⟨_,⟨_,⟨h5,_⟩,_⟩,⟨_,⟨h6,_⟩,_⟩,_,_,_⟩:=y2;simp only[af,aS,cC]at m;rcases m with rfl|rfl|rfl|rfl|rfl
   ·rw[h1]at e;cases e
   ·rw[h3]at e;cases e
   ·exact e1 rfl
   ·rw[h5]at e;cases e
   ·rw[h6]at e;cases e
  have N:=Paired.jr C λ_ _ z=>RY.mono t2 k2 z
  refine⟨_,rfl,_,.inl ⟨_,eD.of hl2,rfl⟩,oI (λh=>?_) (λh=>?_)⟩
  ·have x2:ig g TT Y≠[]:=λz=>by rw[z]at h;cases h
   rw[ah x2]at d;have y5:=C.len;refine⟨_,rfl,.inl ⟨rfl,_,eD.of L⟩,_,rfl,_,rfl,small (j1 rfl),λp x9=>?_⟩;have s3:=aD (o:=.tup [x,.ref l]) x9;refine⟨D,j,_,rfl,rfl,s3 _ _ L,by rw[bu];omega,?_⟩;have t4:bT (upd J p (.tup [x,.ref l])) _:=jo (o:=.lst (j++[.ref p])) (s3 _ _ L);have k4:∀l xs,l≠n->l≠D->J l=some (.lst xs)->upd (upd J p (.tup [x,.ref l])) D (.lst (j++[.ref p])) l=some (.lst xs):=λl xs e1 e2 e=>by rw[aO e2];exact(aD x9) _ _ e
   have s4:aZ H (upd (upd J p (.tup [x,.ref l])) D (.lst (j++[.ref p]))):=λb o e=>by rw[aO (cZ e y0)];exact s3 _ _ (s2 _ _ e)
   have bD:∀b∈U::sa::n::cv::ra::pa::fm,∀o,J b=some o->upd (upd J p (.tup [x,.ref l])) D (.lst (j++[.ref p])) b=some o:=λb hb o e=>by rw[aO (x3 b hb)];exact s3 _ _ e
   refine⟨_,_,_,_,y,j++[.ref p],f++[(Y,ig g TT Y)],rfl,s4,⟨Pk G2.u bD ((aZ.tup s3).trans t4),G2.g,G2.t,G2.k⟩,x6,au,iE (Paired.jr N λ_ _ z=>RY.mono ((aZ.tup s3).trans t4) ?_ z) ⟨p,x,l,rfl,t4 _ _ au,x5.mono (aZ.tup s4),k4 l _ x8 lD hl2,x8,lD⟩,by simp;omega,d⟩;intro l' xs e1 e2 e;rw[aO e2];exact s3 _ _ e
  ·have x2:ig g TT Y=[]:=by
    cases e:ig g TT Y with
    |nil=>rfl
    |cons _ _=>rw[e]at h;exact absurd rfl h
   rw[az x2,bQ]at d;exact⟨_,_,_,_,y,j,f,rfl,s2,G2,x6,L,N,by omega,d⟩
 ·rintro σ A ⟨v4,v5,TT,ks,done,j,f,rfl,s,G,w,B,C,x4,d⟩;rw[hl,ka]at d;have e:Vaglrn.coverOf g O []=f:=by rw[d];simp[Vaglrn.coverOf]
  refine⟨_,rfl,q _ A s ⟨D,j,rfl,B,?_⟩⟩;rw[e];exact Paired.jr C λ_ _ ⟨a,t,l,e,h1,h2,h3,_,_⟩=>⟨a,t,l,e,h1,h2,h3⟩
end
section
variable{K:Frag}{mg:Str->Option Value}{c:Cl}
theorem Mo(T:Txt K mg c):Run ["numbers"] ["numbers"] (kT K c) (FX K c):=by
 rintro m H Q E ⟨l,a,rfl,g,n,q⟩;refine⟨rfl,?_⟩;refine⟨_,rfl,l,cB a,rfl,g,small (j1 rfl),λh b=>?_⟩;have d:aZ H (upd H h (.lst [.int ((cB a).length:Nat)])):=aD b;refine⟨_,rfl,l,cB a,rfl,g.imp (λz=>d.seq z) (λz=>kF.same d z),λj e=>?_⟩;have i:=aD (o:=.lst (cB a)) e;refine⟨h,j,_,_,rfl,rfl,i _ _ au,au,by rw[dU,bu];show 1+_<=_;omega,λk f=>q _ _ ((d.trans i).trans (aD f)) ⟨k,rfl,?_⟩⟩;rw[au,<-mN,dU];rfl
theorem yE(T:Txt K mg c):Run ["signs","most"] ["signs","most"] (gd K c) (r9 K c):=by
 rintro k H Q E ⟨l,m,d,rfl,g,i,q⟩;refine⟨rfl,?_⟩;have b:=Je d m;refine⟨_,rfl,_,_,rfl,rfl,_,rfl,?_⟩;refine oI (λh=>?_) (λh=>?_)
 ·have j:0<=m:=bU h;refine⟨_,_,rfl,rfl,?_⟩;by_cases f:m<=8
  ·refine⟨true,cV V.bl (aF f),rj ?_⟩;have em:m=((m.toNat:Nat):Int):=by omega
   refine⟨_,rfl,_,rfl,l,m.toNat,d,by rw[<-em];rfl,g,by omega,i,_,rfl,oI (λa=>?_) (λa=>?_)⟩
   ·have a:=bU a;rcases b with⟨z,_⟩|⟨_,_,e⟩|⟨_,z,_⟩
    ·omega
    ·rw[e]at q;exact q
    ·exact absurd a z
   ·have a:¬300<(upTo d m.toNat).length:=λz=>a (aF z)
    rcases b with⟨z,_⟩|⟨_,z,_⟩|⟨_,_,e⟩
    ·omega
    ·exact absurd z a
    ·rw[e]at q;exact q
  ·refine⟨false,cV V.bl (aM f),pM ?_⟩;rcases b with⟨_,e⟩|⟨z,_⟩|⟨z,_⟩
   ·rw[e]at q;exact q
   ·omega
   ·omega
 ·have j:¬0<=m:=λz=>h (aF z)
  refine⟨false,rfl,pM ?_⟩;rcases b with⟨_,e⟩|⟨z,_⟩|⟨z,_⟩
  ·rw[e]at q;exact q
  ·omega
  ·omega
theorem Ey(T:Txt K mg c):Run ["text"] ["text"] (mD K c) (yq K c):=by
 rintro s H Q E ⟨v,o,rfl,i,a,q⟩;refine⟨rfl,?_⟩;cases o with
 |none=>
  obtain rfl:v=.non:=i;exact⟨_,rfl,true,by simp,pM ⟨small (j1 rfl),λp j=>q _ _ (aD j) (lQ (ns:=[0]) j)⟩⟩
 |some x=>
  obtain⟨l,rfl,m⟩:rG K H v x:=i;have t:=a x rfl;refine⟨_,rfl,false,by simp,rj ?_⟩;refine⟨small (j1 rfl),λk f=>?_⟩;have g:aZ H (upd H k (.lst [.int 1])):=aD f;refine⟨_,rfl,l,x,rfl,.inr (m.mono (aZ.tup g)).sq,by omega,?_⟩;rintro u w h ⟨b,e,n⟩;subst e;refine⟨k,b,_,_,rfl,rfl,h _ _ au,n,by rw[iF,oE,bu];show 1+(x.length+1)<=_;omega,λr d=>q _ _ ((g.trans h).trans (aD d)) ⟨r,rfl,(g.trans h).free d,au⟩⟩
theorem UC(T:Txt K mg c):Run ["pair","reader"] ["pair","reader"] (Py K c) (QK K c):=by
 rintro N H Q E ⟨a,O,s,U,l,ns,place,cc,t,rfl,j,D,w,f,e,m,q⟩;refine⟨rfl,?_⟩;obtain⟨rfl,rfl⟩:=Qp rfl e;obtain⟨g,Y,Z,lb,y,z,hl,hr,G,d⟩:=id j;refine⟨_,rfl,a,c.Pair,g,_,_,rfl,z,T.cO,T.iB,vZ _ _ _,!y.isEmpty,.inl ⟨y,eD.of G,rfl⟩,?_⟩;cases b:s.past with
 |nil=>
  have n:VaglrnNeutral.step s [[10]]=(s,[-11]):=by
   show Vaglrn.step s .undo=_;unfold Vaglrn.step;rw[b]
  rw[n]at q;rw[b]at d;cases d;refine pM ⟨small (j1 rfl),λp k=>?_⟩;exact q _ _ place (uC k) (j.same (aD k)) (w.same (aD k)) f.1 rfl (lQ (ns:=[-11]) k)
 |cons h A=>
  have n:VaglrnNeutral.step s [[10]]=({s with left:=h,past:=A},[0,(h.nons:Int),(h.rules.length:Int)]):=by
   show Vaglrn.step s .undo=_;unfold Vaglrn.step;rw[b]
  rw[n]at q;rw[b]at d;cases d with
  |cons h1 h2=>
   refine rj ?_;refine⟨_,rfl,a,g,_,rfl,z,JM (by decide) (by decide) (by decide),a,s,h,A,rfl,j,b,λH1 o B=>?_⟩;obtain⟨r,I,r1,J,L,i,hl1,_⟩:=id B;refine⟨_,rfl,a,c.Pair,r,_,_,rfl,i,T.cO,T.cn,fb _ _ _,I,h,rfl,hl1,λv' H2 u M=>?_⟩;have v:=w.but o (j.Bc T) (by simpa using m.symm);exact q _ _ place ((o.mono (by simp)).trans u.but) (B.same u) (v.same u) f.1 rfl (M.but o λx C=>by simp at C;subst C;rw[i];simp)
theorem Tc(T:Txt K mg c):Run ["pair","reader"] ["pair","reader"] (Qa K c) (Pu K c):=by
 rintro B H Q E ⟨a,C,s,D,l,G,place,cc,t,rfl,e,f,r,g,b,h,q⟩;refine⟨rfl,?_⟩;obtain⟨rfl,rfl⟩:=Qp rfl b;obtain⟨i,I,J,L,M,u,N,O,U,v⟩:=id e;refine⟨_,rfl,a,i,_,rfl,u,JM (by decide) (by decide) (by decide),a,s,rfl,e,f.len,λY j o=>?_⟩;obtain⟨k,w,Z,y,z,d,hl1,_⟩:=id o;refine⟨_,rfl,a,c.Pair,k,_,_,rfl,d,T.cO,T.cn,fb _ _ _,w,s.right,rfl,hl1,λv' H2 m A=>?_⟩;have n:=r.but j (e.Bc T) (by simpa using h.symm);exact q _ _ place ((j.mono (by simp)).trans m.but) (o.same m) (n.same m) g.1 rfl (A.but j λx p=>by simp at p;subst p;rw[d];simp)
theorem LS(T:Txt K mg c):Run ["pair","reader","of_left","of_right"] ["pair","reader"] (F1 K c) (GV K c):=by
 rintro vs H Q E ⟨a,rd,s,dx,l,ns,place,cc,t,rfl,v,b,I,m,f,J,q⟩;refine⟨rfl,?_⟩;obtain⟨rfl,rfl⟩:=Qp rfl f;obtain⟨d,w,x,lb,gs,k,y,z,hb,L⟩:=id v;have n1:=E7 s.left s.right;have n2:=E7 s.right s.left;have m1:=b.left.len;have m2:=b.right.len;refine⟨_,rfl,a,c.Pair,d,_,_,rfl,k,T.cO,T.cn,fb _ _ _,_,rfl,a,c.Pair,d,_,_,rfl,k,T.cO,T.fC,mY _ _ _,w,x,s.left,s.right,rfl,y,z,b.left,b.right,?_⟩;rintro v1 H1 h ⟨M,e1,A⟩;subst e1;refine⟨_,rfl,a,c.Pair,d,_,_,rfl,h _ _ k,T.cO,T.fC,mY _ _ _,_,rfl,a,c.Pair,d,_,_,rfl,h _ _ k,T.cO,T.cn,fb _ _ _,x,w,s.right,s.left,rfl,z.same h,y.same h,b.right,b.left,?_⟩;rintro v2 H2 B ⟨N,e2,C⟩;subst e2;rw[<-mN]at A C;refine⟨small (j1 rfl),λO n=>?_⟩;have p:=aD (o:=.lst [.int 0]) n;refine⟨_,rfl,M,_,rfl,.inl (eD.of ((B.trans p) _ _ A)),by omega,?_⟩;rintro v4 H4 r ⟨U,Y,Z⟩;subst Y;refine⟨O,U,_,_,rfl,rfl,r _ _ au,Z,by rw[iF,oE,bu];show 1+(_+1)<=_;omega,λp5 u=>?_⟩;have D:=aD (o:=.lst ([.int 0]++c4 (Vaglrn.toInts ((Vaglrn.newRules s.left s.right).length::Vaglrn.newRules s.left s.right)))) u;refine⟨_,rfl,N,_,rfl,.inl (eD.of (((p.trans r).trans D) _ _ C)),by omega,?_⟩;rintro v6 H6 G ⟨b6,e6,h6⟩;subst e6;refine⟨p5,b6,_,_,rfl,rfl,G _ _ au,h6,by simp only[ay,iF,oE,aG,fS];rw[bu];omega,λp7 i=>?_⟩;have j:=(((((h.trans B).trans p).trans r).trans D).trans G);have g:=j.trans (aD (o:=.lst ([.int 0]++c4 (Vaglrn.toInts ((Vaglrn.newRules s.left s.right).length::Vaglrn.newRules s.left s.right))++c4 (Vaglrn.toInts ((Vaglrn.newRules s.right s.left).length::Vaglrn.newRules s.right s.left)))) i);refine q _ _ place g.but (v.same g) (I.same g) m.1 rfl ⟨p7,rfl,j.free i,?_⟩;rw[au];have e:c4 (0::Vaglrn.toInts ((Vaglrn.newRules s.left s.right).length::Vaglrn.newRules s.left s.right++((Vaglrn.newRules s.right s.left).length::Vaglrn.newRules s.right s.left)))=[.int 0]++c4 (Vaglrn.toInts ((Vaglrn.newRules s.left s.right).length::Vaglrn.newRules s.left s.right))++c4 (Vaglrn.toInts ((Vaglrn.newRules s.right s.left).length::Vaglrn.newRules s.right s.left)):=by
  rw[wc,bN,<-ints_app];rfl
 rw[<-e];rfl
theorem WC(T:Txt K mg c):Run ["pair","reader","row","rule"] ["pair","reader"] (Vk K c) (UJ K c):=by
 rintro vs H Q E ⟨a,i,s,x,l,ns,place,cc,t,rfl,hP,f,N,x1,j,y,q⟩;refine⟨rfl,?_⟩;obtain⟨m,w,hd,h0,hm,rfl,rfl⟩:=W6 rfl j;obtain⟨g1,g2,g3,g4,u,d,h⟩:=za T hP N y hd h0 hm;refine⟨_,rfl,i,x,_,rfl,N.1,BW,i,x,l,ns,place,m.toNat,rfl,N,g1,g2,λo U=>?_⟩;rw[g4];have A:(upd H i (.ins c.aL x (rS (.ref l) (place+1+m.toNat)))) o=none:=by
  rw[aO (λz=>by subst z;rw[N.1]at U;cases U)];exact U
 generalize upd H i (.ins c.aL x (rS (.ref l) (place+1+m.toNat)))=H0 at u d h A⊢;have Y:=aD (o:=.lst (c4 (w.take m.toNat))) A;replace u:=u.trans (Y.but (as:=[a,i]));replace d:=d.same Y;replace h:=h.same Y;have O:eD K (upd H0 o (.lst (c4 (w.take m.toNat)))) o (c4 (w.take m.toNat)):=eD.of au;generalize upd H0 o (.lst (c4 (w.take m.toNat)))=Z at u d h O⊢;generalize w.take m.toNat=row at O q⊢;have g:∀B k,jq [a,i] Z k->lB c k a (Vaglrn.adding s row).1->nZ K c k i x l ns (place+1+m.toNat)->js Z k B (Vaglrn.adding s row).2->Q B k:=λB k b p cr ls=>q B k _ (u.trans b) p cr g2 g3 (ls.back u d h)
 clear q;unfold Vaglrn.adding at g;obtain⟨C,l',r',lb,gs,ha,⟨ga,D,gr,rfl,G,x0⟩,hr,hb,x2⟩:=id d;have hl:f6 c Z (.ref ga) s.left:=⟨ga,D,gr,rfl,G,x0⟩;refine⟨_,rfl,o,row,rfl,O,_,rfl,?_⟩;cases hn:Vaglrn.negative row with
 |true=>
  rw[hn]at g;refine⟨small (j1 rfl),λp n=>?_⟩;exact g _ _ (uC n) (d.same (aD n)) (h.same (aD n)) (lQ (ns:=[-1]) n)
 |false=>
  rw[hn,ah aQ]at g;have nn:=vQ hn;have er:Bd row s.left.nons=Vaglrn.readRule s.left.nons (Vaglrn.toNats row):=RE nn f.left.pos;rw[<-er]at g;refine⟨_,rfl,_,rfl,a,c.Pair,C,_,_,rfl,ha,T.cO,T.cn,fb _ _ _,ga,c.Grammar,D,_,_,rfl,G,T.b_,T.bo,uQ _ _,o,row,(s.left.nons:Int),rfl,O,(by have :=f.left.pos;omega),λv H2 I r=>?_⟩;cases J:Bd row s.left.nons with
  |none=>
   rw[J]at g r;obtain rfl:v=.non:=r;refine⟨_,rfl,true,by simp,pM ⟨small (j1 rfl),λp n=>?_⟩⟩;have t2:=I.trans (aD (o:=.lst (c4 [-2])) n);exact g _ _ t2.but (d.same t2) (h.same t2) ((lQ (ns:=[-2]) n).same I)
  |some ru=>
   rw[J]at g r;have r:i3 H2 v ru:=r;have L:v≠.non:=λz=>by obtain⟨_,_,e,_⟩:=r;rw[z]at e;cases e
   refine⟨_,rfl,false,by simp[L],rj ?_⟩;refine⟨_,rfl,_,rfl,a,c.Pair,C,_,_,rfl,I _ _ ha,T.cO,T.cn,fb _ _ _,_,rfl,_,v,s.left,ru,rfl,hl.same I,f.left,r,λv3 H3 s3 h3=>?_⟩;have M:=I.trans s3;refine⟨a,v3,s,_,rfl,d.same M,h3,f.len,λB H4 b4 P4 L4=>?_⟩;exact g _ _ (M.but.trans (b4.mono (by simp))) P4 ((h.same M).but b4 ((d.same M).Bc T) (by simpa using y.symm)) (L4.same M)
end
section
variable{K:Frag}{mg:Str->Option Value}{c:Cl}
theorem Cd:∀a:List Int,Paired (λ(v:V) (n:Int)=>v=.int n) (c4 a) a
 |[]=>.nil
 |n::a=>.cons rfl (Cd a)
theorem QU(row:List Int):((row.map λn:Int=>decide (0<=n)&&decide (n<=255)).all id)= !(row.any λn=>decide (n<0)||decide (255<n)):=by
 induction row with
 |nil=>rfl
 |cons n row a=>
  rw[bf,kC,ic,a,Bool.not_or];congr 1;show(decide (0<=n)&&decide (n<=255))=_;apply dJ.mpr;simp
theorem R7(T:Txt K mg c):Run ["pair","reader","side","text","byte"] ["pair","reader"] (MG K c) (MV K c):=by
 rintro vs H Q E ⟨a,u,s,G,l,ns,place,cc,t,rfl,hP,x0,hC,x3,I,x1,q⟩;refine⟨rfl,?_⟩;obtain⟨k,m,w,hd,h0,hm,rfl,rfl⟩:=W2 rfl I;obtain⟨f1,f2,f3,b0,P0,C0⟩:=i5 T hP hC x1 hd;refine⟨_,rfl,u,G,_,rfl,hC.1,qG,u,G,l,ns,place,k,rfl,hC,f1,?_⟩;generalize upd H u (.ins c.aL G (rS (.ref l) (place+1)))=H0 at b0 P0 C0⊢;obtain⟨g1,g2,g3,g4,A,J,U⟩:=za T P0 C0 x1 f2 h0 hm;refine⟨_,rfl,u,G,_,rfl,C0.1,BW,u,G,l,ns,place+1,m.toNat,rfl,C0,g1,g2,λo ho=>?_⟩;rw[g4];have x2:(upd H0 u (.ins c.aL G (rS (.ref l) (place+1+1+m.toNat)))) o=none:=by
  rw[aO (λz=>by subst z;rw[C0.1]at ho;cases ho)];exact ho
 replace A:=b0.trans A;generalize upd H0 u (.ins c.aL G (rS (.ref l) (place+1+1+m.toNat)))=HH at A J U x2⊢;have s1:=aD (o:=.lst (c4 (w.take m.toNat))) x2;replace A:=A.trans (s1.but (as:=[a,u]));replace J:=J.same s1;replace U:=U.same s1;have Y:eD K (upd HH o (.lst (c4 (w.take m.toNat)))) o (c4 (w.take m.toNat)):=eD.of au;generalize upd HH o (.lst (c4 (w.take m.toNat)))=L at A J U Y⊢;have B:(w.take m.toNat).length<sizeLine:=by
  have :=x3.2;rw[cq,bu];omega
 generalize w.take m.toNat=row at Y q B⊢;have d:∀M f,aZ L f->js L f M (Vaglrn.readsAnswer s k row)->Q M f:=λM f b ls=>q M f _ (A.trans b.but) (J.same b) (U.same b) g2 g3 (ls.back A J U)
 clear q;unfold Vaglrn.readsAnswer at d;have no:∀{i:Int} {Z:Hp},aZ L Z->(∀M f,aZ L f->js L f M [i]->Q M f)->∀p,Z p=none->Q (.ref p) (upd Z p (.lst (c4 [i]))):=λ{i Z} g q p C=>q _ _ (g.trans (aD C)) ((lQ C).same g)
 refine⟨_,rfl,o,rfl,⟨_,Y⟩,λD hD=>?_⟩;refine FV (At:=λ(v:V) (n:Int)=>v=.int n) (Bt:=λ_ y b=>y=V.bl b) (λn:Int=>decide (0<=n)&&decide (n<=255)) (λ_ _ _ _ _ z=>z) (λx a a' z z'=>by rw[z]at z';injection z') hD Y (Cd row) (by rw[iF];exact B) (λx n _ hx Z g Ny kk=>?_) (λZ x7 g x4 x5=>?_)
 ·subst hx;refine⟨rfl,_,rfl,_,_,rfl,rfl,_,rfl,?_⟩;refine oI (λh=>⟨_,_,rfl,rfl,kk _ _ (aZ.refl _) ?_⟩) (λh=>kk _ _ (aZ.refl _) ?_)
  ·rw[h,fY]
  ·rw[cY.mpr h,gM]
 obtain rfl:=yW x5;refine⟨D,_,rfl,eD.of x4,_,rfl,?_⟩;rw[QU];refine oI (λh=>?_) (λh=>?_)
 ·rw[Bool.not_not]at h;rw[az h]at d;exact⟨small (j1 rfl),no g d⟩
 rw[Bool.not_not]at h;rw[ah h]at d;have nn:∀x∈row,0<=x:=λx hx=>by
  have :=λz=>h (dP.mpr ⟨x,hx,z⟩)
  simp at this;omega
 refine⟨_,rfl,o,_,rfl,.inl (g.seq Y),_,_,rfl,rfl,_,rfl,?_⟩;rw[iF];refine oI (λj=>?_) (λj=>?_)
 ·have j:(24:Int)<(row.length:Int):=bU j;rw[az (show Vaglrc.TEXT<row.length by show 24<_;omega)]at d;exact⟨small (j1 rfl),no g d⟩
 have x6:¬(24:Int)<(row.length:Int):=λz=>j (aF z)
 rw[ah (show¬Vaglrc.TEXT<row.length by show¬24<_;omega)]at d;refine⟨_,rfl,k,rfl,λH3 s3=>⟨_,rfl,?_⟩⟩;by_cases N:k=0\/k=1
 ·rw[aF N];refine rj ?_;have hs:Vaglrn.side s k=some (if k=0 then s.left else s.right):=by
   unfold Vaglrn.side;rcases N with h|h<;>subst h<;>rfl
  have hf:mr (if k=0 then s.left else s.right):=by
   by_cases h:k=0
   ·rw[az h];exact x0.left
   ·rw[ah h];exact x0.right
  rw[hs]at d;have O:=g.trans s3;refine⟨_,rfl,_,rfl,a,k,s,rfl,J.same O,λv hv=>?_⟩;refine⟨_,rfl,o,_,rfl,O.seq Y,λt ht=>?_⟩;have s4:=aD (o:=.tup (c4 row)) ht;refine⟨v,_,_,Vaglrn.toNats row,rfl,hv.same s4,hf,⟨t,rfl,.inl (by rw[au,DJ nn])⟩,(by unfold Vaglrn.toNats;rw[aP];omega),λH5 s5=>⟨_,rfl,?_⟩⟩;have r:=(O.trans s4).trans s5;refine oI (λhr=>?_) (λhr=>?_)
  ·refine⟨small (j1 rfl),λp C=>?_⟩;have e:(if Vaglrc.reads (if k=0 then s.left else s.right) (Vaglrn.toNats row)=true then(1:Int)else 0)=1:=az hr;refine d _ _ (r.trans (aD C)) ?_;show js L _ _ [0,_];rw[e];exact(lQ (ns:=[0,1]) C).same r
  ·refine⟨small (j1 rfl),λp C=>?_⟩;have e:(if Vaglrc.reads (if k=0 then s.left else s.right) (Vaglrn.toNats row)=true then(1:Int)else 0)=0:=ah hr;refine d _ _ (r.trans (aD C)) ?_;show js L _ _ [0,_];rw[e];exact(lQ (ns:=[0,0]) C).same r
 ·rw[aM N];refine pM ?_;have e:Vaglrn.side s k=none:=by
   unfold Vaglrn.side;rw[ah (by simp;omega),ah (by simp;omega)]
  rw[e]at d;exact⟨small (j1 rfl),no (g.trans s3) d⟩
end
section
variable{K:Frag}{mg:Str->Option Value}{c:Cl}
theorem Ng(T:Txt K mg c):Run ["pair","reader","differs","most","signs","refusal"] ["pair","reader","differs"] (qE K c) (Fq K c):=by
 rintro vs H Q E ⟨a,t,u,s,w,l,ns,place,m,D,rfl,hP,i,G,hm,N,hD,q⟩;refine⟨rfl,?_⟩;refine⟨_,rfl,t,w,_,rfl,G.1,qG,t,w,l,ns,place,m,rfl,G,hm,?_⟩;have I:jq [t] H (upd H t (.ins c.aL w (rS (.ref l) (place+1)))):=eY (by simp);have P1:=hP.but I (G.Bc T) (by simpa using N);have O:nZ K c (upd H t (.ins c.aL w (rS (.ref l) (place+1)))) t w l ns (place+1):=G.put;generalize upd H t (.ins c.aL w (rS (.ref l) (place+1)))=H1 at I P1 O⊢;have y:∀J A,aZ H1 A->js H1 A J (Vaglrn.onTexts (Vaglrn.jointSigns s.left s.right) m λts=>Vaglrn.shownText (ts.find? λx=>D (Vaglrc.reads s.left x) (Vaglrc.reads s.right x)))->Q J A:=λJ A b n=>q J A (I.trans b.but) (O.same b) (n.but I λx L=>by simp at L;subst L;rw[O.1];simp)
 clear q;rw[<-XH,FI]at y;obtain⟨j,l',r',lb,gs,M,hl,hr,hb,x0⟩:=id P1;refine⟨_,rfl,a,c.Pair,j,_,_,rfl,M,T.cO,T.cn,fb _ _ _,_,rfl,a,c.Pair,j,_,_,rfl,M,T.cO,T.fC,mY _ _ _,small (j1 rfl),λp hp=>?_⟩;have U:=aD (o:=.lst [l',r']) hp;refine⟨_,[s.left,s.right],rfl,⟨p,_,rfl,au,.cons (hl.same U) (.cons (hr.same U) .nil)⟩,λg Y=>?_,ak _,λv3 H3 s3 ⟨sl,e,k⟩ d=>?_⟩
 ·rcases af.mp Y with e|Y
  ·rw[e];exact i.left
  ·rw[aE.mp Y];exact i.right
 subst e;rw[<-mN]at k;generalize sg [s.left,s.right]=signs at k d y;have f:=U.trans s3;refine⟨_,rfl,_,rfl,sl,m,signs,rfl,eD.of k,d,?_⟩;refine⟨_,rfl,_,_,rfl,rfl,_,rfl,oI (λh=>?_) (λh=>?_)⟩
 ·have h:=bU h;rw[az h]at y;exact⟨_,rfl,small (j1 rfl),λp5 B=>y _ _ (f.trans (aD B)) ((lQ (ns:=[refusal signs m]) B).same f)⟩
 ·have h:¬refusal signs m<0:=λz=>h (aF z)
  rw[ah h]at y;obtain⟨h0,h8,r⟩:=NC h;have em:m=((m.toNat:Nat):Int):=by omega
  have ok:=JE (signs:=signs) (most:=m.toNat) (by omega) r;refine⟨_,rfl,a,c.Pair,j,_,_,rfl,f _ _ M,T.cO,T.cn,fb _ _ _,_,rfl,a,c.Pair,j,_,_,rfl,f _ _ M,T.cO,T.fC,mY _ _ _,_,rfl,_,rfl,sl,m.toNat,signs,by rw[<-em];rfl,eD.of k,by omega,d,r,λv4 H4 s4 Z=>?_⟩;have v:=f.trans s4;refine⟨_,rfl,l',r',v4,u,s.left,s.right,upTo signs m.toNat,D,rfl,hl.same v,hr.same v,i.left,i.right,Z,ok,hD,λv5 H5 s5 ho=>?_⟩;have C:=v.trans s5;exact⟨v5,_,rfl,ho,λx L=>by have :=ok.short x (fz L);omega,λv6 H6 s6 n6=>y _ _ (C.trans s6) (n6.same C)⟩
theorem Mt(T:Txt K mg c){p:Int}{u:Addr}{D:Bool->Bool->Bool}(o:PyVaglrn.shape p=some (1,0))(d:∀s x,VaglrnNeutral.step s [[p,x]]=(s,Vaglrn.onTexts (Vaglrn.jointSigns s.left s.right) x λr=>Vaglrn.shownText (r.find? λx=>D (Vaglrc.reads s.left x) (Vaglrc.reads s.right x))))(v:KN c u D)
 {H:Hp}{Q:VK}{E:XK}{j:List V}(h:Handler K c p j H Q E):∃a f:Addr,j=[.ref a,.ref f]/\qE K c [.ref a,.ref f,.ref u] H Q E:=by
 obtain⟨a,f,s,w,l,y,place,cc,t,rfl,k,i,m,z,e,g,q⟩:=h;obtain⟨x,A,rfl⟩:=M7 o e;obtain⟨B,G,I⟩:=Fw A;rw[d]at q;exact⟨a,f,rfl,a,f,u,s,w,l,y,place,x,D,rfl,k,i,m,B,g,v,λJ L b C n=>q J L (place+1) (b.mono (by simp)) (k.but b (m.Bc T) (by simpa using g)) C I G n⟩
theorem OP(T:Txt K mg c):Run ["pair","reader"] ["pair","reader"] (Jq K c) (ID K c):=by
 intro d H Q E h;obtain⟨a,e,rfl,k⟩:=Mt T (u:=c.qW) (D:=λa b=>a&& !b) rfl (λ_ _=>rfl) (.inl ⟨rfl,rfl⟩) h;exact⟨rfl,_,rfl,_,rfl,k⟩
theorem SR(T:Txt K mg c):Run ["pair","reader"] ["pair","reader"] (P9 K c) (QI K c):=by
 intro d H Q E h;obtain⟨a,e,rfl,k⟩:=Mt T (u:=c.ve) (D:=λa b=> !(a==b)) rfl (λ_ _=>rfl) (.inr ⟨rfl,rfl⟩) h;exact⟨rfl,_,rfl,_,rfl,k⟩
theorem Kj(T:Txt K mg c):Run ["pair","reader","rule","most","signs","refusal"] ["pair","reader"] (DI K c) (DM K c):=by
 rintro vs H Q E ⟨a,w,s,y,l,ns,place,cc,t,rfl,hP,A,Y,x1,u,B,q⟩;refine⟨rfl,?_⟩;obtain⟨r,m,hd,rfl⟩:=Zg rfl u;obtain⟨f1,f2,f3,b0,P0,L⟩:=i5 T hP Y B hd;refine⟨_,rfl,w,y,_,rfl,Y.1,qG,w,y,l,ns,place,r,rfl,Y,f1,?_⟩;generalize upd H w (.ins c.aL y (rS (.ref l) (place+1)))=H0 at b0 P0 L⊢;obtain⟨g1,g2,g3,C,M,Z⟩:=i5 T P0 L B f2;refine⟨_,rfl,w,y,_,rfl,L.1,qG,w,y,l,ns,place+1,m,rfl,L,g1,?_⟩;replace C:=b0.trans C;generalize upd H0 w (.ins c.aL y (rS (.ref l) (place+1+1)))=H1 at C M Z⊢;have j:∀N D,aZ H1 D->js H1 D N (if r<0 then[-8]else if(s.left.rules.length:Int)<=r then[-8]else Vaglrn.onTexts (Vaglrh.signsOf s.left) m (λl=>Vaglrn.shownText (Vaglrn.sentenceFor s.left r.toNat l)))->Q N D:=λN D b n=>q N D (place+1+1) (C.trans b.but) (M.same b) (Z.same b) g3 g2 (n.back C M Z)
 clear q;obtain⟨v,l',r',lb,gs,ha,hl,hr,hb,x2⟩:=id M;refine⟨_,rfl,_,rfl,a,c.Pair,v,_,_,rfl,ha,T.cO,T.cn,fb _ _ _,r,_,s.left,rfl,hl,_,rfl,?_⟩;by_cases O:0<=r/\r<(s.left.rules.length:Int)
 ·rw[aF O];refine rj ?_;rw[ah (by omega),ah (by omega),<-Sx,FI]at j;refine⟨_,rfl,a,c.Pair,v,_,_,rfl,ha,T.cO,T.cn,fb _ _ _,small (j1 rfl),λp U=>?_⟩;have s2:=aD (o:=.lst [l']) U;refine⟨_,[s.left],rfl,⟨p,_,rfl,au,.cons (hl.same s2) .nil⟩,λg hg=>by rw[aE.mp hg];exact A.left,(by show 1<=2;decide),?_⟩;rintro v3 H3 s3 ⟨sl,e,f⟩ d;subst e;rw[<-mN]at f;generalize sg [s.left]=signs at f d j;have i:=s2.trans s3;refine⟨_,rfl,_,rfl,sl,m,signs,rfl,eD.of f,d,?_⟩;refine⟨_,rfl,_,_,rfl,rfl,_,rfl,oI (λh=>?_) (λh=>?_)⟩
  ·have h:=bU h;rw[az h]at j;exact⟨_,rfl,small (j1 rfl),λp5 G=>j _ _ (i.trans (aD G)) ((lQ (ns:=[refusal signs m]) G).same i)⟩
  ·have h:¬refusal signs m<0:=λz=>h (aF z)
   rw[ah h]at j;obtain⟨h0,h8,k⟩:=NC h;have em:m=((m.toNat:Nat):Int):=by omega
   have er:r=((r.toNat:Nat):Int):=by omega
   have ok:=JE (signs:=signs) (most:=m.toNat) (by omega) k;refine⟨_,rfl,a,c.Pair,v,_,_,rfl,i _ _ ha,T.cO,T.cn,fb _ _ _,_,rfl,_,rfl,_,rfl,sl,m.toNat,signs,by rw[<-em];rfl,eD.of f,by omega,d,k,λv4 H4 s4 x0=>?_⟩;have I:=i.trans s4;refine⟨l',v4,s.left,upTo signs m.toNat,r.toNat,by rw[<-er];rfl,hl.same I,A.left,x0,ok,λv5 H5 s5 ho=>?_⟩;have J:=I.trans s5;exact⟨v5,_,rfl,ho,λx O=>by have :=ok.short x (fz O);omega,λv6 H6 s6 n6=>j _ _ (J.trans s6) (n6.same J)⟩
 ·rw[aM O];refine pM ?_;have e:(if r<0 then[-8]else if(s.left.rules.length:Int)<=r then[-8]else Vaglrn.onTexts (Vaglrh.signsOf s.left) m (λl=>Vaglrn.shownText (Vaglrn.sentenceFor s.left r.toNat l)):Vaglrn.Answer)=[-8]:=by
   by_cases h0:r<0
   ·rw[az h0]
   ·rw[ah h0,az (by omega)]
  rw[e]at j;exact⟨small (j1 rfl),λp U=>j _ _ (aD U) (lQ (ns:=[-8]) U)⟩
def ZO(p:Text×List Nat):List Nat:=p.1.length::(p.1++(p.2.length::p.2))
theorem Rx(T:Txt K mg c):Run ["pair","reader","most","signs","refusal","uses","answer","text","rules"] ["pair","reader"] (LD K c) (Nf K c):=by
 rintro vs H Q E ⟨a,Y,s,dx,l,ns,place,cc,t,rfl,hP,y,hC,x9,A,x0,q⟩;refine⟨rfl,?_⟩;obtain⟨m,hd,rfl⟩:=M7 rfl A;obtain⟨g1,g2,g3,b1,Z,C1⟩:=i5 T hP hC x0 hd;refine⟨_,rfl,Y,dx,_,rfl,hC.1,qG,Y,dx,l,ns,place,m,rfl,hC,g1,?_⟩;generalize upd H Y (.ins c.aL dx (rS (.ref l) (place+1)))=H1 at b1 Z C1⊢;have B:∀v' d,aZ H1 d->js H1 d v' (Vaglrn.onTexts (Vaglrh.signsOf s.left) m (λl=>0::Vaglrn.toInts (Vaglrn.shownCover (Vaglrn.coverOf s.left l []))))->Q v' d:=λv' d b n=>q v' d (place+1) (b1.trans b.but) (Z.same b) (C1.same b) g3 g2 (n.back b1 Z C1)
 clear q;obtain⟨I,l',r',lb,gs,ha,hl,hr,hb,y0⟩:=id Z;rw[<-Sx,FI]at B;refine⟨_,rfl,a,c.Pair,I,_,_,rfl,ha,T.cO,T.cn,fb _ _ _,small (j1 rfl),λp hp=>?_⟩;have s2:=aD (o:=.lst [l']) hp;refine⟨_,[s.left],rfl,⟨p,_,rfl,au,.cons (hl.same s2) .nil⟩,λg hg=>by rw[aE.mp hg];exact y.left,(by show 1<=2;decide),?_⟩;rintro v3 H3 s3 ⟨sl,e,k⟩ f;subst e;rw[<-mN]at k;generalize sg [s.left]=signs at k f B;have r:=s2.trans s3;refine⟨_,rfl,_,rfl,sl,m,signs,rfl,eD.of k,f,?_⟩;refine⟨_,rfl,_,_,rfl,rfl,_,rfl,oI (λh=>?_) (λh=>?_)⟩
 ·have h:=bU h;rw[az h]at B;exact⟨_,rfl,small (j1 rfl),λp5 J=>B _ _ (r.trans (aD J)) ((lQ (ns:=[refusal signs m]) J).same r)⟩
 have h:¬refusal signs m<0:=λz=>h (aF z)
 rw[ah h]at B;obtain⟨h0,h8,v⟩:=NC h;have em:m=((m.toNat:Nat):Int):=by omega
 have ok:=JE (signs:=signs) (most:=m.toNat) (by omega) v;refine⟨_,rfl,a,c.Pair,I,_,_,rfl,r _ _ ha,T.cO,T.cn,fb _ _ _,_,rfl,_,rfl,sl,m.toNat,signs,by rw[<-em];rfl,eD.of k,by omega,f,v,λv4 H4 s4 x1=>?_⟩;have L:=r.trans s4;refine⟨l',v4,s.left,upTo signs m.toNat,rfl,hl.same L,y.left,x1,ok,?_⟩;rintro v5 H5 s5 ⟨ul,us,e,C,G⟩;subst e;have M:=L.trans s5;obtain⟨c1,c2⟩:=yS s.left (upTo signs m.toNat) [] (m:=8) ok.short;have y1:=y.left.len;generalize y2:Vaglrn.coverOf s.left (upTo signs m.toNat) []=N at B G c1 c2;have w:=G.len;refine⟨_,rfl,ul,us,rfl,.inl (eD.of C),small (j1 rfl),λD hD=>?_⟩;have s6:=aD (o:=.lst [.int 0,.int (us.length:Nat)]) hD;have lf:∀i,((N.take i).flatMap ZO).length<=300*70:=λi=>by
  refine bh (ja (c:=70) λp hp=>?_) ?_
  ·have :=c2 p (gC hp);unfold ZO;simp only[aG,ay];omega
  ·rw[cq];exact gF _ (by omega)
 refine⟨_,rfl,ul,rfl,⟨_,eD.of (s6 _ _ C)⟩,mx (K:=K) (a:=ul) (xs:=us) (λi σ d=>∃v7 v8:Option V,σ=[some (.ref a),some (.ref Y),some (.int m),some (.ref sl),some (.int (refusal signs m)),some (.ref ul),some (.ref D),v7,v8]/\aZ H5 d/\d D=some (.lst (c4 (0::Vaglrn.toInts (N.length::(N.take i).flatMap ZO)))))
  ⟨_,_,rfl,s6,by rw[au,w];rfl⟩ (by rintro i σ d _ ⟨_,_,_,s,_⟩;exact eD.of (s _ _ C)) ?_ ?_⟩
 ·rintro i x σ d hx ⟨v7,v8,rfl,s7,j⟩;obtain⟨u,hu,x2⟩:=G.at hx;obtain⟨tp,tv,lr,rfl,x3,⟨ta,rfl,x4⟩,x5⟩:=MC.same s7 x2;have y3:=c2 u (bj hu);refine⟨tp,_,rfl,kF.of x3,rfl,_,_,rfl,_,_,rfl,rfl,?_⟩;refine⟨_,rfl,.inl ⟨rfl,_,eD.of j⟩,_,rfl,ta,u.1,rfl,.inr x4.sq,by omega,?_⟩;rintro y4 H8 s8 ⟨b8,e8,x6⟩;subst e8;refine⟨_,rfl,lr,u.2,rfl,.inl (eD.of (s8 _ _ x5)),by omega,?_⟩;rintro v9 H9 s9 ⟨b9,e9,h9⟩;subst e9;refine⟨b8,b9,_,_,rfl,rfl,s9 _ _ x6,h9,by simp only[iF,oE,aG];rw[bu];omega,λx7 O=>?_⟩;have x8:=aD (o:=.lst (c4 (Vaglrn.toInts (u.1.length::u.1))++c4 (Vaglrn.toInts (u.2.length::u.2)))) O;have U:=(s8.trans s9).trans x8;have y5:=lf i;refine⟨D,x7,_,_,rfl,rfl,U _ _ j,au,by simp only[iF,oE,aG,ay];rw[bu];omega,?_⟩;refine⟨_,_,rfl,λb o e=>?_,?_⟩
  ·rw[aO (cZ e hD)];exact U _ _ (s7 _ _ e)
  ·rw[au,take_snoc hu,cx,cb,ef,bQ];unfold ZO;show some (HO.lst _)=some (HO.lst (c4 (0::Vaglrn.toInts ((N.length::(N.take i).flatMap _)++((u.1.length::u.1)++(u.2.length::u.2))))));rw[wc,wc,<-iY,ints_app,ints_app]
 ·rintro σ d ⟨v7,v8,rfl,s7,j⟩;rw[w,bP]at j;exact⟨_,rfl,B _ _ (M.trans s7) ⟨D,rfl,M.free hD,j⟩⟩
end
def Fs(K:Frag)(a:Str->Option Value)(c:Cl)(u:Addr)(b:Sp):Prop:=
 (a "load"=some (.ref u)/\b=Qu K c)\/
 (a "held"=some (.ref u)/\b=QQ K c)\/
 (a "choice"=some (.ref u)/\b=IG K c)\/
 (a "behind"=some (.ref u)/\b=Jm K c)\/
 (a "many"=some (.ref u)/\b=PV K c)\/
 (a "put"=some (.ref u)/\b=Tr K c)\/
 (a "turn"=some (.ref u)/\b=Po K c)\/
 (a "rename"=some (.ref u)/\b=Iw K c)\/
 (a "drop"=some (.ref u)/\b=QE K c)\/
 (a "add"=some (.ref u)/\b=Vk K c)\/
 (a "undo"=some (.ref u)/\b=Py K c)\/
 (a "swap"=some (.ref u)/\b=Qa K c)\/
 (a "reads"=some (.ref u)/\b=MG K c)\/
 (a "changed"=some (.ref u)/\b=F1 K c)\/
 (a "within"=some (.ref u)/\b=Jq K c)\/
 (a "same"=some (.ref u)/\b=P9 K c)\/
 (a "sentence"=some (.ref u)/\b=DI K c)\/
 (a "cover"=some (.ref u)/\b=LD K c)
theorem kx{P:Program}{w:World}{K:Frag}{g:Str->Option Value}{a:Heap}{x:Str}{b:List Str}{j k:Nat}{i c:Sp}{u:Addr}(h:dI P w K g a x b j i)(e:g x=some (.ref u))(e2:c=i)(l:j<=k):
 om λd b=>PySem.W.keepIn K (.ref u)=true/\Binds K d b []/\sN P w K g a Ph k u d b c:=by
 obtain⟨f,d,m,n,o,p⟩:=h;rw[m]at e;cases e;subst e2;exact⟨d,b,n,o,p.mono l⟩
section
variable{P:Program}{w:World}{K:Frag}{mg:Str->Option Value}{base:Heap}{c:Cl}
theorem YL(T:Txt K mg c)(hT:Calls K c (Fs K mg c)):Tm P w K mg base ["calls"] "answers" vk 10 (AM K c):=by
 have x2:lT P w K mg base _ _ _ 1 _:=lT.of T.uq A8 (AV T) (zC T);have D:eI P w K mg base _ _ _ 1 _:=eI.of T.eK T.qf wA (vY T) (vH T);have a:eI P w K mg base _ _ _ 1 _:=eI.of T.eK T.nQ nh (tY T) (tR T);have e:eI P w K mg base _ _ _ 2 _:=eI.of T.eK T.qj k9 (wu T a) (vf T);have l:dI P w K mg base _ _ 1 _:=dI.of T.vx Br (Co T) (A5 T);have A:lT P w K mg base _ _ _ 1 _:=lT.of T.uZ BN (BB T) (AQ T);have m:eI P w K mg base _ _ _ 1 _:=eI.of T.dR T.uS ud (BE T) (AK T);have y4:dI P w K mg base _ _ 2 _:=dI.of T.Av yn (Gf T m) (EC T);have x5:dI P w K mg base _ _ 3 _:=dI.of T.DC p_ (JR T m y4) (Hw T);have r:eI P w K mg base _ _ _ 1 _:=eI.of T.dR T.rW yM (yJ T) (xf T);have b:lT P w K mg base _ _ _ 1 _:=lT.of T.xE EG (EJ T) (Dk T);have x6:dI P w K mg base _ _ 4 _:=dI.of T.vE iQ (BL T A m x5 r b) (AD T);have x3:dI P w K mg base _ _ 1 _:=dI.of T.Iu O9 (Nw T) (Mm T);have x8:dI P w K mg base _ _ 1 _:=dI.of T.yF Ek (Eg T) (CI T);have s:eI P w K mg base _ _ _ 1 _:=eI.of T.cO T.sZ rV (zL T) (yo T);have n:dI P w K mg base _ _ 1 _:=dI.of T.Af G7 (GD T) (EK T);have g:dI P w K mg base _ _ 2 _:=dI.of T.DL Kr (Ld T x8 s n) (HK T);have v1:dI P w K mg base _ _ 5 _:=dI.of T.Vf ET (Ws T a e l x6 x3 g n) (run_load T);have x7:dI P w K mg base _ _ 1 _:=dI.of T.uY jK (BJ T) (AU T);have x0:dI P w K mg base _ _ 1 _:=dI.of T.Cr HS (HF T) (FH T);have v2:dI P w K mg base _ _ 2 _:=dI.of T.TV Pr (VR T a x3 x7 x0) (Vo T);have d:dI P w K mg base _ _ 1 _:=dI.of T.p0 kz (vF T) (uI T);have v:dI P w K mg base _ _ 1 _:=dI.of T.Ar F2 (FK T) (Ef T);have J:dI P w K mg base _ _ 1 _:=dI.of T.rZ xt (xD T) (xk T);have t:dI P w K mg base _ _ 2 _:=dI.of T.tU gY (zP T J) (yf T);have x:dI P w K mg base _ _ 3 _:=dI.of T.zY Hf (Fi T t) (Ee T);have y:dI P w K mg base _ _ 4 _:=dI.of T.t9 s_ (AI T x v b) (zS T);have z2:dI P w K mg base _ _ 5 _:=dI.of T.DO wb (KZ T d v y) (HM T);have u3:dI P w K mg base _ _ 6 _:=dI.of T.LW RL (Rf T g z2) (Np T);have H:dI P w K mg base _ _ 5 _:=dI.of T.rq qe (xh T d v y) (wg T);have u4:dI P w K mg base _ _ 6 _:=dI.of T.MF QV (Sh T g H) (NP T);have z9:dI P w K mg base _ _ 4 _:=dI.of T.IY AS (ND T d b x) (ME T);have v3:dI P w K mg base _ _ 5 _:=dI.of T.TB VJ (VY T g z9) (SQ T);have u5:dI P w K mg base _ _ 4 _:=dI.of T.LC vm (Q6 T d x b) (NQ T);have v9:dI P w K mg base _ _ 5 _:=dI.of T.Xv TJ (X2 T a g u5) (Wq T);have u6:dI P w K mg base _ _ 3 _:=dI.of T.Lp yV (Sa T b) (Oa T);have v4:dI P w K mg base _ _ 4 _:=dI.of T.Uu WM (Wo T g u6) (UT T);have z6:dI P w K mg base _ _ 1 _:=dI.of T.Gg Ll (Lw T) (JH T);have u0:dI P w K mg base _ _ 3 _:=dI.of T.Ia NG (O2 T b t) (M3 T);have u7:dI P w K mg base _ _ 4 _:=dI.of T.LO Jw (RP T e l z6 g u0) (NF T);have B:dI P w K mg base _ _ 1 _:=dI.of T.vv B2 (BH T) (AB T);have x9:dI P w K mg base _ _ 3 _:=dI.of T.xq EE (EB T b) (CL T);have v5:dI P w K mg base _ _ 4 _:=dI.of T.Th PJ (WQ T a B g x9) (Uy T);have y5:dI P w K mg base _ _ 4 _:=dI.of T.Ac tF (FP T A x5 r) (Ed T);have z3:dI P w K mg base _ _ 3 _:=dI.of T.DZ K4 (KY T b) (HP T);have w0:dI P w K mg base _ _ 5 _:=dI.of T.Xk Pb (YF T e l y5 g z3) (WC T);have y0:eI P w K mg base _ _ _ 1 _:=eI.of T.cO T.yu Eh (Ei T) (Di T);have v6:dI P w K mg base _ _ 2 _:=dI.of T.SG Wu (V7 T y0 n) (UC T);have L:eI P w K mg base _ _ _ 2 _:=eI.of T.cO T.rT rn (xu T s) (xi T);have v7:dI P w K mg base _ _ 3 _:=dI.of T.UP VP (Wk T L n) (Tc T);have M:eI P w K mg base _ _ _ 1 _:=eI.of T.fc T.rX yk (yD T) (xb T);have y7:lT P w K mg base _ _ _ 2 _:=lT.of T.Cb jZ (HB T M) (Gk T);have u:eI P w K mg base _ _ _ 1 _:=eI.of T.cG T.tw zD (zG T) (yb T);have G:dI P w K mg base _ _ 1 _:=dI.of T.yh lG (Ep T) (CK T);have C:eI P w K mg base _ _ _ 2 _:=eI.of T.fc T.p4 vJ (vt T G) (uN T);have z:eI P w K mg base _ _ _ 3 _:=eI.of T.cG T.uo jj (AX T u C) (zU T);have q:lT P w K mg base _ _ _ 4 _:=lT.of T.wY De (Cy T y7 z) (Ca T);have E:eI P w K mg base _ _ _ 1 _:=eI.of T.fc T.qd gW (wz T) (va T);have o:eI P w K mg base _ _ _ 4 _:=eI.of T.cG T.uV lW (B0 T u E z) (AJ T);have p:eI P w K mg base _ _ _ 1 _:=eI.of T.cG T.qg vO (wB T) (u_ T);have k:eI P w K mg base _ _ _ 2 _:=eI.of T.cG T.o7 uG (uJ T p) (tX T);have y8:dI P w K mg base _ _ 6 _:=dI.of T.Ce qS (Hu T q o k) (Ft T);have u9:dI P w K mg base _ _ 7 _:=dI.of T.f_reads xx (T5 T a e x3 y8 x0) (R7 T);have y1:dI P w K mg base _ _ 1 _:=dI.of T.yr jF (Ea T) (Dg T);have x4:dI P w K mg base _ _ 1 _:=dI.of T.Ii OZ (N9 T) (Mo T);have u1:dI P w K mg base _ _ 2 _:=dI.of T.Ip A_ (NB T y1 x4) (LS T);have z4:dI P w K mg base _ _ 1 _:=dI.of T.DE k7 (KQ T) (Hr T);have N:dI P w K mg base _ _ 2 _:=dI.of T.Fj gk (LJ T z4) (JS T);have y2:dI P w K mg base _ _ 1 _:=dI.of T.yG jE (Ew T) (CD T);have j:dI P w K mg base _ _ 2 _:=dI.of T.tK zH (zT T y2) (yE T);have O:dI P w K mg base _ _ 2 _:=dI.of T.Ay E_ (Gs T x4) (Ey T);have y9:dI P w K mg base _ _ 1 _:=dI.of T.Bz HD (Hv T) (GO T);have z7:dI P w K mg base _ _ 1 _:=dI.of T.F6 Li (Lm T) (K_ T);have u2:Qz P w K mg base 1 (Fd K c):=by
  intro f sp h;rcases h with h|h
  ·exact kx y9 (by rw[h.1];exact T.vP) h.2 (by decide)
  ·exact kx z7 (by rw[h.1];exact T.AG) h.2 (by decide)
 have Y:dI P w K mg base _ _ 6 _:=dI.of T.tQ j4 (zF T u2 q o k) (xV T);have Q:dI P w K mg base _ _ 1 _:=dI.of T.Hb jT (Mz T) (Kn T);have y6:dI P w K mg base _ _ 7 _:=dI.of T.Iz wK (ON T a N j O Y Q) (Ng T);have u8:dI P w K mg base _ _ 8 _:=dI.of T.Mr Rr (Rb T y6) (OP T);have v8:dI P w K mg base _ _ 8 _:=dI.of T.UL WT (WB T y6) (SR T);have x1:lT P w K mg base _ _ _ 6 _:=lT.of T.BM HG (HV T q) (Fz T);have U:eI P w K mg base _ _ _ 1 _:=eI.of T.fO T.Aw tf (Hh T) (Ec T);have I:eI P w K mg base _ _ _ 2 _:=eI.of T.fc T.qY xl (xg T G) (v_ T);have y3:eI P w K mg base _ _ _ 3 _:=eI.of T.fO T.xY jH (EH T U I) (Dl T);have i:eI P w K mg base _ _ _ 5 _:=eI.of T.fO T.oa eB (tW T o U p y3) (tJ T);have Z:dI P w K mg base _ _ 8 _:=dI.of T.tP nH (zO T x1 i) (ye T);have z8:dI P w K mg base _ _ 9 _:=dI.of T.GX qZ (Mb T a B N j O Z Q) (Kj T);have z0:dI P w K mg base _ _ 8 _:=dI.of T.Bm nV (HU T x1 i) (F7 T);have v0:dI P w K mg base _ _ 9 _:=dI.of T.QN rf (S2 T a N j z0 Q x4) (Rx T);have u2:Qz P w K mg base 9 (Fs K mg c):=by
  intro f sp h;rcases h with h|h|h|h|h|h|h|h|h|h|h|h|h|h|h|h|h|h
  ·exact kx v1 h.1 h.2 (by decide)
  ·exact kx v2 h.1 h.2 (by decide)
  ·exact kx u3 h.1 h.2 (by decide)
  ·exact kx u4 h.1 h.2 (by decide)
  ·exact kx v3 h.1 h.2 (by decide)
  ·exact kx v9 h.1 h.2 (by decide)
  ·exact kx v4 h.1 h.2 (by decide)
  ·exact kx u7 h.1 h.2 (by decide)
  ·exact kx v5 h.1 h.2 (by decide)
  ·exact kx w0 h.1 h.2 (by decide)
  ·exact kx v6 h.1 h.2 (by decide)
  ·exact kx v7 h.1 h.2 (by decide)
  ·exact kx u9 h.1 h.2 (by decide)
  ·exact kx u1 h.1 h.2 (by decide)
  ·exact kx u8 h.1 h.2 (by decide)
  ·exact kx v8 h.1 h.2 (by decide)
  ·exact kx z8 h.1 h.2 (by decide)
  ·exact kx v0 h.1 h.2 (by decide)
 have z1:dI P w K mg base _ _ 10 _:=dI.of T.Bl nP (Hs T u2 x2 D a) (FO T hT);have z5:lT P w K mg base _ _ _ 3 _:=lT.of T.D0 Kf (Kp T b) (Hz T);exact NT T z1 z5
end
section
variable{K:Frag}{h:Heap}{mg:Str->Option Value}
theorem JU{x c:Str}{st:Stmt}{g:List Str}{f:Addr}{p:Value}{q i:Option Addr}{j:Array (Option Value)}{kV e m d n:Value}(X:K.In h)(G:h.Ns mainGlobals mg)(a:PySem.W.nsIn K mainGlobals x=some (some (.ref f)))
 (l:K.lookup f=some ⟨p,q,.func (PySem.W.fnOf x c (pY st) (m7 st) (aI st) .none kV e m i d n),j⟩)(co:PySem.W.codeIn K d c=true)(k:PySem.W.keepIn K (.ref f)=true)
 (b:∀(kV e m:Value) (i:Option Addr) (d n:Value) (o:List Value),o.length=g.length->bindArgs (PySem.W.fnOf x c (pY st) (m7 st) (aI st) .none kV e m i d n) ⟨o,[]⟩=pure (g.zip o)):dS K mg x c st g:=
 ⟨f,_,cg X G a,CZ l co k,(CZ l co k).binds b⟩
theorem Kl{m c:Str}{st:Stmt}{g:List Str}{C f:Addr}{r:Value}{s j:Option Addr}{n:Array (Option Value)}{kV e o d p:Value}(a:PySem.W.findIn K (.ref C) m=some (some (.ref f)))(i:PySem.W.isFn K (.ref f)=true)
 (l:K.lookup f=some ⟨r,s,.func (PySem.W.fnOf m c (pY st) (m7 st) (aI st) .none kV e o j d p),n⟩)(co:PySem.W.codeIn K d c=true)(k:PySem.W.keepIn K (.ref f)=true)
 (b:∀(kV e o:Value) (j:Option Addr) (d p:Value) (q:List Value),q.length=g.length->bindArgs (PySem.W.fnOf m c (pY st) (m7 st) (aI st) .none kV e o j d p) ⟨q,[]⟩=pure (g.zip q)):jA K C m c st g:=
 ⟨f,_,⟨a,i,k⟩,CZ l co k,(CZ l co k).binds b⟩
theorem K0{x c:Str}{st:Stmt}{g:List Str}{C f:Addr}{q:Value}{r j:Option Addr}{m:Array (Option Value)}{kV e n d o:Value}(X:K.In h)(G:h.Ns mainGlobals mg)(aC:PySem.W.nsIn K mainGlobals x=some (some (.ref C)))
 (mk:PySem.W.makesIn K C=true)(kc:PySem.W.keepIn K (.ref C)=true)(a:PySem.W.findIn K (.ref C) "__init__"=some (some (.ref f)))(i:PySem.W.isFn K (.ref f)=true)
 (l:K.lookup f=some ⟨q,r,.func (PySem.W.fnOf "__init__" c (pY st) (m7 st) (aI st) .none kV e n j d o),m⟩)(co:PySem.W.codeIn K d c=true)(k:PySem.W.keepIn K (.ref f)=true)
 (b:∀(kV e n:Value) (j:Option Addr) (d o:Value) (p:List Value),p.length=g.length->bindArgs (PySem.W.fnOf "__init__" c (pY st) (m7 st) (aI st) .none kV e n j d o) ⟨p,[]⟩=pure (g.zip p)):wJ K mg x C c st g:=
 ⟨cg X G aC,f,_,⟨mk,a,i,kc⟩,CZ l co k,(CZ l co k).binds b⟩
def TU(a:List DictEntry):Bool:=a.all λe=>match e.key with
 |.int k _=>e.hash==hashInt k
 |_=>false
theorem WG{d:Addr}{a:Obj}{b:Array DictEntry}{c:Nat}(l:K.lookup d=some a)(e1:a.ExactDict)(e2:a.data=.dict b c)(e3:TU b.toList=true):Ha K d (λk=>findBy Value.isInt b k):=by
 refine⟨a,b,c,l,e1,e2,λe f=>?_,λ_=>rfl⟩;have :=fG.mp e3 e f;split at this
 ·rename_i k t g;exact⟨k,t,g,by simpa using this⟩
 ·cases this
theorem SX{c:Cl}{a:Obj}{b:Array DictEntry}{d:Nat}(l:K.lookup c.Fx=some a)(e1:a.ExactDict)(e2:a.data=.dict b d)(e3:TU b.toList=true)
 (tab:∀p:Int,0<=p->p<=17->∃u,findBy Value.isInt b p=some (.ref u)/\Fs K mg c u (Handler K c p)):Calls K c (Fs K mg c):=⟨_,WG l e1 e2 e3,tab⟩
theorem VI{d:Addr}{o:Obj}{n:_}(l:K.lookup d=some o)(a:o.cls=.type "tuple")(b:o.data=.seq #[] n):∃o n,K.lookup d=some o/\o.cls=.type "tuple"/\o.data=.seq #[] n:=⟨o,n,l,a,b⟩
theorem Zm{x:Str}{i:Int}{t:Tok}(X:K.In h)(G:h.Ns mainGlobals mg)(a:PySem.W.nsIn K mainGlobals x=some (some (.int i t))):KI mg x i:=⟨t,cg X G a⟩
end
theorem WY{P:Program}{w:World}{K:Frag}{o:Str->Option Value}{v:Cl}{j c a d b i k h m g l t:Addr}(_:PySem.W.nsIn K mainGlobals "CALLS"=some (some (.ref j)))(_:PySem.W.nsIn K mainGlobals "NO_BYTES"=some (some (.ref c)))(_:PySem.W.nsIn K mainGlobals "left_alone"=some (some (.ref a)))(_:PySem.W.nsIn K mainGlobals "just_one"=some (some (.ref d)))(_:PySem.W.nsIn K mainGlobals "CallReader"=some (some (.ref b)))(_:PySem.W.nsIn K mainGlobals "Grammar"=some (some (.ref i)))(_:PySem.W.nsIn K mainGlobals "Marks"=some (some (.ref k)))(_:PySem.W.nsIn K mainGlobals "Covering"=some (some (.ref h)))(_:PySem.W.nsIn K mainGlobals "Pair"=some (some (.ref m)))(_:PySem.W.nsIn K mainGlobals "RowReader"=some (some (.ref g)))(_:PySem.W.nsIn K mainGlobals "Using"=some (some (.ref l)))(T:Txt K o ⟨j,c,a,d,b,i,k,h,m,g,l⟩)(hT:Calls K ⟨j,c,a,d,b,i,k,h,m,g,l⟩ (Fs K o ⟨j,c,a,d,b,i,k,h,m,g,l⟩))(p:o "answers"=some (.ref t)):
 ∃q:FuncData,(∀(s:Shared) (r:List Value),r.length=(["calls"]:List Str).length->BindsTo s q ⟨r,[]⟩ ((["calls"]:List Str).zip r))/\∀n:Heap,K.In n->n.Ns mainGlobals o->sN P w K o n Ph 11 t q ["calls"] (wD K v):=by
 obtain⟨f,q,x,u,C⟩:=T.IC;rw[x]at p;cases p;obtain⟨D,E,kV,y,G,H,z,I,A,e,_⟩:=id u.ex;refine⟨q,λs r B=>?_,λn _ _=>(show sN P w K o n Ph 11 _ q ["calls"] (wD K ⟨j,c,a,d,b,i,k,h,m,g,l⟩)from Qo u N5 (YL T hT) (L_ T))⟩;subst e;exact match r,B with |[_],_=>.of_eq rfl
end Gp
open PySem PySem.W PyProof.Rows
theorem PySem.Challenge.cw_grammarpairs_s01_answers_holds : PySem.Challenge.rw_grammarpairs_s01_answers.Holds := by
 w_on
 refine holds_os (q:=Gp.qv) (loose:=Gp.lo) (Xt:=Gp.Xt) (XP:=XL Gp.qv []) (Yf:=Hook.obs (kHook Gp.KP Gp.V_ Gp.MS)) (Ya:=Hook.val (kHook Gp.KP Gp.V_ Gp.MS)) (YP:=Hook.says (kHook Gp.KP Gp.V_ Gp.MS)) (N:=9740) Gp.Zj (Hook.of (kHook Gp.KP Gp.V_ Gp.MS)) (Hook.keeps (kHook Gp.KP Gp.V_ Gp.MS)) (λs e=>xl_of s (gH.mp e).1) XL.keeps (by rfl) (by rfl) (by rfl) (λs e=>recFacts_of (gH.mp e).2) os_shapes (by decide+kernel) (by decide+kernel) ⟨rfl,rfl,rfl,rfl,rfl,by decide+kernel⟩ ⟨[.list [.int 1,.int 0]],by decide+kernel,by decide+kernel⟩ ?_
 k_fillS
 refine L2.Nq (r:=PySem.Challenge.rw_grammarpairs_s01_answers) (k:=11) (CX:=L2.Ph) (ps:=["calls"]) (sp:=λK=>Gp.wD K ⟨0,0,0,0,0,0,0,0,0,0,0⟩) (by decide+kernel) rfl rfl ⟨rfl,by decide,by decide⟩ (λw h Y=>PySem.W.kIn_of Y) ?F ?S (λ_ _ _ _ z=>z)
 case F=>
  intro w I J h Y c G m;refine' Gp.WY ?OO ?HX ?Ez ?HZ ?GW ?Ni ?RN ?Kd ?Ux ?HE ?RU ?T ?C m
  case OO|HX|Ez|HZ|GW|Ni|RN|Kd|Ux|HE|RU=>k_is
  case T=>
   constructor
   case uq|Cb|wY|uZ|BM=>(refine' Gp.K0 c G ?aC ?mk ?kc ?a ?i ?l ?co ?k (λ_ _ _ _ _ _ d f=>match d,f with |[_,_],_=>rfl);(case aC|mk|kc|a|i|l|co|k=>k_is))
   case xE=>(refine' Gp.K0 c G ?aC ?mk ?kc ?a ?i ?l ?co ?k (λ_ _ _ _ _ _ d f=>match d,f with |[_,_,_],_=>rfl);(case aC|mk|kc|a|i|l|co|k=>k_is))
   case D0=>(refine' Gp.K0 c G ?aC ?mk ?kc ?a ?i ?l ?co ?k (λ_ _ _ _ _ _ d f=>match d,f with |[_],_=>rfl);(case aC|mk|kc|a|i|l|co|k=>k_is))
   case Qt|qu|vP|AG=>(refine' cg c G ?_;k_is)
   case nt|wo|yQ|pJ|BF|sQ|i8|E6|Ah|sP|IU|uU|Jd|FA|qi|pB|DK|uW|tq|F5|vn|Ax|Bw|JJ|Qn|r6=>exact Gp.Zm c G (by k_is)
   case WZ|W8|yl|pZ|JF|W_|pF|G9|Xx|GN|W9|zh|Xu=>exact PySem.W.mg_none_of c G (by k_is)
   case eK|b_|fc|cG|cO|dR|fO=>exact⟨by k_is,by k_is,by k_is,by k_is⟩
   case jg|fF|bo|cN|lH|iK|ib|kM|iu|gp|dO|fR|cn|fC|iB|kE|ie|fU|fN|lX|kn|lJ=>(show PySem.W.findIn _ _ _=some none;k_is)
   case qf|nQ|qj|yu|rT|rW=>(refine' Gp.Kl ?a ?i ?l ?co ?k (λ_ _ _ _ _ _ d f=>match d,f with |[_],_=>rfl);(case a|i|l|co|k=>k_is))
   case yF|Ar|IY|Lp|vE|uY|DE|Fj|Iu|vx|Af|Ii|Ay|IC=>(refine' Gp.JU c G ?a ?l ?co ?k (λ_ _ _ _ _ _ d f=>match d,f with |[_],_=>rfl);(case a|l|co|k=>k_is))
   case rX|tw|uS|Aw|xY=>(refine' Gp.Kl ?a ?i ?l ?co ?k (λ_ _ _ _ _ _ d f=>match d,f with |[_,_,_],_=>rfl);(case a|i|l|co|k=>k_is))
   case qd|p4|qY|uV|uo|qg|o7|sZ|oa=>(refine' Gp.Kl ?a ?i ?l ?co ?k (λ_ _ _ _ _ _ d f=>match d,f with |[_,_],_=>rfl);(case a|i|l|co|k=>k_is))
   case yh|t9|LC|tP|Iz=>(refine' Gp.JU c G ?a ?l ?co ?k (λ_ _ _ _ _ _ d f=>match d,f with |[_,_,_],_=>rfl);(case a|l|co|k=>k_is))
   case Ce|yr|Bz|F6|p0|rZ|tU|zY|DO|rq|Gg|Ia|xq|DZ|Av|DC|Ac|yG|Hb|Bm|vv|Cr|DL|Vf|TV|LW|MF|TB|Xv|Uu|LO|Th|Xk|SG|UP|f_reads|Ip|tK|Mr|UL|GX|QN|Bl=>(refine' Gp.JU c G ?a ?l ?co ?k (λ_ _ _ _ _ _ d f=>match d,f with |[_,_],_=>rfl);(case a|l|co|k=>k_is))
   case tQ=>(refine' Gp.JU c G ?a ?l ?co ?k (λ_ _ _ _ _ _ d f=>match d,f with |[_,_,_,_],_=>rfl);(case a|l|co|k=>k_is))
   case uy|zW|JZ|Y7|Lj|MW|T9=>decide
   case F9=>(refine' Gp.VI ?l ?a ?b;(case l=>k_is);(case a|b=>rfl))
  case C=>
   refine' Gp.SX ?l ?e1 ?e2 ?e3 ?tab
   case l=>k_is
   case e1=>exact⟨rfl,rfl,rfl⟩
   case e2=>rfl
   case e3=>decide+kernel
   case tab=>
    intro p L j;have n:p=0\/p=1\/p=2\/p=3\/p=4\/p=5\/p=6\/p=7\/p=8\/p=9\/p=10\/p=11\/p=12\/p=13\/p=14\/p=15\/p=16\/p=17:=by omega
    rcases n with rfl|rfl|rfl|rfl|rfl|rfl|rfl|rfl|rfl|rfl|rfl|rfl|rfl|rfl|rfl|rfl|rfl|rfl
    ·exact⟨_,rfl,Or.inl ⟨cg c G (by k_is),rfl⟩⟩
    ·exact⟨_,rfl,Or.inr<|Or.inl ⟨cg c G (by k_is),rfl⟩⟩
    ·exact⟨_,rfl,Or.inr<|Or.inr<|Or.inl ⟨cg c G (by k_is),rfl⟩⟩
    ·exact⟨_,rfl,Or.inr<|Or.inr<|Or.inr<|Or.inl ⟨cg c G (by k_is),rfl⟩⟩
    ·exact⟨_,rfl,Or.inr<|Or.inr<|Or.inr<|Or.inr<|Or.inl ⟨cg c G (by k_is),rfl⟩⟩
    ·exact⟨_,rfl,Or.inr<|Or.inr<|Or.inr<|Or.inr<|Or.inr<|Or.inl ⟨cg c G (by k_is),rfl⟩⟩
    ·exact⟨_,rfl,Or.inr<|Or.inr<|Or.inr<|Or.inr<|Or.inr<|Or.inr<|Or.inl ⟨cg c G (by k_is),rfl⟩⟩
    ·exact⟨_,rfl,Or.inr<|Or.inr<|Or.inr<|Or.inr<|Or.inr<|Or.inr<|Or.inr<|Or.inl ⟨cg c G (by k_is),rfl⟩⟩
    ·exact⟨_,rfl,Or.inr<|Or.inr<|Or.inr<|Or.inr<|Or.inr<|Or.inr<|Or.inr<|Or.inr<|Or.inl ⟨cg c G (by k_is),rfl⟩⟩
    ·exact⟨_,rfl,Or.inr<|Or.inr<|Or.inr<|Or.inr<|Or.inr<|Or.inr<|Or.inr<|Or.inr<|Or.inr<|Or.inl ⟨cg c G (by k_is),rfl⟩⟩
    ·exact⟨_,rfl,Or.inr<|Or.inr<|Or.inr<|Or.inr<|Or.inr<|Or.inr<|Or.inr<|Or.inr<|Or.inr<|Or.inr<|Or.inl ⟨cg c G (by k_is),rfl⟩⟩
    ·exact⟨_,rfl,Or.inr<|Or.inr<|Or.inr<|Or.inr<|Or.inr<|Or.inr<|Or.inr<|Or.inr<|Or.inr<|Or.inr<|Or.inr<|Or.inl ⟨cg c G (by k_is),rfl⟩⟩
    ·exact⟨_,rfl,Or.inr<|Or.inr<|Or.inr<|Or.inr<|Or.inr<|Or.inr<|Or.inr<|Or.inr<|Or.inr<|Or.inr<|Or.inr<|Or.inr<|Or.inl ⟨cg c G (by k_is),rfl⟩⟩
    ·exact⟨_,rfl,Or.inr<|Or.inr<|Or.inr<|Or.inr<|Or.inr<|Or.inr<|Or.inr<|Or.inr<|Or.inr<|Or.inr<|Or.inr<|Or.inr<|Or.inr<|Or.inl ⟨cg c G (by k_is),rfl⟩⟩
    ·exact⟨_,rfl,Or.inr<|Or.inr<|Or.inr<|Or.inr<|Or.inr<|Or.inr<|Or.inr<|Or.inr<|Or.inr<|Or.inr<|Or.inr<|Or.inr<|Or.inr<|Or.inr<|Or.inl ⟨cg c G (by k_is),rfl⟩⟩
    ·exact⟨_,rfl,Or.inr<|Or.inr<|Or.inr<|Or.inr<|Or.inr<|Or.inr<|Or.inr<|Or.inr<|Or.inr<|Or.inr<|Or.inr<|Or.inr<|Or.inr<|Or.inr<|Or.inr<|Or.inl ⟨cg c G (by k_is),rfl⟩⟩
    ·exact⟨_,rfl,Or.inr<|Or.inr<|Or.inr<|Or.inr<|Or.inr<|Or.inr<|Or.inr<|Or.inr<|Or.inr<|Or.inr<|Or.inr<|Or.inr<|Or.inr<|Or.inr<|Or.inr<|Or.inr<|Or.inl ⟨cg c G (by k_is),rfl⟩⟩
    ·exact⟨_,rfl,Or.inr<|Or.inr<|Or.inr<|Or.inr<|Or.inr<|Or.inr<|Or.inr<|Or.inr<|Or.inr<|Or.inr<|Or.inr<|Or.inr<|Or.inr<|Or.inr<|Or.inr<|Or.inr<|Or.inr<|⟨cg c G (by k_is),rfl⟩⟩
 case S=>
  intro K H M a O o g u;cases u with
  |cons j t=>
   cases t;cases j with
   |lst A B=>
    have e:=L2.Qs a.1 _ B;subst e;have D:a.1.length<=17000:=by
     have j:=(bI _ _▸o:_/\_).1;have t:=(bI _ _▸j:_/\_).1;have E:=(gH (x:=decide (0<=a.1.length)) (y:=decide (a.1.length<=17000))).mp t;exact bU E.2
    exact⟨_,a.1,rfl,⟨A,D⟩,g,λv Q ⟨p,e,n⟩=>by subst e;exact .lst (L2.eD.of n) (L2.PW _)⟩
