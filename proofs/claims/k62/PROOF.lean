import PyProof.Rows.All
import Wide.All
import OpenK.AllK
import Wide.FinOn
import Lean
import PyProof.Rows.SetFrom
import PyProof.WalksMore
import PyProof.SetRoads
import PyProof.ListRange
import PyProof.Rows.SortWalk
import PyProof.CollectWalk
import PyProof.ZipIter
import PyProof.EnumStmt
import PyProof.EqAt
import PyProof.EqKinds
import PyProof.TupleCall
import PyProof.CompFree
import PyProof.Cells
import PyProof.ConsumeWalk
import PyProof.TupleOfSeq
import PyProof.NeKinds
import PyProof.IsiPairs
import PyProof.IsiHeapPairs
import PyProof.IsInstanceT
import PyProof.IsiTupleOf
import KE.KSortTup
import KE.KTryMore
import PyProof.ExcBaseAll.ValueError
import KE.RegMulBits
import Wide.ObjOpen
import Wide.RegSB
import PyProof.ExcAttrAll.ValueError
import PyProof.ExcArgsOwn
import PyProof.SumWalk
import PyProof.ReprRoads
import PyProof.Rows.DictMade
import PyProof.Rows.DictMethods
import KE.KRevIter
import PyProof.ListMulRoad
import PyProof.FactsAll.tuple_2
import PyProof.DictRoadsH
import PyProof.DictCompW
import PyProof.DictIter
import PyProof.DictWalks
import PyProof.TupleKey
import PyProof.IsRules
import KE.KDictList
import KE.KSortKey
import KE.KLam
import PySem.Challenge.RW_jointrees_k62_columns_of_tables_and_agre
set_option compiler.extract_closed false
set_option bootstrap.genMatcherCode false
noncomputable def zN:=@PySem.wpAny_bind
noncomputable def zS:=@PySem.wpAny_pure
noncomputable def kT:=@PySem.Heap.get?_push_of_some
noncomputable def kW:=@List.getElem?_eq_getElem
noncomputable def jP:=@List.getElem?_set_self
noncomputable def wF:=@List.length_map
noncomputable def wL:=@List.getElem?_set_ne
noncomputable def wN:=@PySem.Heap.get?_push_size
noncomputable def wR:=@List.mem_cons
noncomputable def wV:=@PySem.Heap.lt_size
noncomputable def wW:=@List.mem_singleton
noncomputable def xS:=@Nat.le_refl
noncomputable def xZ:=@List.getElem?_eq_some_iff
noncomputable def uL:=@List.mem_cons_self
noncomputable def uN:=@List.mem_cons_of_mem
noncomputable def uP:=@List.size_toArray
noncomputable def uS:=@Bool.false_ne_true
noncomputable def uT:=@Nat.ne_of_lt
noncomputable def fD:=@if_pos
noncomputable def fN:=@decide_eq_true
noncomputable def fR:=@List.all_eq_true
noncomputable def gA:=@PySem.wpAny_mono
noncomputable def gE:=@Nat.lt_of_lt_of_le
noncomputable def gL:=@decide_eq_false
noncomputable def gO:=@PySem.Heap.size_push
noncomputable def QA:=@Array.getElem?_toList
noncomputable def QB:=@if_neg
noncomputable def QC:=@List.length_append
noncomputable def QD:=@List.mem_append
noncomputable def QE:=@List.pairwise_cons
noncomputable def QF:=@List.filterMap_eq_map'
noncomputable def QG:=@PySem.W.mg_none_of
noncomputable def QH:=@List.getElem?_map
noncomputable def QI:=@List.getD_eq_getElem?_getD
noncomputable def QJ:=@List.mem_map
noncomputable def QK:=@PySem.wpAny_newObj_type
noncomputable def QL:=@List.mem_range
noncomputable def QM:=@List.map_cons
noncomputable def QN:=@List.getElem_mem
noncomputable def QO:=@PySem.wpAny_call_entry
noncomputable def QP:=@PySem.wpAny_holding
noncomputable def QQ:=@PySem.Heap.get?_update_self
noncomputable def QR:=@List.mem_append_right
noncomputable def QS:=@PySem.Heap.get?_update_other
noncomputable def QT:=@List.length_cons
noncomputable def QU:=@PySem.wpAny_setField_rec
noncomputable def QV:=@Int.emod_lt_of_pos
noncomputable def QW:=@PySem.wpAny_callSpecial?_slot
noncomputable def QX:=@Nat.lt_irrefl
noncomputable def QY:=@Nat.zero_le
noncomputable def QZ:=@List.getElem?_append_left
noncomputable def Q1:=@Bool.and_eq_true
noncomputable def Q2:=@List.getElem?_take_of_lt
noncomputable def Q3:=@Int.emod_nonneg
noncomputable def Q4:=@List.drop_eq_getElem_cons
noncomputable def Q5:=@PySem.Heap.SameBut.update
noncomputable def Q6:=@PyProof.Rows.F.plain_set_update_loop
noncomputable def Q7:=@PySem.wpAny_field
noncomputable def Q8:=@PySem.W.mg_of
noncomputable def Q9:=@congrArg
noncomputable def ZA:=@List.not_mem_nil
noncomputable def ZC:=@of_decide_eq_true
noncomputable def ZD:=@List.filterMap_cons_some
noncomputable def ZE:=@List.getElem_of_mem
noncomputable def ZF:=@List.nodup_cons
noncomputable def ZG:=@Option.some.inj
noncomputable def ZH:=@PySem.wpAny_seqItems
noncomputable def ZI:=@Array.getElem?_eq_getElem
noncomputable def ZJ:=@Nat.le_trans
noncomputable def ZK:=@PySem.codeAny_builtin
noncomputable def ZL:=@List.pairwise_singleton
noncomputable def ZM:=@Nat.not_lt_zero
noncomputable def ZN:=@List.map_append
noncomputable def ZO:=@PyProof.Rows.F.entry_set_update_loop
noncomputable def ZP:=@PyProof.Rows.boot_sorted
noncomputable def ZQ:=@PySem.codeAny_mono
noncomputable def ZR:=@PySem.F.slot_dict_keyiterator_next
noncomputable def ZS:=@Bool.false_eq_true
noncomputable def ZT:=@PySem.Around.under_plainId
noncomputable def ZU:=@PySem.Value.isInt_shape
noncomputable def ZV:=@PySem.wpAny_setState_of
noncomputable def ZW:=@List.Perm.refl
noncomputable def ZX:=@Nat.lt_succ_of_lt
noncomputable def ZY:=@PySem.wpAny_truthy_bool
noncomputable def ZZ:=@Array.getElem?_eq_some_iff
noncomputable def Z0:=@List.filterMap_cons
noncomputable def Z1:=@List.append_nil
noncomputable def Z2:=@PyProof.Rows.slot_tuple_getitem
noncomputable def Z3:=@Classical.byContradiction
noncomputable def Z4:=@List.drop_length
noncomputable def Z5:=@PySem.wpAny_standAt
noncomputable def Z6:=@Option.isSome_iff_exists
noncomputable def Z7:=@List.all_cons
noncomputable def Z8:=@List.eq_nil_of_length_eq_zero
noncomputable def Z9:=@List.mem_append_left
noncomputable def VA:=@List.mem_of_getElem?
noncomputable def VB:=@PySem.wpAny_typeNameOfWhole_keyiter
noncomputable def VC:=@Nat.le_of_succ_le
noncomputable def VD:=@Bool.eq_false_iff
noncomputable def VE:=@PySem.wpAny_rule
noncomputable def VF:=@Array.length_toList
noncomputable def VG:=@Array.getElem?_eq_none
noncomputable def VH:=@PyProof.Rows.callWith_type1
noncomputable def VI:=@PySem.sizeLine_eq
noncomputable def VJ:=@List.length_take
noncomputable def VL:=@PySem.wpAny_askSetting
noncomputable def VM:=@PySem.wpAny_isInstance
noncomputable def VN:=@PySem.F.slot_tuple_iterator_next
noncomputable def VO:=@PySem.Obj.data_mapFields
noncomputable def VP:=@List.getElem?_append_right
noncomputable def VQ:=@Nat.le_of_ble_eq_true
noncomputable def VR:=@Bool.eq_iff_iff
noncomputable def VS:=@List.mem_filter
noncomputable def VT:=@PySem.wpAny_passesOwn
noncomputable def VU:=@List.map_map
noncomputable def VW:=@PySem.wpAny_pyIter_list
noncomputable def VX:=@Nat.ne_of_gt
noncomputable def VY:=@List.length_range
noncomputable def VZ:=@PySem.wpAny_typeOf
noncomputable def V0:=@PySem.wpAny_attempt
noncomputable def V1:=@PySem.wpAny_typeNameOf_keyiter
noncomputable def V2:=@PySem.mem_of_lookup
noncomputable def V3:=@List.length_pos_iff
noncomputable def V4:=@Int.toNat_of_nonneg
noncomputable def V5:=@Nat.lt_succ_self
noncomputable def V6:=@List.nodup_nil
noncomputable def V7:=@PySem.wpAny_setField
noncomputable def V8:=@Nat.le_add_right
noncomputable def V9:=@List.getElem?_replicate
noncomputable def KW:=@List.getElem?_cons_succ
noncomputable def YA:=@PySem.F.plainAttrs_list
noncomputable def YB:=@Nat.not_lt
noncomputable def YC:=@List.mem_filterMap
noncomputable def YD:=@PySem.wpAny_Call_Name_kw
noncomputable def YE:=@PySem.W.cellsFrom_some
noncomputable def YF:=@List.map_nil
noncomputable def YG:=@PySem.codeAny_of_tree
noncomputable def YH:=@or_false
noncomputable def YI:=@PySem.wpAny_execs_nil
noncomputable def YJ:=@PySem.plainId_quiet
noncomputable def YK:=@List.getElem?_eq_none
noncomputable def YL:=@List.length_replicate
noncomputable def YM:=@PySem.fits_of_scanBound
noncomputable def YN:=@List.nodup_append
noncomputable def YO:=@PySem.wpAny_pyIter_slot
noncomputable def YQ:=@PySem.codeAny_call_builtin
noncomputable def YR:=@List.length_eraseIdx
noncomputable def YS:=@List.drop_zero
noncomputable def YT:=@PySem.Obj.data_mapDictKeys
noncomputable def YU:=@Array.perm_iff_toList_perm
noncomputable def YV:=@PySem.F.excBase_ValueError
noncomputable def YW:=@List.getElem_map
noncomputable def YX:=@PySem.wpAny_forIn_list
noncomputable def YY:=@List.getElem?_zip_eq_some
noncomputable def YZ:=@List.map_congr_left
noncomputable def Y0:=@PySem.Obj.isFreed_of_dict
noncomputable def Y1:=@PySem.F.args_dict_keyiterator_next_1
noncomputable def Y2:=@List.drop_succ_cons
noncomputable def Y3:=@PySem.F.args_tuple_add_2
noncomputable def Y4:=@if_false
noncomputable def Y5:=@List.idxOf_lt_length_iff
noncomputable def Y6:=@PySem.F.entry_dict_keyiterator_next
noncomputable def Y7:=@List.filterMap_cons_none
noncomputable def Y8:=@List.mem_of_mem_eraseIdx
noncomputable def Y9:=@List.of_mem_zip
noncomputable def JP:=@List.take_left'
noncomputable def WA:=@Nat.lt_succ_iff
noncomputable def WB:=@PySem.wpAny_call
noncomputable def WC:=@PySem.W.of_hideAll
noncomputable def WD:=@List.zip_cons_cons
noncomputable def WE:=@PySem.F.entry_tuple_add
noncomputable def WG:=@List.getElem?_cons_zero
noncomputable def WH:=@PySem.wpAny_runValue
noncomputable def WI:=@List.append_assoc
noncomputable def WJ:=@List.ext_getElem?
noncomputable def WK:=@PySem.F.plain_list_iadd
noncomputable def WL:=@PySem.F.slot_tuple_add
noncomputable def WM:=@PySem.wpAny_sequenceKey
noncomputable def WN:=@Nat.le_of_eq
noncomputable def WO:=@List.range_succ_eq_map
noncomputable def WQ:=@PySem.wpAny_collect_seq
noncomputable def WR:=@List.drop_eq_nil_of_le
noncomputable def WT:=@List.reverse_cons
noncomputable def WU:=@List.take_of_length_le
noncomputable def WV:=@List.filter_eq_nil_iff
noncomputable def WW:=@PySem.weight_type_call_type
noncomputable def WX:=@PySem.Obj.isFreed_of_fields
noncomputable def WY:=@List.mem_iff_getElem?
noncomputable def WZ:=@Array.mem_of_getElem?
noncomputable def W0:=@Nat.mod_lt
noncomputable def W2:=@PySem.Obj.data_mapDict
noncomputable def W3:=@List.isEmpty_map
noncomputable def W4:=@PySem.Paired.length
noncomputable def W5:=@List.any_cons
noncomputable def W6:=@Array.mem_toList_iff
noncomputable def W7:=@PySem.F.slot_set_iter
noncomputable def W8:=@PySem.wpAny_updateSeq
noncomputable def W9:=@PySem.F.slot_zip_next
noncomputable def XA:=@List.find?_cons
noncomputable def XB:=@beq_eq_false_iff_ne
noncomputable def XC:=@List.length_reverse
noncomputable def XD:=@Nat.lt_or_eq_of_le
noncomputable def XG:=@PySem.W.callWith_K
noncomputable def XH:=@Nat.le_succ
noncomputable def XI:=@beq_iff_eq
set_option Elab.async false
set_option linter.all false
set_option maxRecDepth 100000
set_option maxHeartbeats 6000000
namespace Jt
open PySem
noncomputable def Up(xs:Array Nat):Prop:=xs.toList.Pairwise (. < .)
theorem Up.lt(u:Up xs){i k a b:Nat}(h:i<k)(o:xs[i]?=some a)(C:xs[k]?=some b):a<b:=by rw[<- QA]at o C;obtain⟨I,J⟩:=xZ.mp o;obtain⟨U,e2⟩:=xZ.mp C;rw[<- J,<- e2];exact List.pairwise_iff_getElem.mp u i k I U h
theorem yp(u:Up xs):∀(fuel lo o:Nat),o<=xs.size->lo<=o->o-lo<=fuel->
  (∀i v,i<lo->xs[i]?=some v->v<j)->(∀i v,o<=i->xs[i]?=some v->j<=v)->
  SetTable.below.go xs j fuel lo o<=xs.size/\(∀i v,i<SetTable.below.go xs j fuel lo o->xs[i]?=some v->v<j)/\∀i v,SetTable.below.go xs j fuel lo o<=i->xs[i]?=some v->j<=v:=by intro fuel;induction fuel with
 |zero=>
  intro lo o I h2 h3 J U;have:lo=o:=by omega
  subst this;exact⟨I,J,U⟩
 |succ fuel ih=>
  intro lo o I h2 h3 J U;unfold SetTable.below.go;by_cases hl:lo<o
  .rw[fD hl];have hm:(lo+o)/2<xs.size:=by omega
   have eg:xs.getD ((lo+o)/2) j=xs[(lo+o)/2]:=by simp[Array.getD,hm]
   have em:xs[(lo+o)/2]?=some xs[(lo+o)/2]:=by simp[hm]
   by_cases hc:xs.getD ((lo+o)/2) j<j
   .rw[fD hc];refine ih _ _ I (by omega) (by omega) (λ i v C e=>?_) U;rcases XD (Nat.le_of_lt_succ C)with q|q
    .have:=u.lt q e em;omega
    .subst q;rw[em]at e;cases e;omega
   .rw[QB hc];refine ih _ _ (by omega) (by omega) (by omega) J λ i v C e=>?_;rcases XD C with q|q
    .have:=u.lt q em e;omega
    .subst q;rw[em]at e;cases e;omega
  .rw[QB hl];have:lo=o:=by omega
   subst this;exact⟨I,J,U⟩
theorem gR(u:Up xs)(j:Nat):SetTable.below xs j<=xs.size/\(∀i v,i<SetTable.below xs j->xs[i]?=some v->v<j)/\∀i v,SetTable.below xs j<=i->xs[i]?=some v->j<=v:=by refine yp u _ _ _ (xS _) (QY _) (by omega) (λ i v h=>absurd h (ZM _)) λ i v h e=>?_;grind
theorem nH(u:Up xs){j:Nat}(h:xs[SetTable.below xs j]?≠some j):j∉xs.toList:= λ hm=>by
 obtain⟨i,C,e⟩:=ZE hm;have o:xs[i]?=some j:=by rw[<- QA,kW C,e]
 obtain⟨_,b1,J⟩:=gR u j;rcases Nat.lt_trichotomy i (SetTable.below xs j)with q|q|q
 .exact absurd (b1 i j q o) (QX _)
 .rw[<- q]at h;exact h o
 .have U:SetTable.below xs j<xs.size:=gE q (by simpa using Nat.le_of_lt C);have I:xs[SetTable.below xs j]?=some xs[SetTable.below xs j]:=by simp
  have:=u.lt q I o;grind
theorem oj(u:Up xs){j:Nat}(h:j∉xs.toList):Up (SetTable.insertAt xs (SetTable.below xs j) j):=by
 unfold Up;rw[SetTable.toList_insertAt];obtain⟨b0,b1,U⟩:=gR u j;have J:xs.toList.Pairwise (. < .):=u;have hd:∀y∈xs.toList.drop (SetTable.below xs j),j<y:= λ y C=>by
  obtain⟨i,I,e⟩:=ZE C;rw[List.getElem_drop]at e;have hm:y∈xs.toList:=List.mem_of_mem_drop C;have:=U (SetTable.below xs j+i) y (by omega) (by rw[<- QA,xZ];exact⟨by simp at I;simp;omega,e⟩);rcases XD this with q|q
  .exact q
  .subst q;exact absurd hm h
 have ht:∀y∈xs.toList.take (SetTable.below xs j),y<j:= λ y C=>by
  obtain⟨i,I,e⟩:=ZE C;rw[List.getElem_take]at e;have o:i<SetTable.below xs j/\i<xs.toList.length:=by rw[VJ]at I;omega
  exact b1 i y o.1 (by rw[<- QA,xZ];exact⟨o.2,e⟩)
 rw[List.pairwise_append];refine⟨J.sublist (List.take_sublist _ _),?_,λ a ha b hb=>?_⟩;. rw[QE];exact⟨hd,J.sublist (List.drop_sublist _ _)⟩
 grind
noncomputable def Tb(t:SetTable):Prop:=t.plain=true->Up t.place
theorem wM{t:SetTable}{j:Nat}(u:Up t.place)(h:t.slot j= .empty\/t.slot j= .dummy):j∉t.place.toList:=by refine nH u λ e=>?_;unfold SetTable.slot at h;grind
theorem iH(t:SetTable)(p:SetTable.Probe):(t.advance p).dummy=p.dummy:=by unfold SetTable.advance;grind
theorem ua:∀(fuel:Nat)(p:SetTable.Probe)(j:Nat)(d:Option Nat),(∀x,p.dummy=some x->t.slot x= .dummy)->
  SetTable.probe.go t f h fuel p=some (.empty j d)->t.slot (d.getD j)= .empty\/t.slot (d.getD j)= .dummy:=by intro fuel;induction fuel with
 |zero=>intro p j d _ e;cases e
 |succ fuel o=>intro p j d C e;unfold SetTable.probe.go at e;cases q:t.slot p.j with
  |empty=>rw[q]at e;injection e with e;injection e with I J;subst I;cases d with
   |none=>exact .inl q
   |some x=>exact .inr (C x J)
  |dummy=>rw[q]at e;refine o _ j d (λ x hx=>?_) e;rw[iH]at hx;cases hx;exact q
  |live i=>
   rw[q]at e;dsimp only at e;split at e;. cases e
   .exact o _ j d (λ x hx=>C x (by rw[iH]at hx;exact hx)) e
theorem mX{t:SetTable}{h:Int}{j:Nat}{b:Bool}(u:Up t.place)(e:t.freeSlot h=some (j,b)):j∉t.place.toList:=by
 unfold SetTable.freeSlot at e;split at e;. rename_i o d q;cases e;exact wM u (ua _ _ _ _ (λ x hx=>by cases hx) q)
 grind
theorem x4(h:Tb t)(es:Array (Int×Value))(k:Int)(x:Value):Tb (layNew t es k x).2.1/\(layNew t es k x).2.1.led=t.led:=by
 unfold layNew;split
 .rename_i j b e;dsimp only;unfold SetTable.orStandIn;split;. exact⟨λ o=>oj (h o) (mX (h o) e),rfl⟩
  .exact⟨λ o=>absurd (show false=true from o) uS,rfl⟩
 .exact⟨λ o=>absurd (show false=true from o) uS,rfl⟩
theorem pA {mask finger moves:Nat} {led plain:Bool} {hs:Array Int} {t:SetTable} {o:Array Nat} (e:SetTable.laid mask finger moves led plain hs=some (t,o)):Up t.place∧t.led=led:= by
 unfold SetTable.laid at e
 cases q:SetTable.layClean mask hs with
 | none=>rw [q] at e;cases e
 | some owner=>
  rw [q] at e
  injection e with e
  injection e with e1 e2
  subst e1
  refine ⟨?_,rfl⟩
  show (List.map _ _).Pairwise _
  rw [List.pairwise_map]
  rw [List.pairwise_filterMap]
  refine List.Pairwise.imp (fun {a b} hab x hx y hy=>?_) List.pairwise_lt_range
  cases q1:owner.getD a none with
  | none=>rw [q1] at hx;cases hx
  | some _=>
   cases q2:owner.getD b none with
   | none=>rw [q2] at hy;cases hy
   | some _=>rw [q1] at hx;rw [q2] at hy;cases hx;cases hy;exact hab
theorem rH(t:SetTable)(es:Array (Int×Value))(n:Nat):Tb (relayAll t es n).2.1/\(relayAll t es n).2.1.led=t.led:=by
 unfold relayAll;split
 .rename_i t' o e;dsimp only;split;. obtain⟨I,J⟩:=pA e;exact⟨λ _=>I,J⟩
  .exact⟨λ C=>absurd (show false=true from C) uS,rfl⟩
 .exact⟨λ C=>absurd (show false=true from C) uS,rfl⟩
noncomputable def eo(p:Int×Tok):Int×Value:=(hashInt p.1,.int p.1 p.2)
noncomputable def ed(e:Int×Value):Int×Tok:=match e.2 with
 | .int i t=>(i,t)
 |_=>(0,0)
theorem Ll(p:Int×Tok):ed (eo p)=p:=rfl
theorem qg{es:Array (Int×Value)}{l:List (Int×Tok)}(p:es.toList.Perm (l.map eo)):∃o:List (Int×Tok),es.toList=o.map eo/\o.Perm l:=by
 refine⟨es.toList.map ed,?_,?_⟩
 .have:es.toList.map (eo∘ed)=es.toList.map id:=YZ λ x hx=>by obtain⟨q,_,rfl⟩:=QJ.mp (p.mem_iff.mp hx);rfl
  simp_all
 .have:=p.map ed;rw[VU]at this;have e:l.map (ed∘eo)=l:=by have:(ed∘eo)=id:=funext Ll;rw[this,List.map_id]
  rwa [e]at this
structure bG (w:World) (h:Heap) (a:Addr) (l:List (Int × Tok)) (ep:Nat) (t:SetTable):Prop where
 obj:∃o,h.get? a=some o∧o.ExactSet∧o.data=.set (l.map eo).toArray ep t
 few:l.length < scanBound
 fits:t.fits l.length=true
 led:t.led = !w.params.followText "set-order"
 tb:Tb t
section
variable {prog:Program} {w:World} {A:Around} {E:Value->Shared->Prop} {s:Shared} {a:Addr} {l:List (Int × Tok)} {ep:Nat} {t:SetTable}
theorem yL(l:List (Int×Tok)):ElemsOf (intKind prog w) (l.map eo):= λ e he=>by obtain⟨p,_,rfl⟩:=QJ.mp he;exact⟨⟨p.1,by simp[eo,intKind,Value.isInt],rfl⟩,rfl⟩
theorem C_(k:Int)(l:List (Int×Tok)):((l.map eo).findIdx? λ e=>(intKind prog w).is k e.2).isSome=decide (k∈l.map (·.1)):=by
 rw[VR,decide_eq_true_eq,List.findIdx?_isSome,List.any_eq_true];constructor;. rintro⟨e,he,C⟩;obtain⟨p,o,rfl⟩:=QJ.mp he;obtain⟨u,I⟩:=ZU (show Value.isInt k (.int p.1 p.2)=true from C);grind
 .intro h;obtain⟨p,o,rfl⟩:=QJ.mp h;exact⟨eo p,List.mem_map_of_mem o,by simp[eo,intKind,Value.isInt]⟩
theorem bG.store{t':SetTable}(x:bG w h a l ep t)(he:es.toList=C.map eo)(I:C.length<scanBound)(hf:t'.fits C.length=true)(J:t'.led=t.led)(U:Tb t'):
  bG w (h.update a (Obj.putSet es t')) a C (ep+1) t':=by
 obtain⟨o,ho,hx,hd⟩:=x.obj;have e2:es=(C.map eo).toArray:=by grind
 refine⟨⟨{ o with data:= .set es (ep+1) t' },?_,hx,by rw[e2]⟩,I,hf,J.trans x.led,U⟩;have:=QQ (Obj.putSet es t') ho (by rw[putSet_of es t' hd];rfl);rwa [putSet_of es t' hd]at this
theorem lR{Q:Unit->Shared->Prop}(x:bG w s.heap a l ep t)(hz:es.size<scanBound)(h:Q () { s with heap:=s.heap.update a (Obj.putSet es t') }):
  wpAny (model prog w) A (storeSet a es t') Q E s:=by obtain⟨o,C,_,hd⟩:=x.obj;exact wpAny_storeSet_of C hd h (YM hz)
theorem gW{es:Array (Int×Value)}{o:List (Int×Tok)}(h:es.toList=o.map eo):es.size=o.length:=by have:=Q9 List.length h;grind
theorem A0(x:bG w s.heap a l ep t)(ah:l.length+1<scanBound)
  (h:∀h' U I t' b,Heap.SameBut a s.heap h'->bG w h' a U I t'->(if k∈l.map (·.1)then U=l else U.Perm (l++[(k,tok)]))->Q b { s with heap:=h' }):
  wpAny (model prog w) A (setAddHashed a (.int k tok) (hashInt k)) Q E s:=by
 obtain⟨o,ho,hx,hd⟩:=x.obj;have hsz:(l.map eo).toArray.size=l.length:=by simp
 have ae:ElemsOf (intKind prog w) (l.map eo).toArray.toList:=by simpa using yL l
 have af:t.fits (l.map eo).toArray.size=true:=by rw[hsz];exact x.fits
 unfold setAddHashed setAddHashedIn;refine QP ?_;refine zN (ZV ho hd af ?_);show wpAny _ _ (if byScan (.int k tok) (l.map eo).toArray=true then _ else _) _ _ _;rw[fD (byScan_of (knd:=intKind prog w) rfl (by rw[hsz];exact x.few) ae)];refine zN ?_;unfold setAddByScan;refine zN (VE ?_);refine zN (wpAny_setScan_of (knd:=intKind prog w) (k:=k) (intKind_is _ _ _ _) ho hd af ae ?_);have ab:=C_ (prog:=prog) (w:=w) k l;rw[show(l.map eo).toArray.toList=l.map eo by simp];cases hr:(l.map eo).findIdx? (λ e=>(intKind prog w).is k e.2)with
 |some j=>rw[hr]at ab;have hm:k∈l.map (·.1):=ZC ab.symm;dsimp only;refine zS (zS ?_);have:=h s.heap l ep t false (Heap.SameBut.refl a s.heap) x (by rw[fD hm]);exact this
 |none=>
  rw[hr]at ab;have hm:k∉l.map (·.1):=of_decide_eq_false ab.symm;have p1:=layNew_perm t (l.map eo).toArray (hashInt k) (.int k tok);have f1:=layNew_fits t (l.map eo).toArray (hashInt k) (.int k tok);obtain⟨b1,b2⟩:=x4 x.tb (l.map eo).toArray (hashInt k) (.int k tok);generalize hL:layNew t (l.map eo).toArray (hashInt k) (.int k tok)=L at p1 f1 b1 b2|-;obtain⟨C,t1,dm,gv⟩:=L;dsimp only at p1 f1 b1 b2|-;rw[Array.toList_push,show(l.map eo).toArray.toList++[(hashInt k,Value.int k tok)]=(l++[(k,tok)]).map eo by simp[eo]]at p1;obtain⟨l1,e1,q1⟩:=qg p1;have n1:l1.length=l.length+1:=by rw[q1.length_eq];simp
  have z1:=gW e1;have fin:∀h' U I t',Heap.SameBut a s.heap h'->bG w h' a U I t'->U.Perm l1->Q true { s with heap:=h' }:= λ h' U I t' sb x' p'=>
   h h' U I t' true sb x' (by rw[QB hm];exact p'.trans q1);have gw:∀(b:Bool){J:Shared}{Q':Unit->Shared->Prop},Q' () J->wpAny (model prog w) A (match b with|true=>rule "set.scan.the-table-gave-way"|false=>pure ()) Q' E J:= λ b _ _ hq=>by
   cases b;. exact zS hq
   .exact VE hq
  refine zN (gw gv ?_);have x1:bG w (s.heap.update a (Obj.putSet C t1)) a l1 (ep+1) t1:=x.store e1 (by omega) (by rw[<- z1];exact f1) b2 b1;have ag:=Q5 s.heap a (Obj.putSet C t1);have tl:∀(g:Bool->Sem Unit)(R:Option Bool->Shared->Prop),(∀(b:Bool){J:Shared}{Q':Unit->Shared->Prop},Q' () J->wpAny (model prog w) A (g b) Q' E J)->
    (∀h' U I t',Heap.SameBut a s.heap h'->bG w h' a U I t'->U.Perm l1->R (some true) { s with heap:=h' })->
    wpAny (model prog w) A (storeSet a C t1 >>=λ _=>if(!dm&&t1.tooFull)=true then(g (relayAll t1 C (SetTable.grown C.size)).2.2 >>=λ _=>
     storeSet a (relayAll t1 C (SetTable.grown C.size)).1 (relayAll t1 C (SetTable.grown C.size)).2.1 >>=λ _=>pure (some true))else pure (some true)) R E s:= λ g R hg fin=>by
   refine zN (lR x (by omega) ?_);by_cases aa:(!dm&&t1.tooFull)=true;. rw[fD aa];have p2:=relayAll_perm t1 C (SetTable.grown C.size);have f2:=relayAll_fits t1 C (SetTable.grown C.size);obtain⟨c1,c2⟩:=rH t1 C (SetTable.grown C.size);generalize hR:relayAll t1 C (SetTable.grown C.size)=R at p2 f2 c1 c2|-;obtain⟨aj,t2,ai⟩:=R;rw[e1]at p2;obtain⟨l2,e2,q2⟩:=qg p2;have n2:l2.length=l1.length:=q2.length_eq;have z2:=gW e2;refine zN (hg ai ?_);refine zN (lR (s:={ s with heap:=s.heap.update a (Obj.putSet C t1) }) x1 (by omega) (zS ?_));exact fin _ l2 _ t2 (ag.trans (Q5 _ a _)) (x1.store e2 (by omega) (by rw[<- z2];exact f2) c2 c1) q2
   .rw[QB aa];exact zS (fin _ l1 _ t1 ag x1 (ZW _))
  split;. exact tl _ _ gw λ h' U I t' c1 c2 c3=>zS (fin h' U I t' c1 c2 c3)
  .exact tl _ _ gw λ h' U I t' c1 c2 c3=>zS (fin h' U I t' c1 c2 c3)
end
section
variable {prog:Program} {w:World} {A:Around} {E:Value->Shared->Prop} {s:Shared} {R:Result->Shared->Prop} {I:Addr} {fp wr:List Addr} {n:Nat} {P:Nat->Value->Prop} {St:Nat->Heap->Prop}
theorem bG.at (x:bG w h a l ep t) (k:∀o,h.get? a=some o->h'.get? a=some o):bG w h' a l ep t:= by
 obtain ⟨o,ho,hr⟩:=x.obj
 exact ⟨⟨o,k o ho,hr⟩,x.few,x.fits,x.led,x.tb⟩
theorem oO (W:Walks prog w A.in1 I fp wr n P St) (S:Addr) (hSf:S ∉ fp) (val:Nat->Int) (hval:∀i v,P i v->∃t,v=.int (val i) t) (hb:n + 1 < scanBound) :
  ∀(k i:Nat) (h:Heap) (tk:Nat) (l:List (Int × Tok)) (ep:Nat) (t:SetTable),n - i=k->i ≤ n->St i h->bG w h S l ep t->l.length ≤ i->(l.map (·.1)).Nodup->(∀z,z ∈ l.map (·.1) ↔ ∃j,j < i∧val j=z) ->
   (∀h' tk' l' ep' t',(∀b o,b ∉ S :: wr->h.get? b=some o->h'.get? b=some o)->bG w h' S l' ep' t' -> (l'.map (·.1)).Nodup->(∀z,z ∈ l'.map (·.1) ↔ ∃j,j < n∧val j=z)->R (.ok (.ret .none)) { s with heap:=h',toks:=tk' }) ->
   codeAny (model prog w) A (.builtin "set.update.loop" ⟨[.ref S,.ref I],[]⟩) R { s with heap:=h,toks:=tk }:= by
 have hSw:S ∉ wr:=fun z=>hSf (W.sub _ z)
 intro k
 induction k with
 | zero=>
  intro i h tk l ep t hk hi st x hl nd mem fin
  have ei:i=n:=by omega
  subst ei
  refine ZK ZO ?_
  rw [ZT Q6 _]
  show wpAny (model prog w) A.in1 (pyNext (.ref I) >>= _) _ _ _
  refine zN (W.done { s with heap:=h,toks:=tk } _ _ st fun h' tk' kp=>?_)
  exact zS (fin h' tk' l ep t (fun b o hb' e=>kp b o (fun z=>hb' (uN _ z)) e) (x.at fun o e=>kp S o hSw e) nd mem)
 | succ k ih=>
  intro i h tk l ep t hk hi st x hl nd mem fin
  have hlt:i < n:=by omega
  refine ZK ZO ?_
  rw [ZT Q6 _]
  show wpAny (model prog w) A.in1 (pyNext (.ref I) >>= _) _ _ _
  refine zN (W.item i { s with heap:=h,toks:=tk } _ _ hlt st fun v h1 tk1 hP st1 kp=>?_)
  obtain ⟨u,rfl⟩:=hval i v hP
  have x1:bG w h1 S l ep t:=x.at fun o e=>kp S o hSw e
  show wpAny (model prog w) A.in1 (holding [Value.int (val i) u] (setAdd S (.int (val i) u)) >>= _) _ _ _
  refine zN (QP ?_)
  unfold setAdd
  refine QP ?_
  refine zN ((intKind prog w).pyHash (k:=val i) (intKind_is _ _ _ _) ?_)
  refine A0 (s:={ s with heap:=h1,toks:=tk1 + 1 }) x1 (by omega) fun h2 l2 ep2 t2 b sb x2 hif=>?_
  have hm2:(∀z,z ∈ l2.map (·.1) ↔ ∃j,j < i + 1∧val j=z)∧(l2.map (·.1)).Nodup∧l2.length ≤ i + 1:= by
   by_cases hm:val i ∈ l.map (·.1)
   .rw [fD hm] at hif
    subst hif
    refine ⟨fun z=>(mem z).trans ⟨fun ⟨j,h1,h2⟩=>⟨j,by omega,h2⟩,fun ⟨j,h1,h2⟩=>?_⟩,nd,by omega⟩
    by_cases hj:j < i
    .exact ⟨j,hj,h2⟩
    .have:j=i:=by omega
     subst this
     exact (mem z).mp (h2 ▸ hm)
   .rw [QB hm] at hif
    have pm:(l2.map (·.1)).Perm (l.map (·.1) ++ [val i]):=by simpa using hif.map (·.1)
    refine ⟨fun z=>?_,?_,?_⟩
    .rw [pm.mem_iff,QD,mem z,wW]
     constructor
     .rintro (⟨j,h1,h2⟩ | e)
      .exact ⟨j,by omega,h2⟩
      .exact ⟨i,by omega,e.symm⟩
     .rintro ⟨j,h1,h2⟩
      by_cases hj:j < i
      .exact .inl ⟨j,hj,h2⟩
      .have:j=i:=by omega
       subst this
       exact .inr h2.symm
    .rw [pm.nodup_iff,YN]
     refine ⟨nd,by simp,fun p hp q hq e=>?_⟩
     rw [wW] at hq
     subst hq;subst e
     exact hm hp
    .rw [hif.length_eq];simp;omega
  refine zS ⟨YJ Q6 _,ih (i + 1) h2 (tk1 + 1) l2 ep2 t2 (by omega) hlt (W.frame _ h1 h2 st1 fun b hb' o e=>?_) x2 hm2.2.2 hm2.2.1 hm2.1 fun h' tk' l' ep' t' c1 c2 c3 c4=>fin h' tk' l' ep' t' (fun b o hb' e=>?_) c2 c3 c4⟩
  .rw [sb.2 b fun z=>hSf (z ▸ hb')];exact e
  .refine c1 b o hb' ?_
   rw [sb.2 b fun z=>hb' (z ▸ uL)]
   exact kp b o (fun z=>hb' (uN _ z)) e
theorem l_(e:h.get? S=some { cls:= .type "set",dict:=none,data:= .set #[] 0 (.fresh 0 0 (!w.params.followText "set-order")) }):bG w h S [] 0 (.fresh 0 0 (!w.params.followText "set-order")):=
 ⟨⟨_,e,⟨rfl,rfl,rfl⟩,rfl⟩,by decide,by rfl,rfl,λ _=>List.Pairwise.nil⟩
theorem hX (v:Value) {Q:Value->Shared->Prop} (h:Q (.ref s.heap.objs.size) { s with heap:=s.heap.push { cls:=.type "set",dict:=none,data:=.set #[] 0 (.fresh 0 0 (!w.params.followText "set-order")) } }) :
  codeAny (model prog w) A (.call (.builtin "set.__new__") ⟨[.type "set",v],[]⟩) (wants Q E) s:= by
 refine YG ?_
 show wpAny (model prog w) A.in1 (do checkBuiltinCall "set.__new__" ⟨[.type "set",v],[]⟩;again (.builtin "set.__new__" ⟨[.type "set",v],[]⟩)) _ _ s
 refine zN (wpAny_of_eq (F.newCall_set_1 v) (zS ⟨YJ F.plain_set_new _,ZK F.entry_set_new ?_⟩))
 rw [ZT F.plain_set_new _]
 have hsub:=sub_set_self
 obtain ⟨hp,g,d,tk,os⟩:=s
 unfold Builtin.«set.__new__» Builtin.Frozenset.newClass
 dsimp only
 wp_walk
 refine VL (zS ?_)
 dsimp only
 simp only [newObj]
 exact zN (wpAny_alloc (zS (zS h)))
set_option maxHeartbeats 8000000 in
theorem xO(hh:A.handled=none)(hl:s.heap.IsList l items)(hi:PyProof.Rows.IntsAre items.toList ns)(hb:items.size+1<scanBound)
  (h:∀(h':Heap)(tk:Nat)(ls:List (Int×Tok))(ep:Nat)(t:SetTable),bG w h' s.heap.objs.size ls ep t->(ls.map (·.1)).Nodup->(∀z,z∈ls.map (·.1)↔z∈ns)->
   (∀b o,s.heap.get? b=some o->h'.get? b=some o)->Q (.ref s.heap.objs.size) { s with heap:=h',toks:=tk }):
  wpAny (model prog w) A (call (.type "set") [.ref l]) Q E s:=by
 obtain⟨c,tl,aF⟩:=F.called_set.mro;have ax:=F.called_set.made;have aG:=F.called_set.sub;refine WB (YG (?_:wpAny _ _ (callAny (.type "set") _) _ _ _));refine zS ⟨Code.quiet_builtin _ (by decide+kernel),ZK F.entry_type_call ?_⟩;rw[Around.under_plain (WW "set" [.ref l] []) rfl];have h1:=F.called_set.notType;have h2:=F.called_set.canCreate;have aK:=F.typeCall_set_1 (.ref l);repeat(any_goals(first|assumption|wp_step))
 refine ZQ (hX (.ref l) (E:=E) (Q:= λ obj U=>obj= .ref s.heap.objs.size/\U={ s with heap:=s.heap.push { cls:= .type "set",dict:=none,data:= .set #[] 0 (.fresh 0 0 (!w.params.followText "set-order")) } }) ⟨rfl,rfl⟩) λ r U hr=>?_;cases r with
 |error e=> exact hr
 | ok fl =>cases fl with
  | ret obj=>
   obtain ⟨rfl,rfl⟩:=hr;have hS:(s.heap.push ({ cls:=.type "set",dict:=none,data:=.set #[] 0 (.fresh 0 0 (!w.params.followText "set-order")) }:Obj)).get? s.heap.objs.size=some ({ cls:=.type "set",dict:=none,data:=.set #[] 0 (.fresh 0 0 (!w.params.followText "set-order")) }:Obj):=wN _ rfl;have hT:Shared.TypeIs { s with heap:=s.heap.push ({ cls:=.type "set",dict:=none,data:=.set #[] 0 (.fresh 0 0 (!w.params.followText "set-order")) }:Obj) } (.ref s.heap.objs.size) "set":=⟨_,hS,rfl⟩;have aL:=F.called_set.init.lookup;have aM:=F.called_set.init.bind (.ref s.heap.objs.size);repeat (any_goals (first | assumption | wp_step))
   refine ZQ (YQ (R:=wants (λ r aa=>r=.none /\∃h' tk ls ep t,aa={ s with heap:=h',toks:=tk } /\ bG w h' s.heap.objs.size ls ep t /\ (ls.map (·.1)).Nodup /\ (∀z,z ∈ ls.map (·.1) ↔ z ∈ ns) /\
     (∀b o,s.heap.get? b=some o->h'.get? b=some o)) E) F.called_set.init.plain F.entry_set_init (check_set_init_1 hT ?_)) fun af aa C=>?_
   .obtain ⟨⟨aH,ay,az,aw⟩,ag,ah,nl,ai⟩:=hl;simp only at ah ai;subst ah;subst ai;have aj:=kT ({ cls:=.type "set",dict:=none,data:=.set #[] 0 (.fresh 0 0 (!w.params.followText "set-order")) }:Obj) ag;have aI:=F.sub_list_set;have aJ:=F.sub_list_frozenset;have aN:(Value.type "list" == Value.type "dict")=false:=by decide
    have ak:(s.heap.push ({ cls:=.type "set",dict:=none,data:=.set #[] 0 (.fresh 0 0 (!w.params.followText "set-order")) }:Obj)).IsList l items:=⟨_,aj,rfl,nl,rfl⟩;unfold Builtin.«set.__init__» noKeywords Builtin.Frozenset.updateFrom;generalize aA:pyIter=PI;wp_walk;subst aA;refine VW (s:={ s with heap:=s.heap.push ({ cls:=.type "set",dict:=none,data:=.set #[] 0 (.fresh 0 0 (!w.params.followText "set-order")) }:Obj) }) ak ?_;refine zN (WH ?_);have ao:l < s.heap.objs.size:=wV ag;have aB:A.in1.in1.in1.handled=none:=by simp [hh]
    have aq:l ≠ (s.heap.push ({ cls:=.type "set",dict:=none,data:=.set #[] 0 (.fresh 0 0 (!w.params.followText "set-order")) }:Obj)).objs.size:=by rw [gO];exact uT (ZX ao)
    have aC:s.heap.objs.size ∉ [(s.heap.push ({ cls:=.type "set",dict:=none,data:=.set #[] 0 (.fresh 0 0 (!w.params.followText "set-order")) }:Obj)).objs.size,l]:= by
     rw [gO];intro hm;rcases wR.mp hm with e | hm
     .exact uT (V5 _) e
     .exact VX ao (wW.mp hm)
    have ar:∀(i:Nat) (v:Value),items[i]? = some v->∃t,v=.int ((fun i=>ns.getD i 0) i) t:=fun i v hv=>PyProof.Rows.IntsAre.int_at hi i v (by rw [QA];exact hv);have aO:ns.length=items.size:=by have:=hi.length;simpa using this.symm
    refine oO (Walks.list aB _ l aq items) s.heap.objs.size aC (fun i=>ns.getD i 0) ar hb (items.size - 0) 0 _ s.toks [] 0 (.fresh 0 0 (!w.params.followText "set-order")) (by omega) (QY _) ⟨⟨_,wN _ rfl,rfl,rfl⟩,ak.push _⟩
     (l_ (kT _ hS)) (QY _) V6 (fun z=>⟨fun hz=>(by cases hz),fun ⟨j,hj,_⟩=>absurd hj (ZM _)⟩) fun h' aD l' aE t' kp x' ab J=>?_;refine zS (?_:wpAny _ _ (ret Value.none) _ _ _);refine zS ⟨rfl,h',aD,l',aE,t',rfl,x',ab,fun z=>(J z).trans ⟨fun ⟨j,hj,e⟩=>?_,fun hz=>?_⟩,fun b o e=>?_⟩
    .have au:j < ns.length:=by omega
     have:ns.getD j 0=ns[j]:=by simp [au]
     exact e ▸ this ▸ QN au
    .obtain ⟨j,hj,e⟩:=ZE hz
     exact ⟨j,by omega,by simp [hj,e]⟩
    .have av:=wV e
     refine kp b o (fun hm=>?_) (kT _ (kT _ e))
     rcases wR.mp hm with e' | hm
     .exact uT av e'
     .have:=wW.mp hm
      rw [gO] at this
      exact uT (ZX av) this
   .cases af with
    | error e=>exact C
    | ok ae=>
     cases ae with
     | ret r=>
      obtain ⟨rfl,h',tk,ls,ep,t,rfl,x',ab,J,kp⟩:=C
      repeat (any_goals (first | assumption | wp_step))
      exact h _ _ ls ep t x' ab J kp
     | _=>exact C.elim
  | _=>exact hr.elim
theorem r_:isSubtype (.type "tuple") (.type "set")=pure false:=by rw[isSubtype_type];rfl
theorem rp:isSubtype (.type "tuple") (.type "frozenset")=pure false:=by rw[isSubtype_type];rfl
set_option maxHeartbeats 8000000 in
theorem w4(hh:A.handled=none)(hl:s.heap.IsTuple l items)(hi:PyProof.Rows.IntsAre items.toList ns)(hb:items.size+1<scanBound)
  (h:∀(h':Heap)(tk:Nat)(ls:List (Int×Tok))(ep:Nat)(t:SetTable),bG w h' s.heap.objs.size ls ep t->(ls.map (·.1)).Nodup->(∀z,z∈ls.map (·.1)↔z∈ns)->
   (∀b o,s.heap.get? b=some o->h'.get? b=some o)->Q (.ref s.heap.objs.size) { s with heap:=h',toks:=tk }):
  wpAny (model prog w) A (call (.type "set") [.ref l]) Q E s:=by
 obtain⟨c,tl,aF⟩:=F.called_set.mro;have ax:=F.called_set.made;have aG:=F.called_set.sub;refine WB (YG (?_:wpAny _ _ (callAny (.type "set") _) _ _ _));refine zS ⟨Code.quiet_builtin _ (by decide+kernel),ZK F.entry_type_call ?_⟩;rw[Around.under_plain (WW "set" [.ref l] []) rfl];have h1:=F.called_set.notType;have h2:=F.called_set.canCreate;have aK:=F.typeCall_set_1 (.ref l);repeat(any_goals(first|assumption|wp_step))
 refine ZQ (hX (.ref l) (E:=E) (Q:= λ obj U=>obj= .ref s.heap.objs.size/\U={ s with heap:=s.heap.push { cls:= .type "set",dict:=none,data:= .set #[] 0 (.fresh 0 0 (!w.params.followText "set-order")) } }) ⟨rfl,rfl⟩) λ r U hr=>?_;cases r with
 |error e=>exact hr
 |ok fl=>cases fl with
  |ret obj=>
   obtain⟨rfl,rfl⟩:=hr;have hS:(s.heap.push ({ cls:= .type "set",dict:=none,data:= .set #[] 0 (.fresh 0 0 (!w.params.followText "set-order")) }:Obj)).get? s.heap.objs.size=some ({ cls:= .type "set",dict:=none,data:= .set #[] 0 (.fresh 0 0 (!w.params.followText "set-order")) }:Obj):=wN _ rfl;have hT:Shared.TypeIs { s with heap:=s.heap.push ({ cls:= .type "set",dict:=none,data:=.set #[] 0 (.fresh 0 0 (!w.params.followText "set-order")) }:Obj) } (.ref s.heap.objs.size) "set":=⟨_,hS,rfl⟩;have aL:=F.called_set.init.lookup;have aM:=F.called_set.init.bind (.ref s.heap.objs.size);repeat (any_goals (first | assumption | wp_step))
   refine ZQ (YQ (R:=wants (λ r aa=>r=.none /\∃h' tk ls ep t,aa={ s with heap:=h',toks:=tk } /\ bG w h' s.heap.objs.size ls ep t /\ (ls.map (·.1)).Nodup∧(∀z,z ∈ ls.map (·.1) ↔ z ∈ ns) ∧
     (∀b o,s.heap.get? b=some o->h'.get? b=some o)) E) F.called_set.init.plain F.entry_set_init (check_set_init_1 hT ?_)) fun af aa C=>?_
   .obtain ⟨⟨aH,ay,az,aw⟩,ag,ah,nl,ai⟩:=hl;simp only at ah ai;subst ah;subst ai;have aj:=kT ({ cls:=.type "set",dict:=none,data:=.set #[] 0 (.fresh 0 0 (!w.params.followText "set-order")) }:Obj) ag;have aI:=r_;have aJ:=rp;have aN:(Value.type "tuple" == Value.type "dict")=false:=by decide
    have ak:(s.heap.push ({ cls:=.type "set",dict:=none,data:=.set #[] 0 (.fresh 0 0 (!w.params.followText "set-order")) }:Obj)).IsTuple l items:=⟨_,aj,rfl,nl,rfl⟩;unfold Builtin.«set.__init__» noKeywords Builtin.Frozenset.updateFrom;generalize aA:pyIter=PI;wp_walk;subst aA;refine wpAny_pyIter_tuple (s:={ s with heap:=s.heap.push ({ cls:=.type "set",dict:=none,data:=.set #[] 0 (.fresh 0 0 (!w.params.followText "set-order")) }:Obj) }) ak ?_;refine zN (WH ?_);have ao:l < s.heap.objs.size:=wV ag;have aB:A.in1.in1.in1.handled=none:=by simp [hh]
    have aq:l ≠ (s.heap.push ({ cls:=.type "set",dict:=none,data:=.set #[] 0 (.fresh 0 0 (!w.params.followText "set-order")) }:Obj)).objs.size:=by rw [gO];exact uT (ZX ao)
    have aC:s.heap.objs.size ∉ [(s.heap.push ({ cls:=.type "set",dict:=none,data:=.set #[] 0 (.fresh 0 0 (!w.params.followText "set-order")) }:Obj)).objs.size,l]:= by
     rw [gO];intro hm;rcases wR.mp hm with e | hm
     .exact uT (V5 _) e
     .exact VX ao (wW.mp hm)
    have ar:∀(i:Nat) (v:Value),items[i]? = some v->∃t,v=.int ((fun i=>ns.getD i 0) i) t:=fun i v hv=>PyProof.Rows.IntsAre.int_at hi i v (by rw [QA];exact hv);have aO:ns.length=items.size:=by have:=hi.length;simpa using this.symm
    refine oO (Walks.tuple aB _ l aq items) s.heap.objs.size aC (fun i=>ns.getD i 0) ar hb (items.size - 0) 0 _ s.toks [] 0 (.fresh 0 0 (!w.params.followText "set-order")) (by omega) (QY _) ⟨⟨_,wN _ rfl,rfl,rfl⟩,ak.push _⟩
     (l_ (kT _ hS)) (QY _) V6 (fun z=>⟨fun hz=>(by cases hz),fun ⟨j,hj,_⟩=>absurd hj (ZM _)⟩) fun h' aD l' aE t' kp x' ab J=>?_;refine zS (?_:wpAny _ _ (ret Value.none) _ _ _);refine zS ⟨rfl,h',aD,l',aE,t',rfl,x',ab,fun z=>(J z).trans ⟨fun ⟨j,hj,e⟩=>?_,fun hz=>?_⟩,fun b o e=>?_⟩
    .have au:j < ns.length:=by omega
     have:ns.getD j 0=ns[j]:=by simp [au]
     exact e ▸ this ▸ QN au
    .obtain ⟨j,hj,e⟩:=ZE hz;exact ⟨j,by omega,by simp [hj,e]⟩
    .have av:=wV e;refine kp b o (fun hm=>?_) (kT _ (kT _ e));rcases wR.mp hm with e' | hm
     .exact uT av e'
     .have:=wW.mp hm;rw [gO] at this;exact uT (ZX av) this
   .cases af with
    | error e=>exact C
    | ok ae =>cases ae with
     | ret r=>
      obtain ⟨rfl,h',tk,ls,ep,t,rfl,x',ab,J,kp⟩:=C;repeat (any_goals (first | assumption | wp_step))
      exact h _ _ ls ep t x' ab J kp
     | _=>exact C.elim
  | _=>exact hr.elim
end
theorem yx:Manifest.owners.lookup (String.ofList ['r','o','t','a','r','e','t','i','_','t','e','s'].reverse)=some Manifest.sig_set_iterator:=by kernel_rfl
theorem cP:Slot "set_iterator" "__next__" "set_iterator.__next__":= .of (owner:="set_iterator") (n:="__next__") (by rfl) (by decide+kernel) (by decide+kernel) (by decide+kernel) (by first|exact .inl (by decide+kernel)|exact .inr (by decide+kernel)) (by kernel_rfl)
theorem lY:entryFor table "set_iterator.__next__"=some Builtin.«set_iterator.__next__»:=entryFor_of_tree (by rfl)
theorem mj(v:Value):argsOk "set_iterator.__next__" ⟨[v],[]⟩:=by unfold argsOk;rw[signature?_of (id:="set_iterator.__next__") (n:=['_','_','t','x','e','n','_','_']) (o:=['r','o','t','a','r','e','t','i','_','t','e','s']) (by kernel_rfl) yx];rfl
theorem gB:Slot "set_iterator" "__iter__" "set_iterator.__iter__":= .of (owner:="set_iterator") (n:="__iter__") (by rfl) (by decide+kernel) (by decide+kernel) (by decide+kernel) (by first|exact .inl (by decide+kernel)|exact .inr (by decide+kernel)) (by kernel_rfl)
theorem lU:entryFor table "set_iterator.__iter__"=some Builtin.«dict_keyiterator.__iter__»:=entryFor_alias (id':="dict_keyiterator.__iter__") (by kernel_rfl) (by first|rfl|decide+kernel|(unfold String.splitOn;simp+decide [String.splitOnAux])) (by decide+kernel) (by kernel_rfl)
theorem kY(v:Value):argsOk "set_iterator.__iter__" ⟨[v],[]⟩:=by unfold argsOk;rw[signature?_of (id:="set_iterator.__iter__") (n:=['_','_','r','e','t','i','_','_']) (o:=['r','o','t','a','r','e','t','i','_','t','e','s']) (by kernel_rfl) yx];rfl
theorem kh:entryFor table "set.__iter__"=some Builtin.«frozenset.__iter__»:=entryFor_alias (id':="frozenset.__iter__") (by kernel_rfl) (by first|rfl|decide+kernel|(unfold String.splitOn;simp+decide [String.splitOnAux])) (by decide+kernel) (by kernel_rfl)
noncomputable abbrev iP(h:Heap)(I S:Addr)(f0:Value)(i n o:Nat):Prop:=h.get? I=some { cls:= .type "set_iterator",dict:=none,data:= .fields #[f0,.int i 0,.ref S,.int n 0,.int o 0],slots:=#[] }
section
variable {prog:Program} {w:World} {A:Around} {E:Value->Shared->Prop} {s:Shared} {I S:Addr} {l:List (Int × Tok)} {ep:Nat} {t:SetTable} {i:Nat} {f0:Value}
theorem bG.state(x:bG w s.heap S l ep t)(h:Q ((l.map eo).toArray,ep,t) s):wpAny (model prog w) A (setState S) Q E s:=by obtain⟨o,C,_,hd⟩:=x.obj;exact ZV C hd (by simpa using x.fits) h
theorem bG.ty(x:bG w s.heap S l ep t):s.TypeIs (.ref S) "set":=by obtain⟨o,C,hx,_⟩:=x.obj;exact⟨o,C,hx.1⟩
theorem ic(C:A.handled=none)(J:∀h' e,(∀b o,s.heap.get? b=some o->h'.get? b=some o)->(∃o,h'.get? e=some o/\o.cls= .type "StopIteration")->E (.ref e) { s with heap:=h' }):
  wpAny (model prog w) A (newExc (.type "StopIteration") [] >>=λ x=>(raiseNew x:Sem α)) Q E s:=by refine zN ?_;refine zN (m:=firstArgMember _ _) (wpAny_of_eq (a:=Value.none) (by first|rfl|(simp)) ?_);refine QK ?_ (by size_fits);refine zN (wpAny_handled ?_);rw[C];refine zN (zS (wpAny_throw ?_));exact J _ _ (λ b o e=>kT _ (kT _ e)) ⟨_,wN _ rfl,rfl⟩
theorem eZ{Q:Option Value->Shared->Prop}(C:iP s.heap I S f0 i l.length ep)(x:bG w s.heap S l ep t)
  (h:wpAny (model prog w) A.in1 (if let .int slot _:=f0 then(do
    match<- setNext S slot.toNat i ep with
    |some (x,next)=>
     setField (.ref I) 0 (rawInt next)
     setField (.ref I) 1 (rawInt (i+1))
     ret x
    |none=>setField (.ref I) 2 .none;raiseNew (<- newExc (.type "StopIteration") []))
   else(do
    let some places<- seqItems? f0|unsupported "internal:set_iterator"
    match places[i]? with
    |some (.int place _)=>
     let x<- setNextDrawn S place.toNat ep
     setField (.ref I) 1 (rawInt (i+1))
     ret x
    |some _=>unsupported "internal:set_iterator"
    |none=>setField (.ref I) 0 (rawInt 0);setField (.ref I) 2 .none;raiseNew (<- newExc (.type "StopIteration") [])))
   (λ fin s'=>∃v,fin= .done (.ret v)/\Q (some v) s') (λ e s'=>(∃a o,e= .ref a/\s'.heap.get? a=some o/\o.cls= .type "StopIteration")/\Q none s') s):
  wpAny (model prog w) A (pyNext (.ref I)) Q E s:=by
 have J:s.TypeIs (.ref I) "set_iterator":=⟨_,C,rfl⟩;refine zN (V0 (QW (name:=Str.ofString "__next__") J cP (QO cP J lY ?_ (mj _))));refine zN (m:=slotArgs "__next__" 0 ⟨[.ref I],[]⟩) (zS ?_);refine zN (wpAny_fieldsOf C rfl ?_);refine zN ?_;refine zN (x.state (zS ?_));rw[QB (by simp)];refine gA h (λ fin s' h'=>?_) λ e s' h'=>?_;. obtain⟨v,rfl,q⟩:=h';exact⟨v,rfl,zS q⟩
 .obtain⟨⟨a,o,rfl,U,hc⟩,q⟩:=h';exact zN (VM (T:="StopIteration") (b:=true) ⟨o,U,hc⟩ isSubtype_stop (zS q))
end
section
variable {prog:Program} {w:World} {A:Around} {E:Value->Shared->Prop} {s:Shared} {I S:Addr} {l:List (Int × Tok)} {ep:Nat} {t:SetTable} {i:Nat} {f0:Value}
theorem jh{slot nx:Nat}{v:Value}(C:I≠S)(hI:iP s.heap I S (.int slot 0) i l.length ep)(x:bG w s.heap S l ep t)
  (hn:∀(Q':Option (Value×Nat)->Shared->Prop)(E':Value->Shared->Prop),Q' (some (v,nx)) s->wpAny (model prog w) A.in1 (setNext S slot i ep) Q' E' s)
  (hQ:∀h',iP h' I S (.int nx 0) (i+1) l.length ep->bG w h' S l ep t->(∀b o,b≠I->s.heap.get? b=some o->h'.get? b=some o)->Q (some v) { s with heap:=h' }):
  wpAny (model prog w) A (pyNext (.ref I)) Q E s:=by
 refine eZ hI x ?_;refine zN (hn _ _ ?_);refine zN (QU hI (by simp) λ h1 aa J=>?_);refine zN (QU aa (by simp) λ h2 ab U=>zS ⟨v,rfl,?_⟩);refine hQ h2 (by simpa[iP,rawInt]using ab) (x.at λ o e=>?_) λ b o hb e=>?_;. rw[U.2 S C.symm,J.2 S C.symm];exact e
 .rw[U.2 b hb,J.2 b hb];exact e
theorem eI{slot:Nat}(hh:A.handled=none)(J:iP s.heap I S (.int slot 0) i l.length ep)(x:bG w s.heap S l ep t)
  (hn:∀(U:Option (Value×Nat)->Shared->Prop)(E':Value->Shared->Prop),U none s->wpAny (model prog w) A.in1 (setNext S slot i ep) U E' s)
  (hQ:∀h',(∀b o,b≠I->s.heap.get? b=some o->h'.get? b=some o)->Q none { s with heap:=h' }):
  wpAny (model prog w) A (pyNext (.ref I)) Q E s:=by refine eZ J x ?_;refine zN (hn _ _ ?_);refine zN (QU J (by simp) λ h1 aa C=>?_);refine ic (s:={ s with heap:=h1 }) hh λ h' e kp he=>?_;obtain⟨o,ho,hc⟩:=he;refine⟨⟨e,o,rfl,ho,hc⟩,hQ h' λ b o hb e=>kp b o ?_⟩;rw[C.2 b hb];exact e
theorem pJ{T:Addr}{places:Array Value}{p:Nat}{v:Int×Tok}(J:I≠S)(aa:I≠T)(hI:iP s.heap I S (.ref T) i l.length ep)(x:bG w s.heap S l ep t)
  (hT:s.heap.get? T=some { cls:= .type "tuple",data:= .seq places })(hp:places[i]?=some (.int p 0))(hv:l[p]?=some v)
  (hQ:∀h',iP h' I S (.ref T) (i+1) l.length ep->bG w h' S l ep t->(∀b o,b≠I->s.heap.get? b=some o->h'.get? b=some o)->Q (some (.int v.1 v.2)) { s with heap:=h' }):
  wpAny (model prog w) A (pyNext (.ref I)) Q E s:=by
 refine eZ hI x ?_;refine zN (ZH hT rfl ?_);dsimp only;rw[hp];refine zN ?_;refine zN (x.state ?_);dsimp only;rw[QB (by simp)];have:(l.map eo).toArray[(p:Int).toNat]?=some (eo v):=by simp[hv]
 rw[this];refine zS ?_;refine zN (QU hI (by simp) λ h1 U C=>zS ⟨_,rfl,?_⟩);refine hQ h1 (by simpa[iP,rawInt]using U) (x.at λ o e=>?_) λ b o hb e=>?_;. rw[C.2 S J.symm];exact e
 .rw[C.2 b hb];exact e
theorem gV{T:Addr}{places:Array Value}(hh:A.handled=none)(hI:iP s.heap I S (.ref T) i l.length ep)(x:bG w s.heap S l ep t)
  (hT:s.heap.get? T=some { cls:= .type "tuple",data:= .seq places })(hp:places[i]?=none)
  (hQ:∀h',(∀b o,b≠I->s.heap.get? b=some o->h'.get? b=some o)->Q none { s with heap:=h' }):
  wpAny (model prog w) A (pyNext (.ref I)) Q E s:=by refine eZ hI x ?_;refine zN (ZH hT rfl ?_);dsimp only;rw[hp];refine zN (QU hI (by simp) λ h1 C J=>?_);refine zN (QU C (by simp) λ h2 aa U=>?_);refine ic (s:={ s with heap:=h2 }) hh λ h' e kp he=>?_;obtain⟨o,ho,hc⟩:=he;refine⟨⟨e,o,rfl,ho,hc⟩,hQ h' λ b o hb e=>kp b o ?_⟩;rw[U.2 b hb,J.2 b hb];exact e
theorem f_{n:Nat}(C:iP s.heap I S f0 i n ep)(h:Q (.ref I) s):wpAny (model prog w) A (pyIter (.ref I)) Q E s:=by have o:s.TypeIs (.ref I) "set_iterator":=⟨_,C,rfl⟩;refine YO o gB (QO gB o lU ?_ (kY _));exact zS ⟨_,rfl,"set_iterator",_,o,cP.lookup,h⟩
theorem iW{α:Type}:∀{l:List α}{i:Nat}(h:i<l.length),(l[i]::l.eraseIdx i).Perm l
 |[],_,h=>absurd h (ZM _)
 |x::l,0,_=>ZW _
 |x::l,i+1,h=>(List.Perm.swap _ _ _).trans ((iW (l:=l) (i:=i) (by grind)).cons x)
theorem E7(next:Nat->Nat):∀(fuel k:Nat)(left:List α)(out:Array α),fuel=left.length->(pickOrder.go next fuel k left out).toList.Perm (out.toList++left):=by intro fuel;induction fuel with
 |zero=>intro k left out h;have:left=[]:=Z8 h.symm;subst this;unfold pickOrder.go;simp
 |succ fuel C=>intro k left out h;unfold pickOrder.go;have o:next k%left.length<left.length:=W0 _ (by omega);rw[kW o];refine(C _ _ _ (by rw[YR];split <;> omega)).trans ?_;rw[Array.toList_push,WI];refine List.Perm.append_left _ ?_;exact(iW o)
theorem oU(next:Nat->Nat)(xs:Array α):(pickOrder next xs).toList.Perm xs.toList:=by unfold pickOrder;have:=E7 next xs.size 0 xs.toList #[] (by simp);grind
theorem lX{Q:List Nat->Shared->Prop}:∀(n:Nat)(xs:List Nat)(s:Shared),n=xs.length->(∀ys d,ys.Perm xs->Q ys { s with drawn:=d })->wpAny M A (drawOrder n xs) Q E s:=by intro n;induction n generalizing Q with
 |zero=>intro xs s h o;have:xs=[]:=Z8 h.symm;subst this;exact zS (o [] s.drawn (ZW _))
 |succ n J=>intro xs s h o;cases xs with
  |nil=>cases h
  |cons x xs=>refine zN (λ Γ p U=>?_);refine⟨by simp,?_⟩;rw[Sem.wp_pure];have C:M.w.draws Source.order (s.drawn.get Source.order)%(x::xs).length<(x::xs).length:=W0 _ (by simp);dsimp only;rw[kW C];refine zN (J _ _ (by rw[YR];split <;> (omega)) λ ys d py=>zS ?_);exact o _ d ((py.cons _).trans (iW C))
end
section
variable {prog:Program} {w:World} {A:Around} {E:Value->Shared->Prop} {s:Shared} {I S:Addr} {l:List (Int × Tok)} {ep:Nat} {t:SetTable} {i:Nat}
theorem fH(h:Q (w.params.followText "set-order") s):wpAny (model prog w) A setsByText Q E s:=zN (VL (zS h))
theorem jD(x:bG w s.heap S l ep t)(h:Q (!w.params.followText "set-order"&&(!t.plain&&decide (l.length>1))) s):wpAny (model prog w) A (setDrawn S) Q E s:=by
 refine zN (x.state ?_);refine zN (fH ?_);have e:(l.map eo).toArray.size=l.length:=by simp
 rw[<- e]at h;exact zS h
theorem fU(hw:w.params.followText "set-order"=true)(x:bG w s.heap S l ep t)(h:Q (((pickOrder (w.params.setOrder S ep) (l.map eo).toArray)[i]?).map λ e=>(e.2,slot)) s):
  wpAny (model prog w) A (setNext S slot i ep) Q E s:=by refine zN (x.state ?_);refine zN (fH ?_);rw[hw,fD rfl,QB (by simp)];refine zN ?_;refine zN (x.state ?_);refine zN (fH ?_);rw[hw];exact zN (VL (zS (zS h)))
theorem fm(hw:w.params.followText "set-order"=false)(hd:(!t.plain&&decide (l.length>1))=false)(x:bG w s.heap S l ep t)
  (h:Q (match(l.map eo).toArray[SetTable.below t.place slot]?,t.place[SetTable.below t.place slot]? with
   |some (_,x),some j=>some (x,j+1)
   |_,_=>none) s):wpAny (model prog w) A (setNext S slot i ep) Q E s:=by
 refine zN (x.state ?_);refine zN (fH ?_);rw[hw,QB uS];have e:(l.map eo).toArray.size=l.length:=by simp
 rw[<- e]at hd;refine(show∀{b:Bool}{m k:Sem (Option (Value×Nat))},b=false->wpAny (model prog w) A k Q E s->wpAny (model prog w) A (if b=true then m else k) Q E s from λ o C=>by simp_all) hd ?_;refine zN ?_;have U:t.led=true:=by rw[x.led,hw];rfl
 refine(show∀{b:Bool}{m k:Sem PUnit}{J:PUnit->Shared->Prop},b=false->wpAny (model prog w) A k J E s->wpAny (model prog w) A (if b=true then m else k) J E s from λ o C=>by rw[o];exact C) (show(!t.led&& !(l.map eo).toArray.isEmpty)=false by rw[U];rfl) ?_;exact zS (zS h)
noncomputable def gf(prog:Program)(w:World)(I S:Addr)(l:List (Int×Tok))(h':Heap)(top:Addr):Prop:=
 ∃(ord:List (Int×Tok)) (fp:List Addr) (St:Nat->Heap->Prop),ord.Perm l/\(∀A:Around,A.handled=none->Walks prog w A I fp [I] l.length (λ i v=>∃p,ord[i]?=some p/\v= .int p.1 p.2) St)/\St 0 h'/\
  (∀i h,St i h->∃o,h.get? I=some o/\o.cls= .type "set_iterator")/\I∈fp/\∀b∈fp,b<h'.objs.size/\(b=S\/top<=b)
theorem ia {h':Heap} {top:Addr} (hw:w.params.followText "set-order" = true) (hIS:I ≠ S) (ht:top ≤ I) (hI:iP h' I S (.int 0 0) 0 l.length ep) (x:bG w h' S l ep t):gf prog w I S l h' top:= by
 have p0:=oU (w.params.setOrder S ep) (l.map eo).toArray
 rw [show (l.map eo).toArray.toList=l.map eo by simp] at p0
 obtain ⟨ord,eord,pord⟩:=qg p0
 have eg:∀i:Nat,(pickOrder (w.params.setOrder S ep) (l.map eo).toArray)[i]? = (ord[i]?).map eo:=fun i=>by
  rw [<- QA,eord,QH]
 have hlen:ord.length=l.length:=pord.length_eq
 refine ⟨ord,[I,S],fun i h=>iP h I S (.int 0 0) i l.length ep∧bG w h S l ep t,pord,fun A hh=>⟨?_,?_,?_,?_,?_⟩,⟨hI,x⟩,fun i h st=>⟨_,st.1,rfl⟩,by simp,fun b hb=>?_⟩
 .intro b hb
  rw [wW.mp hb];simp
 .intro i h h2 st k
  exact ⟨k I (by simp) _ st.1,st.2.at fun o e=>k S (by simp) o e⟩
 .intro i s Q E hi st hQ
  have hx:ord[i]? = some ord[i]:=kW (by omega)
  refine jh (v:=.int ord[i].1 ord[i].2) (nx:=0) hIS st.1 st.2 (fun Q' E' q=>fU hw st.2 ?_) fun h2 a1 a2 a3=>hQ _ h2 s.toks ⟨_,hx,rfl⟩ ⟨a1,a2⟩ fun b o hb e=>a3 b o (fun z=>hb (by rw [z];simp)) e
  rw [eg,hx];exact q
 .intro s Q E st hQ
  refine eI hh st.1 st.2 (fun Q' E' q=>fU hw st.2 ?_) fun h2 a3=>hQ h2 s.toks fun b o hb e=>a3 b o (fun z=>hb (by rw [z];simp)) e
  simp_all
 .intro i s Q E st hQ
  exact f_ st.1 hQ
 .rcases wR.mp hb with e | hb
  .rw [e];exact ⟨wV hI,.inr ht⟩
  .rw [wW.mp hb]
   obtain ⟨o,ho,_⟩:=x.obj
   exact ⟨wV ho,.inl rfl⟩
theorem lK(u:Up xs){i j:Nat}(h:xs[i]?=some j):SetTable.below xs (j+1)=i+1:=by
 obtain⟨J,b1,C⟩:=gR u (j+1);have U:i<SetTable.below xs (j+1):=by
  rcases Nat.lt_or_ge i (SetTable.below xs (j+1))with q|q
  .exact q
  .have:=C i j q h;omega
 rcases Nat.lt_or_ge (i+1) (SetTable.below xs (j+1))with q|q
 .have hs:i+1<xs.size:=by omega
  have o:xs[i+1]?=some xs[i+1]:=by simp
  have a1:=b1 (i+1) _ q o;have a2:=u.lt (V5 i) h o;omega
 omega
theorem lQ(u:Up xs):SetTable.below xs 0=0:=by
 obtain⟨o,b1,C⟩:=gR u 0;rcases Nat.eq_zero_or_pos (SetTable.below xs 0)with q|q
 .exact q
 .have J:xs[0]?=some xs[0]:=by simp
  grind
theorem gx{top:Addr}(hw:w.params.followText "set-order"=false)(hd:(!t.plain&&decide (l.length>1))=false)(ab:I≠S)(ht:top<=I)(hI:iP h' I S (.int 0 0) 0 l.length ep)(x:bG w h' S l ep t):gf prog w I S l h' top:=by
 have hsz:t.place.size=l.length:=by have:=x.fits;simp only[SetTable.fits,Q1,XI]at this;exact this.1
 have u:Up t.place:=by cases hp:t.plain with
  |true=>exact x.tb hp
  |false=>
   rw[hp]at hd;have hl: ¬l.length>1:=by simpa using hd
   unfold Up;have aa:t.place.toList.length<=1:=by rw[VF];omega
   generalize t.place.toList=q at aa;match q,aa with
   |[],_=>exact List.Pairwise.nil
   |[_],_=>exact ZL _ _
   |_::_::_,h=>simp at h
 refine⟨l,[I,S],λ i h=>∃slot:Nat,iP h I S (.int slot 0) i l.length ep/\bG w h S l ep t/\SetTable.below t.place slot=i,ZW _,λ A hh=>⟨?_,?_,?_,?_,?_⟩,⟨0,hI,x,lQ u⟩,λ i h ⟨_,st,_⟩=>⟨_,st,rfl⟩,by simp,λ b hb=>?_⟩;. intro b hb;rw[wW.mp hb];simp
 .rintro i h h2 ⟨slot,J,C,U⟩ k;exact⟨slot,k I (by simp) _ J,C.at λ o e=>k S (by simp) o e,U⟩
 .rintro i s Q E hi ⟨slot,J,C,U⟩ hQ;have hx:l[i]?=some l[i]:=kW hi;have hp:t.place[i]?=some t.place[i]:=by simp[hsz,hi]
  refine jh (v:= .int l[i].1 l[i].2) (nx:=t.place[i]+1) ab J C (λ Q' E' q=>fm hw hd C ?_) λ h2 a1 a2 a3=>hQ _ h2 s.toks ⟨_,hx,rfl⟩ ⟨_,a1,a2,lK u hp⟩ λ b o hb e=>a3 b o (λ z=>hb (by rw[z];simp)) e;have e1:(l.map eo).toArray[i]?=some (eo l[i]):=by simp[hi]
  rw[U,e1,hp];exact q
 .rintro s Q E ⟨slot,J,C,U⟩ hQ;refine eI hh J C (λ Q' E' q=>fm hw hd C ?_) λ h2 a3=>hQ h2 s.toks λ b o hb e=> a3 b o (λ z=>hb (by rw [z];simp)) e;have e1:(l.map eo).toArray[l.length]? = none:=by simp
  rw [U,e1];exact q
 .rintro i s Q E ⟨slot,J,C,U⟩ hQ;exact f_ J hQ
 .rcases wR.mp hb with e | hb
  .rw [e];exact ⟨wV hI,.inr ht⟩
  .rw [wW.mp hb];obtain ⟨o,ho,_⟩:=x.obj;exact ⟨wV ho,.inl rfl⟩
theorem gZ {h':Heap} {top T:Addr} {ys:List Nat} (hp:ys.Perm (List.range l.length)) (hIS:I ≠ S) (hIT:I ≠ T) (ht:top ≤ I) (htT:top ≤ T) (hI:iP h' I S (.ref T) 0 l.length ep) (x:bG w h' S l ep t)
  (hT:h'.get? T=some { cls:=.type "tuple",data:=.seq (ys.map fun (i:Nat)=>rawInt i).toArray }):gf prog w I S l h' top:= by
 have hyl:ys.length=l.length:=by rw [hp.length_eq,VY]
 have hin:∀y ∈ ys,y < l.length:=fun y hy=>QL.mp (hp.mem_iff.mp hy)
 have hpo:(ys.filterMap fun i=>l[i]?).Perm l:=(hp.filterMap _).trans (by rw [List.filterMap_getElem?_range_length])
 have eg:∀i (h:i < ys.length),(ys.filterMap fun i=>l[i]?)[i]? = l[ys[i]]?:= by
  have gen:∀(zs:List Nat),(∀y ∈ zs,y < l.length)->∀i (h:i < zs.length),(zs.filterMap fun i=>l[i]?)[i]? = l[zs[i]]?:= by
   intro zs
   induction zs with
   | nil=>intro _ i h;exact absurd h (ZM _)
   | cons z zs ih=>
    intro hz i h
    have hzl:z < l.length:=hz z uL
    have e1:l[z]? = some l[z]:=kW hzl
    rw [ZD e1]
    cases i with
    | zero=>simp [e1]
    | succ i=>simpa using ih (fun y hy=>hz y (uN _ hy)) i (by simpa using h)
  grind
 refine ⟨ys.filterMap fun i=>l[i]?,[I,S,T],fun i h=>iP h I S (.ref T) i l.length ep∧bG w h S l ep t∧h.get? T=some { cls:=.type "tuple",data:=.seq (ys.map fun (i:Nat)=>rawInt i).toArray },hpo,fun A hh=>⟨?_,?_,?_,?_,?_⟩,⟨hI,x,hT⟩,fun i h st=>⟨_,st.1,rfl⟩,by simp,fun b hb=>?_⟩
 .intro b hb
  rw [wW.mp hb];simp
 .rintro i h h2 ⟨st1,st2,st3⟩ k
  exact ⟨k I (by simp) _ st1,st2.at fun o e=>k S (by simp) o e,k T (by simp) _ st3⟩
 .rintro i s Q E hi ⟨st1,st2,st3⟩ hQ
  have hi':i < ys.length:=by omega
  have hyi:ys[i] < l.length:=hin _ (QN hi')
  have hx:l[ys[i]]? = some l[ys[i]]:=kW hyi
  refine pJ hIS hIT st1 st2 st3 (p:=ys[i]) (by simp [hi',rawInt]) hx fun h2 a1 a2 a3=>hQ _ h2 s.toks ⟨_,(eg i hi').trans hx,rfl⟩ ⟨a1,a2,a3 T _ (fun z=>hIT z.symm) st3⟩ fun b o hb e=>a3 b o (fun z=>hb (by rw [z];simp)) e
 .rintro s Q E ⟨st1,st2,st3⟩ hQ
  exact gV hh st1 st2 st3 (by simp [hyl]) fun h2 a3=>hQ h2 s.toks fun b o hb e=>a3 b o (fun z=>hb (by rw [z];simp)) e
 .rintro i s Q E ⟨st1,st2,st3⟩ hQ
  exact f_ st1 hQ
 .rcases wR.mp hb with e | hb
  .rw [e];exact ⟨wV hI,.inr ht⟩
  .rcases wR.mp hb with e | hb
   .rw [e]
    obtain ⟨o,ho,_⟩:=x.obj
    exact ⟨wV ho,.inl rfl⟩
   .rw [wW.mp hb]
    exact ⟨wV hT,.inr htT⟩
theorem jQ(x:bG w s.heap S l ep t)
  (h:∀(I:Addr)(h':Heap)(d:Drawn),(∀b o,s.heap.get? b=some o->h'.get? b=some o)->s.heap.objs.size<=I->gf prog w I S l h' s.heap.objs.size->Q (.ref I) { s with heap:=h',drawn:=d }):
  wpAny (model prog w) A (pyIter (.ref S)) Q E s:=by
 have U:S<s.heap.objs.size:=by obtain⟨o,ho,_⟩:=x.obj;exact wV ho
 refine YO x.ty W7 (QO W7 x.ty kh ?_ (F.args_set_iter_1 _));refine zN (m:=Builtin.Frozenset.slot0 "__iter__" ⟨[.ref S],[]⟩) (zS ?_);refine zN ?_;refine zN (zN (x.state (zS (zS ?_))));have ez:(l.map eo).toArray.size=l.length:=by simp
 rw[ez];refine zN (jD x ?_);by_cases hb:(!w.params.followText "set-order"&&(!t.plain&&decide (l.length>1)))=true
 .rw[fD hb];refine zN (lX l.length (List.range l.length) s (by simp) λ ys d py=>?_);have aa:ys.length=l.length:=by rw[py.length_eq,VY]
  refine zN (wpAny_newTuple ?_ (by rw[wF,aa];exact YM x.few));have C:bG w (s.heap.push { cls:= .type "tuple",data:= .seq (ys.map λ(i:Nat)=>rawInt i).toArray }) S l ep t:=x.at λ o e=>kT _ e;refine zN ?_;refine zN (bG.state (s:={ s with drawn:=d,heap:=s.heap.push { cls:= .type "tuple",data:= .seq (ys.map λ(i:Nat)=>rawInt i).toArray } }) C (zS ?_));refine zN (QK (zS ⟨_,rfl,"set_iterator",_,⟨_,wN _ rfl,rfl⟩,cP.lookup,?_⟩));refine h _ _ d (λ b o e=>kT _ (kT _ e)) (by rw[gO];exact XH _) ?_;refine gZ (t:=t) py (λ z=>?_) (λ z=>?_) ?_ (xS _) (wN _ rfl) (C.at λ o e=>kT _ e) (kT _ (wN _ rfl));. rw[<- z]at U;have J:(s.heap.push { cls:= .type "tuple",data:= .seq (ys.map λ(i:Nat)=>rawInt i).toArray }).objs.size<s.heap.objs.size:=U;rw[gO]at J;exact absurd J (YB.mpr (XH _))
  .have z':(s.heap.push { cls:= .type "tuple",data:= .seq (ys.map λ(i:Nat)=>rawInt i).toArray }).objs.size=s.heap.objs.size:=z;rw[gO]at z';exact Nat.succ_ne_self _ z'
  simp
 .rw[QB hb];refine zN (zS ?_);refine zN ?_;refine zN (x.state (zS ?_));refine zN (QK (zS ⟨_,rfl,"set_iterator",_,⟨_,wN _ rfl,rfl⟩,cP.lookup,?_⟩));refine h _ _ s.drawn (λ b o e=>kT _ e) (xS _) ?_;have C:bG w (s.heap.push { cls:= .type "set_iterator",data:= .fields [rawInt 0,rawInt 0,.ref S,rawInt l.length,rawInt ep].toArray }) S l ep t:=x.at λ o e=>kT _ e;cases hw:w.params.followText "set-order" with
  |true=>exact ia hw (λ z=>QX _ (z▸U)) (xS _) (wN _ rfl) C
  |false=>rw[hw]at hb;exact gx hw (by simpa using hb) (λ z=>QX _ (z▸U)) (xS _) (wN _ rfl) C
end
section
variable {prog:Program} {w:World} {A:Around} {E:Value->Shared->Prop} {s:Shared} {I S:Addr} {l:List (Int × Tok)} {ep:Nat} {t:SetTable}
theorem mw(x:bG w s.heap S l ep t)(h:Q false s):wpAny (model prog w) A (Builtin.List.listLengthHint (.ref S)) Q E s:=by refine zN (wpAny_specialOf x.ty F.slot_set_len.lookup ?_);generalize Av:("set.__len__":String)=o;wp_delta;subst Av;refine zN (VM (T:="set") (b:=true) x.ty (by kernel_rfl) ?_);exact zN (VZ x.ty (zS h))
theorem FK{ord:List (Int×Tok)}{acc:Array Value}(h:ItemsOf (λ i v=>∃p,ord[i]?=some p/\v= .int p.1 p.2) acc ord.length):acc.toList=ord.map λ p=>Value.int p.1 p.2:=by
 refine WJ λ i=>?_;rw[QH];by_cases o:i<acc.size
 .have e:acc[i]?=some acc[i]:=by simp
  obtain⟨p,C,J⟩:=h.2 i _ e;simp_all
 .rw[QA,VG (by omega),YK (by have:=h.1;omega)];rfl
theorem gC{Q:List Value->Shared->Prop}(hh:A.handled=none)(x:bG w s.heap S l ep t)
  (h:∀(ord:List (Int×Tok))(h':Heap)(tk:Nat)(d:Drawn),ord.Perm l->(∀b o,s.heap.get? b=some o->h'.get? b=some o)->Q (ord.map λ p=>Value.int p.1 p.2) { s with heap:=h',toks:=tk,drawn:=d }):
  wpAny (model prog w) A (collect (.ref S)) Q E s:=by
 have C:S<s.heap.objs.size:=by obtain⟨o,ho,_⟩:=x.obj;exact wV ho
 refine zN (WH (ZK F.entry_proto_collect ?_));refine zN (QK (zS ⟨YJ WK _,ZK F.entry_list_iadd ?_⟩));rw[ZT WK _];have g1:(s.heap.push { cls:= .type "list",data:= .seq ([]:List Value).toArray }).get? s.heap.objs.size=some { cls:= .type "list",data:= .seq ([]:List Value).toArray }:=wN _ rfl;have x1:bG w (s.heap.push { cls:= .type "list",data:= .seq ([]:List Value).toArray }) S l ep t:=x.at λ o e=>kT _ e;have af:Builtin.List.listSameRef (.ref s.heap.objs.size) (.ref S)=false:=by show(s.heap.objs.size==S)=false;simp only[XB];exact VX C
 show wpAny (model prog w) A.in1 (Builtin.List.listExtendWith (.ref s.heap.objs.size) (.ref S) (.ref s.heap.objs.size)) _ _ _;refine zN (VZ (bG.ty (s:={ s with heap:=s.heap.push { cls:= .type "list",data:= .seq ([]:List Value).toArray } }) x1) ?_);have h2:(Value.type "set"==Value.type "list")=false:=by decide
 have h3:(Value.type "set"==Value.type "tuple")=false:=by decide
 simp[af];refine zN (jQ (s:={ s with heap:=s.heap.push { cls:= .type "list",data:= .seq ([]:List Value).toArray } }) x1 λ I U d kp hI Y=>?_);have x2:bG w U S l ep t:=x1.at λ o e=>kp S o e;refine zN (QP (mw (s:={ s with heap:=U,drawn:=d }) x2 ?_));refine zN (VE (zN ?_));have g2:=kp _ _ g1;refine zN (W8 (s:={ s with heap:=U,drawn:=d }) g2 rfl ?_)
 have g3:=QQ (Obj.mapSeq (·.push Value.none)) g2 rfl
 refine W8 (s:={ s with heap:=U.update s.heap.objs.size (Obj.mapSeq (·.push Value.none)),drawn:=d }) g3 rfl ?_ (hz:=by seq_fits)
 have g4:=QQ (Obj.mapSeq (·.pop)) g3 rfl
 obtain⟨ord,fp,St,po,W,ag,hT,ao,ah⟩:=Y
 have ab:s.heap.objs.size∉fp:= λ hm=>by
  obtain⟨_,h6⟩:=ah _ hm
  rcases h6 with e|e
  .rw[e]at C;exact QX _ C
  .have e':(s.heap.push { cls:= .type "list",data:= .seq ([]:List Value).toArray }).objs.size<=s.heap.objs.size:=e
   rw[gO]at e'
   exact Nat.not_succ_le_self _ e'
 have oth:∀b o,b≠s.heap.objs.size->U.get? b=some o->((U.update s.heap.objs.size (Obj.mapSeq (·.push Value.none))).update s.heap.objs.size (Obj.mapSeq (·.pop))).get? b=some o:= λ b o hb e=>by
  rw[QS _ _ (Ne.symm hb),QS _ _ (Ne.symm hb)];exact e
 have hlen:ord.length=l.length:=po.length_eq
 have ai:St 0 ((U.update s.heap.objs.size (Obj.mapSeq (·.push Value.none))).update s.heap.objs.size (Obj.mapSeq (·.pop))):=(W A.in1 hh).frame 0 U _ ag λ b hb o e=>oth b o (λ z=>ab (z▸hb)) e
 refine zS ⟨YJ F.plain_extend_loop _,codeAny_extend_loopS (W A.in1 hh).toS (YM x.few) _ ab _ l.length 0 { s with heap:=(U.update s.heap.objs.size (Obj.mapSeq (·.push Value.none))).update s.heap.objs.size (Obj.mapSeq (·.pop)),drawn:=d } #[] _ rfl (QY _) ai g4 (ItemsOf.nil _) fun s' ak c' hm aj aa=>?_⟩
 refine zN (wpAny_load aj (zS ?_))
 rw[<-hlen]at aa
 rw[FK aa,Moved.eq_with hm]
 refine h ord s'.heap s'.toks d po fun b o e=>?_
 have hb:=wV e
 refine hm.heap b o (fun J=>?_) (oth b o (uT hb) (kp b o (kT _ e)))
 rcases wR.mp J with e'|J
 .rw[e']at hb;exact QX _ hb
 .have e':=wW.mp J
  have ae:(s.heap.push { cls:= .type "list",data:= .seq ([]:List Value).toArray }).objs.size≤I:=hI
  rw[gO]at ae
  exact absurd hb (YB.mpr (VC (e'▸ae)))
theorem kc{ns:List Int}{Q:Value->Shared->Prop}
  (hc:∀(U:Around)(Q':List Value->Shared->Prop)(E':Value->Shared->Prop),(U.handled=A.handled)->(∀(vs:List Value)(ms:List Int)(h':Heap)(tk:Nat)(d:Drawn),PyProof.Rows.IntsAre vs ms->ms.Perm ns->(∀b o,s.heap.get? b=some o->h'.get? b=some o)->Q' vs { s with heap:=h',toks:=tk,drawn:=d })->
   wpAny (model prog w) U (collect v) Q' E' s)(aa:ns.length<64)
  (h:∀(C h':Heap)(tk:Nat)(d:Drawn)(out:List Value)(ms:List Int)(e:Nat),(∀b o,s.heap.get? b=some o->C.get? b=some o)->(∀b o,C.get? b=some o->h'.get? b=some o)->h'.get? C.objs.size=some { cls:= .type "list",data:= .seq out.toArray e }->
   PyProof.Rows.IntsAre out ms->ms.Perm ns->ms.Pairwise (. <= .)->Q (.ref C.objs.size) { s with heap:=h',toks:=tk,drawn:=d }):
  wpAny (model prog w) A (call (.builtin "sorted") [v]) Q E s:=by
 refine Calls.call_function_entry PyProof.Rows.kind_sorted PyProof.Rows.plain_sorted PyProof.Rows.entry_sorted (PyProof.Rows.args_sorted1 _) ?_;refine zN (m:=checkCount "sorted" 1 1 _) (zS ?_);refine zN (hc _ _ _ (by simp) λ vs ms C tk d hi pm kp=>?_);have hl:vs.length=ns.length:=by rw[hi.length,pm.length_eq]
 refine zN (wpAny_newList ?_ (by rw[VI];omega));have g1:(C.push (PyProof.Rows.seqObj "list" vs.toArray 0)).get? C.objs.size=some (PyProof.Rows.seqObj "list" vs.toArray 0):=wN _ rfl;refine zN (QP (QO PyProof.Rows.slot_list_sort ⟨_,g1,rfl⟩ PyProof.Rows.entry_list_sort (PyProof.Rows.list_sort_tree (s:={ s with heap:=C.push (PyProof.Rows.seqObj "list" vs.toArray 0),toks:=tk,drawn:=d }) g1 hi (by omega) λ out J a1 a2 a3=>⟨_,rfl,?_⟩) (PyProof.Rows.args_list_sort _)));obtain⟨e,he⟩:=PyProof.Rows.sortedHeap_at (out:=out) g1;refine zS ⟨_,rfl,h C _ tk d out.toList J e kp (λ b o eb=>?_) (by omega) a1 (a2.trans pm) a3⟩;have hb:=wV eb;rw[PyProof.Rows.sortedHeap_old (uT hb) (by rw[gO];grind)];exact kT _ eb
end
noncomputable def qD(b:Bool)(h:Heap)(q:Addr)(xs:Array Value):Prop:=match b with
 |true=>h.IsTuple q xs
 |false=>h.IsList q xs
noncomputable def qC(b:Bool)(h:Heap)(it q:Addr)(k:Nat):Prop:=match b with
 |true=>h.IsTupleIter it q k
 |false=>h.IsListIter it q k
noncomputable def gD(b:Bool)(q:Addr):Obj:={ cls:= .type (if b then"tuple_iterator" else"list_iterator"),data:= .fields #[.ref q,.int 0 0] }
section
variable {prog:Program} {w:World} {A:Around} {E:Value->Shared->Prop} {s:Shared} {b:Bool} {it q:Addr} {k:Nat} {xs:Array Value}
theorem qD.at(x:qD b h q xs)(e:∀o,h.get? q=some o->h'.get? q=some o):qD b h' q xs:=by cases b with
 |true=>obtain⟨o,C,r⟩:=x;exact⟨o,e o C,r⟩
 |false=>obtain⟨o,C,r⟩:=x;exact⟨o,e o C,r⟩
theorem qC.at(x:qC b h it q k)(e:∀o,h.get? it=some o->h'.get? it=some o):qC b h' it q k:=by cases b with
 |true=>obtain⟨o,C,r⟩:=x;exact⟨o,e o C,r⟩
 |false=>obtain⟨o,C,r⟩:=x;exact⟨o,e o C,r⟩
theorem qC.lt(x:qC b h it q k):it<h.objs.size:=by cases b with
 |true=>obtain⟨o,C,r⟩:=x;exact wV C
 |false=>obtain⟨o,C,r⟩:=x;exact wV C
theorem qD.lt(x:qD b h q xs):q<h.objs.size:=by cases b with
 |true=>obtain⟨o,C,r⟩:=x;exact wV C
 |false=>obtain⟨o,C,r⟩:=x;exact wV C
theorem wu(x:qD b s.heap q xs)(h:Q (.ref s.heap.objs.size) { s with heap:=s.heap.push (gD b q) }):wpAny (model prog w) A (pyIter (.ref q)) Q E s:=by cases b with
 |true=>exact wpAny_pyIter_tuple x h
 |false=>exact VW x h
theorem qC.new{h:Heap}:qC b (h.push (gD b q)) h.objs.size q 0:=by cases b with
 |true=>exact⟨_,wN _ rfl,rfl,rfl⟩
 |false=>exact⟨_,wN _ rfl,rfl,rfl⟩
theorem o9(U:qC b s.heap it q k)(hq:qD b s.heap q xs)(hx:xs[k]?=some x)(h:∀h',qC b h' it q (k+1)->Heap.SameBut it s.heap h'->Q x { s with heap:=h' }):
  wpAny (model prog w) A (Builtin.SmallTypes.nextOf (.ref it)) Q E s:=by cases b with
 |false=>exact wpAny_nextOf_list_item U hq hx h
 |true=>obtain⟨o,C,hc,hd⟩:=id U;obtain⟨oq,I,_,n,J⟩:=hq;have hT:s.TypeIs (.ref it) "tuple_iterator":=⟨o,C,hc⟩;refine zN (QW (name:=Str.ofString "__next__") hT VN (QO VN hT F.entry_tuple_iterator_next (?_:wpAny _ _ (field (.ref it) 0 >>= _) _ _ s) (F.args_tuple_iterator_next_1 _)));refine zN (Q7 C hd (x:= .ref q) rfl (?_:wpAny _ _ (if(Value.ref q==Value.none)=true then _ else _) _ _ s));refine zN (Q7 C hd (x:= .int k 0) rfl (?_:wpAny _ _ (seqItems? (.ref q) >>= _) _ _ s));refine zN (ZH I J ?_);simp[hx];refine zN (V7 C hd (by simp) (zS ⟨x,rfl,zS (h _ ⟨_,QQ _ C (WX (VO hd _)),(Obj.cls_mapFields ..).trans hc,?_⟩ (Q5 ..))⟩));rw[VO hd];rfl
theorem A3(hh:A.handled=none)(hi:qC b s.heap it q k)(hq:qD b s.heap q xs)(hx:xs[k]?=none)
  (h:∀h' e,(∀c o,c≠it->s.heap.get? c=some o->h'.get? c=some o)->(∃o,h'.get? e=some o/\o.cls= .type "StopIteration")->E (.ref e) { s with heap:=h' }):
  wpAny (model prog w) A (Builtin.SmallTypes.nextOf (.ref it)) Q E s:=by cases b with
 |false=>exact wpAny_nextOf_list_end hh hi hq hx h
 |true=>obtain⟨o,C,I,hd⟩:=id hi;obtain⟨oq,J,_,n,U⟩:=hq;have hT:s.TypeIs (.ref it) "tuple_iterator":=⟨o,C,I⟩;refine zN (QW (name:=Str.ofString "__next__") hT VN (QO VN hT F.entry_tuple_iterator_next (?_:wpAny _ _ (field (.ref it) 0 >>= _) _ _ s) (F.args_tuple_iterator_next_1 _)));refine zN (Q7 C hd (x:= .ref q) rfl (?_:wpAny _ _ (if(Value.ref q==Value.none)=true then _ else _) _ _ s));refine zN (Q7 C hd (x:= .int k 0) rfl (?_:wpAny _ _ (seqItems? (.ref q) >>= _) _ _ s));refine zN (ZH J U ?_);simp[hx];refine zN (VE (zN (V7 C hd (by simp) (?_:wpAny _ _ (newExc (.type "StopIteration") [] >>= _) _ _ _))));refine ic (s:={ s with heap:=s.heap.update it _ }) (by omega) λ h' e kp he=>h h' e (λ c o I e'=>kp c o ?_) he;exact(QS _ _ (Ne.symm I)).trans e'
structure J2 (z TI TO i1 i2 l1 l2:Addr):Prop where
 ni:[z,TI,TO,i1,i2].Nodup
 n1:l1 ∉ [z,TO,i1,i2]
 n2:l2 ∉ [z,TO,i1,i2]
noncomputable abbrev Ml(b1 o:Bool)(z TI TO C I J U:Addr)(xs ys:Array Value)(k:Nat)(f:Value)(h:Heap):Prop:=
 IsZip h z TI TO f/\IsPair h TI (.ref C) (.ref I)/\(∃a c,IsPair h TO a c)/\qC b1 h C J k/\qC o h I U k/\qD b1 h J xs/\qD o h U ys
variable {b1 b2:Bool} {z TI TO i1 i2 l1 l2:Addr} {ys:Array Value}
theorem J2.ne(D:J2 z TI TO i1 i2 l1 l2):TI≠z/\TO≠z/\i1≠z/\i2≠z/\TI≠TO/\TI≠i1/\TI≠i2/\TO≠i1/\TO≠i2/\i1≠i2/\l1≠z/\l1≠TO/\l1≠i1/\l1≠i2/\l2≠z/\l2≠TO/\l2≠i1/\l2≠i2:=by obtain⟨h,o,C⟩:=D;grind
theorem lz{j:Nat}{Q:Unit->Shared->Prop}(o:IsPair s.heap T a c)(h:∀h',h'.get? T=some { cls:= .type "tuple",data:= .seq ((#[a,c]:Array Value).setIfInBounds j v) }->Heap.SameBut T s.heap h'->Q () { s with heap:=h' }):
  wpAny (model prog w) A (updateSeq T (·.setIfInBounds j v)) Q E s:=wpAny_updateSeq_pair o h
theorem Ag(D:J2 z TI TO i1 i2 l1 l2)(st:Ml b1 b2 z TI TO i1 i2 l1 l2 xs ys k .none s.heap)(hx:xs[k]?=some v1)(hy:ys[k]?=some v2)
  (hQ:∀h',Ml b1 b2 z TI TO i1 i2 l1 l2 xs ys (k+1) (rawInt s.heap.objs.size) h'->IsPair h' s.heap.objs.size v1 v2->(∀c o,c∉[z,TO,i1,i2]->s.heap.get? c=some o->h'.get? c=some o)->Q (some (.ref s.heap.objs.size)) { s with heap:=h' }):
  wpAny (model prog w) A (pyNext (.ref z)) Q E s:=by
 obtain⟨n1,n2,n3,n4,n5,n6,n7,n8,n9,U,m1,m2,m3,m4,m5,m6,m7,m8⟩:=D.ne;obtain⟨hz,aa,⟨a,c,ab⟩,q1,q2,p1,p2⟩:=st;have hT:s.TypeIs (.ref z) "zip":=⟨_,hz,rfl⟩;unfold pyNext;refine zN (V0 (QW (name:=Str.ofString "__next__") hT W9 (QO W9 hT F.entry_zip_next (?_:wpAny _ _ (field (.ref z) 2 >>= _) _ _ _) (F.args_zip_next_1 _))));refine zN (Q7 hz rfl (x:= .bool false) rfl (?_:wpAny _ _ (field (.ref z) 3 >>= _) _ _ _));refine zN (Q7 hz rfl (x:= .ref TI) rfl (zN (ZH aa rfl (?_:wpAny _ _ (Builtin.SmallTypes.ownedTupleIsFree (.ref z) >>= _) _ _ _))));refine zN ?_;unfold Builtin.SmallTypes.ownedTupleIsFree;refine zN (Q7 hz rfl (x:= .none) rfl (zS ?_));simp only[if_true];refine zN (VE (zN (Q7 hz rfl (x:= .ref TO) rfl ?_)));refine zN (QU hz (by simp) λ h1 z1 s1=>?_);replace z1:IsZip h1 z TI TO .ellipsis:=z1;refine zN ?_;simp only[List.zipIdx_cons,List.zipIdx_nil,List.forIn_cons,List.forIn_nil];refine zN (zN (wpAny_onRaise (?_:wpAny _ _ (Builtin.SmallTypes.nextOf (.ref i1) >>= _) _ _ _)));refine zN (o9 (s:={ s with heap:=h1 }) (q1.at λ o e=>s1.extBut _ _ n3 e) (p1.at λ o e=>s1.extBut _ _ m1 e) hx λ h2 ae s2=>zS ?_);have t2:IsPair h2 TO a c:=s2.extBut _ _ n8 (s1.extBut _ _ n2 ab);refine zN (ZH (s:={ s with heap:=h2 }) t2 rfl (zN (lz (s:={ s with heap:=h2 }) t2 λ h3 t3 s3=>?_)));replace t3:IsPair h3 TO v1 c:=t3;refine zN (wpAny_letGo (zS ?_));refine zN (zN (wpAny_onRaise (?_:wpAny _ _ (Builtin.SmallTypes.nextOf (.ref i2) >>= _) _ _ _)));refine zN (o9 (s:={ s with heap:=h3 }) (q2.at λ o e=>s3.extBut _ _ n9.symm (s2.extBut _ _ U.symm (s1.extBut _ _ n4 e))) (p2.at λ o e=>s3.extBut _ _ m6 (s2.extBut _ _ m7 (s1.extBut _ _ m5 e))) hy λ h4 af s4=>zS ?_);have t4:IsPair h4 TO v1 c:=s4.extBut _ _ n9 t3;refine zN (ZH (s:={ s with heap:=h4 }) t4 rfl (zN (lz (s:={ s with heap:=h4 }) t4 λ C t5 s5=>?_)));replace t5:IsPair C TO v1 v2:=t5;refine zN (wpAny_letGo (zS (zS ?_)));refine zN (ZH (s:={ s with heap:=C }) t5 rfl (zN (wpAny_newTuple ?_)));have hsz:C.objs.size=s.heap.objs.size:=by rw[s5.1,s4.1,s3.1,s2.1,s1.1]
 have I:∀c o,c∉[z,TO,i1,i2]->s.heap.get? c=some o->C.get? c=some o:= λ c o hc e=>by simp only[wR,ZA,YH,not_or]at hc;obtain⟨c1,c2,c3,c4⟩:=hc;exact s5.extBut _ _ c2 (s4.extBut _ _ c4 (s3.extBut _ _ c2 (s2.extBut _ _ c3 (s1.extBut _ _ c1 e))))
 have z5:IsZip C z TI TO .ellipsis:=s5.extBut _ _ n2.symm (s4.extBut _ _ n4.symm (s3.extBut _ _ n2.symm (s2.extBut _ _ n3.symm z1)));refine(?_:wpAny _ _ (Builtin.SmallTypes.ownedTupleHandOut (.ref z) (.ref C.objs.size) >>= _) _ _ _);refine zN ?_;unfold Builtin.SmallTypes.ownedTupleHandOut;have z6:IsZip (C.push { cls:= .type "tuple",data:= .seq #[v1,v2] }) z TI TO .ellipsis:=kT _ z5;refine zN (QU (s:={ s with heap:=C.push { cls:= .type "tuple",data:= .seq #[v1,v2] } }) z6 (by simp) λ h7 z7 s7=>?_);replace z7:IsZip h7 z TI TO (rawInt C.objs.size):=z7;refine QU (s:={ s with heap:=h7 }) z7 (by simp) λ h8 z8 s8=>?_;replace z8:IsZip h8 z TI TO (rawInt C.objs.size):=z8;have up:∀c o,c ≠ z->C.get? c=some o->h8.get? c=some o:=λ c o c1 e=>s8.extBut _ _ c1 (s7.extBut _ _ c1 (kT _ e));have zl:z ≠ C.objs.size:=uT (wV z5);have J:IsPair h8 C.objs.size v1 v2:=s8.extBut _ _ zl.symm (s7.extBut _ _ zl.symm (wN _ rfl));rw [hsz] at z8 J;refine zS ⟨_,rfl,(?_:wpAny _ _ (pure (some (Value.ref C.objs.size))) _ _ _)⟩;rw [hsz];refine zS (hQ h8 ⟨z8,up _ _ n1 (I TI _ (by simp [n1,n5,n6,n7]) aa),⟨_,_,up _ _ n2 t5⟩,ae.at λ o e=>up _ _ n3 (s5.extBut _ _ n8.symm (s4.extBut _ _ U (s3.extBut _ _ n8.symm e))),af.at λ o e=>up _ _ n4 (s5.extBut _ _ n9.symm e),
  p1.at λ o e=>up _ _ m1 (I l1 _ D.n1 e),p2.at λ o e=>up _ _ m5 (I l2 _ D.n2 e)⟩ J λ c o hc e=>up c o (λ z'=>hc (by rw [z'];simp)) (I c o hc e))
theorem CP(hh:A.handled=none)(D:J2 z TI TO i1 i2 l1 l2)(st:Ml b1 b2 z TI TO i1 i2 l1 l2 xs ys k .none s.heap)(hx:xs[k]?=none\/ys[k]?=none)
  (hQ:∀h',(∀c o,c∉[z,TO,i1,i2]->s.heap.get? c=some o->h'.get? c=some o)->Q none { s with heap:=h' }):wpAny (model prog w) A (pyNext (.ref z)) Q E s:=by
 obtain⟨n1,n2,n3,n4,n5,n6,n7,n8,n9,ab,m1,m2,m3,m4,m5,m6,m7,m8⟩:=D.ne;obtain⟨hz,ae,⟨a,c,af⟩,q1,q2,p1,p2⟩:=st;have hT:s.TypeIs (.ref z) "zip":=⟨_,hz,rfl⟩;have fin:∀(h:Heap)(e:Addr),IsZip h z TI TO .ellipsis->(∀c o,c∉[z,TO,i1,i2]->s.heap.get? c=some o->h.get? c=some o)->(∃o,h.get? e=some o/\o.cls= .type "StopIteration")->
   wpAny (model prog w) A.in1 (setField (.ref z) 0 .none) (λ _ s'=>wpAny (model prog w) A (do if<- isInstance (Value.ref e) (.type "StopIteration")then pure (none:Option Value)else throw (Value.ref e)) Q E s') (λ _ _=>False) { s with heap:=h }:= λ h e hz kp he=>by
  obtain⟨o,ho,C⟩:=he;refine QU (s:={ s with heap:=h }) hz (by simp) λ h' _ sb=>?_;have ag:e≠z:= λ x=>by subst x;rw[hz]at ho;cases ho;simp at C
  refine zN (VM (T:="StopIteration") (b:=true) ⟨o,sb.extBut _ _ ag ho,C⟩ isSubtype_stop (zS (hQ h' λ c o C e=>sb.extBut _ _ (λ z'=>C (by rw[z'];simp)) (kp c o C e))))
 unfold pyNext;refine zN (V0 (QW (name:=Str.ofString "__next__") hT W9 (QO W9 hT F.entry_zip_next (?_:wpAny _ _ (field (.ref z) 2 >>= _) _ _ _) (F.args_zip_next_1 _))));refine zN (Q7 hz rfl (x:= .bool false) rfl (?_:wpAny _ _ (field (.ref z) 3 >>= _) _ _ _));refine zN (Q7 hz rfl (x:= .ref TI) rfl (zN (ZH ae rfl (?_:wpAny _ _ (Builtin.SmallTypes.ownedTupleIsFree (.ref z) >>= _) _ _ _))));refine zN ?_;unfold Builtin.SmallTypes.ownedTupleIsFree;refine zN (Q7 hz rfl (x:= .none) rfl (zS ?_));simp only[if_true];refine zN (VE (zN (Q7 hz rfl (x:= .ref TO) rfl ?_)));refine zN (QU hz (by simp) λ U z1 s1=> ?_);replace z1:IsZip U z TI TO .ellipsis:=z1;refine zN ?_;simp only [List.zipIdx_cons,List.zipIdx_nil,List.forIn_cons,List.forIn_nil];refine zN (zN (wpAny_onRaise (?_:wpAny _ _ (Builtin.SmallTypes.nextOf (.ref i1) >>= _) _ _ _)));have aa:qD b1 U l1 xs:=p1.at λ o e=>s1.extBut _ _ m1 e;have I:qC b1 U i1 l1 k:=q1.at λ o e=>s1.extBut _ _ n3 e;cases J:xs[k]? with
 | none =>refine zN (A3 (s:={ s with heap:=U }) (by simpa using hh) I aa J λ h2 e kp he=>?_);refine gA (fin h2 e (kp _ _ n3.symm z1) (λ c o C e'=>?_) he) (λ _ _ q=>q) λ _ _ q=>q.elim;simp only [wR,ZA,YH,not_or] at C;exact kp _ _ C.2.2.1 (s1.extBut _ _ C.1 e')
 | some v1=>
  have hy:ys[k]? = none:= by
   rcases hx with h | h
   .rw [J] at h;cases h
   .exact h
  refine zN (o9 (s:={ s with heap:=U }) I aa J λ h2 ah s2=>zS ?_);have t2:IsPair h2 TO a c:=s2.extBut _ _ n8 (s1.extBut _ _ n2 af);refine zN (ZH (s:={ s with heap:=h2 }) t2 rfl (zN (lz (s:={ s with heap:=h2 }) t2 λ h3 t3 s3=>?_)));refine zN (wpAny_letGo (zS ?_));refine zN (zN (wpAny_onRaise (?_:wpAny _ _ (Builtin.SmallTypes.nextOf (.ref i2) >>= _) _ _ _)));refine zN (A3 (s:={ s with heap:=h3 }) (by simpa using hh) (q2.at λ o e=>s3.extBut _ _ n9.symm (s2.extBut _ _ ab.symm (s1.extBut _ _ n4 e))) (p2.at λ o e=>s3.extBut _ _ m6 (s2.extBut _ _ m7 (s1.extBut _ _ m5 e))) hy λ h4 e kp he=>?_);refine gA (fin h4 e (kp _ _ n4.symm (s3.extBut _ _ n2.symm (s2.extBut _ _ n3.symm z1))) (λ c o C e'=>?_) he) (λ _ _ q=>q) λ _ _ q=>q.elim;simp only [wR,ZA,YH,not_or] at C;exact kp _ _ C.2.2.2 (s3.extBut _ _ C.2.1 (s2.extBut _ _ C.2.2.1 (s1.extBut _ _ C.1 e')))
end
section
variable {prog:Program} {w:World} {A:Around} {E:Value->Shared->Prop} {s:Shared} {b1 b2:Bool} {l1 l2 e:Addr} {xs ys:Array Value} {k:Nat}
noncomputable def zH(b1 b2:Bool)(h:Heap)(l1 l2:Addr):Heap:=(h.push (gD b1 l1)).push (gD b2 l2)
noncomputable def J4(b1 b2:Bool)(h:Heap)(l1 l2:Addr):Heap:=((zH b1 b2 h l1 l2).push { cls:= .type "tuple",data:= .seq #[.ref h.objs.size,.ref (h.push (gD b1 l1)).objs.size] }).push { cls:= .type "tuple",data:= .seq #[.none,.none] }
noncomputable def GJ(b1 b2:Bool)(h:Heap)(l1 l2:Addr):Heap:=(J4 b1 b2 h l1 l2).push { cls:= .type "zip",data:= .fields #[.none,.bool false,.bool false,.ref (zH b1 b2 h l1 l2).objs.size,.ref ((zH b1 b2 h l1 l2).push { cls:= .type "tuple",data:= .seq #[.ref h.objs.size,.ref (h.push (gD b1 l1)).objs.size] }).objs.size] }
theorem xQ(b1 b2:Bool)(l1 l2:Addr)(xs ys:Array Value):Meets (Builtin.«zip.__new__» ⟨[.type "zip",.ref l1,.ref l2],[]⟩) (λ _ R s=>qD b1 s.heap l1 xs/\qD b2 s.heap l2 ys/\R (.ok (.ret (.ref (J4 b1 b2 s.heap l1 l2).objs.size))) { s with heap:=GJ b1 b2 s.heap l1 l2 }):=
 .of_wp λ prog w A R s h=>by obtain⟨C,g,d,tk,os⟩:=s;obtain⟨J,U,h⟩:=h;have I:=sub_zip;have L1:qD b1 (Shared.heap ⟨C,g,d,tk,os⟩) l1 xs:=J;have L2:qD b2 (Shared.heap ⟨C.push (gD b1 l1),g,d,tk,os⟩) l2 ys:=U.at λ o e=>kT _ e;wp_walk using wu L1,wu L2;exact⟨_,rfl,h⟩
theorem Fb(h1:qD b1 s.heap l1 xs)(h2:qD b2 s.heap l2 ys)
  (h:∀h' z TI TO i1 i2,J2 z TI TO i1 i2 l1 l2->Ml b1 b2 z TI TO i1 i2 l1 l2 xs ys 0 .none h'->(∀c o,s.heap.get? c=some o->h'.get? c=some o)->(∀c∈[z,TI,TO,i1,i2],s.heap.objs.size<=c)->Q (.ref z) { s with heap:=h' }):
  wpAny (model prog w) A (call (.type "zip") [.ref l1,.ref l2]) Q E s:=by
 refine callType_new F.called_zip (by decide) (F.typeCall_zip_2 _ _) (F.newCall_zip_2 _ _) (λ obj=>F.args_object_init_3 obj _ _) F.entry_zip_new (xQ b1 b2 l1 l2 xs ys) ⟨h1,h2,?_⟩;have a1:(s.heap.push (gD b1 l1)).objs.size=s.heap.objs.size+1:=gO ..;have a2:(zH b1 b2 s.heap l1 l2).objs.size=s.heap.objs.size+2:=by unfold zH;rw[gO,a1]
 have a3:((zH b1 b2 s.heap l1 l2).push { cls:= .type "tuple",data:= .seq #[.ref s.heap.objs.size,.ref (s.heap.push (gD b1 l1)).objs.size] }).objs.size=s.heap.objs.size+3:=by rw[gO,a2]
 have a4:(J4 b1 b2 s.heap l1 l2).objs.size=s.heap.objs.size+4:=by unfold J4;rw[gO,a3]
 have I:∀c o,(J4 b1 b2 s.heap l1 l2).get? c=some o->(GJ b1 b2 s.heap l1 l2).get? c=some o:= λ c o e=>kT _ e;have up2:∀c o,(zH b1 b2 s.heap l1 l2).get? c=some o->(GJ b1 b2 s.heap l1 l2).get? c=some o:= λ c o e=>I c o (kT _ (kT _ e));have up:∀c o,s.heap.get? c=some o->(GJ b1 b2 s.heap l1 l2).get? c=some o:= λ c o e=>up2 c o (kT _ (kT _ e));have g5:(GJ b1 b2 s.heap l1 l2).get? (J4 b1 b2 s.heap l1 l2).objs.size=some _:=wN _ rfl;have g4:(GJ b1 b2 s.heap l1 l2).get? ((zH b1 b2 s.heap l1 l2).push { cls:= .type "tuple",data:= .seq #[.ref s.heap.objs.size,.ref (s.heap.push (gD b1 l1)).objs.size] }).objs.size=some _:=I _ _ (wN _ rfl);have g3:(GJ b1 b2 s.heap l1 l2).get? (zH b1 b2 s.heap l1 l2).objs.size=some _:=I _ _ (kT _ (wN _ rfl));have J:=h1.lt;have U:=h2.lt;refine⟨⟨_,g5,rfl⟩,h (GJ b1 b2 s.heap l1 l2) _ (zH b1 b2 s.heap l1 l2).objs.size ((zH b1 b2 s.heap l1 l2).push { cls:= .type "tuple",data:= .seq #[.ref s.heap.objs.size,.ref (s.heap.push (gD b1 l1)).objs.size] }).objs.size s.heap.objs.size (s.heap.push (gD b1 l1)).objs.size ?_
  ⟨g5,g3,⟨_,_,g4⟩,qC.new.at λ o e=>up2 _ _ (kT _ e),qC.new.at λ o e=>up2 _ _ e,h1.at λ o e=>up _ _ e,h2.at λ o e=>up _ _ e⟩ up λ c hc=>?_⟩
 .rw[a3,a4,a2,a1];have e1:∀j:Nat,l1≠s.heap.objs.size+j:= λ j z=>uT (gE J (V8 _ j)) z;have e2:∀j:Nat,l2≠s.heap.objs.size+j:= λ j z=>uT (gE U (V8 _ j)) z;have ne:∀i j:Nat,i≠j->s.heap.objs.size+i≠s.heap.objs.size+j:= λ i j h z=>h (Nat.add_left_cancel z);have C:∀j:Nat,j≠0->s.heap.objs.size+j≠s.heap.objs.size:= λ j h z=>h (Nat.add_left_cancel (m:=j) (k:=0) z);refine⟨?_,?_,?_⟩;. simp only[ZF,wR,ZA,YH,not_or,V6,and_true,not_false_eq_true];exact⟨⟨ne 4 2 (by decide),ne 4 3 (by decide),C 4 (by decide),ne 4 1 (by decide)⟩,⟨ne 2 3 (by decide),C 2 (by decide),ne 2 1 (by decide)⟩,⟨C 3 (by decide),ne 3 1 (by decide)⟩,(C 1 (by decide)).symm⟩
  .simp only[wR,ZA,YH,not_or];exact⟨e1 4,e1 3,uT J,e1 1⟩
  .simp only[wR,ZA,YH,not_or];exact⟨e2 4,e2 3,uT U,e2 1⟩
 .rw[a3,a4,a2,a1]at hc;simp only[wR,ZA,YH]at hc;rcases hc with e|e|e|e|e
  .rw[e];exact V8 _ 4
  .rw[e];exact V8 _ 2
  .rw[e];exact V8 _ 3
  .rw[e];exact xS _
  .rw[e];exact V8 _ 1
end
end Jt
namespace L2
open PySem PySem.Spec PyProof.Rows
noncomputable abbrev Key:=Sum Int Str
noncomputable def nC:Key->Value->Bool
 | .inl k,v=>Value.isInt k v
 | .inr x,v=>Value.isStrOf x v
noncomputable def MW(w:World):Key->Int
 | .inl k=>hashInt k
 | .inr x=>hashStr w x
theorem cK:∀{k:Key}{v:Value},nC k v=true->(∃i t,k=Sum.inl i/\v=Value.int i t)\/(∃x t,k=Sum.inr x/\v=Value.str x t)
 | .inl i,v,h=>by obtain⟨t,e⟩:=ZU (k:=i) (v:=v) h;grind
 | .inr x,v,h=>by obtain⟨t,e⟩:=Value.isStrOf_shape (x:=x) (v:=v) h;grind
theorem xw(i:Int)(t:Tok):nC (.inl i) (.int i t)=true:=by simp[nC,Value.isInt]
theorem xE(x:Str)(t:Tok):nC (.inr x) (.str x t)=true:=by simp[nC,Value.isStrOf]
theorem HN(a b:Int):decide ((Sum.inl a:Key)=Sum.inl b)=(a==b):=by grind
theorem IW(a b:Str):decide ((Sum.inr a:Key)=Sum.inr b)=decide (a=b):=by simp
theorem JC(a:Int)(b:Str):decide ((Sum.inl a:Key)=Sum.inr b)=false:=gL (λ q=>nomatch q)
theorem IU(a:Str)(b:Int):decide ((Sum.inr a:Key)=Sum.inl b)=false:=gL (λ q=>nomatch q)
noncomputable def c_ (prog:Program) (w:World):PySem.KeyKind prog w Key where
 is:=nC
 hash:=MW w
 inj:=fun v a b ha hb=>by
  rcases cK ha with ⟨i,t,rfl,rfl⟩ | ⟨x,t,rfl,rfl⟩
  .rcases cK hb with ⟨j,u,rfl,e⟩ | ⟨y,u,rfl,e⟩
   .injection e with e1 _;rw [e1]
   .exact nomatch e
  .rcases cK hb with ⟨j,u,rfl,e⟩ | ⟨y,u,rfl,e⟩
   .exact nomatch e
   .injection e with e1 _;rw [e1]
 byValue:=fun k v h=>by
  rcases cK h with ⟨i,t,rfl,rfl⟩ | ⟨x,t,rfl,rfl⟩ <;> rfl
 pyHash:=fun hv h=>by
  rcases cK hv with ⟨i,t,rfl,rfl⟩ | ⟨x,t,rfl,rfl⟩
  .exact wpAny_pyHash_int h
  .exact wpAny_pyHash_str h
 eqBool:=fun hu hv h=>by
  rcases cK hu with ⟨i,t,rfl,rfl⟩ | ⟨x,t,rfl,rfl⟩
  .rcases cK hv with ⟨j,u,rfl,rfl⟩ | ⟨y,u,rfl,rfl⟩
   .rw [HN] at h;exact wpAny_eqBool_int h
   .rw [JC] at h;exact SeqAt.EqAt.int_str i t y u _ _ _ _ h
  .rcases cK hv with ⟨j,u,rfl,rfl⟩ | ⟨y,u,rfl,rfl⟩
   .rw [IU] at h;exact SeqAt.EqAt.str_int x t j u _ _ _ _ h
   .rw [IW] at h;exact wpAny_eqBool_str h
 «strs»:=fun k x t v h=>by
  rcases cK h with ⟨i,u,rfl,e⟩ | ⟨y,u,rfl,e⟩
  .exact nomatch e
  .injection e with e1 _
   subst e1
   cases v <;> rfl
theorem qF(prog:Program)(w:World)(i:Int)(t:Tok):(c_ prog w).is (.inl i) (.int i t)=true:=xw i t
theorem sF(prog:Program)(w:World)(x:Str)(t:Tok):(c_ prog w).is (.inr x) (.str x t)=true:=xE x t
inductive V where
 | non | bl (b:Bool) | int (i:Int) | str (x:Str) | byt (b:Array UInt8) | flt (b:UInt64) | ref (a:Addr) | ty (n:String)
 deriving DecidableEq
noncomputable def RelV:V->Value->Prop
 | .non,u=>u=Value.none
 | .bl b,u=>u=Value.bool b
 | .int i,u=>∃t,u=Value.int i t
 | .str x,u=>∃t,u=Value.str x t
 | .byt b,u=>∃t,u=Value.bytes b t
 | .flt b,u=>∃t,u=Value.float b t
 | .ref a,u=>u=Value.ref a
 | .ty n,u=>u=Value.type n
noncomputable abbrev Vals:List V->List Value->Prop:=Paired RelV
theorem Vals.length(r:Vals xs us):xs.length=us.length:=W4 r
theorem Vals.get:∀{xs:List V}{us:List Value}{i:Nat}{x:V},Vals xs us->xs[i]?=some x->∃u,us[i]?=some u/\RelV x u
 |_,_,_,_,.nil,e=>by grind
 |_,_,0,_,.cons r _,e=>by simp_all
 |_,_,i+1,x,.cons _ t,e=>by obtain⟨u,o,C⟩:=Vals.get (i:=i) (x:=x) t (by simp_all);grind
theorem Vals.set(r:RelV x u):∀{xs:List V}{us:List Value}(i:Nat),Vals xs us->Vals (xs.set i x) (us.set i u)
 |_,_,_,.nil=> .nil
 |_,_,0,.cons _ t=> .cons r t
 |_,_,i+1,.cons q t=> .cons q (Vals.set r i t)
theorem Vals.append:∀{xs ys:List V}{us ws:List Value},Vals xs us->Vals ys ws->Vals (xs++ys) (us++ws)
 |_,_,_,_,.nil,s=>s
 |_,_,_,_,.cons r t,s=> .cons r (Vals.append t s)
theorem Vals.take:∀{xs:List V}{us:List Value}(n:Nat),Vals xs us->Vals (xs.take n) (us.take n)
 |_,_,0,_=> .nil
 |_,_,_+1,.nil=> .nil
 |_,_,n+1,.cons r t=> .cons r (Vals.take n t)
theorem Vals.drop:∀{xs:List V}{us:List Value}(n:Nat),Vals xs us->Vals (xs.drop n) (us.drop n)
 |_,_,0,r=>r
 |_,_,_+1,.nil=> .nil
 |_,_,n+1,.cons _ t=>Vals.drop n t
noncomputable def RelO:Option V->Option Value->Prop
 |some v,some u=>RelV v u
 |none,none=>True
 |_,_=>False
noncomputable def KV{o:Type}:List (o×V)->List (o×Value)->Prop:=Paired λ(p:o×V) (q:o×Value)=>p.1=q.1/\RelV p.2 q.2
noncomputable def kV:Key->V
 | .inl i=> .int i
 | .inr x=> .str x
inductive HO where
  | lst (xs:List V)
  | tup (xs:List V)
  | dK (kvs:List (Key × V)) | dT (kvs:List (List Key × V))
  | set (S:Int->Bool) (n:Nat)
  | ins (C dx:Addr) (fs:List (Str × V))
  | own (x:Addr)
  | xd (fs:List (Str × V))
  | met (f x:Addr)
  | rng (lo hi:Int)
  | frz (o:Obj) (u:HO)
  | tbl (ps:Array Value)
  | ext (φ:Heap->Prop)
noncomputable abbrev Hp:=Addr->Option HO
noncomputable def upd(H:Hp)(a:Addr)(o:HO):Hp:= λ b=>if b=a then some o else H b
theorem bB:upd H a o a=some o:=by unfold upd;simp
theorem br{a b:Addr}{o:HO}(h:b≠a):upd H a o b=H b:=by unfold upd;grind
theorem EK:upd (upd H a o) a u=upd H a u:=by unfold upd;grind
theorem KD{H:Hp}{a b:Addr}{o u:HO}(h:H a=some o)(h':H b=some u)(d:o≠u):a≠b:=by grind
theorem ck{H:Hp}{a b:Addr}{o:HO}(h:H a=some o)(h':H b=none):a≠b:=by grind
noncomputable def ue(h:Heap)(a:Addr)(items:Array Value):Prop:=IsTup h a items/\∃o,h.get? a=some o/\o.dict=none
theorem ue.new(h:Heap)(items:Array Value):ue (h.push { cls:= .type "tuple",data:= .seq items }) h.objs.size items:=⟨IsTup.new _ _,_,wN _ rfl,rfl⟩
section
variable (P:Program) (w:World)
noncomputable def cN(H:Hp)(h:Heap)(a:Addr):HO->Prop
 | .lst xs=>xs.length<=sizeLine/\∃(its:List Value) (n:Nat),Vals xs its/\h.get? a=some { cls:= .type "list",data:= .seq its.toArray n }
 | .tup xs=>xs.length<=sizeLine/\∃its:List Value,Vals xs its/\ue h a its.toArray
 | .dK kvs=>kvs.length<=sizeLine/\(a==sysModules)=false/\∃vs,KV kvs vs/\h.DictOf (c_ P w) a vs
 | .dT kvs=>kvs.length<=sizeLine/\(a==sysModules)=false/\∃xs:List (List Key×Addr×Value),
   Paired (λ(p:List Key×V) (q:List Key×Addr×Value)=>p.1=q.1/\H q.2.1=some (.tup (p.1.map kV))/\RelV p.2 q.2.2) kvs xs/\
   ∃o es ep,h.get? a=some o/\o.ExactDict/\o.data= .dict es ep/\es.toList=xs.map (entryOfKey (tupleKind (c_ P w)))/\(xs.map (·.1)).Nodup/\ep=es.size
 | .set S n=>h.SetOf (intKind P w) a S n
 | .ins C J fs=>H J=some (.own a)/\fs.length<=1000/\J≠a/\h.get? a=some (PySem.W.instObj C J)/\
   ∃I,h.Ns1 J I/\(∀f,RelO (fs.lookup f) (I f))/\PySem.Within I (fs.map (·.1))
 | .own _=>∃o,h.get? a=some o
 | .xd fs=>∃I,h.Ns1 a I/\∀f,RelO (fs.lookup f) (I f)
 | .rng lo hi=>∃t u v,h.get? a=some { cls:= .type "range",data:= .fields #[.int lo t,.int hi u,.int 1 v] }
 | .frz o u=>h.get? a=some o/\cN H h a u
 | .tbl qs=>∃ps:Array Value,h.get? a=some { cls:= .none,data:= .fields ps }/\TriplesOk ps.toList/\∀(q:Str)(t0:Tok)(pos:Pos)(cv:Value),qs[0]?=some (.str q t0)->codeAmong pos ps.toList=some cv->
   ∃c' oc u vs t,cv= .ref c'/\H c'=some (.frz oc u)/\oc.data= .fields vs/\vs[1]?=some (.str q t)
 | .met f x=>h.get? a=some (PySem.W.methodObj (.ref f) (.ref x))
 | .ext U=>U h/\(∃o,h.get? a=some o)/\∀h1 h2:Heap,U h1->(∀o,h1.get? a=some o->h2.get? a=some o)->U h2
noncomputable def iB(H:Hp)(h:Heap):Prop:=∀a o,H a=some o->cN P w H h a o
end
section
variable {P:Program} {w:World} {H H':Hp} {h h':Heap} {a:Addr} {o:HO}
theorem cN.lt(x:cN P w H h a o):a<h.objs.size:=by cases o with
 |lst xs=>obtain⟨_,_,_,_,e⟩:=x;exact wV e
 |tup xs=>obtain⟨_,_,_,p⟩:=x;exact p.1.lt
 |dK kvs=>obtain⟨_,_,_,_,o,_,_,e,_⟩:=x;exact wV e
 |dT kvs=>obtain⟨_,_,_,_,o,_,_,e,_⟩:=x;exact wV e
 |set S n=>obtain⟨o,_,_,_,e,_⟩:=x;exact wV e
 |ins C dx fs=>obtain⟨_,_,_,e,_⟩:=x;exact wV e
 |own y=>obtain⟨_,e⟩:=x;exact wV e
 |xd fs=>obtain⟨_,⟨_,_,_,e,_⟩,_⟩:=x;exact wV e
 |rng lo hi=>obtain⟨_,_,_,e⟩:=x;exact wV e
 |frz ob u=>obtain⟨e,_⟩:=x;exact wV e
 |tbl ps=>obtain⟨_,e,_⟩:=x;exact wV e
 |met f y=>exact wV (show h.get? a=some _ from x)
 |ext φ=>obtain⟨_,⟨_,e⟩,_⟩:=x;exact wV e
theorem Paired.mapP:∀{C:List α}{I:List β},Paired F C I->(∀a b,F a b->G a b)->Paired G C I
 |_,_,.nil,_=> .nil
 |_,_,.cons r t,f=> .cons (f _ _ r) (Paired.mapP t f)
theorem cN.stay(x:cN P w H h a o)(k:∀b u,(b=a\/H b=some (.own a))->h.get? b=some u->h'.get? b=some u)
  (ho:∀b,H b=some (.own a)->H' b=some (.own a))(ht:∀b xs,H b=some (.tup xs)->H' b=some (.tup xs))(hf:∀b o u,H b=some (.frz o u)->H' b=some (.frz o u):=by exact fun _ _ _ h=>h):cN P w H' h' a o:=by induction o with
 |lst xs=>obtain⟨z,its,n,r,e⟩:=x;exact⟨z,its,n,r,k _ _ (.inl rfl) e⟩
 |tup xs=>obtain⟨z,its,r,⟨I,e,c⟩,U,e2,d⟩:=x;exact⟨z,its,r,⟨I,k _ _ (.inl rfl) e,c⟩,U,k _ _ (.inl rfl) e2,d⟩
 |dK kvs=>obtain⟨z,y,vs,r,I,es,J,e,c⟩:=x;exact⟨z,y,vs,r,I,es,J,k _ _ (.inl rfl) e,c⟩
 |dT kvs=>obtain⟨z,y,xs,r,I,es,J,e,c⟩:=x;exact⟨z,y,xs,Paired.mapP r λ p q z=>⟨z.1,ht _ _ z.2.1,z.2.2⟩,I,es,J,k _ _ (.inl rfl) e,c⟩
 |set S n=>obtain⟨I,es,J,t,e,c⟩:=x;exact⟨I,es,J,t,k _ _ (.inl rfl) e,c⟩
 |ins C dx fs=>obtain⟨d,z,ne,e,mA,⟨od,es,J,e2,c⟩,r⟩:=x;exact⟨ho _ d,z,ne,k _ _ (.inl rfl) e,mA,⟨od,es,J,k _ _ (.inr d) e2,c⟩,r⟩
 |own y=>obtain⟨I,e⟩:=x;exact⟨I,k _ _ (.inl rfl) e⟩
 |xd fs=>obtain⟨mA,⟨od,es,J,e,c⟩,r⟩:=x;exact⟨mA,⟨od,es,J,k _ _ (.inl rfl) e,c⟩,r⟩
 |rng lo hi=>obtain⟨t,u,v,e⟩:=x;exact⟨t,u,v,k _ _ (.inl rfl) e⟩
 |frz I u ih=>obtain⟨e,q⟩:=x;exact⟨k _ _ (.inl rfl) e,ih q⟩
 |tbl ps=>obtain⟨qs,e,tr,c⟩:=x;refine⟨qs,k a _ (.inl rfl) e,tr,λ q t0 pos cv h1 h2=>?_⟩;grind
 |met f y=>have e:h.get? a=some (PySem.W.methodObj (.ref f) (.ref y)):=x;show h'.get? a=some (PySem.W.methodObj (.ref f) (.ref y));grind
 |ext φ=>obtain⟨p,⟨o,e⟩,st⟩:=x;exact⟨st _ _ p λ o q=>k _ _ (.inl rfl) q,⟨o,k _ _ (.inl rfl) e⟩,st⟩
theorem iB.lt(x:iB P w H h)(e:H a=some o):a<h.objs.size:=(x a o e).lt
theorem iB.fresh(x:iB P w H h)(e:h.objs.size<=a):H a=none:=by cases q:H a with
 |none=>rfl
 |some u=>exact absurd (gE (x.lt q) e) (QX _)
theorem iB.kept(x:iB P w H h)(k:∀b u,h.get? b=some u->h'.get? b=some u):iB P w H h':= λ a o e=>
 (x a o e).stay (λ b u _ q=>k b u q) (λ _ q=>q) λ _ _ q=>q
theorem iB.laid(x:iB P w H h)(k:∀b u,h.get? b=some u->h'.get? b=some u)(J:h.objs.size<=a)(new:cN P w (upd H a o) h' a o):iB P w (upd H a o) h':= λ b u e=>by
 have C:=x.fresh J;by_cases I:b=a;. subst I;rw[bB]at e;simp_all
 .rw[br I]at e;exact(x b u e).stay (λ c v _ q=>k c v q) (λ c q=>by rw[br (ck q C)];exact q) (λ c xs q=>by rw[br (ck q C)];exact q) λ c U u q=>by rw[br (ck q C)];exact q
end
noncomputable def Rd(H:Hp)(a:Addr)(u:HO):Prop:=H a=some u\/ ∃o,H a=some (.frz o u)
theorem Rd.ok{H:Hp}{h:Heap}{a:Addr}{u:HO}(r:Rd H a u)(x:iB P w H h):cN P w H h a u:=by
 rcases r with r|⟨o,r⟩
 .exact x a u r
 .obtain⟨_,q⟩:=x a _ r;exact q
noncomputable def K8:Option HO->Prop
 |some (.lst _)=>True
 |some (.dK _)=>True
 |some (.dT _)=>True
 |some (.set _ _)=>True
 |some (.ins _ _ _)=>True
 |some (.ext _)=>True
 |_=>False
section
variable {P:Program} {w:World} {H:Hp} {h h':Heap} {x e:Addr} {o':HO}
theorem iB.write(ok:iB P w H h)(I:K8 (H x))(he:e=x\/H e=some (.own x))(k:∀b u,b≠e->h.get? b=some u->h'.get? b=some u)(ab:∃u,h'.get? e=some u)
  (new:cN P w (upd H x o') h' x o'):iB P w (upd H x o') h':= λ b u q=>by
 have J:∀c y,H c=some (.own y)->c≠x:= λ c y r z=>by subst z;rw[r]at I;exact I
 have U:∀c xs,H c=some (.tup xs)->c≠x:= λ c xs r z=>by subst z;rw[r]at I;exact I
 have aa:∀c ob u,H c=some (.frz ob u)->c≠x:= λ c ob u r z=>by subst z;rw[r]at I;exact I
 by_cases hb:b=x;. subst hb;rw[bB]at q;cases q;exact new
 .rw[br hb]at q;by_cases C:b=e
  .have q':H b=some (.own x):=by
    rcases he with z|z
    .exact absurd (C.trans z) hb
    .rw[C];exact z
   rw[q]at q';cases q';obtain⟨v,hv⟩:=ab;exact⟨v,by rw[C];exact hv⟩
  .refine(ok b u q).stay (λ c v hc r=>k c v ?_ r) (λ c r=>by rw[br (J c b r)];exact r) (λ c xs r=>by rw[br (U c xs r)];exact r) λ c ob v r=>by rw[br (aa c ob v r)];exact r
   grind
end
structure Un (fs ex:List Addr) (H H':Hp) (h h':Heap):Prop where
 keep:∀b o,h.get? b=some o->H b=none->b ∉ fs->b ∉ ex->h'.get? b=some o
 slot:∀b o,h.get? b=some o->H b=none->b ∈ fs->b ∉ ex->∃sl,h'.get? b=some { o with slots:=sl }
 free:∀b o,h.get? b=some o->H b=none->b ∉ ex->H' b=none
 there:∀b o,h.get? b=some o->b ∉ ex->∃o',h'.get? b=some o'
 tups:∀b xs,H b=some (.tup xs)->H' b=some (.tup xs)
 frzs:∀b o u,H b=some (.frz o u)->H' b=some (.frz o u)
 tbls:∀b ps,H b=some (.tbl ps)->∃more,H' b=some (.tbl (ps ++ more))
section
variable {fs ex:List Addr} {H H1:Hp} {h h1 h':Heap} {a x e:Addr} {o:HO}
theorem Un.any(u:Un fs ex H H1 h h1){b:Addr}{C:Obj}(q:h.get? b=some C)(n:H b=none)(hx:b∉ex):∃sl,h1.get? b=some { C with slots:=sl }:=by
 by_cases I:b∈fs;. exact u.slot b C q n I hx
 .exact⟨C.slots,u.keep b C q n I hx⟩
theorem Un.kept(k:∀b u,h.get? b=some u->h'.get? b=some u):Un fs ex H H h h':=
 ⟨λ b C q _ _ _=>k b C q,λ b C q _ _ _=>⟨C.slots,k b C q⟩,λ _ _ _ n _=>n,λ b C q _=>⟨C,k b C q⟩,λ _ _ q=>q,λ _ _ _ q=>q,λ _ ps q=>⟨#[],by grind⟩⟩
theorem Un.refl:Un fs ex H H h h:=Un.kept λ _ _ q=>q
theorem Un.laid(k:∀b u,h.get? b=some u->h'.get? b=some u)(hp:h.objs.size<=a)(C:H a=none):Un fs ex H (upd H a o) h h' where
 keep:= λ b u q _ _ _=>k b u q
 slot:= λ b u q _ _ _=>⟨u.slots,k b u q⟩
 free:= λ b u q n _=>by rw[br (uT (gE (wV q) hp))];exact n
 there:= λ b u q _=>⟨u,k b u q⟩
 tups:= λ b xs q=>by rw[br (ck q C)];exact q
 frzs:= λ b u xs q=>by rw[br (ck q C)];exact q
 tbls:= λ b ps q=>⟨#[],by rw[br (ck q C),q];simp⟩
theorem Un.write(C:K8 (H x))(he:e=x\/H e=some (.own x))(k:∀b u,b≠e->h.get? b=some u->h'.get? b=some u)(J:∃u,h'.get? e=some u):Un fs ex H (upd H x o) h h':=by
 have hx:∀b,H b=none->b≠x:= λ b n z=>by subst z;rw[n]at C;exact C
 have I:∀b,H b=none->b≠e:= λ b n z=>by simp_all
 have hm:∀b u,H b=some u-> ¬K8 (some u)->b≠x:= λ b u q nm z=>by subst z;rw[q]at C;exact nm C
 refine⟨λ b u q n _ _=>k b u (I b n) q,λ b u q n _ _=>⟨u.slots,k b u (I b n) q⟩,λ b u q n _=>by rw[br (hx b n)];exact n,λ b u q _=>?_,
  λ b xs q=>by rw[br (hm b _ q λ z=>z)];exact q,λ b u xs q=>by rw[br (hm b _ q λ z=>z)];exact q,λ b ps q=>⟨#[],by rw[br (hm b _ q λ z=>z),q];simp⟩⟩;grind
end
noncomputable def Mu(h:Heap)(H:Hp):List Addr:=(List.range h.objs.size).filter λ a=>(H a).isSome
noncomputable def o7(h:Heap)(H:Hp):Heap:=PySem.W.hideAll h (Mu h H)
theorem xA(h:Heap)(H:Hp):(o7 h H).objs.size=h.objs.size:=PySem.W.hideAll_size _ _
theorem BW{H:Hp}{b:Addr}{o:Obj}(e:h.get? b=some o)(n:H b=none):(o7 h H).get? b=some o:=
 PySem.W.hideAll_get _ e λ hm=>by have q:(H b).isSome=true:=(VS.mp hm).2;grind
theorem D8(e:(o7 h H).get? b=some o):h.get? b=some o/\H b=none:=by have C:h.get? b=some o:=WC (Mu h H) e;refine⟨C,?_⟩;cases q:H b with
 |none=>rfl
 |some x=>have hm:b∈Mu h H:=VS.mpr ⟨QL.mpr (wV C),by simp[q]⟩;have z:(o7 h H).get? b=none:=PySem.W.hideAll_none (Mu h H) hm;simp_all
noncomputable def C9(g h:Heap)(L:Addr):List (Addr×Obj):=(List.range h.objs.size).filterMap λ a=>if a=L\/(g.get? a).isSome=true then none else(h.get? a).map λ o=>(a,o)
noncomputable def rest(g h:Heap)(L d:Addr):List (Addr×Obj):=(C9 g h L).filter λ p=>decide (p.1≠d)
structure Mod (K:PySem.W.Frag) (mg:Str->Option Value) (base:Heap):Prop where
 kin:K.In base
 glob:base.Ns mainGlobals mg
 blt:∃mb,base.Ns builtinsNs mb∧∀x:Str,x ≠ "__name__" -> mb x=bootBuiltins x
 nolimit:base.NoLimit
structure Cx where
 prog:Program
 w:World
 K:PySem.W.Frag
 mg:Str->Option Value
 base:Heap
 A:Around
 N:List Str
 s₀:Shared
 H₀:Hp
 env:Env
 outer:List Env
 stack:List Env
 ex:List Addr
 fn:Str->Bool
 calm:Bool
 pn:List (Addr × Obj)
 xe:Value->Shared->Prop
noncomputable def tH:Str:="most_more"
noncomputable def Eu:Str:="most_more.<locals>.<lambda>"
noncomputable def yj(K:PySem.W.Frag)(H:Hp):Prop:=∀c P,PySem.W.tabIn K tH=some (c,P)->∃C t0,H P=some (.tbl C)/\C[0]?=some (.str Eu t0)
theorem yj.un{K:PySem.W.Frag}{fs ex:List Addr}{H H':Hp}{h h':Heap}(t:yj K H)(u:Un fs ex H H' h h'):yj K H':= λ c P e=>by obtain⟨C,t0,h1,h2⟩:=t c P e;obtain⟨more,I⟩:=u.tbls P C h1;grind
noncomputable def hU(l:List Env):List Addr:=l.filterMap (·.frame)
noncomputable abbrev Cx.fs(X:Cx):List Addr:=hU X.outer
noncomputable def oW(sc:Scope)(x:Str):Prop:=sc.names.lookup x=some .local\/sc.names.lookup x=some .cell\/sc.names.lookup x=some .free
noncomputable def Loc(sc:Scope)(x:Str):Prop:=sc.names.lookup x=some .local\/sc.names.lookup x=some .cell
noncomputable def Look(env:Env)(h:Heap)(m:Str->Option Value)(x:Str)(u:Value):Prop:=
 (env.kindOf x=some .local/\m x=some u)\/((env.kindOf x=some .cell\/env.kindOf x=some .free)/\∃c,env.cells.lookup x=some c/\h.IsCell c (some u))
structure Cx.Ok (X:Cx):Prop where
 mod:Mod X.K X.mg X.base
 kind:X.env.scope.kind=.function
 glob:X.env.globals=mainGlobals
 blt:X.env.builtins=builtinsNs
 above:X.s₀.heap.objs.size ≤ X.env.locals
 inj:∀x y c,X.env.cells.lookup x=some c->X.env.cells.lookup y=some c->x=y
 has:∀x,(X.env.kindOf x=some .cell ∨ X.env.kindOf x=some .free)->∃c,X.env.cells.lookup x=some c
 cab:∀x c,X.fn x=true->X.env.cells.lookup x=some c->X.s₀.heap.objs.size ≤ c
 hd:X.calm=true->X.A.handled=none
 frames:X.A.frames=some X.stack
 stk:X.stack=X.outer ∨ (X.stack=X.env :: X.outer∧X.env.frame=some X.env.locals)
 exf:∀b ∈ X.ex,b ≠ X.env.locals∧∀x c,X.env.cells.lookup x=some c->c ≠ b
 bs:∀b o,X.base.get? b=some o->X.s₀.heap.get? b=some o∧X.H₀ b=none
 bsz:X.base.objs.size ≤ X.s₀.heap.objs.size
 noex:∀b o,X.base.get? b=some o->b ∉ X.ex
 exfs:∀b ∈ X.ex,b ∉ X.fs
 funs:X.s₀.heap.FunFrames X.base X.outer
 frf:∀b ∈ X.fs,X.H₀ b=none
 tb:yj X.K X.H₀
structure Inv (X:Cx) (pins:List (Addr × Obj)) (σ:List (Option V)) (H:Hp) (s:Shared):Prop where
 ok:X.Ok
 os:s.os=X.s₀.os
 bare:AllBare s.gens
 base:Un X.fs X.ex X.H₀ H X.s₀.heap s.heap
 loc:∃m,s.heap.Ns X.env.locals m∧∀(i:Nat) (x:Str) (v:V),X.N[i]? = some x->σ[i]? = some (some v)->oW X.env.scope x->∃u,RelV v u∧Look X.env s.heap m x u
 cell:∀x c,X.env.cells.lookup x=some c->∃v,s.heap.IsCell c v
 free:H X.env.locals=none
 freeC:∀x c,X.env.cells.lookup x=some c->H c=none
 pin:∀p ∈ X.pn ++ pins,s.heap.get? p.1=some p.2∧H p.1=none∧p.1 ≠ X.env.locals∧p.1 ∉ X.fs∧∀v,p.2.data ≠ .cell v
 hok:iB X.prog X.w H s.heap
 len:σ.length=X.N.length
section
variable {X:Cx} {pins:List (Addr × Obj)} {σ:List (Option V)} {H H':Hp} {s:Shared} {h':Heap}
theorem Cx.Ok.nofr(ok:X.Ok){b:Addr}{o:Obj}(e:X.base.get? b=some o):b∉X.fs:= λ C=>by have:=(ok.funs.mem C).1;grind
theorem Inv.bs(I:Inv X pins σ H s):∀b o,X.base.get? b=some o->s.heap.get? b=some o/\H b=none:= λ b o e=>
 ⟨I.base.keep b o (I.ok.bs b o e).1 (I.ok.bs b o e).2 (I.ok.nofr e) (I.ok.noex b o e),I.base.free b o (I.ok.bs b o e).1 (I.ok.bs b o e).2 (I.ok.noex b o e)⟩
theorem Inv.bk(I:Inv X pins σ H s):∀b o,X.base.get? b=some o->s.heap.get? b=some o:= λ b o e=>(I.bs b o e).1
theorem Inv.tb(I:Inv X pins σ H s):yj X.K H:=I.ok.tb.un I.base
theorem Inv.mod(I:Inv X pins σ H s):Mod X.K X.mg X.base:=I.ok.mod
theorem Inv.kIn(I:Inv X pins σ H s):X.K.In s.heap:=I.ok.mod.kin.keeps I.bk
theorem Inv.lt(I:Inv X pins σ H s):X.env.locals<s.heap.objs.size:=let⟨_,C,_⟩:=I.loc;C.lt
theorem Inv.sz(I:Inv X pins σ H s):X.s₀.heap.objs.size<=s.heap.objs.size:=ZJ I.ok.above (Nat.le_of_lt I.lt)
theorem Inv.nofs(I:Inv X pins σ H s){a:Addr}(h:s.heap.objs.size<=a):a∉X.fs:= λ C=>by obtain⟨_,o,J,_⟩:=I.ok.funs.mem C;exact absurd (gE (wV J) (ZJ I.sz h)) (QX _)
theorem Inv.cne(I:Inv X pins σ H s):∀x c,X.env.cells.lookup x=some c->c≠X.env.locals:= λ x c e z=>by obtain⟨v,o,U,hd⟩:=I.cell x c e;obtain⟨m,⟨o',es,ep,C,J,_⟩,_⟩:=I.loc;grind
theorem Inv.funs(I:Inv X pins σ H s):s.heap.FunFrames X.base X.outer:=by
 have all:∀(l:List Env),(∀b∈hU l,b∈X.fs)->X.s₀.heap.FunFrames X.base l->s.heap.FunFrames X.base l:=by intro l;induction l with
  |nil=>intro _ _;trivial
  |cons env r U=>intro hs hl;obtain⟨hk,⟨L,o,hf,hn,ho,hd⟩,hr⟩:=hl;have C:L∈X.fs:=hs L (by unfold hU;grind);obtain⟨sl,e⟩:=I.base.slot L o ho (I.ok.frf L C) C λ z=>I.ok.exfs L z C;exact⟨hk,⟨L,_,hf,hn,e,hd⟩,U (λ b J=>hs b (by unfold hU;rw[Z0,hf];exact uN _ J)) hr⟩
 exact all X.outer (λ _ J=>J) I.ok.funs
theorem Inv.stack(I:Inv X pins σ H s):s.heap.FunFrames X.base X.stack:=by
 rcases I.ok.stk with e|⟨e,hf⟩
 .rw[e];exact I.funs
 .rw[e];obtain⟨m,C,_⟩:=I.loc;refine .cons (by rw[I.ok.kind];decide) hf C ?_ I.funs;exact Heap.get?_none_of_le (ZJ I.ok.bsz I.ok.above)
theorem Inv.stkSub(I:Inv X pins σ H s):∀b∈hU X.stack,b∈X.env.locals::X.fs:= λ b C=>by
 rcases I.ok.stk with e|⟨e,hf⟩
 .grind
 .rw[e]at C;unfold hU at C;rw[Z0,hf]at C;exact C
theorem Inv.stkFree(I:Inv X pins σ H s):∀b∈hU X.stack,H b=none:= λ b C=>by
 rcases wR.mp (I.stkSub b C)with e|C
 .rw[e];exact I.free
 .obtain⟨_,o,J,_⟩:=I.ok.funs.mem C;exact I.base.free b o J (I.ok.frf b C) λ z=>I.ok.exfs b z C
theorem Inv.step{g':Array GenState}{t':Nat}{d':Drawn}{ch:List Addr}(I:Inv X pins σ H s)
  (C:∀b∈ch,(b∈X.ex\/X.s₀.heap.objs.size<=b)/\b≠X.env.locals/\(∀x c,X.env.cells.lookup x=some c->c≠b)/\∀p∈X.pn++pins,p.1≠b)
  (keep:∀b o,b≠X.env.locals->b∉X.fs->b∉ch->s.heap.get? b=some o->H b=none->h'.get? b=some o)
  (slot:∀b o,b≠X.env.locals->b∈X.fs->b∉ch->s.heap.get? b=some o->H b=none->∃sl,h'.get? b=some { o with slots:=sl })(free:∀b o,b∉ch->s.heap.get? b=some o->H b=none->H' b=none)
  (there:∀b o,b∉ch->s.heap.get? b=some o->∃o',h'.get? b=some o')
  (aa:∀b xs,H b=some (.tup xs)->H' b=some (.tup xs))(ab:∀b o u,H b=some (.frz o u)->H' b=some (.frz o u))(ae:∀b ps,H b=some (.tbl ps)->∃more,H' b=some (.tbl (ps++more)))
  (ns:∀m,s.heap.Ns X.env.locals m->h'.Ns X.env.locals m)(ah:iB X.prog X.w H' h')(hg:AllBare g'):
  Inv X pins σ H' { s with heap:=h',gens:=g',drawn:=d',toks:=t' }:=by
 have af:∀b o,X.s₀.heap.get? b=some o->b≠X.env.locals:= λ b o e=>uT (gE (wV e) I.ok.above);have J:∀b o,X.s₀.heap.get? b=some o->b∉X.ex->b∉ch:= λ b o e hx hb=>by
  rcases(C b hb).1 with z|z
  .exact hx z
  .exact absurd (gE (wV e) z) (QX _)
 have cellK:∀x c,X.env.cells.lookup x=some c->∀v,s.heap.IsCell c v->h'.IsCell c v:= λ x c e v ⟨o,ho,hd⟩=>by
  have ag:c∉ch:= λ z=>(C c z).2.2.1 x c e rfl;by_cases hc:c∈X.fs;. obtain⟨sl,q⟩:=slot c o (I.cne x c e) hc ag ho (I.freeC x c e);exact⟨_,q,hd⟩
  .exact⟨o,keep c o (I.cne x c e) hc ag ho (I.freeC x c e),hd⟩
 refine⟨I.ok,I.os,hg,⟨λ b o e n hb hx=>?_,λ b o e n hb hx=>?_,λ b o e n hx=>?_,λ b o e hx=>?_,λ b xs e=>aa b xs (I.base.tups b xs e),λ b o xs e=>ab b o xs (I.base.frzs b o xs e),λ b ps e=>?_⟩,?_,λ x c e=>?_,?_,λ x c e=>?_,λ p hp=>?_,ah,I.len⟩;. exact keep b o (af b o e) hb (J b o e hx) (I.base.keep b o e n hb hx) (I.base.free b o e n hx)
 .obtain⟨sl,U⟩:=I.base.slot b o e n hb hx;obtain⟨ai,e2⟩:=slot b _ (af b o e) hb (J b o e hx) U (I.base.free b o e n hx);grind
 .obtain⟨o',U⟩:=I.base.there b o e hx;exact free b o' (J b o e hx) U (I.base.free b o e n hx)
 .obtain⟨o',U⟩:=I.base.there b o e hx;exact there b o' (J b o e hx) U
 .obtain⟨m1,U⟩:=I.base.tbls b ps e;obtain⟨m2,e2⟩:=ae b _ U;exact⟨m1++m2,by rw[e2,Array.append_assoc]⟩
 .obtain⟨m,hn,hl⟩:=I.loc;refine⟨m,ns m hn,λ i x v U e2 e3=>?_⟩;obtain⟨u,r,l⟩:=hl i x v U e2 e3;refine⟨u,r,?_⟩;rcases l with l|⟨k,c,e,z⟩
  .exact .inl l
  .exact .inr ⟨k,c,e,cellK x c e _ z⟩
 .obtain⟨v,z⟩:=I.cell x c e;exact⟨v,cellK x c e v z⟩
 .obtain⟨m,⟨o,_,_,ho,_⟩,_⟩:=I.loc;exact free _ o (λ z=>(C _ z).2.1 rfl) ho I.free
 .obtain⟨v,o,ho,hd⟩:=I.cell x c e;exact free c o (λ z=>(C c z).2.2.1 x c e rfl) ho (I.freeC x c e)
 .obtain⟨e,n,ne,nf,d⟩:=I.pin p hp;grind
theorem Inv.un(I:Inv X pins σ H s)(u:Un X.fs [] H H' s.heap h')(J:iB X.prog X.w H' h'):Inv X pins σ H' { s with heap:=h',toks:=t' }:=by obtain⟨m,⟨o,es,ep,ho,r⟩,_⟩:=id I.loc;obtain⟨sl,hL⟩:=u.any ho I.free (by simp);exact I.step (g':=s.gens) (d':=s.drawn) (ch:=[]) (λ _ z=>nomatch z) (λ b o _ U _ e n=>u.keep b o e n U (by simp)) (λ b o _ U _ e n=>u.slot b o e n U (by simp)) (λ b o _ e n=>u.free b o e n (by simp)) (λ b o _ e=>u.there b o e (by simp)) u.tups u.frzs u.tbls (λ m' hm=>by obtain⟨o',aa,ab,C,r'⟩:=hm;rw[ho]at C;cases C;exact⟨_,aa,ab,hL,r'⟩) J I.bare
theorem Inv.call{d':Drawn}{ch:List Addr}(I:Inv X pins σ H s)(u:Un (hU X.stack) ch H H' s.heap h')(aa:iB X.prog X.w H' h')(hg:AllBare g')
  (J:∀b∈ch,(b∈X.ex\/X.s₀.heap.objs.size<=b)/\b≠X.env.locals/\(∀x c,X.env.cells.lookup x=some c->c≠b)/\∀p∈X.pn++pins,p.1≠b):
  Inv X pins σ H' { s with heap:=h',gens:=g',drawn:=d',toks:=t' }:=by obtain⟨m,⟨o,es,ep,ho,r⟩,_⟩:=id I.loc;obtain⟨sl,hL⟩:=u.any ho I.free λ z=>(J _ z).2.1 rfl;exact I.step (ch:=ch) J (λ b o hL hb C e n=>u.keep b o e n (λ z=>(wR.mp (I.stkSub b z)).elim hL hb) C) (λ b o _ _ C e n=>u.any e n C) (λ b o C e n=>u.free b o e n C) (λ b o C e=>u.there b o e C) u.tups u.frzs u.tbls (λ m' hm=>by obtain⟨o',ab,ae,U,r'⟩:=hm;rw[ho]at U;cases U;exact⟨_,ab,ae,hL,r'⟩) aa hg
theorem Inv.turned{it:Addr}(I:Inv X pins σ H s)(k:∀b o,b≠it->s.heap.get? b=some o->h'.get? b=some o)(hn:H it=none)(J:it≠X.env.locals)
  (h1:it∈X.ex\/X.s₀.heap.objs.size<=it)(h2:∀x c,X.env.cells.lookup x=some c->c≠it)(h3:∀p∈X.pn++pins,p.1≠it):Inv X pins σ H { s with heap:=h',toks:=t' }:=by
 refine I.step (g':=s.gens) (d':=s.drawn) (ch:=[it]) (λ b hb=>?_) (λ b o _ _ C e _=>k b o (λ z=>C (by simp[z])) e) (λ b o _ _ C e _=>⟨o.slots,k b o (λ z=>C (by simp[z])) e⟩) (λ _ _ _ _ n=>n)
  (λ b o C e=>⟨o,k b o (λ z=>C (by simp[z])) e⟩) (λ _ _ e=>e) (λ _ _ _ e=>e) (λ b ps e=>⟨#[],by rw[e];simp⟩) (λ m hm=>?_) (λ b u e=>?_) I.bare;. grind
 .obtain⟨o,es,U,ho,r⟩:=hm;exact⟨o,es,U,k _ o (Ne.symm J) ho,r⟩
 .refine(I.hok b u e).stay (λ c v C q=>k c v ?_ q) (λ _ q=>q) λ _ _ q=>q;grind
theorem Inv.tok(I:Inv X pins σ H s)(t:Nat):Inv X pins σ H { s with toks:=t }:=I.un (h':=s.heap) (t':=t) Un.refl I.hok
theorem Inv.kept(I:Inv X pins σ H s)(k:∀b u,s.heap.get? b=some u->h'.get? b=some u):Inv X pins σ H { s with heap:=h',toks:=t' }:=I.un (Un.kept k) (I.hok.kept k)
theorem Inv.laid{a:Addr}{o:HO}{t':Nat}(I:Inv X pins σ H s)(k:∀b u,s.heap.get? b=some u->h'.get? b=some u)(C:s.heap.objs.size<=a)(new:cN X.prog X.w (upd H a o) h' a o):
  Inv X pins σ (upd H a o) { s with heap:=h',toks:=t' }:=I.un (Un.laid k C (I.hok.fresh C)) (I.hok.laid k C new)
theorem Inv.write(I:Inv X pins σ H s)(J:K8 (H x))(he:e=x\/H e=some (.own x))(k:∀b u,b≠e->s.heap.get? b=some u->h'.get? b=some u)(C:∃u,h'.get? e=some u)
  (new:cN X.prog X.w (upd H x o) h' x o):Inv X pins σ (upd H x o) { s with heap:=h',toks:=t' }:=I.un (Un.write J he k C) (I.hok.write J he k C new)
theorem Inv.weak(I:Inv X pins σ H s)(U:C.length=σ.length)(w:∀(i:Nat) v,C[i]?=some (some v)->σ[i]?=some (some v)):Inv X pins C H s:=
 ⟨I.ok,I.os,I.bare,I.base,let⟨m,hn,J⟩:=I.loc;⟨m,hn,λ i x v e1 e2 e3=>J i x v e1 (w i v e2) e3⟩,I.cell,I.free,I.freeC,I.pin,I.hok,U.trans I.len⟩
theorem Inv.pins_of(I:Inv X pins σ H s)(h:∀p∈pins',s.heap.get? p.1=some p.2/\H p.1=none/\p.1≠X.env.locals/\p.1∉X.fs/\∀v,p.2.data≠ .cell v):Inv X pins' σ H s:=
 ⟨I.ok,I.os,I.bare,I.base,I.loc,I.cell,I.free,I.freeC,λ p C=>(QD.mp C).elim (λ z=>I.pin p (Z9 _ z)) (h p),I.hok,I.len⟩
theorem kS{N:List Str}(C:N.Nodup){i j:Nat}{x:Str}(a:N[i]?=some x)(b:N[j]?=some x):i=j:=by obtain⟨h1,I⟩:=xZ.mp a;obtain⟨h2,J⟩:=xZ.mp b;exact(List.getElem_inj C).mp (I.trans J.symm)
theorem nX{i:Nat}{x:Str}{v:V}{u:Value}{Q:Unit->Shared->Prop}(I:Inv X pins σ H s)(hN:X.N.Nodup)(hi:X.N[i]?=some x)(hx:Loc X.env.scope x)(r:RelV v u)
  (h:∀s',Inv X pins (σ.set i (some v)) H s'->(∃a,Heap.SameBut a s.heap s'.heap/\(a=X.env.locals\/X.env.cells.lookup x=some a))->Q () s')(hf:X.fn x=true\/X.env.scope.names.lookup x=some .local:=by first|exact .inl rfl|exact .inr rfl|assumption):wpAny M A (storeName X.env x u) Q E s:=by
 obtain⟨m,hn,hl⟩:=id I.loc;have ae:(X.env.scope.kind== .class||(X.env.scope.kind== .module&&X.env.locals !=X.env.globals))=false:=by rw[I.ok.kind];rfl
 have aa:i<σ.length:=by rw[I.len];exact(xZ.mp hi).1
 have cne:=I.cne;have tracked:∀{a:Addr}{h':Heap},(∃o,s.heap.get? a=some o/\H a=none)->Heap.SameBut a s.heap h'->iB X.prog X.w H h':= λ{a h'} ha hs b ob e=>by refine(I.hok b ob e).stay (λ c w' J q=>(hs.2 c ?_).trans q) (λ _ q=>q) λ _ _ q=>q;grind
 rcases hx with hk|hk
 .refine wpAny_storeName_local hk hn (λ h' aj hs=>?_) ae;obtain⟨oL,_,_,ak,_⟩:=id hn;refine h _ ⟨I.ok,I.os,I.bare,⟨λ b o e n hb hx=>?_,λ b o e n hb hx=>?_,I.base.free,λ b o e hx=>?_,I.base.tups,I.base.frzs,I.base.tbls⟩,⟨_,aj,λ j y v' C U e3=>?_⟩,λ y c e=>?_,I.free,I.freeC,λ p hp=>?_,tracked ⟨oL,ak,I.free⟩ hs,by simpa using I.len⟩ ⟨_,hs,.inl rfl⟩;. exact(hs.2 b (uT (gE (wV e) I.ok.above))).trans (I.base.keep b o e n hb hx)
  .obtain⟨sl,C⟩:=I.base.slot b o e n hb hx;exact⟨sl,(hs.2 b (uT (gE (wV e) I.ok.above))).trans C⟩
  .obtain⟨o',C⟩:=I.base.there b o e hx;exact⟨o',(hs.2 b (uT (gE (wV e) I.ok.above))).trans C⟩
  .by_cases hj:j=i;. subst hj;rw[hi]at C;cases C;rw[jP aa]at U;cases U;exact⟨u,r,.inl ⟨hk,by simp⟩⟩
   .rw[wL (Ne.symm hj)]at U;obtain⟨u',r',q⟩:=hl j y v' C U e3;refine⟨u',r',?_⟩;rcases q with⟨k,e⟩|⟨k,c,e,z⟩
    .refine .inl ⟨k,?_⟩;have:y≠x:= λ e=>hj (kS hN C (e▸hi));simp[this,e]
    .exact .inr ⟨k,c,e,z.sameBut hs (cne y c e)⟩
  .obtain⟨w',z⟩:=I.cell y c e;exact⟨w',z.sameBut hs (cne y c e)⟩
  .obtain⟨e,n,ne,nf,d⟩:=I.pin p hp;exact⟨(hs.2 p.1 ne).trans e,n,ne,nf,d⟩
 .have ab:X.fn x=true:=by
   rcases hf with z|z
   .exact z
   .rw[z]at hk;cases hk
  obtain⟨c,J⟩:=I.ok.has x (.inl hk);obtain⟨w',z⟩:=I.cell x c J;refine wpAny_storeName_cell I.ok.kind hk J z (λ h' af hs=>?_);obtain⟨oc,ag,ah⟩:=id z;refine h { s with heap:=h' } ⟨I.ok,I.os,I.bare,⟨λ b o e n hb hx=>?_,λ b o e n hb hx=>?_,I.base.free,λ b o e hx=>?_,I.base.tups,I.base.frzs,I.base.tbls⟩,⟨m,hn.sameBut hs (Ne.symm (cne x c J)),λ j y v' C U e3=>?_⟩,λ y c' e=>?_,I.free,I.freeC,λ p hp=>?_,tracked ⟨oc,ag,I.freeC x c J⟩ hs,by simpa using I.len⟩ ⟨c,hs,.inr J⟩;. exact(hs.2 b (uT (gE (wV e) (I.ok.cab x c ab J)))).trans (I.base.keep b o e n hb hx)
  .obtain⟨sl,C⟩:=I.base.slot b o e n hb hx;exact⟨sl,(hs.2 b (uT (gE (wV e) (I.ok.cab x c ab J)))).trans C⟩
  .obtain⟨o',C⟩:=I.base.there b o e hx;exact⟨o',(hs.2 b (uT (gE (wV e) (I.ok.cab x c ab J)))).trans C⟩
  .by_cases hj:j=i;. subst hj;rw[hi]at C;cases C;rw[jP aa]at U;cases U;exact⟨u,r,.inr ⟨.inl hk,c,J,af⟩⟩
   .rw[wL (Ne.symm hj)]at U;obtain⟨u',r',q⟩:=hl j y v' C U e3;refine⟨u',r',?_⟩;rcases q with q|⟨k,c',e,z'⟩
    .exact .inl q
    .refine .inr ⟨k,c',e,z'.sameBut hs ?_⟩;rintro rfl;exact hj (kS hN C (I.ok.inj _ _ _ e J▸hi))
  .by_cases ai:c'=c;. subst ai;exact⟨_,af⟩
   .obtain⟨w2,z2⟩:=I.cell y c' e;exact⟨w2,z2.sameBut hs ai⟩
  .obtain⟨e,n,ne,nf,d⟩:=I.pin p hp;refine⟨(hs.2 p.1 ?_).trans e,n,ne,nf,d⟩;intro q;rw[q,ag]at e;have q':oc=p.2:=ZG e;exact d w' (by rw[<- q'];exact ah)
theorem jw{i:Nat}{x:Str}{v:V}{u:Value}{Q:Unit->Shared->Prop}(I:Inv X pins σ H s)(C:X.N.Nodup)(J:X.N[i]?=some x)(hx:Loc X.env.scope x)(r:RelV v u)
  (h:∀s',Inv X pins (σ.set i (some v)) H s'->Q () s')(hf:X.fn x=true\/X.env.scope.names.lookup x=some .local:=by first | exact .inl rfl | exact .inr rfl | assumption):wpAny M A (storeName X.env x u) Q E s:=
 nX I C J hx r (λ s' U _=>h s' U) hf
theorem Inv.call'{ch:List Addr}(I:Inv X pins σ H s)(U:s'.os=s.os)(u:Un (hU X.stack) ch H H' s.heap s'.heap)(C:iB X.prog X.w H' s'.heap)(hg:AllBare s'.gens)
  (J:∀b∈ch,(b∈X.ex\/X.s₀.heap.objs.size<=b)/\b≠X.env.locals/\(∀x c,X.env.cells.lookup x=some c->c≠b)/\∀p∈X.pn++pins,p.1≠b):Inv X pins σ H' s':=by obtain⟨h',g',d',t',o'⟩:=s';have e:o'=s.os:=U;subst e;exact I.call (g':=g') (t':=t') (d':=d') u C hg J
end
noncomputable abbrev XK:=Value->Option Addr->Hp->Prop
noncomputable abbrev St:=List (Option V)
noncomputable abbrev VK:=V->Hp->Prop
noncomputable abbrev TE:=St->Hp->VK->Prop
noncomputable abbrev TT:=St->Hp->(Bool->Hp->Prop)->Prop
noncomputable abbrev TA:=St->Hp->(List V->Hp->Prop)->Prop
structure Ends where
 nx:St->Hp->Prop
 rt:VK
 bk:St->Hp->Prop:=fun _ _=>False
 ct:St->Hp->Prop:=fun _ _=>False
noncomputable abbrev TS:=Ends->St->Hp->Prop
noncomputable def EP(X:Cx)(pins:List (Addr×Obj))(σ:St)(Q:VK)(u:Value)(s':Shared):Prop:=∃v H',Inv X pins σ H' s'/\RelV v u/\Q v H'
noncomputable def TP(X:Cx)(pins:List (Addr×Obj))(σ:St)(Q:Bool->Hp->Prop)(b:Bool)(s':Shared):Prop:=∃H',Inv X pins σ H' s'/\Q b H'
noncomputable def AP(X:Cx)(pins:List (Addr×Obj))(σ:St)(Q:List V->Hp->Prop)(us:List Value)(s':Shared):Prop:=∃vs H',Inv X pins σ H' s'/\Vals vs us/\Q vs H'
noncomputable def SP(X:Cx)(pins:List (Addr×Obj))(D:Ends)(f:Flow)(s':Shared):Prop:=
 match f with
 | .next=>∃C H',Inv X pins C H' s'/\D.nx C H'
 | .brk=>∃C H',Inv X pins C H' s'/\D.bk C H'
 | .cont=>∃C H',Inv X pins C H' s'/\D.ct C H'
 | .ret u=>∃v C H',Inv X pins C H' s'/\RelV v u/\D.rt v H'
noncomputable def PE(X:Cx)(e:Expr)(t:TE):Prop:=
 ∀(pins:List (Addr×Obj))(s:Shared)(σ:St)(H:Hp)(Q:VK),Inv X pins σ H s->t σ H Q->wpAny (model X.prog X.w) X.A (eval e X.env) (EP X pins σ Q) X.xe s
noncomputable def PT(X:Cx)(e:Expr)(t:TT):Prop:=
 ∀(pins:List (Addr×Obj))(s:Shared)(σ:St)(H:Hp)(Q:Bool->Hp->Prop),Inv X pins σ H s->t σ H Q->wpAny (model X.prog X.w) X.A (isTrue e X.env (eval e X.env)) (TP X pins σ Q) X.xe s
noncomputable def PW(X:Cx)(e:Expr)(t:TT):Prop:=
 ∀(whole:Sem Value)(pins:List (Addr×Obj))(s:Shared)(σ:St)(H:Hp)(Q:Bool->Hp->Prop),Inv X pins σ H s->t σ H Q->wpAny (model X.prog X.w) X.A (isTrue e X.env whole) (TP X pins σ Q) X.xe s
theorem PW.pt(h:PW X e t):PT X e t:=h _
noncomputable def PA(X:Cx)(es:List Expr)(t:TA):Prop:=
 ∀(pos:Pos)(pins:List (Addr×Obj))(s:Shared)(σ:St)(H:Hp)(Q:List V->Hp->Prop),Inv X pins σ H s->t σ H Q->wpAny (model X.prog X.w) X.A (spliced (backTo pos (starEach es X.env))) (AP X pins σ Q) X.xe s
noncomputable def PS(X:Cx)(st:Stmt)(t:TS):Prop:=
 ∀(pins:List (Addr×Obj))(s:Shared)(σ:St)(H:Hp)(D:Ends),Inv X pins σ H s->t D σ H->wpAny (model X.prog X.w) X.A (exec st X.env) (SP X pins D) X.xe s
noncomputable def mV(X:Cx)(st:List Stmt)(t:TS):Prop:=
 ∀(pins:List (Addr×Obj))(s:Shared)(σ:St)(H:Hp)(D:Ends),Inv X pins σ H s->t D σ H->wpAny (model X.prog X.w) X.A (execs st X.env) (SP X pins D) X.xe s
theorem cC{M:Model}{A:Around}{E:Value->Shared->Prop}{s:Shared}(h:wpAny M A t Q E s)(C:∀a s,Q a s->I a s):wpAny M A t I E s:=gA h C λ _ _ x=>x
section
variable {X:Cx}
noncomputable def ql(i:Nat):TE:= λ σ H Q=>∃v,σ[i]?=some (some v)/\Q v H
noncomputable def tC(v:V):TE:= λ _ H Q=>Q v H
theorem cY{pos:Pos}(hN:X.N[i]?=some x)(hv:oW X.env.scope x)(hd:(x==("__debug__":Str))=false:=by decide)(U:(x==("__classdict__":Str))=false:=by decide):PE X (.Name x pos) (ql i):=by
 intro pins s σ H Q I h;obtain⟨v,e,h⟩:=h;obtain⟨m,hn,hl⟩:=I.loc;obtain⟨u,r,l⟩:=hl i x v hN e hv;have fin:EP X pins σ Q u s:=⟨v,H,I,r,h⟩;rcases l with⟨J,hm⟩|⟨J,c,hc,C⟩
 .exact wpAny_Name (wpAny_loadName_local I.ok.kind J hn hm fin) hd
 .rcases J with J|J
  .exact wpAny_Name (wpAny_loadName_cell I.ok.kind J hc C fin) hd
  .exact wpAny_Name (wpAny_loadName_free I.ok.kind J hc C fin U) hd
theorem qb:PE X (.Constant (.int i) j pos) (tC (.int i)):= λ _ _ _ H _ I h=>wpAny_Constant_int ⟨.int i,H,I.tok _,⟨_,rfl⟩,h⟩
theorem vV:PE X (.Constant (.bool b) j pos) (tC (.bl b)):= λ _ _ _ H _ I h=>Constant_bool ⟨.bl b,H,I,rfl,h⟩
theorem IK:PE X (.Constant .none j pos) (tC .non):= λ _ _ _ H _ I h=>Constant_none ⟨.non,H,I,rfl,h⟩
theorem dY:PE X (.Constant (.str x) j pos) (tC (.str x)):= λ _ _ _ H _ I h=>Calls.Constant_str ⟨.str x,H,I.tok _,⟨_,rfl⟩,h⟩
noncomputable def Gl(X:Cx)(x:Str):Prop:=X.env.kindOf x=some .globalImplicit
theorem f9{pins:List (Addr×Obj)}{s:Shared}{σ:St}{H:Hp}{x:Str}{u:Value}{pos:Pos}{Q:Value->Shared->Prop}(I:Inv X pins σ H s)(C:Gl X x)(hm:X.mg x=some u)(h:Q u s)
  (hd:(x==("__debug__":Str))=false:=by decide):wpAny (model X.prog X.w) X.A (eval (.Name x pos) X.env) Q E s:=
 Calls.Name_function_global I.ok.kind C (Calls.loadGlobal_global (by rw[I.ok.glob];exact I.mod.glob.keeps I.bk) hm h) hd
theorem jX{E:Value->Shared->Prop}{pins:List (Addr×Obj)}{s:Shared}{σ:St}{H:Hp}{x:Str}{u:Value}{pos:Pos}{Q:Value->Shared->Prop}(I:Inv X pins σ H s)(C:Gl X x)(hm:X.mg x=none)(J:bootBuiltins x=some u)(h:Q u s)
  (U:x≠"__name__":=by decide)(hd:(x==("__debug__":Str))=false:=by decide):wpAny (model X.prog X.w) X.A (eval (.Name x pos) X.env) Q E s:=by obtain⟨mb,h1,h2⟩:=I.mod.blt;exact Calls.Name_function_global I.ok.kind C (Calls.loadGlobal_builtin (by rw[I.ok.glob];exact I.mod.glob.keeps I.bk) hm (by rw[I.ok.blt];exact h1.keeps I.bk) ((h2 x U).trans J) h) hd
theorem Ek{u:Value}{pos:Pos}(C:Gl X x)(hm:X.mg x=some u)(r:RelV v u)(hd:(x==("__debug__":Str))=false:=by decide):PE X (.Name x pos) (tC v):=
 λ _ _ _ H _ I h=>f9 I C hm ⟨v,H,I,r,h⟩ hd
theorem vX{u:Value}{pos:Pos}(C:Gl X x)(hm:X.mg x=none)(J:bootBuiltins x=some u)(r:RelV v u)(U:x≠"__name__":=by decide)(hd:(x==("__debug__":Str))=false:=by decide):PE X (.Name x pos) (tC v):=
 λ _ _ _ H _ I h=>jX I C hm J ⟨v,H,I,r,h⟩ U hd
variable {a b:Expr} {ta tb:TE} {pos:Pos}
variable {tA tB':TT} {rest:List Expr}
noncomputable def Nf(t u:TT):TT:= λ σ H Q=>t σ H λ c H1=>if c=true then u σ H1 Q else Q false H1
noncomputable def N5(t u:TT):TT:= λ σ H Q=>t σ H λ c H1=>if c=true then Q true H1 else u σ H1 Q
noncomputable def KS(t:TT):TT:= λ σ H Q=>t σ H λ c H1=>Q (!c) H1
theorem DU(C:PT X a tA):PW X (.BoolOp .And [a] pos) tA:=by intro wh pins s σ H Q I h;refine isTrue_and (cC (C pins s σ H Q I h) λ c s1 e=>?_);cases c with
 |true=>exact isTrue_and_nil e
 |false=>exact e
theorem zf(C:PT X a tA):PW X (.BoolOp .Or [a] pos) tA:=by intro wh pins s σ H Q I h;refine isTrue_or (cC (C pins s σ H Q I h) λ c s1 e=>?_);cases c with
 |false=>exact isTrue_or_nil e
 |true=>exact e
theorem JI(U:PT X a tA)(hb:PW X (.BoolOp .And (b::rest) pos) tB'):PW X (.BoolOp .And (a::b::rest) pos) (Nf tA tB'):=by intro wh pins s σ H Q I h;refine isTrue_and (cC (U pins s σ H _ I h) λ c s1 ⟨H1,C,J⟩=>?_);cases c with
 |true=>exact hb wh pins s1 σ H1 Q C J
 |false=>exact⟨H1,C,J⟩
theorem FW(U:PT X a tA)(hb:PW X (.BoolOp .Or (b::rest) pos) tB'):PW X (.BoolOp .Or (a::b::rest) pos) (N5 tA tB'):=by intro wh pins s σ H Q I h;refine isTrue_or (cC (U pins s σ H _ I h) λ c s1 ⟨H1,C,J⟩=>?_);cases c with
 |true=>exact⟨H1,C,J⟩
 |false=>exact hb wh pins s1 σ H1 Q C J
theorem zL(C:PT X a tA):PT X (.UnaryOp .Not a pos) (KS tA):=by intro pins s σ H Q I h;exact isTrue_not (C pins s σ H (λ c H1=>Q (!c) H1) I h)
noncomputable def KO(ta tb:TE):TE:= λ σ H Q=>ta σ H λ x H1=>∃c,x= .bl c/\if c=true then tb σ H1 Q else Q (.bl false) H1
noncomputable def L3(ta:TE):TE:= λ σ H Q=>ta σ H λ x H1=>∃c,x= .bl c/\Q (.bl (!c)) H1
theorem Jq{t:TE}(h:PE X a t):PE X (.BoolOp op [a] pos) t:= λ pins s σ H Q I hw=>BoolOp_one (h pins s σ H Q I hw)
theorem Hj(U:PE X a ta)(hb:PE X (.BoolOp .And (b::rest) pos) tb):PE X (.BoolOp .And (a::b::rest) pos) (KO ta tb):=by intro pins s σ H Q I h;refine BoolOp_and (cC (U pins s σ H _ I h) λ v s1 ⟨x,H1,J,r1,C⟩=>?_);obtain⟨c,rfl,C⟩:=C;cases r1;refine ZY ?_;cases c with
 |true=>exact hb pins s1 σ H1 Q J C
 |false=>exact⟨.bl false,H1,J,rfl,C⟩
theorem Iz(J:PE X a ta):PE X (.UnaryOp .Not a pos) (L3 ta):=by intro pins s σ H Q I h;refine UnaryOp_ (cC (J pins s σ H _ I h) λ v s1 ⟨x,H1,U,r1,C⟩=>?_);obtain⟨c,rfl,C⟩:=C;cases r1;exact not_of (ZY ⟨.bl (!c),H1,U,rfl,C⟩)
end
noncomputable def gK(K:PySem.W.Frag)(H:Hp)(a:Addr)(xs:List V):Prop:=
 Rd H a (.lst xs)\/
  ∃(o:Obj) (its:Array Value) (n:Nat),K.lookup a=some o/\o.cls= .type "list"/\o.dict=none/\o.data= .seq its n/\its.size<=sizeLine/\Vals xs its.toList
noncomputable def fv(K:PySem.W.Frag)(H:Hp)(a:Addr)(xs:List V):Prop:=
 Rd H a (.tup xs)\/
  ∃(o:Obj) (its:Array Value) (n:Nat),K.lookup a=some o/\o.cls= .type "tuple"/\o.data= .seq its n/\its.size<=sizeLine/\Vals xs its.toList
noncomputable def MY:Value->Option V
 | .none=>some .non
 | .bool b=>some (.bl b)
 | .int i _=>some (.int i)
 | .str x _=>some (.str x)
 | .bytes b _=>some (.byt b)
 | .float b _=>some (.flt b)
 | .ref a=>some (.ref a)
 | .type n=>some (.ty n)
 |_=>none
theorem RelV.abs(r:RelV x u):MY u=some x:=by cases x with
 |non=>cases r;rfl
 |bl _=>cases r;rfl
 |int _=>obtain⟨t,rfl⟩:=r;rfl
 |str _=>obtain⟨t,rfl⟩:=r;rfl
 |byt _=>obtain⟨t,rfl⟩:=r;rfl
 |flt _=>obtain⟨t,rfl⟩:=r;rfl
 |ref _=>cases r;rfl
 |ty _=>cases r;rfl
theorem RelV.inj{u:Value}(r:RelV x u)(q:RelV y u):x=y:=ZG (r.abs.symm.trans q.abs)
theorem Vals.inj:∀{xs ys:List V}{us:List Value},Vals xs us->Vals ys us->xs=ys
 |_,_,_,.nil,.nil=>rfl
 |_,_,_,.cons r t,.cons C t'=>by rw[r.inj C,Vals.inj t t']
section
variable {X:Cx} {pins:List (Addr × Obj)} {σ:St} {H:Hp} {s:Shared} {a:Addr} {xs ys:List V}
theorem gK.of{K:PySem.W.Frag}(h:H a=some (.lst xs)):gK K H a xs:= .inl (.inl h)
theorem fv.of{K:PySem.W.Frag}(h:H a=some (.tup xs)):fv K H a xs:= .inl (.inl h)
theorem Inv.list(I:Inv X pins σ H s)(h:gK X.K H a xs):∃its:List Value,Vals xs its/\PlainL s.heap a its.toArray/\xs.length<=sizeLine:=by
 rcases h with h|⟨o,its,n,C,J,hd,hs,hz,r⟩
 .obtain⟨z,its,n,r,e⟩:=h.ok I.hok;exact⟨its,r,⟨_,n,e,rfl,rfl,rfl⟩,z⟩
 .refine⟨its.toList,r,⟨o,n,I.kIn a o C,J,hd,by simpa using hs⟩,?_⟩;have e:=r.length;simp_all
theorem Inv.tuple(I:Inv X pins σ H s)(h:fv X.K H a xs):∃its:List Value,Vals xs its/\IsTup s.heap a its.toArray/\xs.length<=sizeLine:=by
 rcases h with h|⟨o,its,n,C,J,hs,hz,r⟩
 .obtain⟨z,its,r,p⟩:=h.ok I.hok;exact⟨its,r,p.1,z⟩
 .refine⟨its.toList,r,⟨o,I.kIn a o C,J,n,by simpa using hs⟩,?_⟩;have e:=r.length;simp_all
theorem Inv.list_inj(I:Inv X pins σ H s)(h:gK X.K H a xs)(h':gK X.K H a ys):xs=ys:=by
 obtain⟨its,r,⟨o,n,e,_,_,d⟩,_⟩:=I.list h;obtain⟨its',J,⟨o',n',C,_,_,d'⟩,_⟩:=I.list h';rw[e]at C;cases C;rw[d]at d';injection d' with U _;have:its=its':=by simpa using Q9 Array.toList U
 subst this;exact r.inj J
theorem Inv.tuple_inj(I:Inv X pins σ H s)(h:fv X.K H a xs)(h':fv X.K H a ys):xs=ys:=by
 obtain⟨its,r,⟨o,e,_,n,d⟩,_⟩:=I.tuple h;obtain⟨its',J,⟨o',C,_,n',d'⟩,_⟩:=I.tuple h';rw[e]at C;cases C;rw[d]at d';injection d' with U _;have:its=its':=by simpa using Q9 Array.toList U
 subst this;exact r.inj J
end
noncomputable abbrev Cx.wish(X:Cx)(E:Value->Shared->Prop):Cx:={ X with xe:=E }
noncomputable abbrev Cx.nox(X:Cx):Cx:=X.wish λ _ _=>False
theorem Cx.Ok.wish{X:Cx}(ok:X.Ok)(E:Value->Shared->Prop):(X.wish E).Ok:=
 ⟨ok.mod,ok.kind,ok.glob,ok.blt,ok.above,ok.inj,ok.has,ok.cab,ok.hd,ok.frames,ok.stk,ok.exf,ok.bs,ok.bsz,ok.noex,ok.exfs,ok.funs,ok.frf,ok.tb⟩
theorem Cx.Ok.unwish{X:Cx}{E:Value->Shared->Prop}(ok:(X.wish E).Ok):X.Ok:=
 ⟨ok.mod,ok.kind,ok.glob,ok.blt,ok.above,ok.inj,ok.has,ok.cab,ok.hd,ok.frames,ok.stk,ok.exf,ok.bs,ok.bsz,ok.noex,ok.exfs,ok.funs,ok.frf,ok.tb⟩
section
variable {X:Cx} {pins:List (Addr × Obj)} {σ:St} {H:Hp} {s:Shared} {E:Value->Shared->Prop}
theorem Inv.wish(I:Inv X pins σ H s)(E:Value->Shared->Prop):Inv (X.wish E) pins σ H s:=⟨I.ok.wish E,I.os,I.bare,I.base,I.loc,I.cell,I.free,I.freeC,I.pin,I.hok,I.len⟩
theorem Inv.unwish(I:Inv (X.wish E) pins σ H s):Inv X pins σ H s:=⟨I.ok.unwish,I.os,I.bare,I.base,I.loc,I.cell,I.free,I.freeC,I.pin,I.hok,I.len⟩
theorem SP.unwish(h:SP (X.wish E) pins D f s'):SP X pins D f s':=by cases f with
 |next=>obtain⟨C,H',I,q⟩:=h;exact⟨C,H',I.unwish,q⟩
 |brk=>obtain⟨C,H',I,q⟩:=h;exact⟨C,H',I.unwish,q⟩
 |cont=>obtain⟨C,H',I,q⟩:=h;exact⟨C,H',I.unwish,q⟩
 |ret u=>obtain⟨v,C,H',I,r,q⟩:=h;exact⟨v,C,H',I.unwish,r,q⟩
theorem mV.nox{st:List Stmt}{t:TS}(h:mV X.nox st t):mV X st t:= λ pins s σ H D I hw=>
 gA (h pins s σ H D (I.wish _) hw) (λ _ _ q=>q.unwish) λ _ _ z=>False.elim z
end
section
variable {X:Cx} {st:Stmt} {rest:List Stmt} {t u:TS} {e:Expr} {te:TE} {pos:Pos}
noncomputable def GD:TS:= λ D σ H=>D.nx σ H
noncomputable def xM(t u:TS):TS:= λ D σ H=>t { D with nx:=u D } σ H
theorem u_:mV X [] GD:= λ _ _ σ H _ I h=>YI ⟨σ,H,I,h⟩
theorem f6(h1:PS X st t)(h2:mV X rest u):mV X (st::rest) (xM t u):=by intro pins s σ H D I h;refine wpAny_execs_cons (cC (h1 pins s σ H { D with nx:=u D } I h) λ f s1 q=>?_);cases f with
 |next=>obtain⟨C,H',J,q⟩:=q;exact h2 pins s1 C H' D J q
 |ret v=>exact q
 |brk=>exact q
 |cont=>exact q
theorem kz(h1:PS X st t):mV X [st] t:=by intro pins s σ H D I h;refine wpAny_execs_cons (cC (h1 pins s σ H D I h) λ f s1 q=>?_);cases f with
 |next=>exact YI q
 |ret v=>exact q
 |brk=>exact q
 |cont=>exact q
theorem Inv.quiet{σ:St}{H:Hp}{s:Shared}(I:Inv X pins σ H s):interactive X.env=false:=by simp[interactive,I.ok.kind]
noncomputable def LY(te:TE):TS:= λ D σ H=>te σ H λ _ H1=>D.nx σ H1
theorem vk(he:PE X e te)(hs:swapsWith e none pos.line X.env=pure false:=by rfl):PS X (.Expr e pos) (LY te):=by intro pins s σ H D I h;exact wpAny_Expr_any (cC (he pins s σ H _ I h) λ v s1 ⟨x,H1,C,U,J⟩=>⟨σ,H1,C,J⟩) I.quiet hs
noncomputable def Ie(te:TE):TS:= λ D σ H=>te σ H D.rt
theorem qA(he:PE X e te):PS X (.Return (some e) pos) (Ie te):=by intro pins s σ H D I h;exact wpAny_Return_some (cC (he pins s σ H _ I h) λ v s1 ⟨x,H1,C,J,U⟩=>⟨x,σ,H1,C,J,U⟩)
noncomputable def Ke(c:TT)(t u:TS):TS:= λ D σ H=>c σ H λ b H1=>if b=true then t D σ H1 else u D σ H1
theorem Gr{C:TT}(hc:PT X c C)(ha:mV X a t)(hb:mV X b u):PS X (.If c a b pos) (Ke C t u):=by intro pins s σ H D I h;refine wpAny_If (cC (hc pins s σ H _ I h) λ d s1 ⟨H1,J,U⟩=>?_);cases d with
 |true=>exact ha pins s1 σ H1 D J U
 |false=>exact hb pins s1 σ H1 D J U
end
noncomputable abbrev TG:=V->St->Hp->(St->Hp->Prop)->Prop
noncomputable abbrev Gy:=List V->St->Hp->(St->Hp->Prop)->Prop
noncomputable def PG(X:Cx)(target:Expr)(t:TG):Prop:=
 ∀(pins:List (Addr×Obj))(s:Shared)(σ:St)(H:Hp)(v:V)(u:Value)(Q:St->Hp->Prop),Inv X pins σ H s->RelV v u->t v σ H Q->
  wpAny (model X.prog X.w) X.A (assign target X.env u) (λ _ s'=>∃C H',Inv X pins C H' s'/\Q C H') X.xe s
noncomputable def Hc(X:Cx)(I:List Expr)(t:Gy):Prop:=
 ∀(pins:List (Addr×Obj))(s:Shared)(σ:St)(H:Hp)(vs:List V)(us:List Value)(Q:St->Hp->Prop),Inv X pins σ H s->Vals vs us->t vs σ H Q->
  wpAny (model X.prog X.w) X.A (assignInOrder ((assignEach I X.env).map (·.2)) us) (λ _ s'=>∃C H',Inv X pins C H' s'/\Q C H') X.xe s
noncomputable abbrev JR:=V->V->V->Hp->(Hp->Prop)->Prop
noncomputable def Md(X:Cx)(t:JR):Prop:=
 ∀(pins:List (Addr×Obj))(s:Shared)(σ:St)(H:Hp)(o i v:V)(C I u:Value)(Q:Hp->Prop),Inv X pins σ H s->RelV o C->RelV i I->RelV v u->t o i v H Q->
  wpAny (model X.prog X.w) X.A (setItem C I u) (λ _ s'=>∃H',Inv X pins σ H' s'/\Q H') X.xe s
section
variable {X:Cx} {pos:Pos}
noncomputable def gH(i:Nat):TG:= λ v σ H Q=>Q (σ.set i (some v)) H
theorem Cy(C:X.N.Nodup)(J:X.N[i]?=some x)(hx:Loc X.env.scope x)(hf:X.fn x=true\/X.env.scope.names.lookup x=some .local:=by first | exact .inl rfl | exact .inr rfl | assumption):PG X (.Name x pos) (gH i):=by intro pins s σ H v u Q I r h;exact wpAny_assign_Name (jw I C J hx r (λ s' U=>⟨_,H,U,h⟩) hf)
noncomputable def MR:Gy:= λ vs σ H Q=>vs=[]/\Q σ H
noncomputable def Mb(t:TG)(u:Gy):Gy:= λ vs σ H Q=>∃v r,vs=v::r/\t v σ H λ C H'=>u r C H' Q
theorem DZ:Hc X [] MR:=by intro pins s σ H vs us Q I r h;obtain⟨e,h⟩:=h;exact assignInOrder_nil ⟨σ,H,I,h⟩
theorem B0{t:TG}{u:Gy}(h1:PG X e t)(h2:Hc X es u)
  (hs:(assignEach (e::es) X.env).map (·.2)=assign e X.env::(assignEach es X.env).map (·.2):=by rfl):Hc X (e::es) (Mb t u):=by intro pins s σ H vs us Q I r h;obtain⟨v,vr,J,h⟩:=h;subst J;cases r with
 |cons r U=>rw[hs];refine assignInOrder_cons (cC (h1 pins s σ H _ _ _ I r h) λ _ s1 ⟨C,H1,I1,q1⟩=>?_);exact h2 pins s1 C H1 _ _ Q I1 U q1
noncomputable def NI(K:PySem.W.Frag)(n:Nat)(t:Gy):TG:= λ v σ H Q=>∃a xs,v= .ref a/\fv K H a xs/\xs.length=n/\t xs σ H Q
theorem IZ{k:Nat}{t:Gy}{n:Nat}(J:X.calm=true)(h:Hc X es t)
  (U:(assignEach es X.env).length=n:=by rfl)(C:(assignEach es X.env).findIdx? (·.1)=none:=by rfl):PG X (.Tuple es k pos) (NI X.K n t):=by intro pins s σ H v u Q I r hw;obtain⟨a,xs,e1,hq,hl,hw⟩:=hw;subst e1;cases r;obtain⟨its,rv,ht,hz⟩:=I.tuple hq;refine assign_Tuple_tuple (I.ok.hd J) ht (by simp[U,<- hl,rv.length]) C λ h' hx=>?_;have I1:Inv X pins σ H { s with heap:=h' }:=I.kept (t':=s.toks) λ b o e=>hx b o (uT (wV e)) e;exact h pins _ σ H xs _ Q I1 (by omega) hw
noncomputable def NF(to C:TE)(t:JR):TG:= λ v σ H Q=>to σ H λ o H1=>C σ H1 λ i H2=>t o i v H2 λ I=>Q σ I
theorem Hs{to U:TE}{t:JR}(ho:PE X o to)(hi:PE X i U)(hs:Md X t)
  (ha:∀v,assign (.Subscript o i pos) X.env v=(do
   let C<- holding [v] (eval o X.env)
   let J<- holding [v,C] (eval i X.env)
   standAt pos
   holding [v,C,J] (setItem C J v)
   release [v,C,J] []):=by intro _;rfl):PG X (.Subscript o i pos) (NF to U t):=by intro pins s σ H v u Q I r h;rw[ha];refine zN (QP (cC (ho pins s σ H _ I h) λ C s1 ⟨x,H1,I1,r1,q1⟩=>?_));refine zN (QP (cC (hi pins s1 σ H1 _ I1 q1) λ J s2 ⟨y,H2,I2,r2,q2⟩=>?_));refine zN (Z5 (zN (QP (cC (hs pins s2 σ H2 x y v C J u _ I2 r1 r2 r q2) λ _ s3 ⟨H3,I3,q3⟩=>?_))));exact wpAny_release ⟨σ,H3,I3,q3⟩
noncomputable def ko(te:TE)(g:TG):TS:= λ D σ H=>te σ H λ x H1=>g x σ H1 D.nx
theorem Bz{tg e:Expr}{te:TE}{g:TG}(he:PE X e te)(C:PG X tg g)(hs:swapsWithSole [tg] e pos.line X.env=pure false:=by rfl)(hw:swappedStores [tg] e X.env=pure none:=by rfl)
  (h1:(assignEach [tg] X.env).map (·.2)=[assign tg X.env]:=by rfl):PS X (.Assign [tg] e pos) (ko te g):=by intro pins s σ H D I h;refine wpAny_Assign_stores (cC (he pins s σ H _ I h) λ v s1 ⟨x,H1,J,U,q1⟩=>?_) hs hw;rw[h1];exact cC (C pins s1 σ H1 x v _ J U q1) λ _ s2 q=>q
theorem g7(C:X.N.Nodup)(J:X.N[i]?=some x)(hx:Loc X.env.scope x)(he:PE X e te)(hs:swapsWith e (some (.Name x pos')) pos.line X.env=pure false:=by rfl)(hf:X.fn x=true\/X.env.scope.names.lookup x=some .local:=by first | exact .inl rfl | exact .inr rfl | assumption):
  PS X (.Assign [.Name x pos'] e pos) (ko te (gH i)):=by intro pins s σ H D I h;refine wpAny_Assign_Name (cC (he pins s σ H _ I h) λ v s1 ⟨y,H1,U,r1,q1⟩=>?_) hs;exact jw U C J hx r1 (λ s2 I2=>⟨_,H1,I2,q1⟩) hf
end
section
variable {X:Cx} {pos:Pos}
noncomputable def JA(c:TT)(tb:TS):TS:= λ D σ H=>∃W:Nat->St->Hp->Prop,(∃m,W m σ H)/\∀m σ H,W m σ H->
 c σ H λ b H1=>if b=true then∃N:St->Hp->Prop,(∀C H',N C H'->∃I,I<m/\W I C H')/\tb { D with nx:=N,ct:=N,bk:=D.nx } σ H1 else D.nx σ H1
theorem yw{tc:TT}{tb:TS}(hp:PassesOwn (model X.prog X.w) X.A X.env X.xe)(hc:PT X c tc)(hb:mV X body tb):PS X (.While c body [] pos) (JA tc tb):=by intro pins s σ H D I h;obtain⟨W,⟨m0,w0⟩,turn⟩:=h;refine wpAny_While (codeAny_whileLoop (λ n s'=>∃U H',Inv X pins U H' s'/\W n U H') ?_ m0 ⟨σ,H,I,w0⟩);rintro n s1 ⟨C,H1,I1,w1⟩;refine VT hp (cC (hc pins s1 C H1 _ I1 (turn n C H1 w1)) λ b s2 ⟨H2,I2,q2⟩=>?_);cases b with
 |true=>obtain⟨N,hN,q2⟩:=q2;refine VT hp (cC (hb pins s2 C H2 _ I2 q2) λ f s3 q3=>?_);cases f with
  |next=>obtain⟨J,H3,I3,n3⟩:=q3;grind
  |cont=>obtain⟨J,H3,I3,n3⟩:=q3;obtain⟨m',hm,w3⟩:=hN J H3 n3;exact⟨m',hm,J,H3,I3,w3⟩
  |brk=>exact q3
  |ret v=>exact q3
 |false=>exact YI ⟨C,H2,I2,q2⟩
end
structure It where
 go:Nat->Hp->Prop
 yld:Nat->Hp->V->Hp->Prop
 stop:Nat->Hp->Prop
noncomputable def iC(X:Cx)(pins:List (Addr×Obj))(H:Hp)(b:Addr):Prop:=
 H b=none/\b≠X.env.locals/\b∉X.fs/\(b∈X.ex\/X.s₀.heap.objs.size<=b)/\(∀x c,X.env.cells.lookup x=some c->c≠b)/\∀p∈X.pn++pins,p.1≠b
theorem Inv.fpOk{σ:St}{H H':Hp}{s:Shared}{b:Addr}(I:Inv X pins σ H s)(C:s.heap.objs.size<=b)(J:H' b=none):iC X pins H' b:=by
 refine⟨J,VX (gE I.lt C),I.nofs C,.inr (ZJ I.sz C),λ x c e z=>?_,λ p U z=>?_⟩;. obtain⟨v,q⟩:=I.cell x c e;exact absurd (gE q.lt (by simp_all)) (QX _)
 .exact absurd (gE (wV (I.pin p U).1) (by rw[z];exact C)) (QX _)
structure Turn (P:Program) (w:World) (K:PySem.W.Frag) (tg:Expr) (J:It) (fp:List Addr) (it:Addr) (tn:Nat->Heap->Prop):Prop where
 mem:it ∈ fp
 obj:∀i h,tn i h->∀b ∈ fp,∃o,h.get? b=some o∧∀v,o.data ≠ .cell v
 keep:∀i h h',tn i h->(∀b ∈ fp,∀o,h.get? b=some o->h'.get? b=some o)->tn i h'
 item:∀(X:Cx),X.prog=P->X.w=w->X.K=K->X.calm=true->∀(i:Nat) (pins:List (Addr × Obj)) (s:Shared) (σ:St) (H:Hp) (E:Value->Shared->Prop),Inv X pins σ H s->(∀b ∈ fp,iC X pins H b)->tn i s.heap->J.go i H ->
  wpAny (model P w) X.A (pyNext (.ref it)) (fun r s1=>∃u,r=some u ∧
   wpAny (model P w) X.A (letOwnedTupleGo tg (.ref it) u) (fun _ s2=>∃x H',Inv X pins σ H' s2∧RelV x u∧J.yld i H x H' ∧ tn (i + 1) s2.heap∧∀b ∈ fp,H' b=none) E s1) E s
 done:∀(X:Cx),X.prog=P->X.w=w->X.K=K->X.calm=true->∀(i:Nat) (pins:List (Addr × Obj)) (s:Shared) (σ:St) (H:Hp) (E:Value->Shared->Prop),Inv X pins σ H s->(∀b ∈ fp,iC X pins H b)->tn i s.heap->J.stop i H ->
  wpAny (model P w) X.A (pyNext (.ref it)) (fun r s1=>r=none∧Inv X pins σ H s1) E s
 self:∀(A:Around) (i:Nat) (s:Shared) (Q:Value->Shared->Prop) (E:Value->Shared->Prop),tn i s.heap->Q (.ref it) s->wpAny (model P w) A (pyIter (.ref it)) Q E s
noncomputable abbrev TI:=St->Hp->(It->Hp->Prop)->Prop
noncomputable def NV(X:Cx)(pins:List (Addr×Obj))(σ:St)(tg:Expr)(R:It->Hp->Prop)(C:Value)(s2:Shared):Prop:=
 ∃(it:Addr) (fp:List Addr) (I:Nat->Heap->Prop) (J:It) (H':Hp),C= .ref it/\Inv X pins σ H' s2/\Turn X.prog X.w X.K tg J fp it I/\I 0 s2.heap/\(∀b∈fp,iC X pins H' b)/\R J H'
noncomputable def PI(X:Cx)(tg iter:Expr)(C:TI):Prop:=
 ∀(pins:List (Addr×Obj))(s:Shared)(σ:St)(H:Hp)(R:It->Hp->Prop),Inv X pins σ H s->C σ H R->
  wpAny (model X.prog X.w) X.A (eval iter X.env) (λ v s1=>wpAny (model X.prog X.w) X.A (pyIter v) (NV X pins σ tg R) X.xe s1) X.xe s
theorem yK{s:Shared}{tg:Expr}{it:Addr}{u:Value}{o:Obj}{n:String}{vs:Array Value}{Q:Unit->Shared->Prop}(I:s.heap.get? it=some o)(J:o.cls= .type n)(hd:o.data= .fields vs)
  (U:["enumerate","zip","dict_itemiterator","dict_reverseitemiterator","odict_iterator","itertools.zip_longest","itertools.pairwise"].contains n=false)(C:Q () s):wpAny M A (letOwnedTupleGo tg (.ref it) u) Q E s:=by cases tg <;> first
  |exact zS C
  |(cases u <;> first
    |exact zS C
    |(refine zN (wpAny_load I ?_);rw[J,hd];show wpAny M A (if(["enumerate","zip","dict_itemiterator","dict_reverseitemiterator","odict_iterator","itertools.zip_longest","itertools.pairwise"].contains n&&vs[0]?==some (rawInt _))=true then _ else _) Q E s;rw[QB (by grind)];exact zS C))
noncomputable def Mw(K:PySem.W.Frag)(a:Addr):It:=
 ⟨λ i H=>∃xs x,gK K H a xs/\xs[i]?=some x,λ i H x H'=>H'=H/\∀xs,gK K H a xs->xs[i]?=some x,λ i H=>∃xs,gK K H a xs/\xs.length<=i⟩
noncomputable def Nh(K:PySem.W.Frag)(a:Addr):It:=
 ⟨λ i H=>∃xs x,fv K H a xs/\xs[i]?=some x,λ i H x H'=>H'=H/\∀xs,fv K H a xs->xs[i]?=some x,λ i H=>∃xs,fv K H a xs/\xs.length<=i⟩
noncomputable def Mg(lo:Int)(n:Nat):It:=⟨λ i _=>i<n,λ i H x H'=>H'=H/\x= .int (lo+i),λ i _=>n<=i⟩
theorem nF{K:PySem.W.Frag}{tg:Expr}(a it:Addr):Turn P w K tg (Mw K a) [it] it (λ i h=>h.IsListIter it a i) where
 mem:=by simp
 obj:= λ i h st b C=>by
  have e:b=it:=by simpa using C
  subst e;obtain⟨o,e,c,d⟩:=st;exact⟨o,e,λ v z=>by rw[d]at z;cases z⟩
 keep:= λ i h h' st k=>st.at λ o e=>k it (by simp) o e
 item:=by intro X hP hw hK hc i pins s σ H E I hf st hg;subst hP hw hK;obtain⟨xs,x,U,hx⟩:=hg;obtain⟨its,rv,p,hz⟩:=I.list U;obtain⟨u,hu,ru⟩:=rv.get hx;obtain⟨f0,f1,f2,f3,f4,f5⟩:=hf it (by simp);refine wpAny_pyNext_list_item st p.isList (x:=u) (by simpa using hu) λ h' J sb=>?_;have I1:Inv X pins σ H { s with heap:=h' }:=I.turned (t':=s.toks) (λ b o C e=>(sb.2 b C).trans e) f0 f1 f3 f4 f5;obtain⟨o,e,c,d⟩:=id J;exact⟨u,rfl,yK (s:={ s with heap:=h' }) e c d (by decide) ⟨x,H,I1,ru,⟨rfl,λ ys hy=>by rw[I.list_inj hy U];exact hx⟩,J,λ b C=>(hf b C).1⟩⟩
 done:=by intro X hP hw hK hc i pins s σ H E I hf st hg;subst hP hw hK;obtain⟨xs,U,hx⟩:=hg;obtain⟨its,rv,p,hz⟩:=I.list U;obtain⟨f0,f1,f2,f3,f4,f5⟩:=hf it (by simp);have hl:=rv.length;exact wpAny_pyNext_list_end (I.ok.hd hc) st p.isList (by simp;omega) λ h' eb=>⟨rfl,I.turned (t':=s.toks) (λ b o C e=>eb b o C e) f0 f1 f3 f4 f5⟩
 self:= λ _ _ _ _ _ st h=>wpAny_pyIter_listiter st h
theorem sX{K:PySem.W.Frag}{tg:Expr}(a it:Addr):Turn P w K tg (Nh K a) [it] it (λ i h=>h.IsTupleIter it a i) where
 mem:=by simp
 obj:= λ i h st b C=>by
  have e:b=it:=by simpa using C
  subst e;obtain⟨o,e,c,d⟩:=st;exact⟨o,e,λ v z=>by rw[d]at z;cases z⟩
 keep:= λ i h h' st k=>st.at λ o e=>k it (by simp) o e
 item:=by intro X hP hw hK hc i pins s σ H E I hf st hg;subst hP hw hK;obtain⟨xs,x,U,hx⟩:=hg;obtain⟨its,rv,p,hz⟩:=I.tuple U;obtain⟨u,hu,ru⟩:=rv.get hx;obtain⟨f0,f1,f2,f3,f4,f5⟩:=hf it (by simp);refine wpAny_pyNext_tuple_item st (show s.heap.IsTuple a its.toArray from p) (x:=u) (by simpa using hu) λ h' J sb=>?_;have I1:Inv X pins σ H { s with heap:=h' }:=I.turned (t':=s.toks) (λ b o C e=>(sb.2 b C).trans e) f0 f1 f3 f4 f5;obtain⟨o,e,c,d⟩:=id J;exact⟨u,rfl,yK (s:={ s with heap:=h' }) e c d (by decide) ⟨x,H,I1,ru,⟨rfl,λ ys hy=>by rw[I.tuple_inj hy U];exact hx⟩,J,λ b C=>(hf b C).1⟩⟩
 done:=by intro X hP hw hK hc i pins s σ H E I hf st hg;subst hP hw hK;obtain⟨xs,U,hx⟩:=hg;obtain⟨its,rv,p,hz⟩:=I.tuple U;obtain⟨f0,f1,f2,f3,f4,f5⟩:=hf it (by simp);have hl:=rv.length;exact wpAny_pyNext_tuple_end (I.ok.hd hc) st (show s.heap.IsTuple a its.toArray from p) (by simp;omega) λ h' eb=>⟨rfl,I.turned (t':=s.toks) (λ b o C e=>eb b o C e) f0 f1 f3 f4 f5⟩
 self:= λ _ _ _ _ _ st h=>wpAny_pyIter_tupleiter st h
theorem ux{K:PySem.W.Frag}{tg:Expr}(it:Addr)(lo:Int)(n:Nat):Turn P w K tg (Mg lo n) [it] it (λ i h=>IsRangeIter h it (lo+i*1) (n-i) 1) where
 mem:=by simp
 obj:= λ i h st b C=>by
  have e:b=it:=by simpa using C
  subst e;exact⟨_,st,λ v z=>by have z':Data.fields _=Data.cell v:=z;cases z'⟩
 keep:= λ i h h' st k=>k it (by simp) _ st
 item:=by intro X hP hw hK U i pins s σ H E I hf st hg;subst hP hw hK;obtain⟨f0,f1,f2,f3,f4,f5⟩:=hf it (by simp);have W:=Walks.range (prog:=X.prog) (w:=X.w) (I.ok.hd U) it lo 1 n;refine W.item i s _ _ hg st λ v h' tk hv J kk=>?_;obtain⟨t,rfl⟩:=hv;have I1:Inv X pins σ H { s with heap:=h',toks:=tk }:=I.turned (λ b o C e=>kk b o (by simpa using C) e) f0 f1 f3 f4 f5;refine⟨_,rfl,yK (s:={ s with heap:=h',toks:=tk }) (n:="range_iterator") J rfl rfl (by decide) ⟨.int (lo+i),H,I1,⟨t,?_⟩,⟨rfl,rfl⟩,J,λ b C=>(hf b C).1⟩⟩;simp
 done:=by intro X hP hw hK U i pins s σ H E I hf st hg;obtain⟨f0,f1,f2,f3,f4,f5⟩:=hf it (by simp);exact wpAny_pyNext_range_end (I.ok.hd U) st (by have:n<=i:=hg;omega) λ h' eb=>⟨rfl,I.turned (t':=s.toks) (λ b o C e=>eb b o C e) f0 f1 f3 f4 f5⟩
 self:= λ _ _ _ _ _ st h=>wpAny_pyIter_rangeiter st h
section
variable {X:Cx} {tg:Expr}
noncomputable def K_(K:PySem.W.Frag)(C:TE):TI:= λ σ H R=>C σ H λ x H1=>∃a,x= .ref a/\(∃xs,gK K H1 a xs)/\R (Mw K a) H1
theorem CQ(J:PE X l U):PI X tg l (K_ X.K U):=by
 intro pins s σ H R I h;refine cC (J pins s σ H _ I h) λ v s1 ⟨x,H1,C,r1,q1⟩=>?_;obtain⟨a,e,⟨xs,hq⟩,q⟩:=q1;subst e;cases r1;obtain⟨its,rv,p,hz⟩:=C.list hq;refine VW p.isList ?_;refine⟨s1.heap.objs.size,[s1.heap.objs.size],_,_,H1,rfl,C.kept (t':=s1.toks) λ b o e=>kT _ e,nF a _,⟨_,wN _ rfl,rfl,rfl⟩,λ b hb=>?_,q⟩;have e:b=s1.heap.objs.size:=by simp_all
 subst e;exact C.fpOk (xS _) (C.hok.fresh (xS _))
theorem zb{σ:St}{H:Hp}{s:Shared}{R:It->Hp->Prop}{E:Value->Shared->Prop}{lo C:Int}{t u v:Tok}{tk:Nat}(I:Inv X pins σ H s)(h1: -(2^62)<=lo)(h2:lo<2^62)(U: -(2^62)<=C)(h4:C<2^62)
  (q:R (Mg lo (C-lo).toNat) H):wpAny (model X.prog X.w) X.A (pyIter (.ref s.heap.objs.size)) (NV X pins σ tg R) E { s with heap:=s.heap.push { cls:= .type "range",data:= .fields #[.int lo t,.int C u,.int 1 v] },toks:=tk }:=by
 refine wpAny_pyIter_range (IsRange.new ..) (small_one h1 h2 U h4) ?_;have J:Inv X pins σ H { s with heap:=s.heap.push { cls:= .type "range",data:= .fields #[.int lo t,.int C u,.int 1 v] },toks:=tk }:=I.kept λ b o e=>kT _ e;refine⟨(s.heap.push { cls:= .type "range",data:= .fields #[.int lo t,.int C u,.int 1 v] }).objs.size,[(s.heap.push { cls:= .type "range",data:= .fields #[.int lo t,.int C u,.int 1 v] }).objs.size],_,_,H,rfl,
  J.kept (t':=tk) λ b o e=>kT _ e,ux _ lo (C-lo).toNat,?_,λ b hb=>?_,q⟩
 .have e1:lo+((0:Nat):Int)*1=lo:=by simp
  have e2:(((C-lo).toNat:Nat):Int) -((0:Nat):Int)=Builtin.Range.rangeSize lo C 1:=by rw[rangeSize_one];omega
  rw[e1,e2];exact wN _ rfl
 .have e:b=(s.heap.push { cls:= .type "range",data:= .fields #[.int lo t,.int C u,.int 1 v] }).objs.size:=by simpa using hb
  subst e;exact J.fpOk (xS _) (J.hok.fresh (xS _))
noncomputable def Me(ta:TA):TI:= λ σ H R=>ta σ H λ vs H1=>∃j:Int,vs=[.int j]/\ -(2^62)<=j/\j<2^62/\R (Mg 0 j.toNat) H1
theorem xc {a:Expr} {ta:TA} {p pos:Pos} (hg:Gl X "range") (hm:X.mg "range" = none) (ha:PA X [a] ta) (hs:starEach [a] X.env=[(false,eval a X.env)]:=by rfl):PI X tg (.Call (.Name "range" p) [a] [] pos) (Me ta):= by
 intro pins s σ H R I h
 refine Call_ (jX I hg hm boot_range (VH (cC (ha pos pins s σ H _ I h) fun us s1 ⟨vs,H1,I1,r1,q1⟩=>?_) hs rfl))
 obtain ⟨j,e,q1,q2,q⟩:=q1
 subst e
 cases r1 with
 | cons r rr=>
  cases rr
  obtain ⟨t,rfl⟩:=r
  exact call_range_1 (zb I1 (by omega) (by omega) q1 q2 (by simpa using q))
noncomputable def MQ(wi:TI)(g:TG)(tb:TS):TS:= λ D σ H=>wi σ H λ J H1=>∃W:Nat->Nat->St->Hp->Prop,(∃m,W 0 m σ H1)/\∀i m σ H,W i m σ H->
 (J.stop i H/\D.nx σ H)\/(J.go i H/\∃N:St->Hp->Prop,(∀C H',N C H'->∃U,U<m/\W (i+1) U C H')/\∀x H',J.yld i H x H'->g x σ H' λ I H2=>tb { D with nx:=N,ct:=N,bk:=D.nx } I H2)
noncomputable def lq(fp:List Addr)(h:Heap):List (Addr×Obj):=fp.filterMap λ b=>(h.get? b).map λ o=>(b,o)
theorem eB{b:Addr}{o:Obj}(C:b∈fp)(e:h.get? b=some o):(b,o)∈lq fp h:=YC.mpr ⟨b,C,by grind⟩
theorem wX(C:p∈lq fp h):p.1∈fp/\h.get? p.1=some p.2:=by obtain⟨b,I,e⟩:=YC.mp C;cases q:h.get? b with
 |none=>grind
 |some o=>grind
theorem Inv.pinned{σ:St}{H:Hp}{s:Shared}{fp:List Addr}(I:Inv X pins σ H s)(hf:∀b∈fp,iC X pins H b)(U:∀b∈fp,∃o,s.heap.get? b=some o/\∀v,o.data≠ .cell v):Inv X (pins++lq fp s.heap) σ H s:=
 I.pins_of λ p C=>(QD.mp C).elim (λ z=>I.pin p (QR _ z)) λ z=>by obtain⟨J,e⟩:=wX z;obtain⟨f0,f1,f2,_⟩:=hf p.1 J;grind
theorem Inv.unpinned{σ:St}{H:Hp}{s:Shared}(I:Inv X (pins++pl) σ H s):Inv X pins σ H s:=I.pins_of λ p C=>I.pin p (QR _ (Z9 _ C))
theorem Jc{wi:TI}{g:TG}{tb:TS}{pos:Pos}(hp:PassesOwn (model X.prog X.w) X.A X.env X.xe)(hc:X.calm=true)(hi:PI X tg iter wi)(hg:PG X tg g)(U:mV X body tb)
  (hs:∀x,foldedSetIterable iter X.env x=pure x:=by intro _;rfl):PS X (.For tg iter body [] pos) (MQ wi g tb):=by
 intro pins s σ H D I h;refine wpAny_For (cC (hi pins s σ H _ I h) λ v s1 h1=>cC h1 λ aq s2 h2=>?_) hs;obtain⟨it,fp,tn,J,H2,e,I2,T,ai,f2,W,⟨m0,w0⟩,turn⟩:=h2;subst e
 have aa:∀{H':Hp},(∀b∈fp,H' b=none)->∀b∈fp,iC X pins H' b:= λ hn b U=>⟨hn b U,(f2 b U).2⟩;refine codeAny_forLoop_any (λ n s'=>∃i ab H',Inv X pins ab H' s'/\tn i s'.heap/\(∀b∈fp,H' b=none)/\W i n ab H') ?_ m0 ⟨0,σ,H2,I2,ai,λ b U=>(f2 b U).1,w0⟩;rintro n s3 ⟨i,ae,H3,I3,ag,ah,w3⟩;rcases turn i n ae H3 w3 with⟨stop,qn⟩|⟨go,N,hN,step⟩
 .refine VT hp (cC (T.done X rfl rfl rfl hc i pins s3 ae H3 X.xe I3 (aa ah) ag stop) λ r s4 ⟨hr,I4⟩=>?_);subst hr;exact YI ⟨ae,H3,I4,qn⟩
 .refine VT hp (cC (T.item X rfl rfl rfl hc i pins s3 ae H3 X.xe I3 (aa ah) ag go) λ r s4 ⟨u,hr,h4⟩=>?_);subst hr;refine VT hp (cC h4 λ _ s5 ⟨x,H5,I5,r5,y5,af,aj⟩=>?_);have ak:=I5.pinned (aa aj) (T.obj _ _ af);refine VT hp (cC (hg _ s5 ae H5 x u _ ak r5 (step x H5 y5)) λ _ s6 ⟨ao,H6,I6,q6⟩=>?_);refine VT hp (cC (U _ s6 ao H6 _ I6 q6) λ f s7 q7=>?_);have again:∀{C:St}{H7:Hp},Inv X (pins++lq fp s5.heap) C H7 s7->N C H7->∃m,m<n/\∃i ab H',Inv X pins ab H' s7/\tn i s7.heap/\(∀b∈fp,H' b=none)/\W i m ab H':= λ{C H7} I7 n7=>by obtain⟨m',hm,w7⟩:=hN C H7 n7;refine⟨m',hm,i+1,C,H7,I7.unpinned,T.keep _ _ _ af λ b U o e=>(I7.pin (b,o) (QR _ (QR _ (eB U e)))).1,λ b U=>?_,w7⟩;obtain⟨o,e,d⟩:=T.obj _ _ af b U;exact(I7.pin (b,o) (QR _ (QR _ (eB U e)))).2.1
  cases f with
  |next=>obtain⟨C,H7,I7,n7⟩:=q7;exact again I7 n7
  |cont=>obtain⟨C,H7,I7,n7⟩:=q7;exact again I7 n7
  |brk=>obtain⟨C,H7,I7,q7⟩:=q7;exact⟨C,H7,I7.unpinned,q7⟩
  |ret v=>obtain⟨x7,C,H7,I7,r7,q7⟩:=q7;exact⟨x7,C,H7,I7.unpinned,r7,q7⟩
end
noncomputable abbrev R2:=V->V->Hp->VK->Prop
noncomputable def gG(X:Cx)(f:Value->Value->Sem Value)(r:R2):Prop:=
 ∀(pins:List (Addr×Obj))(s:Shared)(σ:St)(H:Hp)(x y:V)(v u:Value)(Q:VK),Inv X pins σ H s->RelV x v->RelV y u->r x y H Q->
  wpAny (model X.prog X.w) X.A (f v u) (EP X pins σ Q) X.xe s
noncomputable def Nv(X:Cx)(f:Value->Sem Value)(r:V->Hp->VK->Prop):Prop:=
 ∀(pins:List (Addr×Obj))(s:Shared)(σ:St)(H:Hp)(x:V)(v:Value)(Q:VK),Inv X pins σ H s->RelV x v->r x H Q->
  wpAny (model X.prog X.w) X.A (f v) (EP X pins σ Q) X.xe s
noncomputable def dw(X:Cx)(f:Value)(r:List V->Hp->VK->Prop):Prop:=
 ∀(pins:List (Addr×Obj))(s:Shared)(σ:St)(H:Hp)(xs:List V)(us:List Value)(Q:VK),Inv X pins σ H s->Vals xs us->r xs H Q->
  wpAny (model X.prog X.w) X.A (call f us) (EP X pins σ Q) X.xe s
noncomputable def NH(X:Cx)(r:V->Hp->(Bool->Hp->Prop)->Prop):Prop:=
 ∀(pins:List (Addr×Obj))(s:Shared)(σ:St)(H:Hp)(x:V)(v:Value)(Q:Bool->Hp->Prop),Inv X pins σ H s->RelV x v->r x H Q->
  wpAny (model X.prog X.w) X.A (truthy v) (TP X pins σ Q) X.xe s
noncomputable def uO(r:R2)(ta tb:TE):TE:= λ σ H Q=>ta σ H λ x H1=>tb σ H1 λ y H2=>r x y H2 Q
noncomputable def Og(r:V->Hp->VK->Prop)(ta:TE):TE:= λ σ H Q=>ta σ H λ x H1=>r x H1 Q
noncomputable def rI(C:Int->Int->Prop)(g:Int->Int->V):R2:= λ x y H Q=>∃i j,x= .int i/\y= .int j/\C i j/\Q (g i j) H
noncomputable def uk(g:Int->Int->V):R2:= λ x y H Q=>∃i j,x= .int i/\y= .int j/\Q (g i j) H
noncomputable def rU(g:Int->V):V->Hp->VK->Prop:= λ x H Q=>∃i,x= .int i/\Q (g i) H
section
variable {X:Cx} {a b:Expr} {ta tb:TE} {pos:Pos}
theorem Hg(U:PE X a ta)(hb:PE X b tb){pins:List (Addr×Obj)}{s:Shared}{σ:St}{H:Hp}{R:V->V->Hp->Prop}(I:Inv X pins σ H s)
  (h:ta σ H λ x H1=>tb σ H1 λ y H2=>R x y H2){Q:Value->Shared->Prop}{f:Value->Value->Sem Value}
  (hf:∀v u s2 x y H2,Inv X pins σ H2 s2->RelV x v->RelV y u->R x y H2->wpAny (model X.prog X.w) X.A (f v u) Q X.xe s2):
  wpAny (model X.prog X.w) X.A (eval a X.env) (λ v C=>wpAny (model X.prog X.w) X.A (eval b X.env) (λ u J=>wpAny (model X.prog X.w) X.A (f v u) Q X.xe J) X.xe C) X.xe s:=by refine cC (U pins s σ H _ I h) λ v s1 ⟨x,H1,I1,r1,q1⟩=>?_;refine cC (hb pins s1 σ H1 _ I1 q1) λ u s2 ⟨y,H2,I2,r2,q2⟩=>?_;grind
theorem rj(C:gG X (binaryOp op) r)(J:PE X a ta)(U:PE X b tb):PE X (.BinOp a op b pos) (uO r ta tb):=by intro pins s σ H Q I h;exact wpAny_BinOp (Hg J U I h λ v u s2 x y H2 I2 rx ry q=>C pins s2 σ H2 x y v u Q I2 rx ry q)
theorem Gs(C:Nv X (unaryOp op) r)(J:PE X a ta):PE X (.UnaryOp op a pos) (Og r ta):=by intro pins s σ H Q I h;exact UnaryOp_ (cC (J pins s σ H _ I h) λ v s1 ⟨x,H1,U,r1,q1⟩=>C pins s1 σ H1 x v Q U r1 q1)
theorem LL{C:Int->Int->Prop}{g:Int->Int->Int}
  (rule:∀(i j:Int)(t u:Tok)(s:Shared)(Q:Value->Shared->Prop)(E:Value->Shared->Prop),C i j->Q (.int (g i j) s.toks) { s with toks:=s.toks+1 }->wpAny (model X.prog X.w) X.A (f (.int i t) (.int j u)) Q E s):
  gG X f (rI C λ i j=> .int (g i j)):=by intro pins s σ H x y v u Q I J U h;obtain⟨i,j,rfl,rfl,hc,q⟩:=h;obtain⟨t,rfl⟩:=J;obtain⟨t',rfl⟩:=U;exact rule i j t t' s _ _ hc ⟨.int (g i j),H,I.tok _,⟨_,rfl⟩,q⟩
theorem K1{g:Int->Int->Int}
  (rule:∀(i j:Int)(t u:Tok)(s:Shared)(Q:Value->Shared->Prop)(E:Value->Shared->Prop),Q (.int (g i j) s.toks) { s with toks:=s.toks+1 }->wpAny (model X.prog X.w) X.A (f (.int i t) (.int j u)) Q E s):
  gG X f (uk λ i j=> .int (g i j)):=by intro pins s σ H x y v u Q I C J h;obtain⟨i,j,rfl,rfl,q⟩:=h;obtain⟨t,rfl⟩:=C;obtain⟨t',rfl⟩:=J;exact rule i j t t' s _ _ ⟨.int (g i j),H,I.tok _,⟨_,rfl⟩,q⟩
theorem IJ{g:Int->Int->Bool}
  (rule:∀(i j:Int)(t u:Tok)(s:Shared)(Q:Value->Shared->Prop)(E:Value->Shared->Prop),Q (.bool (g i j)) s->wpAny (model X.prog X.w) X.A (f (.int i t) (.int j u)) Q E s):
  gG X f (uk λ i j=> .bl (g i j)):=by intro pins s σ H x y v u Q I C J h;obtain⟨i,j,rfl,rfl,q⟩:=h;obtain⟨t,rfl⟩:=C;obtain⟨t',rfl⟩:=J;exact rule i j t t' s _ _ ⟨.bl (g i j),H,I,rfl,q⟩
noncomputable def Jw(i j:Int):Prop:=0<j/\j<1073741824
noncomputable def Ni(i j:Int):Prop:=0<=j/\j<=1000000/\i.natAbs<2^64
noncomputable def JG(i j:Int):Prop:=(-(2^64)<i/\i<2^64)\/(-(2^64)<j/\j<2^64)
theorem JG.ok(h:JG i j):IntMulOk i j:=by
 rcases h with⟨h1,h2⟩|⟨h1,h2⟩
 .exact .of_left (intBits_le_64 h1 h2)
 .exact .of_right (intBits_le_64 h1 h2)
theorem Jn:gG X (binaryOp .Add) (uk fun i j=>.int (i + j)):=K1 fun _ _ _ _ _ _ _ q=>add_int q
theorem JN:gG X (binaryOp .Sub) (uk fun i j=>.int (i - j)):=K1 fun _ _ _ _ _ _ _ q=>sub_int q
theorem Jv:gG X (binaryOp .Mult) (rI JG fun i j=>.int (i * j)):=LL fun _ _ _ _ _ _ _ hc q=>mul_int q hc.ok
theorem Ff:gG X (binaryOp .FloorDiv) (rI Jw fun i j=>.int (i / j)):=LL fun i j _ _ _ _ _ hc q=>by
 have h1:(0:Int) < j:=hc.1
 have h2:j < 1073741824:=hc.2
 exact floordiv_int (by omega) (by grind) (.inl (PyProof.noPylong_small (by omega)))
theorem JJ:gG X (binaryOp .Mod) (rI (fun _ j=>0 < j) fun i j=>.int (i % j)):=LL fun i j _ _ _ _ _ hc q=>by
 have h1:(0:Int) < j:=hc
 exact mod_int' (by omega) (by grind)
theorem JQ:gG X (binaryOp .Pow) (rI Ni fun i j=>.int (i ^ j.toNat)):=LL fun _ _ _ _ _ _ _ hc q=>pow_int_small hc.1 hc.2.1 hc.2.2 q
theorem OC{g:Int->Int}
  (rule:∀(i:Int)(t:Tok)(s:Shared)(Q:Value->Shared->Prop)(E:Value->Shared->Prop),Q (.int (g i) s.toks) { s with toks:=s.toks+1 }->wpAny (model X.prog X.w) X.A (f (.int i t)) Q E s):
  Nv X f (rU λ i=> .int (g i)):=by intro pins s σ H x v Q I C h;obtain⟨i,rfl,q⟩:=h;obtain⟨t,rfl⟩:=C;exact rule i t s _ _ ⟨.int (g i),H,I.tok _,⟨_,rfl⟩,q⟩
theorem BO:Nv X (unaryOp .USub) (rU fun i=>.int (-i)):=OC fun _ _ _ _ _ q=>neg_int q
end
noncomputable def xb:V->V->Bool
 | .non,.non=>true| .non,.int _=>true| .int _,.non=>true| .non,.bl _=>true| .bl _,.non=>true| .non,.str _=>true| .str _,.non=>true
 | .int _,.int _=>true| .bl _,.bl _=>true| .str _,.str _=>true| .byt _,.byt _=>true
 | .int _,.str _=>true| .str _,.int _=>true| .bl _,.str _=>true| .str _,.bl _=>true
 |_,_=>false
noncomputable def M3:R2:= λ x y H Q=>xb x y=true/\Q (.bl (decide (x=y))) H
noncomputable def LK:R2:= λ x y H Q=>xb x y=true/\Q (.bl (!decide (x=y))) H
theorem vU:decide (V.int i=V.int j)=(i==j):=by grind
theorem yC:decide (V.bl i=V.bl j)=(i==j):=by grind
theorem wB:decide (V.str i=V.str j)=(i==j):=by grind
theorem u6:decide (V.byt i=V.byt j)=(i.toList==j.toList):=by rw[VR];simp
section
variable {X:Cx} {a b c:Expr} {ta tb tc:TE} {pos:Pos}
theorem bW{σ:St}{H:Hp}{s:Shared}{Q:VK}{k C:Bool}(I:Inv X pins σ H s)(q:Q (.bl k) H)(e:k=C):EP X pins σ Q (.bool C) s:=by subst e;exact⟨.bl k,H,I,rfl,q⟩
theorem Ah:gG X (compareOp .Eq) M3:= by
 intro pins s σ H x y v u Q I rx ry h
 obtain ⟨hs,q⟩:=h
 cases x with
 | non=>
  cases rx
  cases y with
  | non=>cases ry;exact PySem.EqNone.eq_none_none (bW I q (by simp))
  | bl j=>cases ry;exact PySem.EqNone.eq_none_bool (bW I q (by simp))
  | int j=>obtain ⟨t',rfl⟩:=ry;exact PySem.EqNone.eq_none_int (bW I q (by simp))
  | str j=>obtain ⟨t',rfl⟩:=ry;exact PySem.EqNone.eq_none_str (bW I q (by simp))
  | _=>exact absurd (show false=true from hs) uS
 | bl i=>
  cases rx
  cases y with
  | non=>cases ry;exact PySem.EqNone.eq_bool_none (bW I q (by simp))
  | bl j=>cases ry;exact eq_bool (bW I q yC)
  | str j=>obtain ⟨t',rfl⟩:=ry;exact PySem.EqMixed.eq_bool_str (bW I q (by simp))
  | _=>exact absurd (show false=true from hs) uS
 | int i=>
  obtain ⟨t,rfl⟩:=rx
  cases y with
  | non=>cases ry;exact PySem.EqNone.eq_int_none (bW I q (by simp))
  | int j=>obtain ⟨t',rfl⟩:=ry;exact eq_int (bW I q vU)
  | str j=>obtain ⟨t',rfl⟩:=ry;exact PySem.EqMixed.eq_int_str (bW I q (by simp))
  | _=>exact absurd (show false=true from hs) uS
 | str i=>
  obtain ⟨t,rfl⟩:=rx
  cases y with
  | non=>cases ry;exact PySem.EqNone.eq_str_none (bW I q (by simp))
  | bl j=>cases ry;exact PySem.EqMixed.eq_str_bool (bW I q (by simp))
  | int j=>obtain ⟨t',rfl⟩:=ry;exact PySem.EqMixed.eq_str_int (bW I q (by simp))
  | str j=>obtain ⟨t',rfl⟩:=ry;exact eq_str (bW I q wB)
  | _=>exact absurd (show false=true from hs) uS
 | byt i=>
  obtain ⟨t,rfl⟩:=rx
  cases y with
  | byt j=>obtain ⟨t',rfl⟩:=ry;exact PySem.W.eq_bytes (bW I q u6)
  | _=>exact absurd (show false=true from hs) uS
 | _=>cases y <;> exact absurd (show false=true from hs) uS
theorem zy:gG X (compareOp .NotEq) LK:= by
 intro pins s σ H x y v u Q I rx ry h
 obtain ⟨hs,q⟩:=h
 cases x with
 | non=>
  cases rx
  cases y with
  | non=>cases ry;exact PySem.EqNone.ne_none_none (bW I q (by simp))
  | bl j=>cases ry;exact PySem.EqNone.ne_none_bool (bW I q (by simp))
  | int j=>obtain ⟨t',rfl⟩:=ry;exact PySem.EqNone.ne_none_int (bW I q (by simp))
  | str j=>obtain ⟨t',rfl⟩:=ry;exact PySem.EqNone.ne_none_str (bW I q (by simp))
  | _=>exact absurd (show false=true from hs) uS
 | bl i=>
  cases rx
  cases y with
  | non=>cases ry;exact PySem.EqNone.ne_bool_none (bW I q (by simp))
  | bl j=>cases ry;exact ne_bool (bW I q (Q9 not yC))
  | str j=>obtain ⟨t',rfl⟩:=ry;exact PySem.EqMixed.ne_bool_str (bW I q (by simp))
  | _=>exact absurd (show false=true from hs) uS
 | int i=>
  obtain ⟨t,rfl⟩:=rx
  cases y with
  | non=>cases ry;exact PySem.EqNone.ne_int_none (bW I q (by simp))
  | int j=>obtain ⟨t',rfl⟩:=ry;exact ne_int (bW I q (Q9 not vU))
  | str j=>obtain ⟨t',rfl⟩:=ry;exact PySem.EqMixed.ne_int_str (bW I q (by simp))
  | _=>exact absurd (show false=true from hs) uS
 | str i=>
  obtain ⟨t,rfl⟩:=rx
  cases y with
  | non=>cases ry;exact PySem.EqNone.ne_str_none (bW I q (by simp))
  | bl j=>cases ry;exact PySem.EqMixed.ne_str_bool (bW I q (by simp))
  | int j=>obtain ⟨t',rfl⟩:=ry;exact PySem.EqMixed.ne_str_int (bW I q (by simp))
  | str j=>obtain ⟨t',rfl⟩:=ry;exact ne_str (bW I q (Q9 not wB))
  | _=>exact absurd (show false=true from hs) uS
 | byt i=>
  obtain ⟨t,rfl⟩:=rx
  cases y with
  | byt j=>obtain ⟨t',rfl⟩:=ry;exact PySem.W.ne_bytes (bW I q (Q9 not u6))
  | _=>exact absurd (show false=true from hs) uS
 | _=>cases y <;> exact absurd (show false=true from hs) uS
theorem we:gG X (compareOp .Lt) (uk fun i j=>.bl (decide (i < j))):=IJ fun _ _ _ _ _ _ _ q=>lt_int q
theorem GI:gG X (compareOp .LtE) (uk fun i j=>.bl (decide (i ≤ j))):=IJ fun _ _ _ _ _ _ _ q=>le_int q
theorem FU:gG X (compareOp .Gt) (uk fun i j=>.bl (decide (j < i))):=IJ fun _ _ _ _ _ _ _ q=>gt_int q
theorem t8(b:Expr){op:CmpOp}(h:op≠ .In:=by decide)(h2:op≠ .NotIn:=by decide):behindInMarks op b=false:=by
 have C:(op==CmpOp.In)=false:=by simp_all
 have I:(op==CmpOp.NotIn)=false:=by simp_all
 cases b <;> simp[behindInMarks,C,I]
theorem Fi(C:gG X (compareOp op) r)(J:PE X a ta)(U:PE X b tb)(hm:behindInMarks op b=false):PE X (.Compare a [op] [b] pos) (uO r ta tb):=by intro pins s σ H Q I h;exact wpAny_Compare1 (Hg J U I h λ v u s2 x y H2 I2 rx ry q=>C pins s2 σ H2 x y v u Q I2 rx ry q) hm
noncomputable def rh(t:TE):TT:= λ σ H Q=>t σ H λ x H'=>∃k,x= .bl k/\Q k H'
theorem qj(C:gG X (compareOp op) r)(J:PE X a ta)(U:PE X b tb)(hm:behindInMarks op b=false):PT X (.Compare a [op] [b] pos) (rh (uO r ta tb)):=by
 intro pins s σ H Q I h;refine wpAny_isTrue_Compare1 (cC (J pins s σ H _ I h) λ v s1 ⟨x,H1,I1,r1,q1⟩=>cC (U pins s1 σ H1 _ I1 q1) λ u s2 ⟨y,H2,I2,r2,q2⟩=>
  cC (C pins s2 σ H2 x y v u _ I2 r1 r2 q2) λ c s3 ⟨z,H3,I3,r3,k,e,q3⟩=>?_) hm;subst e;cases r3;exact ZY ⟨H3,I3,q3⟩
noncomputable def uv(r I:R2)(ta tb tc:TE):TE:= λ σ H Q=>ta σ H λ x H1=>tb σ H1 λ y H2=>r x y H2 λ z C=>∃k,z= .bl k/\
 (if k=true then tc σ C λ J U=>I y J U Q else Q (.bl false) C)
theorem z4{r U:R2}(ho:gG X (compareOp op) r)(J:gG X (compareOp C) U)(ha:PE X a ta)(hb:PE X b tb)(hc:PE X c tc)
  (hm:lastMarks [op,C] [b,c]=false:=by with_unfolding_all rfl):PE X (.Compare a [op,C] [b,c] pos) (uv r U ta tb tc):=by
 intro pins s σ H Q I h;refine Compare_chain (cC (ha pins s σ H _ I h) λ v s1 ⟨x,H1,I1,r1,q1⟩=>chain_link (cC (hb pins s1 σ H1 _ I1 q1) λ u s2 ⟨y,H2,I2,r2,q2⟩=>
  cC (ho pins s2 σ H2 x y v u _ I2 r1 r2 q2) λ d s3 ⟨z,H3,I3,r3,k,e,q3⟩=>?_)) hm;subst e;cases r3;refine ZY ?_;cases k with
 |false=>exact ite_ff ⟨.bl false,H3,I3,rfl,q3⟩
 |true=>exact ite_tt (chain_last (cC (hc pins s3 σ H3 _ I3 q3) λ w' s4 ⟨z',H4,I4,r4,q4⟩=>J pins s4 σ H4 y z' u w' Q I4 r2 r4 q4))
theorem zh{r U:R2}(ho:gG X (compareOp op) r)(J:gG X (compareOp C) U)(ha:PE X a ta)(hb:PE X b tb)(hc:PE X c tc)
  (hm:lastMarks [op,C] [b,c]=false:=by with_unfolding_all rfl):PT X (.Compare a [op,C] [b,c] pos) (rh (uv r U ta tb tc)):=by
 intro pins s σ H Q I h;refine isTrue_chain (cC (ha pins s σ H _ I h) λ v s1 ⟨x,H1,I1,r1,q1⟩=>test_link (cC (hb pins s1 σ H1 _ I1 q1) λ u s2 ⟨y,H2,I2,r2,q2⟩=>
  cC (ho pins s2 σ H2 x y v u _ I2 r1 r2 q2) λ d s3 ⟨z,H3,I3,r3,k,e,q3⟩=>?_)) hm;subst e;cases r3;refine ZY ?_;cases k with
 |false=>obtain⟨k',e',q'⟩:=q3;cases e';exact ite_ff ⟨H3,I3,q'⟩
 |true=>refine ite_tt (test_last (cC (hc pins s3 σ H3 _ I3 q3) λ w' s4 ⟨z',H4,I4,r4,q4⟩=>cC (J pins s4 σ H4 y z' u w' _ I4 r2 r4 q4) λ d' s5 ⟨z2,H5,I5,r5,k2,e2,q5⟩=>?_));subst e2;cases r5;exact ZY ⟨H5,I5,q5⟩
noncomputable def FG(K:PySem.W.Frag)(x:V)(H:Hp)(k:Bool):Prop:=
 match x with
 | .non=>k=false
 | .bl b=>k=b
 | .int i=>k=(i !=0)
 | .str y=>y.length<=sizeLine/\k=((y.length:Int)!=0)
 | .byt y=>y.size<=sizeLine/\k=((y.size:Int)!=0)
 | .ref p=>(∃xs,gK K H p xs/\k= !xs.isEmpty)\/(∃xs,fv K H p xs/\k= !xs.isEmpty)\/ ∃kvs,H p=some (.dK kvs)/\k= !kvs.isEmpty
 |_=>False
theorem tf(r:KV kvs vs):(!vs.isEmpty)= !kvs.isEmpty:=by cases r <;> rfl
theorem ma(r:Vals xs its):(!its.toArray.isEmpty)= !xs.isEmpty:=by cases r <;> simp
theorem jR:sizeLine<2^63:=by decide
theorem I_:NH X (fun x H Q=>∃k,FG X.K x H k∧Q k H):= by
 intro pins s σ H x v Q I rx h
 obtain ⟨k,e,q⟩:=h
 have hl:=jR
 have hs:sizeLine=16777216:=VI
 cases x with
 | non=>
  cases rx
  have e':k=false:=e
  subst e'
  exact truthy_none ⟨H,I,q⟩
 | bl b=>
  cases rx
  have e':k=b:=e
  subst e'
  exact ZY ⟨H,I,q⟩
 | int i=>
  obtain ⟨t,rfl⟩:=rx
  have e':k=(i != 0):=e
  subst e'
  exact PySem.P.truthy_int ⟨H,I,q⟩
 | str y=>
  obtain ⟨t,rfl⟩:=rx
  obtain ⟨hy,e'⟩:y.length ≤ sizeLine∧k=((y.length:Int) != 0):=e
  subst e'
  exact PySem.P.truthy_str (by omega) ⟨H,I.tok _,q⟩
 | byt y=>
  obtain ⟨t,rfl⟩:=rx
  obtain ⟨hy,e'⟩:y.size ≤ sizeLine∧k=((y.size:Int) != 0):=e
  subst e'
  exact PySem.W.truthy_bytes (by omega) ⟨H,I.tok _,q⟩
 | ref p=>
  cases rx
  have e':(∃xs,gK X.K H p xs∧k = !xs.isEmpty) ∨ (∃xs,fv X.K H p xs∧k = !xs.isEmpty) ∨ ∃kvs,H p=some (.dK kvs)∧k = !kvs.isEmpty:=e
  rcases e' with ⟨xs,hx,e'⟩ | ⟨xs,hx,e'⟩ | ⟨kvs,hx,e'⟩
  .subst e'
   obtain ⟨its,r,pl,hz⟩:=I.list hx
   have hlen:=r.length
   exact wpAny_truthy_list pl.isList (by simp only [uP];omega) ⟨H,I.tok _,by rw [ma r];exact q⟩
  .subst e'
   obtain ⟨its,r,pl,hz⟩:=I.tuple hx
   have hlen:=r.length
   exact truthy_tuple pl (by simp only [uP];omega) ⟨H,I.tok _,by rw [ma r];exact q⟩
  .subst e'
   obtain ⟨hz,hS,vs,r,m⟩:kvs.length ≤ sizeLine∧(p == sysModules)=false∧∃vs,KV kvs vs∧s.heap.DictOf (c_ X.prog X.w) p vs:=I.hok p _ hx
   have hlen:kvs.length=vs.length:=W4 r
   exact wpAny_truthy_dict hS m (by omega) ⟨H,I.tok _,by rw [tf r];exact q⟩
 | _=>exact (show False from e).elim
theorem sR(C:PE X a ta)(he:∀whole,isTrue a X.env whole=(do let v<- whole;standAt a.pos;holding [v] (truthy v))):
  PT X a (λ σ H Q=>ta σ H λ x H'=>∃k,FG X.K x H' k/\Q k H'):=by intro pins s σ H Q I h;exact isTrue_plain (cC (C pins s σ H _ I h) λ v s1 ⟨x,H1,J,U,q1⟩=>I_ pins s1 σ H1 x v Q J U q1) (he _)
theorem vals1(r:Vals [x] us):∃u,us=[u]/\RelV x u:=by cases r with
 |cons I C=>cases C;grind
theorem vals2(r:Vals [x,y] us):∃u C,us=[u,C]/\RelV x u/\RelV y C:=by cases r with
 |cons U I=>cases I with
  |cons r3 J=>cases J;grind
theorem xu(J:X.calm=true):dw X (.builtin "max") (λ xs H Q=>∃i j,xs=[.int i,.int j]/\Q (.int (if j>i then j else i)) H):=by
 intro pins s σ H xs us Q I r h;obtain⟨i,j,rfl,q⟩:=h;obtain⟨u,U,rfl,⟨t,rfl⟩,⟨t',rfl⟩⟩:=vals2 r;refine max_two_ints (I.ok.hd J) λ h' tk k=>⟨_,H,I.kept k,?_,q⟩;by_cases C:j>i;. rw[fD C,fD C];exact⟨_,rfl⟩
 .rw[QB C,QB C];exact⟨_,rfl⟩
theorem xP(J:X.calm=true):dw X (.builtin "min") (λ xs H Q=>∃i j,xs=[.int i,.int j]/\Q (.int (if j<i then j else i)) H):=by
 intro pins s σ H xs us Q I r h;obtain⟨i,j,rfl,q⟩:=h;obtain⟨u,U,rfl,⟨t,rfl⟩,⟨t',rfl⟩⟩:=vals2 r;refine min_two_ints (I.ok.hd J) λ h' tk k=>⟨_,H,I.kept k,?_,q⟩;by_cases C:j<i;. rw[fD C,fD C];exact⟨_,rfl⟩
 .rw[QB C,QB C];exact⟨_,rfl⟩
theorem xR:dw X (.type "int") (λ xs H Q=>(∃i,xs=[.int i]/\Q (.int i) H)\/ ∃k,xs=[.bl k]/\Q (.int (if k then 1 else 0)) H):=by
 intro pins s σ H xs us Q I r h;rcases h with⟨i,rfl,q⟩|⟨k,rfl,q⟩
 .obtain⟨u,rfl,t,rfl⟩:=vals1 r;exact call_int_int ⟨.int i,H,I,⟨_,rfl⟩,q⟩
 .obtain⟨u,rfl,C⟩:=vals1 r;cases C;exact call_int_bool ⟨.int (if k then 1 else 0),H,I.tok _,⟨_,rfl⟩,q⟩
theorem rm:dw X (.builtin "divmod") (λ xs H Q=>∃i j,xs=[.int i,.int j]/\Jw i j/\∀p,H p=none->Q (.ref p) (upd H p (.tup [.int (i/j),.int (i%j)]))):=by intro pins s σ H xs us Q I r h;obtain⟨i,j,rfl,⟨h1,h2⟩,q⟩:=h;obtain⟨u,J,rfl,⟨t,rfl⟩,⟨t',rfl⟩⟩:=vals2 r;refine divmod_int (by omega) ?_ (.inl (PyProof.noPylong_small (by omega)));rw[Int.fdiv_eq_ediv_of_nonneg i (by omega),Int.fmod_eq_emod_of_nonneg i (by omega)];have C:H s.heap.objs.size=none:=I.hok.fresh (xS _);refine⟨.ref s.heap.objs.size,_,?_,rfl,q _ C⟩;refine I.laid (λ b o e=>kT _ e) (xS _) ⟨by simp;decide,[.int (i/j) s.toks,.int (i%j) (s.toks+1)],.cons ⟨_,rfl⟩ (.cons ⟨_,rfl⟩ .nil),?_⟩;exact⟨⟨_,wN s.heap rfl,rfl,0,rfl⟩,_,wN s.heap rfl,rfl⟩
end
structure cu (k:Nat) (A:Around):Prop where
 hd:A.handled=none
 dp:A.depth + 3 * k + 5 < recursionLimit
 un:A.units + 16 * k + 200 < cLine
 gd:A.guards=some []
theorem cu.mono{j k:Nat}{A:Around}(r:cu k A)(h:j<=k):cu j A:=⟨r.hd,by have:=r.dp;omega,by have:=r.un;omega,r.gd⟩
theorem cu.deeper(r:cu (k+1) A)(env:Env):cu k (A.deeper env):=
 ⟨r.hd,by have:=r.dp;show A.depth+1+3*k+5<_;omega,by have:=r.un;show A.units+3+16*k+200<_;omega,r.gd⟩
theorem cu.depth(r:cu k A):A.depth<recursionLimit:=by have:=r.dp;omega
noncomputable def ti:TA:= λ _ H Q=>Q [] H
noncomputable def dW(ta:TE)(I:TA):TA:= λ σ H Q=>ta σ H λ x H1=>I σ H1 λ xs H2=>Q (x::xs) H2
section
variable {X:Cx} {e:Expr} {es:List Expr} {te:TE} {t:TA} {pos:Pos}
theorem cy:PA X [] ti:= λ _ _ _ _ H Q I h=>Calls.spliced_nil ⟨[],H,I,.nil,h⟩
theorem bA(J:PE X e te)(U:PA X es t)(hs:starEach (e::es) X.env=(false,eval e X.env)::starEach es X.env:=by rfl):PA X (e::es) (dW te t):=by intro pos pins s σ H Q I h;rw[hs];show wpAny _ _ (spliced ((false,eval e X.env)::backTo pos (starEach es X.env))) _ _ s;refine Calls.spliced_cons (cC (J pins s σ H _ I h) λ u s1 ⟨x,H1,I1,r1,q1⟩=>?_);exact cC (U pos pins s1 σ H1 _ I1 q1) λ us s2 ⟨xs,H2,I2,r2,q2⟩=>⟨x::xs,H2,I2,.cons r1 r2,q2⟩
noncomputable def Nx(t:TA):TE:= λ σ H Q=>t σ H λ xs H1=>xs.length<=sizeLine/\∀p,H1 p=none->Q (.ref p) (upd H1 p (.tup xs))
noncomputable def Fs(t:TA):TE:= λ σ H Q=>t σ H λ xs H1=>xs.length<=sizeLine/\∀p,H1 p=none->Q (.ref p) (upd H1 p (.lst xs))
theorem Hi(h:PA X es t):PE X (.Tuple es x1 pos) (Nx t):=by intro pins s σ H Q I U;refine wpAny_Tuple_spliced (cC (h pos pins s σ H _ I U) λ us s1 ⟨xs,H1,J,r,z,q⟩=>⟨by rw[<- r.length];exact z,?_⟩);have hf:H1 s1.heap.objs.size=none:=J.hok.fresh (xS _);refine⟨.ref s1.heap.objs.size,upd H1 s1.heap.objs.size (.tup xs),J.laid (t':=s1.toks) (λ b u e=>kT _ e) (xS _) ?_,rfl,q _ hf⟩;exact⟨z,us,r,⟨_,wN _ rfl,rfl,_,rfl⟩,_,wN _ rfl,rfl⟩
theorem jH(h:PA X es t):PE X (.List es pos) (Fs t):=by intro pins s σ H Q I U;refine wpAny_List_spliced (cC (h pos pins s σ H _ I U) λ us s1 ⟨xs,H1,J,r,z,q⟩=>⟨by rw[<- r.length];exact z,?_⟩);have hf:H1 s1.heap.objs.size=none:=J.hok.fresh (xS _);refine⟨.ref s1.heap.objs.size,upd H1 s1.heap.objs.size (.lst xs),J.laid (t':=s1.toks) (λ b u e=>kT _ e) (xS _) ?_,rfl,q _ hf⟩;exact⟨z,us,0,r,wN _ rfl⟩
end
noncomputable abbrev Sp:=List V->Hp->VK->XK->Prop
noncomputable abbrev xY:=List Env->Hp->Shared->XK->Value->Shared->Prop
structure xJ (P:Program) (w:World) (K:PySem.W.Frag) (mg:Str->Option Value) (base:Heap) (A:Around) (outer:List Env) (s:Shared) (H:Hp):Prop where
 frames:A.frames=some outer
 mod:Mod K mg base
 bs:∀b o,base.get? b=some o->s.heap.get? b=some o∧H b=none
 bsz:base.objs.size ≤ s.heap.objs.size
 funs:s.heap.FunFrames base outer
 frf:∀b ∈ hU outer,H b=none
 hok:iB P w H s.heap
 bare:AllBare s.gens
 tb:yj K H
noncomputable def CE(outer:List Env)(P:Program)(w:World)(H:Hp)(s:Shared)(Q:VK)(u:Value)(s':Shared):Prop:=
 ∃v H',s'.os=s.os/\AllBare s'.gens/\Un (hU outer) [] H H' s.heap s'.heap/\iB P w H' s'.heap/\RelV v u/\Q v H'
noncomputable def CR(CX:xY)(outer:List Env)(P:Program)(w:World)(H:Hp)(s:Shared)(Q:VK)(E:XK)(r:Result)(s':Shared):Prop:=
 match r with
 | .ok (.ret u)=>CE outer P w H s Q u s'
 | .ok _=>False
 | .error e=>CX outer H s E e s'
structure d8 (P:Program) (w:World) (K:PySem.W.Frag) (mg:Str->Option Value) (base:Heap) (CX:xY) (k:Nat) (f:Addr) (fd:FuncData) (ps:List Str) (sp:Sp):Prop where
 len:∀vs H Q E,sp vs H Q E->vs.length=ps.length
 run:∀(A:Around) (outer:List Env) (s:Shared) (H:Hp) (args:Args) (us:List Value) (vs:List V) (Q:VK) (E:XK),cu k A->xJ P w K mg base A outer s H->BindsTo s fd args (ps.zip us)->Vals vs us->sp vs H Q E ->
  codeAny (model P w) A (.call (.ref f) args) (CR CX outer P w H s Q E) s
theorem d8.mono{K:PySem.W.Frag}{I:Str->Option Value}{base:Heap}{CX:xY}{j k:Nat}{f:Addr}{fd:FuncData}{ps:List Str}{sp:Sp}(F:d8 P w K I base CX j f fd ps sp)(h:j<=k):
  d8 P w K I base CX k f fd ps sp:=⟨F.len,λ A outer s H args us vs Q E J=>F.run A outer s H args us vs Q E (J.mono h)⟩
theorem d8.imp{K:PySem.W.Frag}{J:Str->Option Value}{base:Heap}{CX:xY}{k:Nat}{f:Addr}{fd:FuncData}{ps:List Str}{sp I:Sp}(F:d8 P w K J base CX k f fd ps sp)
  (h:∀vs H Q E,I vs H Q E->sp vs H Q E):d8 P w K J base CX k f fd ps I:=
 ⟨λ vs H Q E q=>F.len vs H Q E (h _ _ _ _ q),λ A outer s H args us vs Q E U he hb hv hs=>F.run A outer s H args us vs Q E U he hb hv (h _ _ _ _ hs)⟩
section
variable {X:Cx} {pins:List (Addr × Obj)} {σ:St} {H:Hp} {s s':Shared}
theorem Inv.env0(I:Inv X pins σ H s):xJ X.prog X.w X.K X.mg X.base X.A X.stack s H:=
 ⟨I.ok.frames,I.ok.mod,I.bs,ZJ I.ok.bsz I.sz,I.stack,I.stkFree,I.hok,I.bare,I.tb⟩
theorem Inv.after(I:Inv X pins σ H s)(h:CE X.stack X.prog X.w H s Q u s'):EP X pins σ Q u s':=by obtain⟨v,H',os,bare,un,J,r,q⟩:=h;obtain⟨hh,g,d,t,U⟩:=s';obtain rfl:U=s.os:=os;exact⟨v,H',I.call (h':=hh) (g':=g) (d':=d) (t':=t) (ch:=[]) un J bare (λ b z=>absurd z (by simp)),r,q⟩
end
noncomputable def KG(sp:Sp)(I:List V)(E:XK)(t:TA):TE:= λ σ H Q=>t σ H λ vs H1=>sp (vs++I) H1 Q E
noncomputable def Binds(K:PySem.W.Frag)(fd:FuncData)(ps:List Str)(ds:List Value):Prop:=
 ∀(s:Shared)(us:List Value),K.In s.heap->(us++ds).length=ps.length->BindsTo s fd ⟨us,[]⟩ (ps.zip (us++ds))
theorem Binds.all{K:PySem.W.Frag}{fd:FuncData}{ps:List Str}(h:∀us:List Value,us.length=ps.length->bindArgs fd ⟨us,[]⟩=pure (ps.zip us)):Binds K fd ps []:= λ s us _ I=>by rw[Z1]at I|-;exact .of_eq (h us I)
noncomputable def Passes(CX:xY)(X:Cx)(E:XK):Prop:=∀(pins:List (Addr×Obj))(σ:St)(H:Hp)(s:Shared)(e:Value)(s':Shared),Inv X pins σ H s->CX X.stack H s E e s'->X.xe e s'
section
variable {X:Cx} {CX:xY} {k:Nat} {f C:Addr} {fd:FuncData} {ps:List Str} {sp:Sp} {dvs:List V} {ds:List Value} {E:XK} {x:Str} {p pos:Pos} {e:Expr} {es:List Expr} {t:TA}
theorem H_{σ:St}{H:Hp}{s:Shared}{Q:VK}{us:List Value}{vs:List V}(F:d8 X.prog X.w X.K X.mg X.base CX k f fd ps sp)(hr:cu k X.A)(hb:Binds X.K fd ps ds)(hd:Vals dvs ds)(hx:Passes CX X E)
  (I:Inv X pins σ H s)(r:Vals vs us)(h:sp (vs++dvs) H Q E):wpAny (model X.prog X.w) X.A (call (.ref f) us) (EP X pins σ Q) X.xe s:=by
 have U:Vals (vs++dvs) (us++ds):=r.append hd;have hl:(us++ds).length=ps.length:=by rw[<- U.length];exact F.len _ _ _ _ h
 refine WB (ZQ (F.run X.A X.stack s H ⟨us,[]⟩ (us++ds) (vs++dvs) Q E hr I.env0 (hb s us I.kIn hl) U h) λ r s' J=>?_);cases r with
 |error e=>exact hx pins σ H s e s' I J
 |ok fl=>cases fl with
  |ret u=>exact I.after J
  |next=>exact False.elim J
  |brk=>exact False.elim J
  |cont=>exact False.elim J
theorem p_(F:d8 X.prog X.w X.K X.mg X.base CX k f fd ps sp)(hr:cu k X.A)(hg:Gl X x)(hm:X.mg x=some (.ref f))(hk:PySem.W.keepIn X.K (.ref f)=true)(hb:Binds X.K fd ps ds)(hd:Vals dvs ds)(hx:Passes CX X E)
  (ha:PA X (e::es) t)(J:(x==("__debug__":Str))=false:=by decide)(he:starEach (e::es) X.env=(false,eval e X.env)::starEach es X.env:=by rfl)(U:(backTo pos (starEach es X.env)).any (·.1)=false:=by rfl):
  PE X (.Call (.Name x p) (e::es) [] pos) (KG sp dvs E t):=by intro pins s σ H Q I h;refine YD (f9 I hg hm ?_ J);refine XG (h₀:=X.base) I.ok.mod.kin hk (cC (ha pos pins s σ H _ I h) λ us s1 ⟨vs,H1,I1,r,q⟩=>⟨I1.kIn,?_⟩) he U;exact H_ F hr hb hd hx I1 r q
structure Mk (K:PySem.W.Frag) (C f:Addr):Prop where
 makes:PySem.W.makesIn K C=true
 init:PySem.W.findIn K (.ref C) "__init__" = some (some (.ref f))
 fn:PySem.W.isFn K (.ref f)=true
 kp:PySem.W.keepIn K (.ref C)=true
end
structure cx (N P:List Str) (sc:Scope):Prop where
 kind:sc.kind=.function
 co:sc.isCoroutine=false
 gen:sc.isGenerator=false
 nd:N.Nodup
 pre:N.take P.length=P
 par:∀x ∈ P,sc.names.lookup x=some .local ∨ sc.names.lookup x=some .cell
 nofree:∀y ∈ sc.names,y.2 ≠ .free
theorem om{kindOf:Str->Option NameKind}{x:Str}:∀{binds:List (Str×Value)}{m:Str->Option Value},(∀v,(x,v)∉binds)->bindL kindOf binds m x=m x
 |[],_,_=>rfl
 |(n,v)::r,m,h=>by
  unfold bindL;rw[om λ w hw=>h w (uN _ hw)];split;. grind
  rfl
theorem nG{kindOf:Str->Option NameKind}{x:Str}:∀{binds:List (Str×Value)}{m:Str->Option Value},(∀v,(x,v)∉binds)->bindC kindOf binds m x=m x
 |[],_,_=>rfl
 |(n,v)::r,m,h=>by
  unfold bindC;rw[nG λ w hw=>h w (uN _ hw)];split;. rfl
  grind
theorem nV{kindOf:Str->Option NameKind}{x:Str}{v:Value}:∀{P:List Str}{vs:List Value}{i:Nat}{m:Str->Option Value},P.Nodup->P[i]?=some x->vs[i]?=some v->kindOf x=some .local->
  bindL kindOf (P.zip vs) m x=some v
 |[],_,_,_,_,h,_,_=>by simp at h
 |_::_,[],_,_,_,_,h,_=>by simp at h
 |p::P,w::vs,0,m,nd,h1,h2,I=>by simp at h1 h2;subst h1 h2;show bindL kindOf ((p,w)::P.zip vs) m p=_;unfold bindL;rw[om λ v J=>(ZF.mp nd).1 (Y9 J).1,fD I];simp
 |p::P,w::vs,i+1,m,nd,h1,h2,I=>by show bindL kindOf ((p,w)::P.zip vs) m x=_;exact nV (i:=i) (ZF.mp nd).2 (by simp_all) (by simp_all) I
theorem oY{kindOf:Str->Option NameKind}{x:Str}{v:Value}:∀{P:List Str}{vs:List Value}{i:Nat}{m:Str->Option Value},P.Nodup->P[i]?=some x->vs[i]?=some v->kindOf x≠some .local->
  bindC kindOf (P.zip vs) m x=some v
 |[],_,_,_,_,h,_,_=>by simp at h
 |_::_,[],_,_,_,_,h,_=>by simp at h
 |p::P,w::vs,0,m,nd,h1,h2,I=>by simp at h1 h2;subst h1 h2;show bindC kindOf ((p,w)::P.zip vs) m p=_;unfold bindC;rw[nG λ v J=>(ZF.mp nd).1 (Y9 J).1,QB I];simp
 |p::P,w::vs,i+1,m,nd,h1,h2,I=>by show bindC kindOf ((p,w)::P.zip vs) m x=_;exact oY (i:=i) (ZF.mp nd).2 (by simp_all) (by simp_all) I
noncomputable def start(N:List Str)(vs:List V):St:=vs.map some++List.replicate (N.length-vs.length) none
noncomputable def fB(CX:xY)(P:Program)(w:World)(K:PySem.W.Frag)(mg:Str->Option Value)(base:Heap)(N:List Str)(qual:Str)(scope:Scope)(f:Addr)(cd:Value)(A:Around)(outer:List Env)(s:Shared)(H:Hp)(E:XK):Cx where
 prog:=P
 w:=w
 K:=K
 mg:=mg
 base:=base
 A:=A.deeper (envOfC qual scope s.heap.objs.size f cd)
 N:=N
 s₀:=s
 H₀:=H
 env:=envOfC qual scope s.heap.objs.size f cd
 outer:=outer
 stack:=envOfC qual scope s.heap.objs.size f cd::outer
 ex:=[]
 calm:=true
 fn:= λ _=>true
 pn:=[]
 xe:= λ e s'=>wpAny (model P w) (A.deeper (envOfC qual scope s.heap.objs.size f cd)) (leaving (envOfC qual scope s.heap.objs.size f cd) e) (λ _ I=>CX outer H s E e I) (λ e' I=>CX outer H s E e' I) s'
theorem sk{sc:Scope}{n:Nat}{x:Str}(h:sc.names.lookup x=some .cell):∃c,(cellsFrom n sc.names []).lookup x=some c:=by have q:=YE sc.names n [] (.inl h);exact Z6.mp q
theorem ny{P:Program}{w:World}{K:PySem.W.Frag}{mg:Str->Option Value}{base:Heap}{N ps:List Str}{qual:Str}{scope:Scope}{f:Addr}{cd:Value}{A:Around}{outer:List Env}{s s1:Shared}{H:Hp}{E:XK}{us:List Value}{vs:List V}
  (S:cx N ps scope)(hd:A.handled=none)(I:xJ P w K mg base A outer s H)(hl:vs.length=ps.length)(r:Vals vs us)
  (x:InCallC s s.heap.objs.size (bindL (envOfC qual scope s.heap.objs.size f cd).kindOf (ps.zip us) λ _=>none) (cellsFrom (s.heap.objs.size+1) scope.names []) (bindC (envOfC qual scope s.heap.objs.size f cd).kindOf (ps.zip us) λ _=>none) s1):
  Inv (fB CX P w K mg base N qual scope f cd A outer s H E) [] (start N vs) H s1:=by
 have ab:ps.length<=N.length:=by have:=Q9 List.length S.pre;rw[VJ]at this;omega
 obtain⟨h1,tk,rfl,hk⟩:=x.done;have J:∀b:Addr,b∉(fB CX P w K mg base N qual scope f cd A outer s H E).ex:= λ b z=>absurd (show b∈([]:List Addr)from z) (by simp);refine⟨⟨I.mod,S.kind,rfl,rfl,xS _,λ y z c h1 h2=>?_,λ y U=>?_,λ y c _ h=>?_,λ _=>hd,Around.frames_deeper I.frames,.inr ⟨rfl,rfl⟩,λ b z=>absurd z (J b),I.bs,I.bsz,λ b _ _=>J b,λ b z=>absurd z (J b),I.funs,I.frf,I.tb⟩,
  rfl,I.bare,Un.kept hk,⟨_,x.toInCall.ns,λ i y v h1 h2 h3=>?_⟩,λ y c h=>⟨_,x.cell y c h⟩,I.hok.fresh (xS _),λ y c h=>?_,λ p hp=>absurd (show p∈([]:List (Addr×Obj))from hp) (by simp),I.hok.kept hk,?_⟩;. exact name_of_addr x.apart (V2 h1) (V2 h2)
 .rcases U with U|U
  .exact sk U
  .exact absurd rfl (S.nofree _ (V2 U))
 .exact Nat.le_of_lt (x.above y c (V2 h))
 .have hi:i<vs.length:=by unfold start at h2;grind
  have ha:vs[i]?=some v:=by unfold start at h2;rw[QZ (by simpa using hi),QH]at h2;cases e:vs[i]? with
   |none=>rw[e]at h2;cases h2
   |some a=>rw[e]at h2;cases h2;rfl
  obtain⟨u,hu,rv⟩:=r.get ha;have hp:ps[i]?=some y:=by rw[<- S.pre,Q2 (by omega)];exact h1
  have aa:ps.Nodup:=by rw[<- S.pre];exact S.nd.sublist (List.take_sublist _ _)
  refine⟨u,rv,?_⟩;rcases S.par y (VA hp)with k|k
  .exact .inl ⟨k,nV aa hp hu k⟩
  .obtain⟨c,e⟩:=sk (n:=s.heap.objs.size+1) k;refine .inr ⟨.inl k,c,e,?_⟩;have q:=x.cell y c e;rw[oY aa hp hu (by show scope.names.lookup y≠_;rw[k];decide)]at q;exact q
 .exact I.hok.fresh (Nat.le_of_lt (x.above y c (V2 h)))
 .unfold start;show _=N.length;rw[QC,wF,YL];omega
theorem Gx{K:PySem.W.Frag}{mg:Str->Option Value}{base:Heap}{k:Nat}{f:Addr}{name qual:Str}{params:Arguments}{body:List Stmt}{scope:Scope}{dV kV doc pm cdv ct oc:Value}{an od:Option Addr}
  {af:Array (Option Value)}{N ps:List Str}{sp:Sp}(lk:K.lookup f=some ⟨oc,od,.func (PySem.W.fnOf name qual params body scope dV kV doc pm an cdv ct),af⟩)(ag:PySem.W.codeIn K cdv qual=true)(S:cx N ps scope)
  (len:∀vs H Q E,sp vs H Q E->vs.length=ps.length)
  (aa:∀(A:Around)(outer:List Env)(s:Shared)(H:Hp)(vs:List V)(Q:VK)(E:XK),cu k (A.deeper (envOfC qual scope s.heap.objs.size f cdv))->sp vs H Q E->
   ∃t,mV (fB CX P w K mg base N qual scope f cdv A outer s H E) body t/\t { nx:= λ _ H'=>Q .non H',rt:=Q } (start N vs) H):
  d8 P w K mg base CX (k+1) f (PySem.W.fnOf name qual params body scope dV kV doc pm an cdv ct) ps sp:=by
 refine⟨len,λ A outer s H args us vs Q E hr e0 hb r ae=>?_⟩;have hl:=len _ _ _ _ ae;have KX:K.In s.heap:=e0.mod.kin.keeps λ b o e=>(e0.bs b o e).1;have lim:s.heap.NoLimit:=e0.mod.nolimit.keeps λ b o e=>(e0.bs b o e).1;have ab:∀y∈ps.zip us,scope.names.lookup y.1=some .local\/(scope.names.lookup y.1=some .cell/\((cellsFrom (s.heap.objs.size+1) scope.names []).lookup y.1).isSome=true):= λ⟨n,v⟩ hy=>by
  rcases S.par n (Y9 hy).1 with q|q
  .exact .inl q
  .exact .inr ⟨q,YE _ _ _ (.inl q)⟩
 refine codeAny_call_function hr.depth (KX _ _ lk) rfl S.co S.gen rfl (PySem.W.codeRec_of KX ag) (hb _ _ _ _ ?_);refine wpAny_newFunctionEnv_cells S.kind ab λ env he s1 x=>?_;subst he;refine⟨lim.keeps x.toInCall.keep,codeAny_func ?_⟩;obtain⟨t,ht,hq⟩:=aa A outer s H vs Q E (hr.deeper _) ae;have I:Inv (fB CX P w K mg base N qual scope f cdv A outer s H E) [] (start N vs) H s1:=ny S hr.hd e0 hl r x;refine gA (ht [] s1 (start N vs) H _ I hq) (λ fl s' hs=>?_) λ e s' hs=>hs;have fin:∀{U:St}{H':Hp}{v:V}{u:Value},Inv (fB CX P w K mg base N qual scope f cdv A outer s H E) [] U H' s'->RelV v u->Q v H'->CE outer P w H s Q u s':=
  λ{U H' v u} J rv q=>⟨v,H',J.os,J.bare,J.base,J.hok,rv,q⟩;cases fl with
 |ret u=>obtain⟨v,U,H',J,rv,q⟩:=hs;exact fin J rv q
 |next=>obtain⟨U,H',J,q⟩:=hs;exact fin (v:=V.non) (u:=Value.none) J rfl q
 |brk=>obtain⟨_,_,_,q⟩:=hs;simp_all
 |cont=>obtain⟨_,_,_,q⟩:=hs;simp_all
section
variable {X:Cx} {x:Str} {p pos:Pos} {e:Expr} {es:List Expr} {t:TA} {id T:String} {r:List V->Hp->VK->Prop}
noncomputable def MD(r:List V->Hp->VK->Prop)(t:TA):TE:= λ σ H Q=>t σ H λ vs H1=>r vs H1 Q
theorem dA(hc:dw X (.builtin id) r)(hg:Gl X x)(hm:X.mg x=none)(hv:bootBuiltins x=some (.builtin id))(ha:PA X (e::es) t)(hn:x≠"__name__":=by decide)(J:(x==("__debug__":Str))=false:=by decide)
  (he:starEach (e::es) X.env=(false,eval e X.env)::starEach es X.env:=by rfl)(U:(backTo pos (starEach es X.env)).any (·.1)=false:=by rfl):PE X (.Call (.Name x p) (e::es) [] pos) (MD r t):=by intro pins s σ H Q I h;refine YD (jX I hg hm hv ?_ hn J);exact PyProof.Rows.callWith_builtin1 (cC (ha pos pins s σ H _ I h) λ us s1 ⟨vs,H1,I1,r1,q1⟩=>hc pins s1 σ H1 vs us Q I1 r1 q1) he U
theorem eA(hc:dw X (.type T) r)(hg:Gl X x)(hm:X.mg x=none)(hv:bootBuiltins x=some (.type T))(ha:PA X (e::es) t)(hn:x≠"__name__":=by decide)(J:(x==("__debug__":Str))=false:=by decide)
  (he:starEach (e::es) X.env=(false,eval e X.env)::starEach es X.env:=by rfl)(U:(backTo pos (starEach es X.env)).any (·.1)=false:=by rfl):PE X (.Call (.Name x p) (e::es) [] pos) (MD r t):=by intro pins s σ H Q I h;refine YD (jX I hg hm hv ?_ hn J);exact VH (cC (ha pos pins s σ H _ I h) λ us s1 ⟨vs,H1,I1,r1,q1⟩=>hc pins s1 σ H1 vs us Q I1 r1 q1) he U
end
end L2
namespace HT
open PySem PyProof.Rows
section
variable {prog:Program} {w:World} {A:Around} {E:Value->Shared->Prop} {s:Shared}
theorem cat_tup(ht:IsTup s.heap t vs.toArray)(hb:IsTup s.heap b ws.toArray)(hv:vs≠[])
  (h1:ws=[]->Q (.ref t) s)(h2:ws≠[]->Q (.ref s.heap.objs.size) { s with heap:=s.heap.push { cls:= .type "tuple",data:= .seq (vs++ws).toArray } })
  (hsz:vs.length+ws.length<=sizeLine):wpAny (model prog w) A (binaryOp .Add (.ref t) (.ref b)) Q E s:=by
 obtain⟨⟨cls,dd,data,sl⟩,ho,hc,n,hd⟩:=id ht;obtain⟨⟨ab,J,data2,U⟩,I,aa,n2,hd2⟩:=id hb;simp at hc hd aa hd2;subst hc hd aa hd2;by_cases hw:ws=[]
 .exact concat_meets ⟨_,ho,rfl⟩ ⟨_,I,rfl⟩ noFill_tuple_add seq_tuple_add WL WE (Y3 _ _)
   (tuple_addW1 t b vs.toArray ws.toArray n n2 dd J sl U (by simpa using hv) (by simp[hw])) ⟨ho,I,h1 hw⟩
 .refine concat_meets ⟨_,ho,rfl⟩ ⟨_,I,rfl⟩ noFill_tuple_add seq_tuple_add WL WE (Y3 _ _)
   (tuple_addW2 t b vs.toArray ws.toArray n n2 dd J sl U (by simpa using hv) (by simpa using hw) (by omega)) ⟨ho,I,?_⟩;grind
noncomputable def sIx(n d:Nat):Option Int->Nat
 |none=>d
 |some v=>if v<0 then(v+(n:Int)).toNat else min v.toNat n
theorem sIx_none(n d:Nat):sIx n d none=d:=rfl
theorem sIx_nat(n d k:Nat):sIx n d (some k)=min k n:=by rfl
theorem vG(v:Int)(n d:Nat):(if v<0 then max (v+n) 0 else min v n)=((sIx n d (some v):Nat):Int):=by show(if v<0 then max (v+n) 0 else min v n)=(((if v<0 then(v+n).toNat else min v.toNat n):Nat):Int);grind
theorem ud(lo I:Option Int)(n:Nat):Builtin.Slice.sliceAdjust lo I 1 n=(((sIx n 0 lo:Nat):Int),((sIx n n I:Nat):Int)):=by
 refine Prod.ext ?_ ?_;. cases lo with
  |none=>rfl
  |some v=>exact vG v n 0
 .cases I with
  |none=>rfl
  |some v=>exact vG v n n
theorem uD(i j:Nat):Builtin.Slice.slicePlaces i j 1=j-i:=by unfold Builtin.Slice.slicePlaces;omega
theorem slicePart_ {v:Value} {o:Option Int} {Q:Option Int->Shared->Prop} (p:IsPart v o) (h:Q o s):wpAny (model prog w) A (Builtin.Slice.slicePartIndex v) Q E s:= by
 cases p with
 | none=>exact slicePart_none h
 | int i t=>exact slicePart_int h
theorem sliceApplied_gen{lo I:Option Int}{n:Nat}{Q:Int×Int×Nat->Shared->Prop}(hs:s.heap.IsSliceOf sl vl vu .none)(pl:IsPart vl lo)(pu:IsPart vu I)
  (h:Q (((sIx n 0 lo:Nat):Int),1,sIx n n I-sIx n 0 lo) s):wpAny (model prog w) A (Builtin.Slice.sliceApplied (.ref sl) (pure n)) Q E s:=by obtain⟨os,J,aa,U⟩:=id hs;refine zN (zN (Q7 J U (x:=vl) rfl (zN (Q7 J U (x:=vu) rfl (zN (Q7 J U (x:= .none) rfl (zS ?_)))))));refine zN (slicePart_none ?_);refine zN (slicePart_ pl (zN (slicePart_ pu (zN (zS ?_)))));show wpAny _ _ (match Builtin.Slice.sliceAdjust lo I 1 n with|(lo,I)=>pure (lo,(1:Int),Builtin.Slice.slicePlaces lo I 1)) _ _ s;rw[ud lo I n];show wpAny _ _ (pure (((sIx n 0 lo:Nat):Int),1,Builtin.Slice.slicePlaces ((sIx n 0 lo:Nat):Int) ((sIx n n I:Nat):Int) 1)) _ _ s;rw[uD];exact zS h
theorem yZ(xs:Array Value)(i k:Nat):((List.range k).filterMap λ(m:Nat)=>xs[((i:Int)+m*1).toNat]?).toArray=((xs.toList.drop i).take k).toArray:=by
 have e:(λ(m:Nat)=>xs[((i:Int)+m*1).toNat]?)= λ m=>xs[i+m]?:=by
  funext m;have:((i:Int)+m*1).toNat=i+m:=by omega
  rw[this]
 have:=pick_run xs i k;have I:((λ x=>xs[x]?)∘ λ x=>i+x)= λ m=>xs[i+m]?:=rfl;simp_all
theorem getItem_tuple_cut{items:Array Value}{vl vu:Value}{lo J:Option Int}{Q:Value->Shared->Prop}(U:IsTup s.heap t items)(hs:s.heap.IsSliceOf sl vl vu .none)(pl:IsPart vl lo)(pu:IsPart vu J)
  (hw: ¬(sIx items.size 0 lo=0/\sIx items.size items.size J=items.size))
  (h:Q (.ref s.heap.objs.size) { s with heap:=s.heap.push { cls:= .type "tuple",data:= .seq ((items.toList.drop (sIx items.size 0 lo)).take (sIx items.size items.size J-sIx items.size 0 lo)).toArray } })
  (hsz:items.size<=sizeLine):wpAny (model prog w) A (getItem (.ref t) (.ref sl)) Q E s:=by
 have I:sizeOk (.seq ((items.toList.drop (sIx items.size 0 lo)).take (sIx items.size items.size J-sIx items.size 0 lo)).toArray):=by show((items.toList.drop (sIx items.size 0 lo)).take (sIx items.size items.size J-sIx items.size 0 lo)).toArray.size<=sizeLine;rw[uP,VJ,List.length_drop,VF];omega
 obtain⟨os,aa,ab,ag⟩:=id hs;have ae:s.TypeIs (.ref sl) "slice":=⟨os,aa,ab⟩;unfold getItem;try with_reducible refine QP ?_
 refine zN (WM U.typeIs (by decide) ?_);refine zN (QW (name:=Str.ofString "__getitem__") U.typeIs Z2
  (QO Z2 U.typeIs entry_tuple_getitem ?_ (args_tuple_getitem _ _)));show wpAny _ _ (Builtin.Tuple.tupleItemsOf (.ref t) >>= _) _ _ s;refine zN (tupleItemsOf_ U ?_);refine zN (VZ ae ?_);refine zN (sliceApplied_gen hs pl pu ?_);have af: ¬((((sIx items.size 0 lo:Nat):Int)==0&&(1:Int)==1&&(sIx items.size items.size J-sIx items.size 0 lo)==items.size)=true):=by grind
 show wpAny _ _ (if(((sIx items.size 0 lo:Nat):Int)==0&&1==1&&(sIx items.size items.size J-sIx items.size 0 lo)==items.size)=true then _ else _) _ _ s;rw[QB af,yZ];first
  |exact zN (m:=Builtin.Tuple.tupleExact _) (QK (zS ⟨_,rfl,zS h⟩) I)
  |exact zN (m:=Builtin.Tuple.tupleExact _) (QK (zN (zS (zS ⟨_,rfl,zS h⟩))) I)
  |exact zN (zN (m:=Builtin.Tuple.tupleExact _) (QK (zS (zS ⟨_,rfl,zS h⟩)) I))
  |exact zN (zN (m:=Builtin.Tuple.tupleExact _) (QK (zS ⟨_,rfl,zS h⟩) I))
end
end HT
namespace L2
open PySem PySem.Spec PyProof.Rows
noncomputable abbrev TO:=St->Hp->(Option Int->Hp->Prop)->Prop
noncomputable def PO(X:Cx)(e:Option Expr)(t:TO):Prop:=
 ∀(pins:List (Addr×Obj))(s:Shared)(σ:St)(H:Hp)(Q:Option Int->Hp->Prop),Inv X pins σ H s->t σ H Q->
  wpAny (model X.prog X.w) X.A (evalPart e X.env) (λ u s'=>∃o H',Inv X pins σ H' s'/\IsPart u o/\Q o H') X.xe s
noncomputable def Ft:TO:= λ _ H Q=>Q none H
noncomputable def L6(t:TE):TO:= λ σ H Q=>t σ H λ x H1=>∃i,x= .int i/\Q (some i) H1
theorem intsAre_of:∀{us:List Value},Vals (ns.map V.int) us->IntsAre us ns:=by induction ns with
 |nil=>intro us r;cases r;exact .nil
 |cons n ns I=>intro us r;cases r with
  |cons J U=>obtain⟨t,e⟩:=J;subst e;exact .cons n t (I U)
section
variable {X:Cx} {e:Expr} {te:TE} {lo hi:Option Expr} {tl th:TO} {pos p2:Pos}
theorem D4:PO X none Ft:=by intro pins s σ H Q I h;exact zS ⟨none,H,I,.none,h⟩
theorem CT(h:PE X e te):PO X (some e) (L6 te):=by intro pins s σ H Q I hw;refine cC (h pins s σ H _ I hw) λ u s1 ⟨x,H1,J,U,q1⟩=>?_;obtain⟨i,rfl,q⟩:=q1;obtain⟨t,rfl⟩:=U;exact⟨some i,H1,J,.int i t,q⟩
noncomputable def Gj(X:Cx)(r:V->Option Int->Option Int->Hp->VK->Prop):Prop:=
 ∀(pins:List (Addr×Obj))(s:Shared)(σ:St)(H:Hp)(x:V)(v I J:Value)(lo hi:Option Int)(sl:Addr)(Q:VK),Inv X pins σ H s->RelV x v->s.heap.IsSliceOf sl I J .none->IsPart I lo->IsPart J hi->r x lo hi H Q->
  ∃T id,typeLookup (.type T) "__getitem__"=pure (some (.builtin id))/\s.TypeIs v T/\wpAny (model X.prog X.w) X.A (getItem v (.ref sl)) (EP X pins σ Q) X.xe s
theorem Gj.or(h:Gj X r)(h':Gj X r'):Gj X (λ x lo hi H Q=>r x lo hi H Q\/r' x lo hi H Q):=by
 intro pins s σ H x v J U lo hi sl Q I rx hs pl pu q;rcases q with q|q
 .exact h pins s σ H x v J U lo hi sl Q I rx hs pl pu q
 .exact h' pins s σ H x v J U lo hi sl Q I rx hs pl pu q
noncomputable def Ox(r:V->Option Int->Option Int->Hp->VK->Prop)(te:TE)(tl th:TO):TE:= λ σ H Q=>te σ H λ x H1=>tl σ H1 λ l H2=>th σ H2 λ u I=>r x l u I Q
theorem yt(hr:Gj X r)(he:PE X e te)(hl:PO X lo tl)(hu:PO X hi th):PE X (.Subscript e (.Slice lo hi none p2) pos) (Ox r te tl th):=by intro pins s σ H Q I h;refine Subscript_ (cC (he pins s σ H _ I h) λ v s1 ⟨x,H1,I1,r1,q1⟩=>?_);refine wpAny_Slice (cC (hl pins s1 σ H1 _ I1 q1) λ J s2 ⟨l,H2,I2,pl,q2⟩=>cC (hu pins s2 σ H2 _ I2 q2) λ U s3 ⟨u,H3,I3,pu,q3⟩=>?_);refine zS ?_;have I4:Inv X pins σ H3 { s3 with heap:=s3.heap.push { cls:= .type "slice",data:= .fields #[J,U,.none] } }:=I3.kept (t':=s3.toks) λ b ob q=>kT _ q;obtain⟨T,id,hT,ht,hg⟩:=hr pins { s3 with heap:=s3.heap.push { cls:= .type "slice",data:= .fields #[J,U,.none] } } σ H3 x v J U l u s3.heap.objs.size Q I4 r1 (Heap.IsSliceOf.new ..) pl pu q3;exact tail_any (ops:=[.ref s3.heap.objs.size,v]) ht hT hg (by rfl)
noncomputable def pV(xs:List V)(lo hi:Option Int):List V:=(xs.drop (HT.sIx xs.length 0 lo)).take (HT.sIx xs.length xs.length hi-HT.sIx xs.length 0 lo)
theorem j_(xs:List V)(lo hi:Option Int):(pV xs lo hi).length<=xs.length:=by unfold pV;grind
noncomputable def MN(K:PySem.W.Frag):V->Option Int->Option Int->Hp->VK->Prop:= λ x lo hi H Q=>∃a xs,x= .ref a/\fv K H a xs/\
 ¬(HT.sIx xs.length 0 lo=0/\HT.sIx xs.length xs.length hi=xs.length)/\∀p,H p=none->Q (.ref p) (upd H p (.tup (pV xs lo hi)))
theorem Hr:Gj X (MN X.K):=by intro pins s σ H x v vl vu lo hi sl Q I rx hs pl pu h;obtain⟨a,xs,rfl,hx,hw,q⟩:=h;cases rx;obtain⟨its,r,U,hz⟩:=I.tuple hx;have hlen:its.toArray.size=xs.length:=r.length.symm;refine⟨"tuple",_,PyProof.Rows.slot_tuple_getitem.lookup,U.typeIs,?_⟩;refine HT.getItem_tuple_cut U hs pl pu (by grind) ?_ (by rw[hlen];exact hz);rw[hlen];refine⟨.ref s.heap.objs.size,_,I.laid (t':=s.toks) (o:= .tup (pV xs lo hi)) (λ b ob q=>kT _ q) (xS _) ?_,rfl,q _ (I.hok.fresh (xS _))⟩;exact⟨ZJ (j_ xs lo hi) hz,_,(r.drop (HT.sIx xs.length 0 lo)).take (HT.sIx xs.length xs.length hi-HT.sIx xs.length 0 lo),ue.new _ _⟩
noncomputable def Bp(K:PySem.W.Frag):R2:= λ x y H Q=>∃a b xs ys,x= .ref a/\y= .ref b/\fv K H a xs/\fv K H b ys/\xs≠[]/\xs.length+ys.length<=sizeLine/\
 (ys=[]->Q (.ref a) H)/\(ys≠[]->∀p,H p=none->Q (.ref p) (upd H p (.tup (xs++ys))))
theorem Vals.nil_iff(r:Vals xs us):us=[]↔xs=[]:=by cases r with
 |nil=>simp
 |cons _ _=>simp
theorem CC:gG X (binaryOp .Add) (Bp X.K):=by intro pins s σ H x y v u Q I rx ry h;obtain⟨a,b,xs,ys,rfl,rfl,ha,hb,hx,hz,q1,q2⟩:=h;cases rx;cases ry;obtain⟨its,U,p1,_⟩:=I.tuple ha;obtain⟨aa,J,p2,_⟩:=I.tuple hb;refine HT.cat_tup p1 p2 (λ z=>hx (U.nil_iff.mp z)) (λ z=>⟨.ref a,H,I,rfl,q1 (J.nil_iff.mp z)⟩) (λ z=>?_) (by rw[<- U.length,<- J.length];omega);refine⟨.ref s.heap.objs.size,_,I.laid (t':=s.toks) (o:= .tup (xs++ys)) (λ b ob q=>kT _ q) (xS _) ?_,rfl,q2 (λ w=>z (J.nil_iff.mpr w)) _ (I.hok.fresh (xS _))⟩;exact⟨by rw[QC];exact hz,_,U.append J,ue.new _ _⟩
end
noncomputable def ym(n:Nat)(i:Int):Option Nat:=if 0<=i then(if i<n then some i.toNat else none)else if-(n:Int)<=i then some (i+n).toNat else none
noncomputable def jb{α:Type}(xs:List α)(i:Int):Option α:=(ym xs.length i).bind λ j=>xs[j]?
theorem u9(h:ym n i=some j):seqIndex? i n=some j/\j<n/\ -n<=i/\i<n:=by
 unfold ym at h;by_cases h0:0<=i
 .rw[fD h0]at h;by_cases h1:i<n
  .rw[fD h1]at h;have e:i.toNat=j:=ZG h;exact⟨by rw[seqIndex_of h0 h1,e],by omega,by omega,h1⟩
  .rw[QB h1]at h;cases h
 .rw[QB h0]at h;by_cases h1: -n<=i;. rw[fD h1]at h;have e:(i+n).toNat=j:=ZG h;exact⟨by rw[seqIndex_neg (by omega) h1,e],by omega,h1,by omega⟩
  simp_all
theorem qz(h:jb xs i=some v):∃j,seqIndex? i xs.length=some j/\xs[j]?=some v/\j<xs.length/\ -xs.length<=i/\i<xs.length:=by unfold jb at h;cases e:ym xs.length i with
 |none=>rw[e]at h;cases h
 |some j=>obtain⟨h1,h2,I,J⟩:=u9 e;grind
theorem atI_nat{j:Nat}{v:α}(h:xs[j]?=some v):jb xs j=some v:=by
 have I:j<xs.length:=(xZ.mp h).1;have e:ym xs.length j=some j:=by unfold ym;rw[fD (by omega),fD (by omega)];simp
 unfold jb;grind
noncomputable def kx(b:Expr):Prop:=∀o i,subscripted b false o i=operate [o,i] (getItem o i)
noncomputable def B2(X:Cx)(r:R2):Prop:=
 ∀(value slice:Expr)(pins:List (Addr×Obj))(s:Shared)(σ:St)(H:Hp)(x y:V)(v u:Value)(Q:VK),Inv X pins σ H s->RelV x v->RelV y u->r x y H Q->
  subscripted slice false v u=operate [v,u] (getItem v u)->wpAny (model X.prog X.w) X.A (subscriptTail value slice v u) (EP X pins σ Q) X.xe s
noncomputable def Oh(X:Cx)(id:String)(r:V->List V->Hp->VK->Prop):Prop:=
 ∀(pins:List (Addr×Obj))(s:Shared)(σ:St)(H:Hp)(x:V)(xs:List V)(v:Value)(us:List Value)(Q:VK),Inv X pins σ H s->RelV x v->Vals xs us->r x xs H Q->
  wpAny (model X.prog X.w) X.A (call (.builtin id) (v::us)) (EP X pins σ Q) X.xe s
section
variable {X:Cx} {a b:Expr} {ta tb:TE} {pos:Pos}
theorem B2.or(h:B2 X r)(h':B2 X r'):B2 X (λ x y H Q=>r x y H Q\/r' x y H Q):=by
 intro value slice pins s σ H x y v u Q I J U q hs;rcases q with q|q
 .exact h value slice pins s σ H x y v u Q I J U q hs
 .exact h' value slice pins s σ H x y v u Q I J U q hs
theorem AY(J:B2 X r)(U:PE X a ta)(hb:PE X b tb)(hs:kx b):PE X (.Subscript a b pos) (uO r ta tb):=by intro pins s σ H Q I h;exact Subscript_ (Hg U hb I h λ v u s2 x y H2 I2 rx ry q=>J a b pins s2 σ H2 x y v u Q I2 rx ry q (hs _ _))
noncomputable def Mf(K:PySem.W.Frag):R2:= λ x y H Q=>∃p xs i v,x= .ref p/\y= .int i/\gK K H p xs/\jb xs i=some v/\Q v H
noncomputable def K5(K:PySem.W.Frag):R2:= λ x y H Q=>∃p xs i v,x= .ref p/\y= .int i/\fv K H p xs/\jb xs i=some v/\Q v H
noncomputable def K7:R2:= λ x y H Q=>∃z i c,x= .str z/\y= .int i/\z.length<=sizeLine/\jb z.cps.toList i=some c/\Q (.str ⟨#[c]⟩) H
theorem vL:B2 X (Mf X.K):=by
 intro value slice pins s σ H x y v u Q I rx ry h hs;obtain⟨p,xs,i,z,rfl,rfl,hq,he,q⟩:=h;cases rx;obtain⟨t,rfl⟩:=ry;obtain⟨its,r,pl,hz⟩:=I.list hq;obtain⟨j,h1,h2,h3,h4,h5⟩:=qz he;obtain⟨w,ew,J⟩:=r.get h2;have hl:=r.length;have hn:=jR;have fin:EP X pins σ Q w s:=⟨z,H,I,J,q⟩;by_cases h0:0<=i
 .have U:i.toNat=j:=by
   rw[seqIndex_of h0 h5]at h1;exact ZG h1
  exact item_listR pl.isList h0 (by omega) (by rw[U];simpa using ew) fin hs
 .have U:(i+its.toArray.size).toNat=j:=by rw[seqIndex_neg (by omega) h4]at h1;rw[uP,<- hl];exact ZG h1
  exact subscriptTail_builtinR (x:=w) pl.isList.typeIs slot_list_getitem.lookup
   (wpAny_getItem_list_neg (Q:= λ r s'=>r=w/\EP X pins σ Q r s') pl.isList (by omega) (by rw[uP] <;> omega) (by omega) (by rw[U];simpa using ew) ⟨rfl,fin⟩) hs
theorem HI:B2 X (K5 X.K):=by
 intro value slice pins s σ H x y v u Q I U ry h hs;obtain⟨p,xs,i,z,rfl,rfl,hq,he,q⟩:=h;cases U;obtain⟨t,rfl⟩:=ry;obtain⟨its,r,pl,hz⟩:=I.tuple hq;obtain⟨j,h1,h2,h3,h4,h5⟩:=qz he;obtain⟨w,ew,J⟩:=r.get h2;have hl:=r.length;have hn:=jR;have fin:EP X pins σ Q w s:=⟨z,H,I,J,q⟩;exact subscriptTail_builtinR (x:=w) pl.typeIs slot_tuple_getitem.lookup
  (getItem_tuple (j:=j) (Q:= λ r s'=>r=w/\EP X pins σ Q r s') pl (by omega) (by omega) (by simp_all) (by simpa using ew) ⟨rfl,fin⟩) hs
theorem G_:B2 X K7:= by
 intro value slice pins s σ H x y v u Q I rx ry h hs
 obtain ⟨z,i,c,rfl,rfl,hz,he,q⟩:=h
 obtain ⟨t,rfl⟩:=rx
 obtain ⟨t',rfl⟩:=ry
 obtain ⟨j,h1,h2,h3,h4,h5⟩:=qz he
 have hl:z.cps.toList.length=z.length:=by simp [Str.length]
 rw [hl] at h1 h4 h5
 have hn:=jR
 exact tail_any (typeIs_str s z t) slot_str_getitem.lookup (getItem_str (c:=c) (by
  grind) (by rw [h1];simpa using h2) ⟨.str ⟨#[c]⟩,H,I.tok _,⟨_,rfl⟩,q⟩) hs
noncomputable def Nj(K:PySem.W.Frag):R2:= λ x y H Q=>Mf K x y H Q\/K5 K x y H Q\/K7 x y H Q
theorem AG:B2 X (Nj X.K):=vL.or (HI.or G_)
theorem uA(its:List Value)(n j:Nat)(u:Value):Obj.mapSeq (·.setIfInBounds j u) { cls:= .type "list",data:= .seq its.toArray n }={ cls:= .type "list",data:= .seq (its.set j u).toArray n }:=by simp[Obj.mapSeq]
theorem Inv.lst{pins:List (Addr×Obj)}{σ:St}{H:Hp}{s:Shared}{p:Addr}{xs:List V}(I:Inv X pins σ H s)(h:H p=some (.lst xs)):
  ∃(its:List Value) (n:Nat),Vals xs its/\s.heap.get? p=some { cls:= .type "list",data:= .seq its.toArray n }/\xs.length<=sizeLine:=by obtain⟨z,its,n,r,e⟩:=I.hok p _ h;grind
theorem Inv.lstUpd{σ:St}{H:Hp}{s:Shared}{p:Addr}{xs ys:List V}{its its':List Value}{n J:Nat}{f:Obj->Obj}(I:Inv X pins σ H s)(h:H p=some (.lst xs))
  (U:s.heap.get? p=some { cls:= .type "list",data:= .seq its.toArray n })(hf:f { cls:= .type "list",data:= .seq its.toArray n }={ cls:= .type "list",data:= .seq its'.toArray J })(r:Vals ys its')(hz:ys.length<=sizeLine)(t:Nat):
  Inv X pins σ (upd H p (.lst ys)) { s with heap:=s.heap.update p f,toks:=t }:=by
 have e:(s.heap.update p f).get? p=some { cls:= .type "list",data:= .seq its'.toArray J }:=by rw[QQ f U (by rw[hf] <;> rfl),hf]
 refine I.write (x:=p) (e:=p) (by rw[h];trivial) (.inl rfl) (λ b u hb q=>(QS _ _ (Ne.symm hb)).trans q) ⟨_,e⟩ ?_;exact⟨hz,its',J,r,e⟩
noncomputable def Lr:V->V->V->Hp->(Hp->Prop)->Prop:= λ o i v H Q=>∃p xs k j,o= .ref p/\i= .int k/\H p=some (.lst xs)/\ym xs.length k=some j/\Q (upd H p (.lst (xs.set j v)))
theorem set_list:Md X Lr:=by
 intro pins s σ H o i v ov iv u Q I ro ri rv h;obtain⟨p,xs,k,j,rfl,rfl,hp,hj,q⟩:=h;cases ro;obtain⟨t,rfl⟩:=ri;obtain⟨its,n,r,J,hz⟩:=I.lst hp;obtain⟨h1,h2,h3,h4⟩:=u9 hj;have hl:=r.length;have hn:=jR;have I':Inv X pins σ (upd H p (.lst (xs.set j v))) { s with heap:=s.heap.update p (Obj.mapSeq (·.setIfInBounds j u)) }:=
  I.lstUpd hp J (uA its n j u) (r.set rv j) (by rw[List.length_set];exact hz) s.toks;by_cases h0:0<=k
 .have U:k.toNat=j:=by rw[seqIndex_of h0 h4]at h1;exact ZG h1
  exact PySem.W.ki_setAt J h0 (by omega) (by rw[uP,<- hl];exact h4) (by rw[U];exact⟨_,I',q⟩)
 .have U:(k+its.toArray.size).toNat=j:=by rw[seqIndex_neg (by omega) h3]at h1;simp_all
  exact PySem.W.ki_setBack J (by omega) (by rw[uP,<- hl];exact h3) (by omega) (by rw[U];exact⟨_,I',q⟩)
theorem qt(lo hi:Option Int)(n:Nat):(sliceBounds lo hi none n).1=((HT.sIx n 0 lo:Nat):Int)/\(sliceBounds lo hi none n).2.1=((HT.sIx n n hi:Nat):Int)/\(sliceBounds lo hi none n).2.2=1:=by
 refine⟨?_,?_,rfl⟩;. cases lo with
  |none=>simp[sliceBounds,HT.sIx]
  |some i=>simp only[sliceBounds,HT.sIx];grind
 .cases hi with
  |none=>simp[sliceBounds,HT.sIx]
  |some i=>simp only[sliceBounds,HT.sIx];grind
theorem nk(its:List Value)(lo hi:Option Int):slicePick its.toArray lo hi none=((its.drop (HT.sIx its.length 0 lo)).take (HT.sIx its.length its.length hi-HT.sIx its.length 0 lo)).toArray:=by obtain⟨h1,h2,J⟩:=qt lo hi its.toArray.size;unfold slicePick;rw[h1,h2,J];simp only[sliceRange_one,pick_run] <;> rfl
noncomputable def Nk(K:PySem.W.Frag):V->Option Int->Option Int->Hp->VK->Prop:= λ x lo hi H Q=>∃a xs,x= .ref a/\gK K H a xs/\∀p,H p=none->Q (.ref p) (upd H p (.lst (pV xs lo hi)))
theorem Dv:Gj X (Nk X.K):=by intro pins s σ H x v vl vu lo hi sl Q I rx hs pl pu h;obtain⟨a,xs,rfl,hx,q⟩:=h;cases rx;obtain⟨its,r,J,hz⟩:=I.list hx;have hlen:=r.length;refine⟨"list",_,slot_list_getitem.lookup,J.isList.typeIs,?_⟩;refine wpAny_getItem_list_slice J.isList hs pl pu .none (by simp) ?_ (by simp_all);rw[nk,<- hlen];refine⟨.ref s.heap.objs.size,_,I.laid (t':=s.toks) (o:= .lst (pV xs lo hi)) (λ b ob q=>kT _ q) (xS _) ?_,rfl,q _ (I.hok.fresh (xS _))⟩;exact⟨ZJ (j_ xs lo hi) hz,_,0,(r.drop (HT.sIx xs.length 0 lo)).take (HT.sIx xs.length xs.length hi-HT.sIx xs.length 0 lo),wN _ rfl⟩
noncomputable def g6:V->Bool
 | .non=>true
 | .bl _=>true
 | .int _=>true
 | .str _=>true
 |_=>false
noncomputable def x9:V->V->Bool
 | .non,.non=>true
 | .bl a,.bl b=>a==b
 | .bl a,.int b=>(if a then 1 else 0)==b
 | .int a,.bl b=>a==(if b then 1 else 0)
 | .int a,.int b=>a==b
 | .str a,.str b=>a==b
 |_,_=>false
theorem A_ {A:Around} {s:Shared} {y x:V} {u v:Value} (ry:RelV y u) (rx:RelV x v) (fy:g6 y=true) (fx:g6 x=true):SeqAt.EqAt A s u v (x9 y x):= by
 cases y with
 | non=>
  cases ry
  cases x with
  | non=>cases rx;exact SeqAt.EqAt.same _
  | bl b=>cases rx;exact SeqAt.EqAt.none_bool b
  | int b=>obtain ⟨t,rfl⟩:=rx;exact SeqAt.EqAt.none_int b t
  | str b=>obtain ⟨t,rfl⟩:=rx;exact SeqAt.EqAt.none_str b t
  | _=>exact absurd (show false=true from fx) uS
 | bl a=>
  cases ry
  cases x with
  | non=>cases rx;exact SeqAt.EqAt.bool_none a
  | bl b=>cases rx;exact SeqAt.EqAt.bool_bool a b
  | int b=>obtain ⟨t,rfl⟩:=rx;exact SeqAt.EqAt.bool_int a b t
  | str b=>obtain ⟨t,rfl⟩:=rx;exact SeqAt.EqAt.bool_str a b t
  | _=>exact absurd (show false=true from fx) uS
 | int a=>
  obtain ⟨t',rfl⟩:=ry
  cases x with
  | non=>cases rx;exact SeqAt.EqAt.int_none a t'
  | bl b=>cases rx;exact SeqAt.EqAt.int_bool a t' b
  | int b=>obtain ⟨t,rfl⟩:=rx;exact SeqAt.EqAt.int_int a t' b t
  | str b=>obtain ⟨t,rfl⟩:=rx;exact SeqAt.EqAt.int_str a t' b t
  | _=>exact absurd (show false=true from fx) uS
 | str a=>
  obtain ⟨t',rfl⟩:=ry
  cases x with
  | non=>cases rx;exact SeqAt.EqAt.str_none a t'
  | bl b=>cases rx;exact SeqAt.EqAt.str_bool a t' b
  | int b=>obtain ⟨t,rfl⟩:=rx;exact SeqAt.EqAt.str_int a t' b t
  | str b=>obtain ⟨t,rfl⟩:=rx;exact SeqAt.EqAt.str_str a t' b t
  | _=>exact absurd (show false=true from fx) uS
 | _=>exact absurd (show false=true from fy) uS
noncomputable def tB(x:V)(u:Value):Bool:=match u with
 | .none=>x9 .non x
 | .bool b=>x9 (.bl b) x
 | .int i _=>x9 (.int i) x
 | .str z _=>x9 (.str z) x
 |_=>false
theorem zZ{x y:V}{u:Value}(r:RelV y u)(f:g6 y=true):tB x u=x9 y x:=by cases y with
 |non=>cases r;rfl
 |bl b=>cases r;rfl
 |int i=>obtain⟨t,rfl⟩:=r;rfl
 |str z=>obtain⟨t,rfl⟩:=r;rfl
 |_=>exact absurd (show false=true from f) uS
theorem jf:∀{xs:List V}{us:List Value},Vals xs us->xs.all g6=true->us.any (tB x)=xs.any λ y=>x9 y x
 |_,_,.nil,_=>rfl
 |y::xs,u::us,.cons r t,f=>by rw[Z7,Q1]at f;rw[W5,W5,zZ r f.1,jf t f.2]
theorem h_{x:V}{v:Value}(J:RelV x v)(fx:g6 x=true):∀{xs:List V}{us:List Value},Vals xs us->xs.all g6=true->∀u∈us,SeqAt.EqAt A s u v (tB x u)
 |_,_,.nil,_=> λ u I=>by grind
 |y::xs,u::us,.cons r t,f=> λ U I=>by
  rw[Z7,Q1]at f;rcases wR.mp I with rfl|I
  .rw[zZ r f.1];exact A_ r J f.1 fx
  .exact h_ J fx t f.2 U I
noncomputable def JW(x:V)(xs:List V):Bool:=xs.any λ y=>x9 y x
noncomputable def NJ(K:PySem.W.Frag)(neg:Bool):R2:= λ x y H Q=>∃p xs,y= .ref p/\(gK K H p xs\/fv K H p xs)/\g6 x=true/\xs.all g6=true/\Q (.bl (if neg then !JW x xs else JW x xs)) H
theorem nq:gG X (compareOp .In) (NJ X.K false):=by
 intro pins s σ H x y v u Q I U ry h;obtain⟨p,xs,rfl,J,fx,fs,q⟩:=h;cases ry;rcases J with J|J
 .obtain⟨its,r,pl,hz⟩:=I.list J;refine SeqAt.in_listAt (tB x) pl.isList (λ w hw=>h_ U fx r fs w (by simpa using hw)) ⟨.bl _,H,I,rfl,?_⟩;rw[show its.toArray.any (tB x)=its.any (tB x)by simp,jf r fs];exact q
 .obtain⟨its,r,pl,hz⟩:=I.tuple J;refine SeqAt.in_tupleAt (tB x) pl (λ w hw=>h_ U fx r fs w (by simpa using hw)) ⟨.bl _,H,I,rfl,?_⟩;rw[show its.toArray.any (tB x)=its.any (tB x)by simp,jf r fs];exact q
theorem pG:gG X (compareOp .NotIn) (NJ X.K true):=by
 intro pins s σ H x y v u Q I U ry h;obtain⟨p,xs,rfl,J,fx,fs,q⟩:=h;cases ry;rcases J with J|J
 .obtain⟨its,r,pl,hz⟩:=I.list J;refine SeqAt.notIn_listAt (tB x) pl.isList (λ w hw=>h_ U fx r fs w (by simpa using hw)) ⟨.bl _,H,I,rfl,?_⟩;rw[show its.toArray.any (tB x)=its.any (tB x)by simp,jf r fs];exact q
 .obtain⟨its,r,pl,hz⟩:=I.tuple J;refine SeqAt.notIn_tupleAt (tB x) pl (λ w hw=>h_ U fx r fs w (by simpa using hw)) ⟨.bl _,H,I,rfl,?_⟩;rw[show its.toArray.any (tB x)=its.any (tB x)by simp,jf r fs];exact q
theorem jc:dw X (.builtin "len") (λ xs H Q=>∃p ys,xs=[.ref p]/\(gK X.K H p ys\/fv X.K H p ys)/\Q (.int ys.length) H):=by
 intro pins s σ H xs us Q I r h;obtain⟨p,ys,rfl,J,q⟩:=h;obtain⟨u,rfl,rx⟩:=vals1 r;cases rx;have hn:=jR;rcases J with J|J
 .obtain⟨its,U,pl,hz⟩:=I.list J;have hlen:=U.length;exact Calls.call_len_list pl.isList (by simp <;> omega) ⟨.int ys.length,H,I.tok _,⟨s.toks+1,by rw[uP,hlen]⟩,q⟩
 .obtain⟨its,U,pl,hz⟩:=I.tuple J;have hlen:=U.length;exact len_tuple pl (by simp <;> omega) ⟨.int ys.length,H,I.tok _,⟨s.toks+1,by rw[uP,hlen]⟩,q⟩
theorem pv:dw X (.type "list") (λ xs H Q=>∃p ys,xs=[.ref p]/\(gK X.K H p ys\/fv X.K H p ys)/\∀l,H l=none->Q (.ref l) (upd H l (.lst ys))):=by
 intro pins s σ H xs us Q I r h;obtain⟨p,ys,rfl,hq,q⟩:=h;obtain⟨u,rfl,rx⟩:=vals1 r;cases rx;have fin:∀(its:List Value),Vals ys its->ys.length<=sizeLine->∀(h':Heap)(J:Nat),(∀b o',s.heap.get? b=some o'->h'.get? b=some o')->
   h'.get? s.heap.objs.size=some { cls:= .type "list",dict:=none,data:= .seq its.toArray J,slots:=#[] }->EP X pins σ Q (.ref s.heap.objs.size) { s with heap:=h' }:= λ its U hz h' J kp e=>
  ⟨.ref s.heap.objs.size,_,I.laid (t':=s.toks) kp (xS _) (show cN X.prog X.w _ h' _ (.lst ys)from⟨hz,its,J,U,e⟩),rfl,q _ (I.hok.fresh (xS _))⟩;rcases hq with hq|hq
 .obtain⟨its,U,pl,hz⟩:=I.list hq;have hlen:=U.length;obtain⟨o,ho,hc,n,hd⟩:=pl.isList;exact call_list_seq p (.inl rfl) ho hc hd (λ h' J kp e=>fin its U hz h' J kp e) (by simp_all)
 .obtain⟨its,U,pl,hz⟩:=I.tuple hq;have hlen:=U.length;obtain⟨o,ho,hc,n,hd⟩:=pl;exact call_list_seq p (.inr rfl) ho hc hd (λ h' J kp e=>fin its U hz h' J kp e) (by simp <;> omega)
theorem iL:dw X (.type "tuple") (λ xs H Q=>∃p ys,xs=[.ref p]/\((gK X.K H p ys/\∀l,H l=none->Q (.ref l) (upd H l (.tup ys)))\/(fv X.K H p ys/\Q (.ref p) H))):=by
 intro pins s σ H xs us Q I r h;obtain⟨p,ys,rfl,h⟩:=h;obtain⟨u,rfl,rx⟩:=vals1 r;cases rx;rcases h with⟨J,q⟩|⟨J,q⟩
 .obtain⟨its,U,pl,hz⟩:=I.list J;have hlen:=U.length;refine call_tuple_list pl.isList (λ h' kp=>?_) (by simp_all);have I1:Inv X pins σ H { s with heap:=h' }:=I.kept (t':=s.toks) kp;have I2:Inv X pins σ (upd H h'.objs.size (.tup ys)) { s with heap:=h'.push { cls:= .type "tuple",data:= .seq its.toArray } }:=
   I1.laid (t':=s.toks) (λ b o e=>kT _ e) (xS _) (show cN X.prog X.w _ _ _ (.tup ys)from⟨hz,its,U,ue.new _ _⟩);exact⟨.ref h'.objs.size,_,I2,rfl,q _ (I1.hok.fresh (xS _))⟩
 .obtain⟨its,U,pl,hz⟩:=I.tuple J;exact call_tuple_same pl ⟨.ref p,H,I,rfl,q⟩
noncomputable def NX(K:PySem.W.Frag)(T:String)(x:V)(H:Hp):Prop:=match x with
 | .str _=>T="str"
 | .int _=>T="int"
 | .ref p=>(T="list"/\∃xs,gK K H p xs)\/(T="tuple"/\∃o,K.lookup p=some o/\o.cls= .type "tuple"/\o.dict=none)\/
   (T="dict"/\((∃kvs,H p=some (.dK kvs))\/ ∃kvs,H p=some (.dT kvs)))\/(T="set"/\∃S n,H p=some (.set S n))
 |_=>False
theorem HH{σ:St}{H:Hp}{s:Shared}{T:String}{x:V}{v:Value}(I:Inv X pins σ H s)(r:RelV x v)(ty:NX X.K T x H):
  s.TypeIs v T/\∀a,v= .ref a->∃ob,s.heap.get? a=some ob/\ob.dict=none:=by cases x with
 |str z=>obtain⟨t,rfl⟩:=r;cases(show T="str" from ty);exact⟨typeIs_str s z t,λ _ e=>nomatch e⟩
 |int i=>obtain⟨t,rfl⟩:=r;cases(show T="int" from ty);exact⟨typeIs_int s i t,λ _ e=>nomatch e⟩
 |ref p=>
  cases r;rcases ty with⟨rfl,xs,hq⟩|⟨rfl,o,J,hc,hd⟩|⟨rfl,J⟩|⟨rfl,S,n,J⟩
  .obtain⟨its,_,pl,_⟩:=I.list hq;refine⟨pl.isList.typeIs,λ a e=>?_⟩;obtain⟨o,n,e,c,hd,_⟩:=pl;simp_all
  .refine⟨⟨o,I.kIn p o J,hc⟩,λ a e=>?_⟩;cases e;exact⟨o,I.kIn _ o J,hd⟩
  .have z:∃o,s.heap.get? p=some o/\o.ExactDict:=by
    rcases J with⟨kvs,J⟩|⟨kvs,J⟩
    .obtain⟨_,_,_,_,o,_,_,e,ex,_⟩:=I.hok p _ J;exact⟨o,e,ex⟩
    .obtain⟨_,_,_,_,o,_,_,e,ex,_⟩:=I.hok p _ J;exact⟨o,e,ex⟩
   obtain⟨o,e,ex⟩:=z;refine⟨⟨o,e,ex.1⟩,λ a U=>?_⟩;cases U;exact⟨o,e,ex.2.1⟩
  .obtain⟨o,_,_,_,e,ex,_⟩:=I.hok p _ J;refine⟨⟨o,e,ex.1⟩,λ a U=>?_⟩;cases U;exact⟨o,e,ex.2.1⟩
 |_=>exact False.elim ty
noncomputable def Mr(K:PySem.W.Frag)(T:String)(r:V->List V->Hp->VK->Prop)(to:TE)(t:TA):TE:= λ σ H Q=>to σ H λ x H1=>NX K T x H1/\t σ H1 λ xs H2=>r x xs H2 Q
variable {o e:Expr} {es:List Expr} {to:TE} {t:TA} {name:Str} {apos cpos:Pos} {T id:String} {r:V->List V->Hp->VK->Prop}
theorem vA(pa:PlainAttrs T)(slot:Slot T name id)(ae:typeOf (.builtin id)=pure (.type "method_descriptor"))(hm:Oh X id r)(ho:PE X o to)(ha:PA X (e::es) t)
  (J:attributeBase o name X.env (eval o X.env)=eval o X.env:=by rfl)
  (aa:((backTo cpos (starEach (e::es) X.env)).all (λ x=> !x.1)&&(backToKw cpos (keywordEach [] X.env)).all (λ x=>x.1.isSome)
   &&decide ((e::es).length+([]:List Keyword).length+(if([]:List Keyword).isEmpty then 0 else 1)<30))=true:=by rfl)
  (U:(apos.endLine==cpos.line)=true:=by rfl)(hs:starEach (e::es) X.env=(false,eval e X.env)::starEach es X.env:=by rfl)(ab:(backTo cpos (starEach es X.env)).any (·.1)=false:=by rfl):
  PE X (.Call (.Attribute o name apos) (e::es) [] cpos) (Mr X.K T r to t):=by intro pins s σ H Q I h;refine wpAny_Call_method_late J aa U rfl (cC (ho pins s σ H _ I h) λ v s1 ⟨x,H1,I1,r1,ty,q1⟩=>?_);obtain⟨h1,h2⟩:=HH I1 r1 ty;refine⟨T,id,pa,slot,ae,h1,h2,?_⟩;have hA:=ha cpos pins s1 σ H1 _ I1 q1;rw[hs]at hA|-;refine Calls.callWith_builtin (by grind) (Calls.evalArgs_plain ?_);exact cC hA λ us s2 ⟨vs,H2,I2,r2,q2⟩=>hm pins s2 σ H2 x vs v us Q I2 r1 r2 q2
end
noncomputable def JV(X:Cx)(id:String)(r:V->List V->Hp->VK->Prop):Prop:=
 ∀(pins:List (Addr×Obj))(s:Shared)(σ:St)(H:Hp)(x:V)(xs:List V)(v:Value)(us:List Value)(Q:VK),Inv X pins σ H s->RelV x v->Vals xs us->r x xs H Q->
  wpAny (model X.prog X.w) X.A (call (.builtin id) (v::us)) (EP X pins σ Q) X.xe s
theorem Vals.one:∀{x:V}{us:List Value},Vals [x] us->∃u,us=[u]/\RelV x u
 |_,_,.cons r .nil=>⟨_,rfl,r⟩
theorem Vals.two{x y:V}{us:List Value}(h:Vals [x,y] us):∃u v,us=[u,v]/\RelV x u/\RelV y v:=by cases h with|cons r t=>cases t with|cons q t=>cases t;exact⟨_,_,rfl,r,q⟩
theorem Vals.eraseIdx:∀{xs:List V}{us:List Value}(i:Nat),Vals xs us->Vals (xs.eraseIdx i) (us.eraseIdx i)
 |_,_,_,.nil=> .nil
 |_,_,0,.cons _ t=>t
 |_,_,i+1,.cons r t=> .cons r (Vals.eraseIdx i t)
section
variable {X:Cx} {pins:List (Addr × Obj)} {σ:St} {H:Hp} {s:Shared} {l:Addr} {xs ys:List V}
theorem Inv.lset{its its':List Value}{n:Nat}{f:Array Value->Array Value}{t':Nat}(I:Inv X pins σ H s)(J:H l=some (.lst xs))
  (e:s.heap.get? l=some { cls:= .type "list",data:= .seq its.toArray n })(hf:f its.toArray=its'.toArray)(U:Vals ys its')(hz:ys.length<=sizeLine):
  Inv X pins σ (upd H l (.lst ys)) { s with heap:=s.heap.update l (Obj.mapSeq f),toks:=t' }:=by have q:=PySem.IsL.update e f;rw[hf]at q;refine I.write (x:=l) (e:=l) (by rw[J];exact trivial) (.inl rfl) (λ b' u hb hu=>(QS s.heap (Obj.mapSeq f) (Ne.symm hb)).trans hu) ⟨_,q⟩ ?_;exact⟨hz,its',_,U,q⟩
theorem Inv.lnew(I:Inv X pins σ H s)(J:Vals ys its)(hz:ys.length<=sizeLine):
  Inv X pins σ (upd H s.heap.objs.size (.lst ys)) { s with heap:=s.heap.push { cls:= .type "list",data:= .seq its.toArray },toks:=t' }:=
 I.laid (λ _ _ q=>kT _ q) (xS _) ⟨hz,its,0,J,wN _ rfl⟩
theorem Inv.fresh(I:Inv X pins σ H s):H s.heap.objs.size=none:=I.hok.fresh (xS _)
theorem Inv.lstM(I:Inv X pins σ H s)(J:H l=some (.lst xs)):xs.length<=sizeLine/\∃(its:List Value) (n:Nat),Vals xs its/\xs.length=its.length/\s.heap.get? l=some { cls:= .type "list",data:= .seq its.toArray n }:=by obtain⟨z,its,n,r,e⟩:=I.hok l _ J;exact⟨z,its,n,r,r.length,e⟩
end
section
variable {X:Cx}
noncomputable def Er:V->List V->Hp->VK->Prop:= λ x vs H Q=>∃l xs y,x= .ref l/\vs=[y]/\H l=some (.lst xs)/\xs.length<sizeLine/\Q .non (upd H l (.lst (xs++[y])))
theorem jG:JV X "list.append" Er:=by intro pins s σ H x vs v us Q I U rv h;obtain⟨l,xs,y,rfl,rfl,J,hz,q⟩:=h;cases U;obtain⟨u,rfl,ru⟩:=rv.one;obtain⟨z,its,n,r,hl,e⟩:=I.lstM J;refine call_meets F.slot_list_append ⟨_,e,rfl⟩ F.entry_list_append (F.args_list_append_2 _ _) (PySem.list_append l its.toArray n u (by rw[uP];omega)) ⟨e,?_⟩;refine⟨.non,_,I.lset (its':=its++[u]) J e (by simp) (r.append (.cons ru .nil)) ?_,rfl,q⟩;grind
noncomputable def Ik:V->List V->Hp->VK->Prop:= λ x vs H Q=>∃l xs i k y,x= .ref l/\vs=[.int i]/\H l=some (.lst xs)/\ -(2^63)<=i/\i<2^63/\seqIndex? i xs.length=some k/\xs[k]?=some y/\Q y (upd H l (.lst (xs.eraseIdx k)))
theorem BL:JV X "list.pop" Ik:=by
 intro pins s σ H x vs v us Q I rx rv h;obtain⟨l,xs,i,k,y,rfl,rfl,U,h1,h2,hk,hy,q⟩:=h;cases rx;obtain⟨u,rfl,ru⟩:=rv.one;obtain⟨t,rfl⟩:=ru;obtain⟨z,its,n,r,hl,e⟩:=I.lstM U;obtain⟨w,hw,J⟩:=r.get hy;refine call_meets F.slot_list_pop ⟨_,e,rfl⟩ F.entry_list_pop (F.args_list_pop_2 _ _)
  (MeetsSeq.list_pop_at l its.toArray n i t k w (fitsIndex_both h1 h2) (by rw[uP,<- hl];exact hk) (by rw[<- QA];exact hw) (by rw[uP];omega)) ⟨e,?_⟩;refine⟨y,_,I.lset (its':=its.eraseIdx k) U e ?_ (r.eraseIdx k) ?_,J,q⟩;. rw[List.eraseIdxIfInBounds_toArray]
 grind
end
section
set_option maxRecDepth 100000 in
end
end L2
namespace Att
open PySem PySem.W PySem.Calls PyProof.Rows
theorem kj:∀(ns:List Int)(vs:List Value),WellAll P h vs (ns.map WData.int)->IntsAre vs ns:=by intro ns;induction ns with
 |nil=>intro vs w;cases w;exact .nil
 |cons n ns I=>intro vs w;cases w with
  |cons a b=>cases a;exact .cons _ _ (I _ b)
theorem script_of{l:OpenLaw}{n:Nat}(hn:l.most=some n){P:Params}{h:Heap}{args:List WData}{vals:List Value}
  (I:l.row.toRowW.claim.pre args=true)(aa:WellAll P h vals args):
  ∃a vs ns,vals=[Value.ref a]/\args=[WData.list (ns.map WData.int)]/\h.get? a=some { cls:= .type "list",data:= .seq vs.toArray }/\IntsAre vs ns/\ns.length<=n:=by
 have ab:WShape.hasAll [] args [.list .int]=true:=(pre_splitW I).1;have hc:l.pre.holds [] { args:=args }=true:=(pre_splitW I).2;obtain⟨d,r,rfl,h1,h2⟩:=hasAllW_cons ab;obtain rfl:=hasAllW_nil h2;obtain⟨xs,rfl,h3⟩:=hasW_list h1;obtain⟨ns,rfl⟩:=items_int h3;have hlen:ns.length<=n:=by
  have U:(WTm.not (.lt (.lit (.int n)) (.len (.arg 0)))).holds [] { args:=[.list (ns.map .int)] }=true:=by have U:=(holds_andW hc).1;rw[hn]at U;exact U
  have h5:=condW_of U (w_not (w_lt w_lit (w_len_list (w_arg rfl))));simp_all
 cases aa with
 |cons w1 w2=>cases w2;cases w1 with
  |list ho J=>exact⟨_,_,ns,rfl,rfl,ho,kj ns _ J,hlen⟩
theorem post_true(l:OpenLaw)(args:List WData):l.row.toRowW.claim.post args (.bool true) args=true:=
 postW_of (r:=l.row.toRowW) (X:=(true==true))
  (show WShape.has [] (.bool true) .bool=true by rfl)
  (show(WTm.eq .res (.lit (.bool true))).value [] { args:=args,res:=some (.bool true),after:=args }=some (.bool (true==true))from w_eq_bool (w_res rfl) w_lit) rfl
end Att
namespace L2
open PySem PySem.Spec PyProof.Rows
theorem iu:∀{vs:List Value}{ns:List Int},IntsAre vs ns->Vals (ns.map V.int) vs
 |_,_,.nil=> .nil
 |_,_,.cons n t h=> .cons ⟨t,rfl⟩ (iu h)
noncomputable def Kz(H:Hp):Prop:=∀b,H b=none\/ ∃o xs,H b=some (.frz o (.lst xs))
theorem BK{K:PySem.W.Frag}{mg mb:Str->Option Value}{CX:xY}{k:Nat}{fa a:Addr}{fd:FuncData}{x:Str}{sp:Sp}{I:Shared}{vs:List Value}{ns:List Int}
  (KX:K.In I.heap)(af:I.heap.Ns mainGlobals mg)(U:I.heap.Ns builtinsNs mb)(ao:∀x:Str,x≠"__name__"->mb x=bootBuiltins x)(ag:I.heap.NoLimit)(hg:I.gens=#[])
  (ha:I.heap.get? a=some { cls:= .type "list",data:= .seq vs.toArray })(hi:IntsAre vs ns)(hl:ns.length<=sizeLine)(hr:cu k callerA)
  (F:∀base:Heap,K.In base->base.Ns mainGlobals mg->d8 P w K mg base CX k fa fd [x] sp)(ab:∀(s:Shared)(u:Value),BindsTo s fd ⟨[u],[]⟩ [(x,u)])
  (ae:PySem.W.tabIn K tH=none)
  (aq:∀H:Hp,Kz H->gK K H a (ns.map V.int)->sp [.ref a] H (λ v _=>v= .bl true) λ _ _ _=>False)
  (ar:∀H e s',CX [] H I (λ _ _ _=>False) e s'->False):
  codeAny (model P w) callerA (.call (.ref fa) ⟨[.ref a],[]⟩) (λ r s'=>r= .ok (.ret (.bool true))/\OldK I.heap s'.heap/\s'.os=I.os/\AllBare s'.gens) I:=by
 have rv:=iu hi;have ah:=hi.length
 have core:∀H:Hp,Kz H->gK K H a (ns.map V.int)->iB P w H I.heap->(∀b,H b≠none->b=a)->(H a≠none->K.lookup a=none)->
   codeAny (model P w) callerA (.call (.ref fa) ⟨[.ref a],[]⟩) (λ r s'=>r= .ok (.ret (.bool true))/\OldK I.heap s'.heap/\s'.os=I.os/\AllBare s'.gens) I:=by
  intro H hO hS ai hA hK;have J:∀{b:Addr}{o:Obj},I.heap.get? b=some o->H b=none->(o7 I.heap H).get? b=some o:= λ e n=>BW e n;have au:∀{b:Addr}{o:Obj}{es:Array DictEntry}{ep:Nat},I.heap.get? b=some o->o.data= .dict es ep->H b=none:= λ{b o es ep} e d=>by grind
  have aa:∀{b:Addr}{m:Str->Option Value},I.heap.Ns b m->(o7 I.heap H).Ns b m:= λ{b m}⟨o,es,ep,e,d,r⟩=>⟨o,es,ep,J e (au e d),d,r⟩;have aj:K.In (o7 I.heap H):= λ b o e=>J (KX b o e) (by cases q:H b with
   |none=>rfl
   |some u=>
    have e':b=a:=hA b (by rw[q];simp);subst e';rw[hK (by rw[q];simp)]at e;cases e);have hM:Mod K mg (o7 I.heap H):=⟨aj,aa af,⟨mb,aa U,ao⟩,let⟨mc,h1,h2⟩:=ag;⟨mc,aa h1,h2⟩⟩;have e0:xJ P w K mg (o7 I.heap H) callerA [] I H:=⟨rfl,hM,λ b o e=>D8 e,WN (xA _ _),trivial,λ b U=>absurd (show b∈([]:List Addr)from U) (by simp),ai,.of_eq hg,λ c P e=>by rw[ae]at e;cases e⟩;refine ZQ ((F _ aj (aa af)).run callerA [] I H ⟨[.ref a],[]⟩ [.ref a] [.ref a] _ _ hr e0 (ab I (.ref a)) (.cons rfl .nil) (aq H hO hS)) λ r s' h=>?_;cases r with
  |error e=>exact(ar H e s' h).elim
  |ok fl=>cases fl with
   |next=>exact False.elim h
   |brk=>exact False.elim h
   |cont=>exact False.elim h
   |ret u=>
    obtain⟨v,H',os,bare,un,ak,r',q⟩:=h;have q':v= .bl true:=q;subst q';obtain rfl:u=Value.bool true:=r';refine⟨rfl,OldK.of_keep λ b o e=>?_,os,bare⟩;cases q:H b with
    |none=>exact un.keep b o e q (by intro z;exact absurd (show b∈([]:List Addr)from z) (by simp)) (by simp)
    |some u=>
     rcases hO b with z|⟨ob,xs,z⟩
     .rw[q]at z;cases z
     .have z2:=un.frzs b ob _ z;obtain⟨e1,_⟩:=ai b _ z;obtain⟨e2,_⟩:=ak b _ z2;rw[e]at e1;cases e1;exact e2
 cases hk:K.lookup a with
 |some o=>
  have e:=KX a o hk;rw[ha]at e;cases e;exact core (λ _=>none) (λ _=> .inl rfl) (.inr ⟨_,vs.toArray,_,hk,rfl,rfl,rfl,by rw[uP,ah];exact hl,by simpa using rv⟩) (λ b u z=>by have z':none=some u:=z;cases z') (λ b z=>absurd rfl z) λ z=>absurd rfl z
 |none=>
  refine core (λ b=>if b=a then some (.frz { cls:= .type "list",data:= .seq vs.toArray } (.lst (ns.map V.int)))else none) (λ b=>?_) (.inl (.inr ⟨{ cls:= .type "list",data:= .seq vs.toArray },fD rfl⟩)) (λ b u z=> ?_) (λ b z=>?_) λ _=>hk
  .by_cases U:b=a;. exact .inr ⟨_,_,fD U⟩
   .exact .inl (QB U)
  .by_cases U:b=a;. have z':=(fD U).symm.trans z;cases z';subst U;exact ⟨ha,by rw [wF];exact hl,vs,_,rv,ha⟩
   .have z':=(QB U).symm.trans z;cases z'
  grind
noncomputable def eD(s:Stmt):Arguments:=match s with
 | .FunctionDef _ a _ _ _ _ _ _ _ _=>a
 |_=>{ posonlyargs:=[],args:=[],vararg:=none,kwonlyargs:=[],kw_defaults:=[],kwarg:=none,defaults:=[] }
noncomputable def bR(s:Stmt):List Stmt:=match s with
 | .FunctionDef _ _ b _ _ _ _ _ _ _=>b
 |_=>[]
noncomputable def bj(s:Stmt):Scope:=match s with
 | .FunctionDef _ _ _ _ _ _ sc _ _ _=>sc
 |_=>{ kind:= .function,names:=[],isGenerator:=false,isCoroutine:=false }
noncomputable abbrev fS:xY:= λ _ _ _ _ _ _=>False
noncomputable abbrev E0:XK:= λ _ _ _=>False
theorem zI:Passes fS X E0:= λ _ _ _ _ _ _ _ h=>h.elim
structure yn (K:PySem.W.Frag) (x qual:Str) (st:Stmt) (f:Addr) (fd:FuncData):Prop where
 ex:∃(oc:Value) (od:Option Addr) (kV doc pm:Value) (an:Option Addr) (cdv ct:Value) (osl:Array (Option Value)),
  fd=PySem.W.fnOf x qual (eD st) (bR st) (bj st) .none kV doc pm an cdv ct∧K.lookup f=some ⟨oc,od,.func fd,osl⟩∧PySem.W.codeIn K cdv qual=true
 kp:PySem.W.keepIn K (.ref f)=true
section
variable {P:Program} {w:World} {K:PySem.W.Frag} {mg:Str->Option Value} {base:Heap}
theorem yn.ok{st:Stmt}{f:Addr}{fd:FuncData}{N ps:List Str}{k:Nat}{sp:Sp}(F:yn K x qual st f fd)(S:cx N ps (bj st))(len:∀vs H Q E,sp vs H Q E->vs.length=ps.length)
  (I:∀(cdv:Value)(A:Around)(outer:List Env)(s:Shared)(H:Hp)(vs:List V)(Q:VK)(E:XK),cu k (A.deeper (envOfC qual (bj st) s.heap.objs.size f cdv))->sp vs H Q E->
   ∃t,mV (fB fS P w K mg base N qual (bj st) f cdv A outer s H E).nox (bR st) t/\t { nx:= λ _ H'=>Q .non H',rt:=Q } (start N vs) H):d8 P w K mg base fS (k+1) f fd ps sp:=by obtain⟨oc,od,kV,doc,pm,an,cdv,ct,aa,rfl,lk,J⟩:=F.ex;refine Gx lk J S len λ A outer s H vs Q E hr U=>?_;obtain⟨t,h,q⟩:=I cdv A outer s H vs Q E hr U;exact⟨t,h.nox,q⟩
theorem yn.binds{st:Stmt}{f:Addr}{fd:FuncData}{ps:List Str}(F:yn K x qual st f fd)
  (h:∀(kV doc pm:Value)(an:Option Addr)(cdv I:Value)(us:List Value),us.length=ps.length->bindArgs (PySem.W.fnOf x qual (eD st) (bR st) (bj st) .none kV doc pm an cdv I) ⟨us,[]⟩=pure (ps.zip us)):Binds K fd ps []:=by obtain⟨oc,od,kV,doc,pm,an,cdv,I,J,rfl,lk,U⟩:=F.ex;exact .all (h kV doc pm an cdv I)
theorem sY{st:Stmt}{f:Addr}{U:Value}{od an:Option Addr}{I:Array (Option Value)}{kV doc pm cdv J:Value}(l:K.lookup f=some ⟨U,od,.func (PySem.W.fnOf x qual (eD st) (bR st) (bj st) .none kV doc pm an cdv J),I⟩)
  (c:PySem.W.codeIn K cdv qual=true)(k:PySem.W.keepIn K (.ref f)=true):yn K x qual st f (PySem.W.fnOf x qual (eD st) (bR st) (bj st) .none kV doc pm an cdv J):=⟨⟨U,od,kV,doc,pm,an,cdv,J,I,rfl,l,c⟩,k⟩
end
theorem Nq{A B:Prop}(h:B):if false=true then A else B:=by grind
theorem Kx{A B:Prop}(h:A):if true=true then A else B:=by grind
noncomputable def jv(H H':Hp):Prop:=∀b o,H b=some o->H' b=some o
end L2
namespace L2
open PySem
theorem qq{elt target iter:Expr}{ifs:List Expr}{scope:Scope}{pos:Pos}{it acc:Value}{env:Env}(I:Nat->Shared->Prop)
  (turn:∀n s,I n s->wpAny (model prog w) A (pyNext it) (λ r s1=>match r with
   |none=>R (.ok .next) s1
   |some v=>wpAny (model prog w) A (letOwnedTupleGo target it v) (λ _ s2=>wpAny (model prog w) A (assign target env v) (λ _ s3=>
     wpAny (model prog w) A (forIn ifs true λ c r=>if r=true then do let ok<- isTrue c env (eval c env);pure (ForInStep.yield ok)else pure (ForInStep.yield r)) (λ ok s4=>
      if ok=true then wpAny (model prog w) A (eval elt env) (λ x s5=>
       wpAny (model prog w) A (call (.builtin "list.append") [acc,x]) (λ _ s6=>∃m,m<n/\I m s6) (λ _ _=>False) s5) (λ _ _=>False) s4
      else∃m,m<n/\I m s4) (λ _ _=>False) s3) (λ _ _=>False) s2) (λ _ _=>False) s1) (λ _ _=>False) s)
  (n:Nat)(h:I n s):
  codeAny (model prog w) A (.compLoop (.ListComp elt [⟨target,iter,ifs,0⟩] scope pos) 0 it acc env) R s:=by refine codeAny_loop rfl I (λ n s hI=>?_) n h;show wpAny _ A ((compTurn (.ListComp elt [⟨target,iter,ifs,0⟩] scope pos) 0 it acc env).onRaise (λ x=>do noteFrame x env;theTreesLotGoes x)) _ _ s;refine wpAny_noted ?_;rw[compTurn_list];refine zN (Z5 (zN (gA (turn n s hI) (λ r ae o=>?_) λ _ _ h'=>h'.elim)));cases r with
 |none=>exact zS o
 |some v=>refine zN (gA o (λ _ af J=>?_) λ _ _ h'=>h'.elim);refine zN (gA J (λ _ ag U=>zN (gA U (λ ok ah C=>?_) λ _ _ h'=>h'.elim)) λ _ _ h'=>h'.elim);cases ok with
  |false=>exact zS ⟨rfl,C⟩
  |true=>exact zN (zN (gA C (λ x ai aa=>zN (gA aa (λ _ aj ab=>zS (zS ⟨rfl,ab⟩)) λ _ _ h'=>h'.elim)) λ _ _ h'=>h'.elim))
noncomputable def jY(cells:List (Str×Addr)):List (Str×NameKind)->List (Str×Addr)->List (Str×Addr)
 |[],acc=>acc
 |(n,k)::r,acc=>if k== .free then(match cells.lookup n with|some c=>jY cells r ((n,c)::acc)|none=>jY cells r acc)else jY cells r acc
theorem mZ(h:∀n,(n,NameKind.free)∈scope.names->∃c,env.cells.lookup n=some c):closureFor scope env=pure (jY env.cells scope.names []):=by
 have gen:∀(names:List (Str×NameKind))(acc:List (Str×Addr)),(∀n,(n,NameKind.free)∈names->∃c,env.cells.lookup n=some c)->
   (forIn names acc (λ x r=>match x with
    |(name,kind)=>if(kind== .free)=true then do let a<- cellOf env name;pure (ForInStep.yield ((name,a)::r))else pure (ForInStep.yield r)):Sem (List (Str×Addr)))=pure (jY env.cells names acc):=by intro names;induction names with
  |nil=>intro acc _;rfl
  |cons x r C=>
   intro acc hx;obtain⟨n,k⟩:=x;rw[List.forIn_cons];unfold jY;by_cases I:(k==NameKind.free)=true
   .have e:k= .free:=by simpa using I
    subst e;obtain⟨c,o⟩:=hx n uL;dsimp only;rw[o];have:cellOf env n=pure c:=by unfold cellOf;rw[o]
    rw[this];exact C _ λ m hm=>hx m (uN _ hm)
   grind
 unfold closureFor;grind
theorem jn:∀{names:List (Str×NameKind)}{acc:List (Str×Addr)}{x:Str}{c:Addr},(x,c)∈jY cells names acc->(x,c)∈acc\/(cells.lookup x=some c/\(x,NameKind.free)∈names)
 |[],_,_,_,h=> .inl h
 |(n,k)::r,acc,x,c,h=>by
  unfold jY at h;split at h
  .rename_i I;have e:k=NameKind.free:=by simpa using I
   subst e;split at h
   .rename_i d hd;rcases jn h with h|⟨o,C⟩
    .rcases wR.mp h with e|h
     .cases e;exact .inr ⟨hd,uL⟩
     .exact .inl h
    simp_all
   .rcases jn h with h|⟨o,C⟩
    .exact .inl h
    .exact .inr ⟨o,uN _ C⟩
  .rcases jn h with h|⟨o,C⟩
   .exact .inl h
   .exact .inr ⟨o,uN _ C⟩
theorem iz:∀{names:List (Str×NameKind)}{acc:List (Str×Addr)}{x:Str},((x,NameKind.free)∈names/\(cells.lookup x).isSome=true)\/(acc.lookup x).isSome=true->((jY cells names acc).lookup x).isSome=true
 |[],_,_,h=>h.elim (λ z=>nomatch z.1) id
 |(n,k)::r,acc,x,h=>by
  unfold jY;by_cases o:(k==NameKind.free)=true;. rw[fD o];cases hd:cells.lookup n with
   |none=>refine iz ?_;grind
   |some d=>refine iz ?_;grind
  .rw[QB o];refine iz ?_;rcases h with⟨C,I⟩|h
   .rcases wR.mp C with e|C
    .cases e;simp at o
    .exact .inl ⟨C,I⟩
   .exact .inr h
theorem dJ:∀(names:List (Str×NameKind))(n:Nat)(acc:List (Str×Addr)),cellsFrom n names acc=cellsFrom n names []++acc
 |[],_,_=>rfl
 |(x,k)::r,n,acc=>by
  unfold cellsFrom;split;. rw[dJ r (n+1) ((x,n)::acc),dJ r (n+1) [(x,n)],WI];rfl
  .exact dJ r n acc
theorem fA:∀(names:List (Str×NameKind))(n:Nat)(x:Str)(c:Addr),(x,c)∈cellsFrom n names []->(x,NameKind.cell)∈names
 |[],_,_,_,h=>nomatch h
 |(y,k)::r,n,x,c,h=>by
  unfold cellsFrom at h;split at h
  .rw[dJ]at h;rcases QD.mp h with h|h
   .exact uN _ (fA r (n+1) x c h)
   simp_all
  .exact uN _ (fA r n x c h)
theorem rA{s:Shared}{scope:Scope}{globals:Addr}{cl:List (Str×Addr)}{qual:Str}{outer:Env}{Q:Env->Shared->Prop}
  (o:Q (newEnv scope s.heap.objs.size globals (cellsFrom (s.heap.objs.size+1) scope.names cl) qual none .none (some outer) builtinsNs) { s with heap:=pushCells (s.heap.push { cls:= .type "dict",data:= .dict #[] }) scope.names }):
  wpAny M A (newFunctionEnv scope globals cl [] qual none .none (some outer)) Q E s:=by simp only[newFunctionEnv,Option.isSome_some,if_true];refine zN (wpAny_alloc ?_);refine zN (wpAny_layCells _ (λ name kind cells=>by rfl) _ _ _ _ ?_);rw[show({ s with heap:=s.heap.push { cls:= .type "dict",data:= .dict #[] } }:Shared).heap.objs.size=s.heap.objs.size+1 from gO ..];exact zN (zS (zS o))
end L2
namespace L2
open PySem PySem.Spec PyProof.Rows
noncomputable def dv(N own:List Str)(o scope:Scope):Bool:=
 scope.names.all (λ x=> !(x.2== .local)||(scope.names.lookup x.1==some .local))&&
 (scope.names.all (λ x=> !(x.2== .free)||(o.names.lookup x.1==some .cell||o.names.lookup x.1==some .free))&&
 (scope.names.all (λ x=> !(x.2== .local||x.2== .cell)|| !(N.contains x.1))&&
 (own.all (λ x=>scope.names.all λ y=> !(y.1==x)|| !(y.2== .free))&&
 scope.names.all (λ x=> !(x.2== .free)||scope.names.all λ y=> !(y.1==x.1)||(y.2== .free)))))
structure tw (N own:List Str) (sc0 scope:Scope):Prop where
 loc:∀x ∈ scope.names,x.2=.local->scope.names.lookup x.1=some .local
 free:∀n,(n,NameKind.free) ∈ scope.names->sc0.names.lookup n=some .cell ∨ sc0.names.lookup n=some .free
 out:∀n k,(n,k) ∈ scope.names->(k=.local ∨ k=.cell)->n ∉ N
 own:∀x ∈ own,(x,NameKind.free) ∉ scope.names
 one:∀n k,(n,NameKind.free) ∈ scope.names->(n,k) ∈ scope.names->k=.free
theorem w_(h:dv N own C scope=true):tw N own C scope:=by
 unfold dv at h;simp only[Q1,fR,Bool.or_eq_true,Bool.not_eq_true',XI,Bool.or_eq_false_iff]at h;obtain⟨U,h2,h3,h4,h5⟩:=h;refine⟨λ x hx e=>?_,λ n o=>?_,λ n k o e hN=>?_,λ x hx o=>?_,λ n k o hk=>?_⟩
 .rcases U x hx with z|z
  .rw[e]at z;simp at z
  .exact z
 .rcases h2 _ o with z|z
  .simp at z
  .exact z
 .rcases h3 _ o with⟨I,J⟩|z
  .rcases e with e|e
   .rw[e]at I;simp at I
   .rw[e]at J;simp at J
  .have:N.contains n=true:=by simpa using hN
   rw[this]at z;cases z
 .rcases h4 x hx _ o with z|z
  .simp at z
  .simp at z
 grind
noncomputable def du(N N':List Str)(scope:Scope):Bool:=(N'.length==N.length)&&(N'.zip N).all λ p=>p.1==p.2||(scope.names.lookup p.1).isNone
structure Bl (N N':List Str) (scope:Scope):Prop where
 len:N'.length=N.length
 same:∀(i:Nat) x,N'[i]? = some x->N[i]? = some x ∨ scope.names.lookup x=none
theorem xx(h:du N N' scope=true):Bl N N' scope:=by
 unfold du at h;simp only[Q1,XI,fR,Bool.or_eq_true,Option.isNone_iff_eq_none]at h;refine⟨h.1,λ i x e=>?_⟩;have C:i<N'.length:=(xZ.mp e).1;have o:i<N.length:=by rw[<- h.1];exact C
 have I:(N'.zip N)[i]?=some (x,N[i]):=by rw[YY];exact⟨e,kW o⟩
 grind
noncomputable def blk(X:Cx)(N' own:List Str)(scope:Scope)(s:Shared)(H:Hp)(fp:List Addr)(pins:List (Addr×Obj)):Cx where
 prog:=X.prog
 w:=X.w
 K:=X.K
 mg:=X.mg
 base:=X.base
 A:=X.A
 N:=N'++own
 s₀:=s
 H₀:=H
 env:={ newEnv scope s.heap.objs.size X.env.globals (cellsFrom (s.heap.objs.size+1) scope.names (jY X.env.cells scope.names [])) X.env.qual none .none (some X.env) builtinsNs with scope:=relabel scope X.env }
 outer:=X.stack
 stack:=X.stack
 ex:=fp
 fn:= λ x=>own.contains x
 calm:=X.calm
 pn:=X.pn++pins
 xe:= λ _ _=>False
theorem gM{env:Env}:∀{names:List (Str×NameKind)}{x:Str},
  (names.map λ(n,k)=>if(k==NameKind.free&&env.scope.kind== .function&&env.kindOf n==some .cell)then(n,NameKind.cell)else(n,k)).lookup x=
   (names.lookup x).map λ k=>if(k==NameKind.free&&env.scope.kind== .function&&env.kindOf x==some .cell)then NameKind.cell else k
 |[],_=>rfl
 |(n,k)::r,x=>by have o:=@gM env r x;grind
theorem dD(h:(relabel scope env).names.lookup x=some o):∃k,scope.names.lookup x=some k/\(o=k\/(k= .free/\o= .cell)):=by have h':(scope.names.map λ(n,k)=>if(k==NameKind.free&&env.scope.kind== .function&&env.kindOf n==some .cell)then(n,NameKind.cell)else(n,k)).lookup x=some o:=h;rw[gM]at h';cases e:scope.names.lookup x with
 |none=>grind
 |some k=>grind
section
variable {X:Cx} {pins:List (Addr × Obj)} {σ:St} {H:Hp} {s:Shared} {N' own:List Str} {scope:Scope} {fp:List Addr}
theorem oQ(I:Inv X pins σ H s)(S:tw N' own X.env.scope scope):∀x c,(cellsFrom (s.heap.objs.size+1) scope.names (jY X.env.cells scope.names [])).lookup x=some c->
  ((x,c)∈cellsFrom (s.heap.objs.size+1) scope.names []/\(pushCells (s.heap.push { cls:= .type "dict",data:= .dict #[] }) scope.names).IsCell c none/\s.heap.objs.size+1<=c/\(x,NameKind.cell)∈scope.names)\/
   (X.env.cells.lookup x=some c/\(x,NameKind.free)∈scope.names/\c<s.heap.objs.size):=by
 intro x c h;have ok:=cellsFrom_ok scope.names (s.heap.push { cls:= .type "dict",data:= .dict #[] }) (s.heap.objs.size+1) [] ⟨λ _ _ hm=>(nomatch hm),List.Pairwise.nil⟩ (by simp);rw[gO]at ok;have hm:=mem_of_lookup h;rw[dJ]at hm;rcases QD.mp hm with hm|hm
 .exact .inl ⟨hm,(ok.empty x c hm).1,(ok.empty x c hm).2,fA _ _ _ _ hm⟩
 .rcases jn hm with z|⟨o,C⟩
  .exact nomatch z
  .obtain⟨v,q⟩:=I.cell x c o;exact .inr ⟨o,C,q.lt⟩
theorem Inv.blkKeep{s:Shared}{scope:Scope}:∀(b:Addr)(o:Obj),s.heap.get? b=some o->(pushCells (s.heap.push { cls:= .type "dict",data:= .dict #[] }) scope.names).get? b=some o:= λ b o e=>
 pushCells_keeps _ _ b o (kT _ e)
theorem Inv.blk(I:Inv X pins σ H s)(hf:∀b∈fp,iC X pins H b)(ho:∀b∈fp,b<s.heap.objs.size)(hk:scope.kind= .function)(S:tw N' own X.env.scope scope)(Mk:Bl X.N N' scope):
  Inv (blk X N' own scope s H fp pins) [] (σ++List.replicate own.length none) H { s with heap:=pushCells (s.heap.push { cls:= .type "dict",data:= .dict #[] }) scope.names }:=by
 have C:=oQ I S;have keep:=@Inv.blkKeep s scope;have aa:∀x,((relabel scope X.env).names.lookup x=some .cell\/(relabel scope X.env).names.lookup x=some .free)->∃c,(cellsFrom (s.heap.objs.size+1) scope.names (jY X.env.cells scope.names [])).lookup x=some c:=by
  intro x hx;have:∃k,scope.names.lookup x=some k/\(k= .cell\/k= .free):=by
   rcases hx with hx|hx
   .obtain⟨k,e,z⟩:=dD hx;rcases z with z|⟨z,_⟩
    .exact⟨k,e,.inl z.symm⟩
    .exact⟨k,e,.inr z⟩
   .obtain⟨k,e,z⟩:=dD hx;rcases z with z|⟨z,_⟩
    .exact⟨k,e,.inr z.symm⟩
    .exact⟨k,e,.inr z⟩
  obtain⟨k,e,z⟩:=this;refine Z6.mp (YE scope.names _ _ ?_);rcases z with z|z
  .subst z;exact .inl e
  .subst z;have hm:=mem_of_lookup e;obtain⟨c,hc⟩:=I.ok.has x (S.free x hm);exact .inr (iz (.inl ⟨hm,by rw[hc];rfl⟩))
 have sub:∀b,b∈hU X.stack->b∈X.env.locals::X.fs:=I.stkSub;refine⟨⟨I.ok.mod,hk,I.ok.glob,I.ok.blt,xS _,λ x y c h1 h2=>?_,λ x hx=>aa x hx,λ x c hx h=>?_,I.ok.hd,I.ok.frames,.inl rfl,λ b hb=>⟨?_,λ x c h=>?_⟩,λ b o e=>I.bs b o e,?_,λ b o e hb=>?_,λ b hb hs=>?_,I.stack,I.stkFree,I.tb⟩,
  rfl,I.bare,Un.kept keep,⟨_,(Heap.Ns.new s.heap (.type "dict")).keeps (pushCells_keeps _ _),λ i x v h1 h2 J=>?_⟩,λ x c h=>?_,I.hok.fresh (xS _),λ x c h=>?_,λ p hp=>?_,I.hok.kept keep,?_⟩;. -- inj
  have ok:=cellsFrom_ok scope.names (s.heap.push { cls:= .type "dict",data:= .dict #[] }) (s.heap.objs.size+1) [] ⟨λ _ _ hm=>(nomatch hm),List.Pairwise.nil⟩ (by rw[gO];exact xS _);rw[gO]at ok;rcases C x c h1 with⟨a1,_,a3,_⟩|⟨a1,_,a3⟩ <;> rcases C y c h2 with⟨b1,_,b3,_⟩|⟨b1,_,b3⟩
  .exact name_of_addr ok.apart a1 b1
  .exact absurd b3 (YB.mpr (VC a3))
  .exact absurd a3 (YB.mpr (VC b3))
  .exact I.ok.inj x y c a1 b1
 .rcases C x c h with⟨_,_,a3,_⟩|⟨_,a2,_⟩
  .exact VC a3
  .have aj:own.contains x=true:=hx;exact absurd a2 (S.own x (by simpa using aj))
 .exact uT (ho b hb)
 .rcases C x c h with⟨_,_,a3,_⟩|⟨a1,_,_⟩
  .intro z;subst z;exact absurd (ho _ hb) (YB.mpr (VC a3))
  .exact(hf b hb).2.2.2.2.1 x c a1
 .exact ZJ I.ok.bsz I.sz
 .rcases(hf b hb).2.2.2.1 with z|z
  .exact I.ok.noex b o e z
  .exact absurd (wV e) (YB.mpr (ZJ I.ok.bsz z))
 .rcases wR.mp (sub b hs)with z|z
  .exact(hf b hb).2.1 z
  .exact(hf b hb).2.2.1 z
 .
  have hi:i<σ.length:=by
   by_cases hi:i<σ.length;. exact hi
   .rw[VP (by omega),V9]at h2;split at h2 <;> cases h2
  rw[QZ hi]at h2;have ah:N'[i]?=some x:=by have:(N'++own)[i]?=some x:=h1;rwa [QZ (by rw[Mk.len,<- I.len];exact hi)]at this
  have ab:x∈N':=VA ah;have ae:∃k,scope.names.lookup x=some k:=by rcases J with J|J|J <;> (obtain⟨k,e,_⟩:=dD J;exact⟨k,e⟩)
  have hN:X.N[i]?=some x:=by
   rcases Mk.same i x ah with z|z
   .exact z
   .obtain⟨k,e⟩:=ae;rw[z]at e;cases e
  have U:scope.names.lookup x=some .free/\((relabel scope X.env).names.lookup x=some .cell\/(relabel scope X.env).names.lookup x=some .free):=by
   rcases J with J|J|J
   .obtain⟨k,e,z⟩:=dD J;rcases z with z|⟨_,z⟩
    .exact absurd ab (S.out x k (mem_of_lookup e) (.inl z.symm))
    .cases z
   .obtain⟨k,e,z⟩:=dD J;rcases z with z|⟨z,_⟩
    .exact absurd ab (S.out x k (mem_of_lookup e) (.inr z.symm))
    .rw[z]at e;exact⟨e,.inl J⟩
   .obtain⟨k,e,z⟩:=dD J;rcases z with z|⟨z,_⟩
    .rw[<- z]at e;exact⟨e,.inr J⟩
    .rw[z]at e;exact⟨e,.inr J⟩
  have hm:=mem_of_lookup U.1;have af:=S.free x hm;obtain⟨m,hn,hl⟩:=I.loc;obtain⟨u,r,l⟩:=hl i x v hN h2 (.inr af);refine⟨u,r,.inr ⟨U.2,?_⟩⟩;rcases l with⟨k,_⟩|⟨_,c,hc,ag⟩
  .have k':X.env.scope.names.lookup x=some .local:=k;rw[k']at af;rcases af with z|z <;> cases z
  .obtain⟨c2,ai⟩:=aa x U.2;refine⟨c2,ai,?_⟩;rcases C x c2 ai with⟨_,_,_,a4⟩|⟨a1,_,_⟩
   .have:=S.one x _ hm a4;cases this
   .rw[hc]at a1;cases a1;exact ag.keeps keep
 .rcases C x c h with⟨_,a2,_,_⟩|⟨a1,_,_⟩
  .exact⟨_,a2⟩
  .obtain⟨v,q⟩:=I.cell x c a1;exact⟨v,q.keeps keep⟩
 .rcases C x c h with⟨_,_,a3,_⟩|⟨a1,_,_⟩
  .exact I.hok.fresh (by omega)
  .exact I.freeC x c a1
 .have ak:p∈X.pn++pins:=by
   rcases QD.mp hp with z|z
   .exact z
   .exact nomatch z
  obtain⟨e,n,ne,nf,d⟩:=I.pin p ak;refine⟨keep _ _ e,n,uT (wV e),λ z=>?_,d⟩;rcases wR.mp (sub p.1 z)with z|z
  .exact ne z
  grind
 .show(σ++List.replicate own.length none).length=(N'++own).length;rw[QC,QC,YL,I.len,Mk.len]
theorem Inv.unblk(I:Inv X pins σ H s)(hf:∀b∈fp,iC X pins H b){pins':List (Addr×Obj)}{C:St}{H':Hp}{s':Shared}(J:Inv (L2.blk X N' own scope s H fp pins) pins' C H' s'):Inv X pins σ H' s':=
 I.call' (ch:=fp) J.os J.base J.hok J.bare λ b o=>⟨(hf b o).2.2.2.1,(hf b o).2.1,(hf b o).2.2.2.2.1,(hf b o).2.2.2.2.2⟩
end
noncomputable def oi(X:Cx)(ifs:List Expr)(t:TT):Prop:=
 ∀(pins:List (Addr×Obj))(s:Shared)(σ:St)(H:Hp)(Q:Bool->Hp->Prop),Inv X pins σ H s->t σ H Q->
  wpAny (model X.prog X.w) X.A (forIn ifs true λ c r=>if r=true then do let ok<- isTrue c X.env (eval c X.env);pure (ForInStep.yield ok)else pure (ForInStep.yield r)) (TP X pins σ Q) X.xe s
noncomputable def Nu:TT:= λ _ H Q=>Q true H
theorem E6:oi X [] Nu:= λ pins s σ H Q I h=>wpAny_tests_nil ⟨H,I,h⟩
theorem Cq(h:PT X c t):oi X [c] t:= λ pins s σ H Q I q=>wpAny_tests_one (h pins s σ H Q I q)
structure Lk (cal:Cx->Prop) (P:Program) (w:World) (K:PySem.W.Frag) (tg:Expr) (J:It) (fp:List Addr) (it:Addr) (tn:Nat->Heap->Prop):Prop where
 obj:∀i h,tn i h->∀b ∈ fp,∃o,h.get? b=some o∧∀v,o.data ≠ .cell v
 keep:∀i h h',tn i h->(∀b ∈ fp,∀o,h.get? b=some o->h'.get? b=some o)->tn i h'
 item:∀(X:Cx),X.prog=P->X.w=w->X.K=K->cal X->∀(i:Nat) (pins:List (Addr × Obj)) (s:Shared) (σ:St) (H:Hp) (E:Value->Shared->Prop),Inv X pins σ H s->(∀b ∈ fp,iC X pins H b)->tn i s.heap->J.go i H ->
  wpAny (model P w) X.A (pyNext (.ref it)) (fun r s1=>∃u,r=some u ∧
   wpAny (model P w) X.A (letOwnedTupleGo tg (.ref it) u) (fun _ s2=>∃x H',Inv X pins σ H' s2∧RelV x u∧J.yld i H x H' ∧ tn (i + 1) s2.heap∧∀b ∈ fp,H' b=none) E s1) E s
 done:∀(X:Cx),X.prog=P->X.w=w->X.K=K->cal X->∀(i:Nat) (pins:List (Addr × Obj)) (s:Shared) (σ:St) (H:Hp) (E:Value->Shared->Prop),Inv X pins σ H s->(∀b ∈ fp,iC X pins H b)->tn i s.heap->J.stop i H ->
  wpAny (model P w) X.A (pyNext (.ref it)) (fun r s1=>r=none∧Inv X pins σ H s1) E s
 self:∀(A:Around) (i:Nat) (s:Shared) (Q:Value->Shared->Prop) (E:Value->Shared->Prop),tn i s.heap->Q (.ref it) s->wpAny (model P w) A (pyIter (.ref it)) Q E s
noncomputable def Mh(cal:Cx->Prop)(X:Cx)(tg iter:Expr)(I:TI):Prop:=
 ∀(pins:List (Addr×Obj))(s:Shared)(σ:St)(H:Hp)(R:It->Hp->Prop),Inv X pins σ H s->I σ H R->
  wpAny (model X.prog X.w) X.A (eval iter X.env) (λ v s1=>wpAny (model X.prog X.w) X.A (pyIter v) (λ o s2=>∃(it:Addr) (fp:List Addr) (C:Nat->Heap->Prop) (J:It) (H':Hp),o= .ref it/\Inv X pins σ H' s2/\Lk cal X.prog X.w X.K tg J fp it C/\C 0 s2.heap/\(∀b∈fp,iC X pins H' b)/\R J H') X.xe s1) X.xe s
theorem PI.g(h:PI X tg iter o):Mh (λ X=>X.calm=true) X tg iter o:= λ pins s σ H R I q=>
 cC (h pins s σ H R I q) λ _ _ h=>cC h λ _ _ ⟨it,fp,C,J,H',e,U,T,r⟩=>⟨it,fp,C,J,H',e,U,⟨T.obj,T.keep,T.item,T.done,T.self⟩,r⟩
noncomputable def vm(wi:TI)(own:Nat)(g:TG)(tt:TT)(te:TE):TE:= λ σ H Q=>wi σ H λ J H1=>∀l,H1 l=none->∃W:Nat->Nat->List V->Hp->Prop,(∃m,W 0 m [] (upd H1 l (.lst [])))/\∀i m acc H,W i m acc H->
 H l=some (.lst acc)/\((J.stop i H/\Q (.ref l) H)\/(J.go i H/\∀x H',J.yld i H x H'->g x (σ++List.replicate own none) H' λ o H2=>o.take σ.length=σ/\tt o H2 λ b I=>
  if b=true then te o I λ v U=>U l=some (.lst acc)/\acc.length<sizeLine/\∃C,C<m/\W (i+1) C (acc++[v]) (upd U l (.lst (acc++[v])))
  else∃C,C<m/\W (i+1) C acc I))
noncomputable abbrev N6:=Env->Addr->Value->(Shared->Prop)->Shared->Prop
noncomputable abbrev N7(P:Program)(w:World)(A:Around)(tg:Expr)(ifs:List Expr)(elt:Expr)(n:String):N6:= λ env l v K s=>wpAny (model P w) A (assign tg env v) (λ _ s=>wpAny (model P w) A (forIn ifs true λ c r=>if r=true then do let ok<- isTrue c env (eval c env);pure (ForInStep.yield ok)else pure (ForInStep.yield r)) (λ ok s=>
 if ok=true then wpAny (model P w) A (eval elt env) (λ y s=>wpAny (model P w) A (call (.builtin n) [.ref l,y]) (λ _=>K) (λ _ _=>False) s) (λ _ _=>False) s else K s) (λ _ _=>False) s) (λ _ _=>False) s
section
variable {X:Cx} {elt tg iter:Expr} {ifs:List Expr} {scope:Scope} {pos pos':Pos} {N' own:List Str} {wi:TI} {g:TG} {tt:TT} {te:TE}
theorem jF{gs:List Comprehension}(hc:∀s H fp pins,cal (blk X N' own scope s H fp pins))(hi:Mh cal X tg iter wi)(hk:scope.kind= .function)(hS:dv N' own X.env.scope scope=true)(hM:du X.N N' scope=true)(hs:∀x,foldedSetIterable iter X.env x=pure x)
  {nw:Obj}{ob:Addr->HO}(bd:N6)(hl:clausesOf Ce=⟨tg,iter,ifs,0⟩::gs){use:Option (Value->Sem Unit)}{Q0:Value->Shared->Prop}{pins:List (Addr×Obj)}{Q:VK}{M:It->Hp->Prop}(I:Inv X pins σ H s)(h:wi σ H M)
  (nN:∀{s P},P (.ref s.heap.objs.size) { s with heap:=s.heap.push nw }->wpAny (model X.prog X.w) X.A mk P X.xe s)
  (nI:∀{H s},Inv X pins σ H s->Inv X pins σ (upd H s.heap.objs.size (ob s.heap.objs.size)) { s with heap:=s.heap.push nw })
  (lp:∀{env it l R s}(I:Nat->Shared->Prop),(∀n s,I n s->wpAny (model X.prog X.w) X.A (pyNext it) (λ r s1=>match r with
   |none=>R (.ok .next) s1
   |some v=>wpAny (model X.prog X.w) X.A (letOwnedTupleGo tg it v) (λ _=>bd env l v λ s=>∃m,m<n/\I m s) (λ _ _=>False) s1) (λ _ _=>False) s)->∀n,I n s->codeAny (model X.prog X.w) X.A (.compLoop Ce 0 it (.ref l) env) R s)
  (sl:∀{env it l R s},codeAny (model X.prog X.w) X.A (.compLoop Ce 0 it (.ref l) env) R s->(∀E,wpAny (model X.prog X.w) X.A (pyIter it) (λ o=>codeAny (model X.prog X.w) X.A (.compLoop Ce 0 o (.ref l) env) R) E s)->codeAny (model X.prog X.w) X.A (.compStart Ce 0 it (.ref l) env) R s)
  (bo:∀J H1 l,M J H1->H1 l=none->∃W:Nat->Nat->Hp->Prop,(∃m,W 0 m (upd H1 l (ob l)))/\∀i m H,W i m H->(J.stop i H/\Q (.ref l) H)\/(J.go i H/\∀x H',J.yld i H x H'->∀s3 H3 fp ps s u K,Inv (blk X N' own scope s3 H3 fp pins) ps (σ++List.replicate own.length none) H' s->RelV x u->
   (∀{o H s C},Inv (blk X N' own scope s3 H3 fp pins) ps o H s->o.take σ.length=σ->C<m->W (i+1) C H->K s)->bd (blk X N' own scope s3 H3 fp pins).env l u K s))
  (fin:∀(l:Addr)(H':Hp)(s':Shared)(C:Addr)(m:Str->Option Value),Inv X pins σ H' s'->Q (.ref l) H'->s'.heap.Ns C m->H' C=none->C≠X.env.locals->X.s₀.heap.objs.size<=C->(∀x c,X.env.cells.lookup x=some c->c≠C)->(∀p∈X.pn++pins,p.1≠C)->
   compPost (model X.prog X.w) X.A X.xe use Q0 (.ref l) C (.ok .next) s'):
  wpAny (model X.prog X.w) X.A (comprehension Ce scope X.env pos' mk false (eval iter X.env) use) Q0 X.xe s:=by
 have S:=w_ hS;have Mk:=xx hM;refine wpAny_comprehension_free hl hs (mZ λ n hn=>I.ok.has n (S.free n hn)) hk S.loc (cC (hi pins s σ H _ I h) λ xv s1 h1=>cC h1 λ aN s2 h2=>?_);obtain⟨it,fp,tn,J,H2,e,I2,T,ak,f2,q2⟩:=h2;subst e;refine nN ?_;have I3:=nI I2;obtain⟨W,⟨m0,w0⟩,turn⟩:=bo _ _ _ q2 I2.fresh;generalize hl:s2.heap.objs.size=l at*;have ao:∀b∈fp,b<l:= λ b U=>by obtain⟨o,e,_⟩:=T.obj _ _ ak b U;rw[<- hl];exact wV e
 have aq:tn 0 (s2.heap.push nw):=T.keep _ _ _ ak λ b _ o e=>kT _ e;have ar:l<(s2.heap.push nw).objs.size:=by rw[gO,hl];exact V5 _
 have f3:∀b∈fp,iC X pins (upd H2 l (ob l)) b:= λ b U=>⟨by rw[br (uT (ao b U))];exact(f2 b U).1,(f2 b U).2⟩;generalize aB:({ s2 with heap:=s2.heap.push nw }:Shared)=s3 at I3 |-;have aC:s3.heap=s2.heap.push nw:=by rw[<- aB]
 rw[<- aC]at aq ar;have ah:∀b∈fp,b<s3.heap.objs.size:= λ b U=>Nat.lt_trans (ao b U) ar;generalize upd H2 l (ob l)=H3 at*;refine rA ?_;have IY:=I3.blk f3 ah hk S Mk;have aw:tn 0 (pushCells (s3.heap.push { cls:= .type "dict",data:= .dict #[] }) scope.names):=T.keep _ _ _ aq λ b _ o e=>@Inv.blkKeep s3 scope b o e;have ae:=oQ I3 S;have aa:∀{H':Hp},(∀b∈fp,H' b=none)->∀b∈fp,iC (blk X N' own scope s3 H3 fp pins) [] H' b:= λ hn b U=>by
  refine⟨hn b U,uT (ah b U),λ z=>?_,.inl U,λ x c h=>?_,λ p hp=>?_⟩
  .rcases wR.mp (I3.stkSub b z)with z|z
   .exact(f3 b U).2.1 z
   .exact(f3 b U).2.2.1 z
  .rcases ae x c h with⟨_,_,a3,_⟩|⟨a1,_,_⟩
   .intro z;subst z;exact absurd (ah _ U) (YB.mpr (VC a3))
   .exact(f3 b U).2.2.2.2.1 x c a1
  .have aD:p∈X.pn++pins:=by
    rcases QD.mp hp with z|z
    .exact z
    .exact nomatch z
   exact(f3 b U).2.2.2.2.2 p aD
 have loop:codeAny (model X.prog X.w) X.A (.compLoop Ce 0 (.ref it) (.ref l) (blk X N' own scope s3 H3 fp pins).env)
   (compPost (model X.prog X.w) X.A X.xe use Q0 (.ref l) s3.heap.objs.size) { s3 with heap:=pushCells (s3.heap.push { cls:= .type "dict",data:= .dict #[] }) scope.names }:=by
  refine lp (λ n s'=>∃i ab H',Inv (blk X N' own scope s3 H3 fp pins) [] ab H' s'/\ab.take σ.length=σ/\tn i s'.heap/\(∀b∈fp,H' b=none)/\W i n H') ?_ m0
   ⟨0,_,H3,IY,by rw[JP] <;> rfl,aw,λ b U=>(f3 b U).1,w0⟩;rintro n s5 ⟨i,ax,H5,I5,e5,ay,az,w5⟩;rcases turn i n H5 w5 with⟨stop,q⟩|⟨go,step⟩
  .refine gA (T.done (blk X N' own scope s3 H3 fp pins) rfl rfl rfl (hc _ _ _ _) i [] s5 ax H5 (λ _ _=>False) I5 (aa az) ay stop) (λ r s6 hr=>?_) λ _ _ z=>z;obtain⟨rfl,I6⟩:=hr;obtain⟨m,hn,_⟩:=id I6.loc;refine fin l H5 s6 _ m (I3.unblk f3 I6) q hn I6.free (VX I3.lt) I3.sz (λ x c e z=>?_) λ p hp z=>?_;. obtain⟨v,qc⟩:=I3.cell x c e;exact absurd qc.lt (by rw[z];exact QX _)
   .exact absurd (wV (I3.pin p hp).1) (by rw[z];exact QX _)
  .have ai:ax.length=(σ++List.replicate own.length none).length:=by rw[I5.len,QC,YL,I.len];show(N'++own).length=_;rw[QC,Mk.len]
   have aE:Inv (blk X N' own scope s3 H3 fp pins) [] (σ++List.replicate own.length none) H5 s5:=I5.weak ai.symm λ j v e=>by
    have hj:j<σ.length:=by
     by_cases hj:j<σ.length;. exact hj
     .rw[VP (by omega),V9]at e;split at e <;> cases e
    rw[QZ hj]at e;rw[<- e5,Q2 hj]at e;exact e
   refine gA (T.item (blk X N' own scope s3 H3 fp pins) rfl rfl rfl (hc _ _ _ _) i [] s5 _ H5 (λ _ _=>False) aE (aa az) ay go) (λ r s6 hr=>?_) λ _ _ z=>z;obtain⟨u,rfl,h6⟩:=hr;refine cC h6 λ _ s7 ⟨x,H7,I7,r7,y7,aj,aF⟩=>step x H7 y7 _ _ _ _ s7 u _ (I7.pinned (aa aF) (T.obj _ _ aj)) r7 λ {af Ha sa m'} Ia e8 hm wa=>?_
   refine⟨m',hm,i+1,af,Ha,Ia.unpinned,e8,T.keep _ _ _ aj λ b U o e=>(Ia.pin (b,o) (QR _ (QR _ (eB U e)))).1,λ b U=>?_,wa⟩;obtain⟨o,e,d⟩:=T.obj _ _ aj b U;exact(Ia.pin (b,o) (QR _ (QR _ (eB U e)))).2.1
 exact sl loop λ E=>T.self _ 0 _ _ _ aw loop
theorem u4(hc:∀s H fp pins,cal (blk X N' own scope s H fp pins))(hi:Mh cal X tg iter wi)(hk:scope.kind= .function)(hS:dv N' own X.env.scope scope=true)(hM:du X.N N' scope=true)
  (hg:∀s H fp pins,PG (blk X N' own scope s H fp pins) tg g)(ht:∀s H fp pins,oi (blk X N' own scope s H fp pins) ifs tt)(he:∀s H fp pins,PE (blk X N' own scope s H fp pins) elt te)
  (hs:∀x,foldedSetIterable iter X.env x=pure x){use:Option (Value->Sem Unit)}{Q0:Value->Shared->Prop}{pins:List (Addr×Obj)}{s:Shared}{σ:St}{H:Hp}{Q:VK}(I:Inv X pins σ H s)(h:vm wi own.length g tt te σ H Q)
  (fin:∀(l:Addr)(H':Hp)(s':Shared)(C:Addr)(m:Str->Option Value),Inv X pins σ H' s'->Q (.ref l) H'->s'.heap.Ns C m->H' C=none->C≠X.env.locals->X.s₀.heap.objs.size<=C->(∀x c,X.env.cells.lookup x=some c->c≠C)->(∀p∈X.pn++pins,p.1≠C)->
   compPost (model X.prog X.w) X.A X.xe use Q0 (.ref l) C (.ok .next) s'):
  wpAny (model X.prog X.w) X.A (comprehension (.ListComp elt [⟨tg,iter,ifs,0⟩] scope pos) scope X.env pos' (newList []) false (eval iter X.env) use) Q0 X.xe s:=by
 refine jF (Q:=Q) (ob:= λ _=> .lst []) hc hi hk hS hM hs (N7 X.prog X.w X.A tg ifs elt "list.append") rfl I h (λ h=>QK h) (λ I=>I.lnew (its:=[]) .nil (QY _)) (λ I h=>qq I h) (λ h k=>codeAny_compStart_list h (k _)) (λ J H1 l q hn=>?_) fin
 obtain⟨W,⟨m0,w0⟩,turn⟩:=q l hn;refine⟨λ i m H=>∃C,W i m C H,⟨m0,_,w0⟩,λ i m H⟨acc,w⟩=>(turn i m acc H w).2.imp_right λ⟨go,step⟩=>⟨go,λ x H' y s3 H3 fp ps s u K I r ag=>?_⟩⟩
 refine cC (hg s3 H3 fp pins _ s _ H' x u _ I r (step x H' y)) λ _ s8 ⟨o,H8,I8,e8,q8⟩=>cC (ht s3 H3 fp pins _ s8 o H8 _ I8 q8) λ b s9 ⟨H9,I9,q9⟩=>?_;cases b with
 |false=>obtain⟨m',hm,wa⟩:=q9;exact ag I9 e8 hm ⟨_,wa⟩
 |true=>exact cC (he s3 H3 fp pins _ s9 o H9 _ I9 q9) λ y s10 ⟨v,H10,I10,rv,a10,z10,m',hm,wa⟩=>cC (jG _ s10 o H10 (.ref l) [v] (.ref l) [y] (λ _ Hb=>Hb=upd H10 l (.lst (acc++[v]))) I10 rfl (.cons rv .nil) ⟨l,acc,v,rfl,rfl,a10,z10,rfl⟩) λ _ s11 ⟨_,Hb,Ib,_,eb⟩=>by subst eb;exact ag Ib e8 hm ⟨_,wa⟩
theorem E4(J:PI X tg iter wi)(U:∀s H fp pins,PG (blk X N' own scope s H fp pins) tg g)(ht:∀s H fp pins,oi (blk X N' own scope s H fp pins) ifs tt)(he:∀s H fp pins,PE (blk X N' own scope s H fp pins) elt te)
  (hS:dv N' own X.env.scope scope=true:=by rfl)(hM:du X.N N' scope=true:=by rfl)(hk:scope.kind= .function:=by rfl)(hc:X.calm=true:=by rfl)(hs:∀x,foldedSetIterable iter X.env x=pure x:=by intro _;rfl):
  PE X (.ListComp elt [⟨tg,iter,ifs,0⟩] scope pos) (vm wi own.length g tt te):=by intro pins s σ H Q I h;refine u4 (use:=none) (cal:= λ X=>X.calm=true) (λ _ _ _ _=>hc) J.g hk hS hM U ht he hs I h λ l H' s' C m I' q hn h1 h2 h3 h4 h5=>?_;refine⟨m,hn,λ h' sb=>⟨.ref l,H',?_,rfl,q⟩⟩;exact I'.turned (t':=s'.toks) (λ b o hb e=>(sb.2 b hb).trans e) h1 h2 (.inr h3) h4 h5
theorem uM{J U:Pos}(hN:X.N.Nodup)(aa:X.N[i]?=some x)(hx:X.env.scope.names.lookup x=some .local)
  (hi:PI X tg iter wi)(hg:∀s H fp pins,PG (blk X N' own scope s H fp pins) tg g)(ht:∀s H fp pins,oi (blk X N' own scope s H fp pins) ifs tt)(he:∀s H fp pins,PE (blk X N' own scope s H fp pins) elt te)
  (ab:swapsWith (.ListComp elt [⟨tg,iter,ifs,0⟩] scope pos) (some (.Name x J)) U.line X.env=pure true:=by rfl)
  (hS:dv N' own X.env.scope scope=true:=by rfl)(hM:du X.N N' scope=true:=by rfl)(hk:scope.kind= .function:=by rfl)(hc:X.calm=true:=by rfl)(hs:∀x,foldedSetIterable iter X.env x=pure x:=by intro _;rfl):
  PS X (.Assign [.Name x J] (.ListComp elt [⟨tg,iter,ifs,0⟩] scope pos) U) (ko (vm wi own.length g tt te) (gH i)):=by
 intro pins s σ H D I h;rw[exec_Assign_Name_used _ _ _ _ ab];refine zN (Z5 (zN ?_));refine zN (gA (Q:= λ _ s'=>SP X pins D .next s') ?_ (λ _ s' hq=>zS (zS hq)) λ _ _ e=>e);refine u4 (use:=some (assign (.Name x J) X.env)) (cal:= λ X=>X.calm=true) (λ _ _ _ _=>hc) hi.g hk hS hM hg ht he hs I h λ l H' s' C m I' q hn h1 h2 h3 h4 h5=>?_;refine wpAny_assign_Name (nX I' hN aa (.inl hx) (v:= .ref l) (u:= .ref l) rfl (λ ae af ag=>?_) (.inr hx));obtain⟨a,sb,ha⟩:=ag;have ah:C≠a:=by grind
 refine⟨m,hn.sameBut sb ah,λ h' ai=>⟨σ.set i (some (.ref l)),H',?_,q⟩⟩;exact af.turned (t':=ae.toks) (λ b o hb e=>(ai.2 b hb).trans e) h1 h2 (.inr h3) h4 h5
end
end L2
namespace Jt
open PySem L2
inductive D where
 | non | bl (b:Bool) | int (i:Int) | str (x:Str) | tup (xs:List D) | lst (xs:List D) | dct | dic (kvs:List (Int × Int)) | dip (kvs:List ((Int × Int) × Int))
noncomputable def kZ(a:Addr):HO:= .ext λ h=>a≠sysModules/\∃o n,h.get? a=some o/\o.cls= .type "dict"/\o.data= .dict #[] n
noncomputable abbrev C6(kvs:List (Int×Int)):HO:= .dK (kvs.map λ p=>(.inl p.1,.int p.2))
noncomputable abbrev FO(kvs:List ((Int×Int)×Int)):HO:= .dT (kvs.map λ p=>([.inl p.1.1,.inl p.1.2],.int p.2))
mutual
noncomputable def R (H:Hp):D->V->Prop
 | .non,v=>v=.non
 | .bl b,v=>v=.bl b
 | .int i,v=>v=.int i
 | .str x,v=>v=.str x
 | .tup ds,v=>∃a vs,v=.ref a∧H a=some (.tup vs)∧Rs H ds vs
 | .lst ds,v=>∃a vs,v=.ref a∧Rd H a (.lst vs)∧Rs H ds vs
 | .dct,v=>∃a,v=.ref a∧H a=some (kZ a)
 | .dic kvs,v=>∃a,v=.ref a∧H a=some (C6 kvs)
 | .dip kvs,v=>∃a,v=.ref a∧H a=some (FO kvs)
noncomputable def Rs (H:Hp):List D->List V->Prop
 | [],vs=>vs=[]
 | d :: ds,vs=>∃v r,vs=v :: r∧R H d v∧Rs H ds r
end
theorem Rd.mono(m:∀b o,H b=some o->H' b=some o)(h:Rd H a u):Rd H' a u:=by
 rcases h with h|⟨o,h⟩
 .exact .inl (m _ _ h)
 .exact .inr ⟨o,m _ _ h⟩
mutual
theorem R.mono {H H':Hp} (m:∀b o,H b=some o->H' b=some o):∀(d:D) (v:V),R H d v->R H' d v
 | .non,v,h=>by unfold R at *;exact h
 | .bl b,v,h=>by unfold R at *;exact h
 | .int i,v,h=>by unfold R at *;exact h
 | .str x,v,h=>by unfold R at *;exact h
 | .tup ds,v,h=>by
  unfold R at *
  obtain ⟨a,vs,e,h1,h2⟩:=h
  exact ⟨a,vs,e,m _ _ h1,Rs.mono m ds vs h2⟩
 | .lst ds,v,h=>by
  unfold R at *
  obtain ⟨a,vs,e,h1,h2⟩:=h
  exact ⟨a,vs,e,Rd.mono m h1,Rs.mono m ds vs h2⟩
 | .dct,v,h=>by
  unfold R at *
  obtain ⟨a,e,h1⟩:=h
  exact ⟨a,e,m _ _ h1⟩
 | .dic kvs,v,h=>by
  unfold R at *
  obtain ⟨a,e,h1⟩:=h
  exact ⟨a,e,m _ _ h1⟩
 | .dip kvs,v,h=>by
  unfold R at *
  obtain ⟨a,e,h1⟩:=h
  exact ⟨a,e,m _ _ h1⟩
theorem Rs.mono {H H':Hp} (m:∀b o,H b=some o->H' b=some o):∀(ds:List D) (vs:List V),Rs H ds vs->Rs H' ds vs
 | [],vs,h=>by unfold Rs at *;exact h
 | d :: ds,vs,h=>by
  unfold Rs at *
  obtain ⟨v,r,e,h1,h2⟩:=h
  exact ⟨v,r,e,R.mono m d v h1,Rs.mono m ds r h2⟩
end
theorem Rs.nil:Rs H [] []:=by rfl
theorem Rs.cons{H:Hp}{d:D}{v:V}{ds:List D}{vs:List V}(h:R H d v)(t:Rs H ds vs):Rs H (d::ds) (v::vs):=⟨v,vs,rfl,h,t⟩
theorem Rs.inv(h:Rs H (d::ds) vs):∃v r,vs=v::r/\R H d v/\Rs H ds r:=h
theorem Rs.inv0(h:Rs H [] vs):vs=[]:=h
theorem Rs.head (h:Rs H (d :: ds) (v :: vs)):R H d v:= by
 obtain ⟨v',r,e,h1,h2⟩:=h.inv;simp_all
theorem Rs.tail (h:Rs H (d :: ds) (v :: vs)):Rs H ds vs:= by
 obtain ⟨v',r,e,h1,h2⟩:=h.inv;simp_all
theorem Rs.length:∀{ds:List D}{vs:List V},Rs H ds vs->vs.length=ds.length
 |[],vs,h=>by rw[h.inv0];rfl
 |d::ds,vs,h=>by obtain⟨v,r,e,_,o⟩:=h.inv;subst e;simp[Rs.length o]
theorem Rs.append:∀{ds es:List D}{vs us:List V},Rs H ds vs->Rs H es us->Rs H (ds++es) (vs++us)
 |[],es,vs,us,h,t=>by rw[h.inv0];exact t
 |d::ds,es,vs,us,h,t=>by obtain⟨v,r,e,o,C⟩:=h.inv;subst e;exact .cons o (Rs.append C t)
theorem Rs.left:∀{ds es:List D}{vs us:List V},vs.length=ds.length->Rs H (ds++es) (vs++us)->Rs H ds vs
 |[],es,[],us,_,h=> .nil
 |d::ds,es,v::vs,us,l,h=> .cons h.head (Rs.left (by simp_all) h.tail)
 |[],_,_::_,_,l,_=>by cases l
 |_::_,_,[],_,l,_=>by cases l
theorem Rs.right:∀{ds es:List D}{vs us:List V},vs.length=ds.length->Rs H (ds++es) (vs++us)->Rs H es us
 |[],es,[],us,_,h=>h
 |d::ds,es,v::vs,us,l,h=>Rs.right (ds:=ds) (vs:=vs) (by simpa using l) h.tail
 |[],_,_::_,_,l,_=>by cases l
 |_::_,_,[],_,l,_=>by cases l
theorem Rs.get:∀{ds:List D}{vs:List V}{i:Nat}{d:D},Rs H ds vs->ds[i]?=some d->∃v,vs[i]?=some v/\R H d v
 |[],_,_,_,_,e=>by simp at e
 |d::ds,vs,0,d',h,e=>by obtain⟨v,r,o,C,I⟩:=h.inv;subst o;simp at e;subst e;exact⟨v,rfl,C⟩
 |d::ds,vs,i+1,d',h,e=>by obtain⟨v,r,o,C,I⟩:=h.inv;obtain⟨J,e2,U⟩:=Rs.get (i:=i) I (by simpa using e);exact⟨J,by simp_all,U⟩
theorem R.tup{H:Hp}{ds:List D}{v:V}(h:R H (.tup ds) v):∃a vs,v= .ref a/\H a=some (.tup vs)/\Rs H ds vs:=h
theorem R.lst{H:Hp}{ds:List D}{v:V}(h:R H (.lst ds) v):∃a vs,v= .ref a/\Rd H a (.lst vs)/\Rs H ds vs:=h
theorem R.dct(h:R H .dct v):∃a,v= .ref a/\H a=some (kZ a):=h
theorem R.dic(h:R H (.dic kvs) v):∃a,v= .ref a/\H a=some (C6 kvs):=h
theorem R.dip(h:R H (.dip kvs) v):∃a,v= .ref a/\H a=some (FO kvs):=h
theorem R.mkD(h:H a=some (kZ a)):R H .dct (.ref a):=⟨a,rfl,h⟩
theorem R.int(h:R H (.int i) v):v= .int i:=h
theorem R.bl(h:R H (.bl i) v):v= .bl i:=h
theorem R.str(h:R H (.str i) v):v= .str i:=h
theorem R.non(h:R H .non v):v= .non:=h
theorem R.mkI:R H (.int i) (.int i):=by rfl
theorem R.mkB:R H (.bl i) (.bl i):=by rfl
theorem R.mkS:R H (.str i) (.str i):=by rfl
theorem R.mkN:R H .non .non:=by rfl
theorem R.mkT{ds:List D}{vs:List V}(h:H a=some (.tup vs))(t:Rs H ds vs):R H (.tup ds) (.ref a):=⟨a,vs,rfl,h,t⟩
theorem R.mkL{vs:List V}(h:Rd H a (.lst vs))(t:Rs H ds vs):R H (.lst ds) (.ref a):=⟨a,vs,rfl,h,t⟩
inductive Slot where
 | un | pu (d:D) | ow (b:Bool) (xs:List D) | od (ks:List (List Int))
noncomputable abbrev DS:=List Slot
structure Ct where
 Z:Hp
 B:List Addr
 H0:Hp
noncomputable def Oc(o:DS)(σ:St)(a:Addr):Prop:=∃(i:Nat) (b:Bool) (xs:List D),o[i]?=some (.ow b xs)/\σ[i]?=some (some (.ref a))
noncomputable abbrev B4(ks:List (List Int)):HO:= .dT (ks.map λ k=>(k.map .inl,.bl true))
noncomputable def Ot(o:DS)(σ:St)(a:Addr):Prop:=∃(i:Nat) (ks:List (List Int)),o[i]?=some (.od ks)/\σ[i]?=some (some (.ref a))
noncomputable def Oa(o:DS)(σ:St)(a:Addr):Prop:=Oc o σ a\/Ot o σ a
open Classical in
noncomputable def Av(p:Addr->Prop)(H:Hp):Hp:= λ a=>if p a then none else H a
noncomputable def Hd(c:Ct)(C:DS)(σ:St)(a:Addr):Prop:=(∃o,c.Z a=some o)\/Oa C σ a
noncomputable abbrev eU(c:Ct)(o:DS)(σ:St)(H:Hp):Hp:=Av (Hd c o σ) H
theorem eN:Av p H a=some o↔ ¬p a/\H a=some o:=by unfold Av;simp
theorem bH{p q:Addr->Prop}{H H':Hp}(J:∀a o,H a=some o->q a->p a)(U:∀a o,¬p a->H a=some o->H' a=some o):∀b o,Av p H b=some o->Av q H' b=some o:= λ b o h=>by obtain⟨C,I⟩:=eN.mp h;exact eN.mpr ⟨λ z=>C (J b o I z),U b o C I⟩
noncomputable def IB(Z H:Hp):Prop:=∀a o,Z a=some o->H a=some o/\∀xs,o≠ .tup xs
structure Sl (c:Ct) (δ:DS) (S:List D) (σ:St) (T:List V) (H:Hp):Prop where
 len:δ.length=σ.length
 pu:∀(i:Nat) d,δ[i]? = some (.pu d)->∃v,σ[i]? = some (some v)∧R (eU c δ σ H) d v
 ow:∀(i:Nat) b xs,δ[i]? = some (.ow b xs)->∃a vs,σ[i]? = some (some (.ref a))∧H a=some (.lst vs)∧Rs (eU c δ σ H) xs vs∧(b=true->a ∈ c.B)∧(b=false->a ∉ c.B∧c.H0 a=none)∧c.Z a=none
 ne:∀(i j:Nat) b b' xs ys a,δ[i]? = some (.ow b xs)->δ[j]? = some (.ow b' ys)->σ[i]? = some (some (.ref a))->σ[j]? = some (some (.ref a))->i=j
 st:Rs (eU c δ σ H) S T
 keep:∀b o,b ∉ c.B->c.H0 b=some o->H b=some o
 bb:∀b ∈ c.B,∃o,H b=some o
 zk:IB c.Z H
 od:∀(i:Nat) ks,δ[i]? = some (.od ks)->∃a,σ[i]? = some (some (.ref a))∧H a=some (B4 ks)∧a ∉ c.B∧c.H0 a=none∧c.Z a=none
 nd:∀(i j:Nat) ks ls a,δ[i]? = some (.od ks)->δ[j]? = some (.od ls)->σ[i]? = some (some (.ref a))->σ[j]? = some (some (.ref a))->i=j
section
variable {c:Ct} {δ:DS} {S:List D} {σ:St} {T:List V} {H:Hp}
theorem Sl.zz(s:Sl c δ S σ T H):∀a o,c.Z a=some o->H a=some o:= λ a o h=>(s.zk a o h).1
theorem Sl.hdSome(s:Sl c δ S σ T H){a:Addr}(h:Hd c δ σ a):∃o,H a=some o:=by
 rcases h with⟨o,h⟩|⟨i,b,xs,C,I⟩|⟨i,ks,C,I⟩
 .exact⟨o,s.zz _ _ h⟩
 .obtain⟨U,vs,e,J,_⟩:=s.ow i b xs C;simp_all
 .obtain⟨U,e,J,_⟩:=s.od i ks C;rw[I]at e;cases e;exact⟨_,J⟩
theorem Sl.stk(s:Sl c δ S σ T H){S':List D}{T':List V}(h:Rs (eU c δ σ H) S' T'):Sl c δ S' σ T' H:=⟨s.len,s.pu,s.ow,s.ne,h,s.keep,s.bb,s.zk,s.od,s.nd⟩
theorem Sl.pop(s:Sl c δ (d::S) σ (v::T) H):Sl c δ S σ T H:=s.stk s.st.tail
theorem Sl.grow(s:Sl c δ S σ T H){H':Hp}(g:jv H H'):Sl c δ S σ T H':=by
 have m:∀b o,eU c δ σ H b=some o->eU c δ σ H' b=some o:=bH (λ _ _ _ z=>z) λ a o _ h=>g a o h;refine⟨s.len,λ i d h=>?_,λ i b xs h=>?_,s.ne,s.st.mono m,λ b o C I=>g _ _ (s.keep b o C I),λ b U=>?_,λ a o hz=>⟨g _ _ (s.zz a o hz),(s.zk a o hz).2⟩,λ i ks h=>?_,s.nd⟩;. obtain⟨v,e,r⟩:=s.pu i d h;exact⟨v,e,r.mono m⟩
 .obtain⟨a,vs,e,C,I,J⟩:=s.ow i b xs h;exact⟨a,vs,e,g _ _ C,I.mono m,J⟩
 .obtain⟨o,h⟩:=s.bb b U;exact⟨o,g _ _ h⟩
 .obtain⟨a,e,C,J⟩:=s.od i ks h;exact⟨a,e,g _ _ C,J⟩
theorem dZ(h:H p=none)(o:HO):jv H (upd H p o):= λ b u q=>by rw[br (ck q h)];exact q
theorem Sl.hdNew(s:Sl c δ S σ T H){p:Addr}(h:H p=none): ¬Hd c δ σ p:= λ z=>by obtain⟨o,e⟩:=s.hdSome z;simp_all
theorem Sl.fresh(s:Sl c δ S σ T H){p:Addr}(h:H p=none):c.Z p=none/\p∉c.B/\c.H0 p=none:=by
 have hB:p∉c.B:= λ z=>by obtain⟨o,e⟩:=s.bb p z;simp_all
 refine⟨?_,hB,?_⟩;. cases e:c.Z p with
  |none=>rfl
  |some o=>have:=s.zz p o e;rw[h]at this;cases this
 .cases e:c.H0 p with
  |none=>rfl
  |some o=>have:=s.keep p o hB e;rw[h]at this;cases this
theorem Sl.newTup(s:Sl c δ (ds++S) σ (vs++T) H)(l:vs.length=ds.length){p:Addr}(h:H p=none):Sl c δ (.tup ds::S) σ (.ref p::T) (upd H p (.tup vs)):=by have o:=s.grow (dZ h (.tup vs));exact o.stk (.cons (.mkT (eN.mpr ⟨s.hdNew h,bB⟩) (o.st.left l)) (o.st.right l))
theorem Sl.hide(s:Sl c δ S σ T H){p:Addr}{o:HO}(h:H p=none)(hn:∀xs,o≠ .tup xs:=by exact λ _ h=>nomatch h):Sl { c with Z:=upd c.Z p o } δ S σ T (upd H p o):=by
 have g:=dZ h o;have m:∀b u,eU c δ σ H b=some u->eU { c with Z:=upd c.Z p o } δ σ (upd H p o) b=some u:=bH (λ a u e z=>by
  rcases z with⟨w,z⟩|z
  .have:a≠p:= λ q=>by rw[q,h]at e;cases e
   exact .inl ⟨w,(show c.Z a=upd c.Z p o a from(br this).symm).trans z⟩
  .exact .inr z) λ a u _ e=>g a u e;refine⟨s.len,λ i d e=>?_,λ i b xs e=>?_,s.ne,s.st.mono m,λ b u I J=>g _ _ (s.keep b u I J),λ b hb=>?_,λ a u hz=>?_,λ i ks e=>?_,s.nd⟩;. obtain⟨v,e,r⟩:=s.pu i d e;exact⟨v,e,r.mono m⟩
 .obtain⟨a,vs,e,I,J,U,h4,h5⟩:=s.ow i b xs e;refine⟨a,vs,e,g _ _ I,J.mono m,U,h4,?_⟩;show upd c.Z p o a=none;rw[br λ q=>by rw[q,h]at I;cases I];omega
 .obtain⟨u,e⟩:=s.bb b hb;exact⟨u,g _ _ e⟩
 .have C:upd c.Z p o a=some u:=hz;by_cases q:a=p;. subst q;rw[bB]at C|-;exact⟨C,by cases C;exact hn⟩
  .rw[br q]at C|-;exact s.zk a u C
 .obtain⟨a,e,I,U,h4,h5⟩:=s.od i ks e;refine⟨a,e,g _ _ I,U,h4,?_⟩;show upd c.Z p o a=none;rw[br λ q=>by rw[q,h]at I;cases I];exact h5
theorem Sl.noOw(s:Sl { c with Z:=upd c.Z p o } δ S σ T H): ¬Oa δ σ p:= λ z=>by
 rcases z with⟨i,b,xs,I,J⟩|⟨i,ks,I,J⟩
 .obtain⟨a,vs,e,_,_,_,_,U⟩:=s.ow i b xs I;rw[J]at e;cases e;have C:upd c.Z p o p=none:=U;rw[bB]at C;grind
 .obtain⟨a,e,_,_,_,U⟩:=s.od i ks I;rw[J]at e;cases e;have C:upd c.Z p o p=none:=U;rw[bB]at C;cases C
theorem Sl.hideSet(J:HO)(s:Sl { c with Z:=upd c.Z p o } δ S σ T H)(hB:p∉c.B)(h0:c.H0 p=none)(hn:∀xs,J≠ .tup xs:=by exact λ _ h=>nomatch h):Sl { c with Z:=upd c.Z p J } δ S σ T (upd H p J):=by
 have npow:=s.noOw;have m:∀b u,eU { c with Z:=upd c.Z p o } δ σ H b=some u->eU { c with Z:=upd c.Z p J } δ σ (upd H p J) b=some u:=bH (λ a u e z=>by
  rcases z with⟨w,z⟩|z
  .have z':upd c.Z p J a=some w:=z;by_cases q:a=p;. subst q;exact .inl ⟨o,bB⟩
   .rw[br q]at z';exact .inl ⟨w,by show upd c.Z p o a=some w;rw[br q];exact z'⟩
  .exact .inr z) λ a u ha e=>by have:a≠p:= λ z=>ha (.inl ⟨o,by rw[z];exact bB⟩);rw[br this];exact e
 refine⟨s.len,λ i d e=>?_,λ i b xs e=>?_,s.ne,s.st.mono m,λ b u h1 h2=>?_,λ b hb=>?_,λ a u hz=>?_,λ i ks e=>?_,s.nd⟩;. obtain⟨v,e,r⟩:=s.pu i d e;exact⟨v,e,r.mono m⟩
 .have hx:=e;obtain⟨a,vs,e,h1,h2,h3,h4,h5⟩:=s.ow i b xs e;have C:a≠p:= λ z=>npow (.inl ⟨i,b,xs,hx,by rw[e,z]⟩);refine⟨a,vs,e,by rw[br C];exact h1,h2.mono m,h3,h4,?_⟩;have U:upd c.Z p o a=none:=h5;show upd c.Z p J a=none;rw[br C]at U|-;omega
 .have:b≠p:= λ z=>by have aa:c.H0 b=some u:=h2;rw[z,h0]at aa;cases aa
  rw[br this];exact s.keep b u h1 h2
 .have:b≠p:= λ z=>hB (z▸hb);rw[br this];exact s.bb b hb
 .have I:upd c.Z p J a=some u:=hz;by_cases q:a=p;. subst q;rw[bB]at I|-;exact⟨I,by cases I;exact hn⟩
  .rw[br q]at I|-;exact s.zk a u (by show upd c.Z p o a=some u;rw[br q];exact I)
 .have hx:=e;obtain⟨a,e,h1,h3,h4,h5⟩:=s.od i ks e;have C:a≠p:= λ z=>npow (.inr ⟨i,ks,hx,by rw[e,z]⟩);refine⟨a,e,by rw[br C];exact h1,h3,h4,?_⟩;have U:upd c.Z p o a=none:=h5;show upd c.Z p J a=none;rw[br C]at U|-;exact U
theorem Sl.unhideL{vs:List V}(s:Sl { c with Z:=upd c.Z p (.lst vs) } δ (xs++S) σ (vs++T) H)(l:vs.length=xs.length)(C:c.Z p=none):Sl c δ (.lst xs::S) σ (.ref p::T) H:=by
 have I:H p=some (.lst vs):=s.zz p _ bB;have npow:=s.noOw;have zc:∀a u,c.Z a=some u->upd c.Z p (.lst vs) a=some u:= λ a u h=>by rw[br λ q=>by rw[q,C]at h;cases h];exact h
 have m:∀b u,eU { c with Z:=upd c.Z p (.lst vs) } δ σ H b=some u->eU c δ σ H b=some u:=bH (λ a u e z=>by
  rcases z with⟨w,z⟩|z
  .exact .inl ⟨w,zc a w z⟩
  .exact .inr z) λ a u ha e=>e;refine⟨s.len,λ i d e=>?_,λ i b xs e=>?_,s.ne,.cons (.mkL (.inl (eN.mpr ⟨λ z=>?_,I⟩)) ((s.st.left l).mono m)) ((s.st.right l).mono m),s.keep,s.bb,λ a u hz=>s.zk a u (zc a u hz),λ i ks e=>?_,s.nd⟩;. obtain⟨v,e,r⟩:=s.pu i d e;exact⟨v,e,r.mono m⟩
 .obtain⟨a,J,e,U,h2,h3,h4,h5⟩:=s.ow i b xs e;refine⟨a,J,e,U,h2.mono m,h3,h4,?_⟩;have o:upd c.Z p (.lst vs) a=none:=h5;by_cases q:a=p;. rw[q];exact C
  .rwa [br q]at o
 .rcases z with⟨u,z⟩|z
  .rw[C]at z;cases z
  .exact npow z
 .obtain⟨a,e,U,h3,h4,h5⟩:=s.od i ks e;refine⟨a,e,U,h3,h4,?_⟩;have o:upd c.Z p (.lst vs) a=none:=h5;by_cases q:a=p;. rw[q];exact C
  .rwa [br q]at o
theorem Sl.setPu(s:Sl c δ (d::S) σ (v::T) H)(hi:i<δ.length):Sl c (δ.set i (.pu d)) S (σ.set i (some v)) T H:=by
 have aa:∀a,Oa (δ.set i (.pu d)) (σ.set i (some v)) a->Oa δ σ a:= λ a z=>by
  rcases z with⟨j,b,xs,o,C⟩|⟨j,ks,o,C⟩ <;> by_cases e:i=j
  .subst e;rw[jP hi]at o;cases o
  .rw[wL e]at o C;exact .inl ⟨j,b,xs,o,C⟩
  .subst e;rw[jP hi]at o;cases o
  .rw[wL e]at o C;exact .inr ⟨j,ks,o,C⟩
 have m:∀b u,eU c δ σ H b=some u->eU c (δ.set i (.pu d)) (σ.set i (some v)) H b=some u:=bH (λ a u e z=>z.elim .inl λ z=> .inr (aa a z)) λ a u _ e=>e;refine⟨by simpa using s.len,λ j d' h=>?_,λ j b xs h=>?_,λ j k b b' xs ys a o C I U=>?_,s.st.tail.mono m,s.keep,s.bb,s.zk,λ j ks h=>?_,λ j k ks ls a o C I U=>?_⟩
 .by_cases e:i=j
  .subst e;rw[jP hi]at h;cases h;exact⟨v,by rw[jP (by rw[<- s.len];exact hi)],s.st.head.mono m⟩
  .rw[wL e]at h|-;obtain⟨v',J,r⟩:=s.pu j d' h;exact⟨v',J,r.mono m⟩
 .by_cases e:i=j;. subst e;rw[jP hi]at h;cases h
  .rw[wL e]at h|-;obtain⟨a,vs,e,o,C,I⟩:=s.ow j b xs h;exact⟨a,vs,e,o,C.mono m,I⟩
 .by_cases e:i=j;. subst e;rw[jP hi]at o;cases o
  .by_cases J:i=k;. subst J;rw[jP hi]at C;cases C
   .rw[wL e]at o I;rw[wL J]at C U;exact s.ne j k b b' xs ys a o C I U
 .by_cases e:i=j;. subst e;rw[jP hi]at h;cases h
  .rw[wL e]at h|-;exact s.od j ks h
 .by_cases e:i=j;. subst e;rw[jP hi]at o;cases o
  .by_cases J:i=k;. subst J;rw[jP hi]at C;cases C
   .rw[wL e]at o I;rw[wL J]at C U;exact s.nd j k ks ls a o C I U
theorem Sl.setOw{vs:List V}{i:Nat}(s:Sl { c with Z:=upd c.Z p (.lst vs) } δ (xs++S) σ (vs++T) H)(l:vs.length=xs.length)(hp:c.Z p=none)(hB:p∉c.B)(h0:c.H0 p=none)(hi:i<δ.length):
  Sl c (δ.set i (.ow false xs)) S (σ.set i (some (.ref p))) T H:=by
 have ab:H p=some (.lst vs):=s.zz p _ bB;have npow:∀(j:Nat) b ys,δ[j]?=some (.ow b ys)->σ[j]?≠some (some (.ref p)):= λ j b ys o C=>s.noOw (.inl ⟨j,b,ys,o,C⟩);have zc:∀a u,c.Z a=some u->upd c.Z p (.lst vs) a=some u:= λ a u h=>by rw[br λ q=>by rw[q,hp]at h;cases h];exact h
 have I:i<σ.length:=by rw[<- s.len];exact hi
 have m:∀b u,eU { c with Z:=upd c.Z p (.lst vs) } δ σ H b=some u->eU c (δ.set i (.ow false xs)) (σ.set i (some (.ref p))) H b=some u:=bH (λ a u e z=>by
  rcases z with⟨w,z⟩|⟨j,b,ys,o,C⟩|⟨j,ks,o,C⟩
  .exact .inl ⟨w,zc a w z⟩
  .by_cases e:i=j
   .subst e;rw[jP I]at C;cases C;exact .inl ⟨_,bB⟩
   .rw[wL e]at o C;exact .inr (.inl ⟨j,b,ys,o,C⟩)
  .by_cases e:i=j;. subst e;rw[jP hi]at o;cases o
   .rw[wL e]at o C;exact .inr (.inr ⟨j,ks,o,C⟩)) λ a u _ e=>e;refine⟨by simpa using s.len,λ j d' h=>?_,λ j b ys h=>?_,λ j k b b' ys zs a o C U J=>?_,(s.st.right l).mono m,s.keep,s.bb,λ a u hz=>s.zk a u (zc a u hz),λ j ks h=>?_,λ j k ks ls a o C U J=>?_⟩
 .by_cases e:i=j;. subst e;rw[jP hi]at h;cases h
  .rw[wL e]at h|-;obtain⟨v',e',r⟩:=s.pu j d' h;exact⟨v',e',r.mono m⟩
 .by_cases e:i=j;. subst e;rw[jP hi]at h;cases h;exact⟨p,vs,by rw[jP I],ab,(s.st.left l).mono m,(λ z=>absurd z uS),(λ _=>⟨hB,h0⟩),hp⟩
  .rw[wL e]at h|-;have hx:=h;obtain⟨a,ws,e,o,C,U,J,h5⟩:=s.ow j b ys h;refine⟨a,ws,e,o,C.mono m,U,J,?_⟩;have aa:upd c.Z p (.lst vs) a=none:=h5;rwa [br λ q=>npow j b ys hx (by rw[e,q])]at aa
 .by_cases e:i=j
  .subst e;rw[jP I]at U;cases U;by_cases e':i=k;. exact e'
   .rw[wL e']at C J;exact absurd J (npow k b' zs C)
  .rw[wL e]at o U;by_cases e':i=k;. subst e';rw[jP I]at J;cases J;exact absurd U (npow j b ys o)
   .rw[wL e']at C J;exact s.ne j k b b' ys zs a o C U J
 .by_cases e:i=j;. subst e;rw[jP hi]at h;cases h
  .rw[wL e]at h|-;have hx:=h;obtain⟨a,e,o,U,J,h5⟩:=s.od j ks h;refine⟨a,e,o,U,J,?_⟩;have aa:upd c.Z p (.lst vs) a=none:=h5;rwa [br λ q=>s.noOw (.inr ⟨j,ks,hx,by rw[e,q]⟩)]at aa
 .by_cases e:i=j;. subst e;rw[jP hi]at o;cases o
  .by_cases e':i=k;. subst e';rw[jP hi]at C;cases C
   .rw[wL e]at o U;rw[wL e']at C J;exact s.nd j k ks ls a o C U J
theorem Sl.giveOw{xs:List D}{i:Nat}(s:Sl c δ S σ T H)(hi:δ[i]?=some (.ow false xs))(ha:σ[i]?=some (some (.ref a))):
  ∃vs,vs.length=xs.length/\Sl { c with Z:=upd c.Z a (.lst vs) } (δ.set i .un) (xs++S) σ (vs++T) H/\c.Z a=none/\a∉c.B/\c.H0 a=none:=by
 have o:i<δ.length:=(xZ.mp hi).1;obtain⟨a',vs,e,hH,hv,_,hB,hZ⟩:=s.ow i false xs hi;rw[ha]at e;cases e;have od':∀(j:Nat) ks x,δ[j]?=some (.od ks)->σ[j]?=some (some (.ref x))->x≠a:= λ j ks x C I q=>by
  obtain⟨x',e,J,_⟩:=s.od j ks C;rw[I]at e;cases e;rw[q,hH]at J;cases J
 have aa:∀b,Oa (δ.set i .un) σ b->Oa δ σ b/\b≠a:= λ b z=>by
  rcases z with⟨j,bb,ys,C,I⟩|⟨j,ks,C,I⟩ <;> by_cases e:i=j
  .subst e;rw[jP o]at C;cases C
  .rw[wL e]at C;exact⟨.inl ⟨j,bb,ys,C,I⟩,λ q=>e (s.ne i j _ _ _ _ a hi C ha (by rw[I,q]))⟩
  .subst e;rw[jP o]at C;cases C
  .rw[wL e]at C;exact⟨.inr ⟨j,ks,C,I⟩,od' j ks b C I⟩
 have m:∀b u,eU c δ σ H b=some u->eU { c with Z:=upd c.Z a (.lst vs) } (δ.set i .un) σ H b=some u:=bH (λ b u e z=>by
  rcases z with⟨w,z⟩|z
  .by_cases q:b=a;. subst q;exact .inr (.inl ⟨i,false,xs,hi,ha⟩)
   .exact .inl ⟨w,(show c.Z b=upd c.Z a (.lst vs) b from(br q).symm).trans z⟩
  .exact .inr (aa b z).1) λ b u _ e=>e;refine⟨vs,hv.length,⟨by simpa using s.len,λ j d h=>?_,λ j b ys h=>?_,λ j k b b' ys zs x C I J h4=>?_,(hv.append s.st).mono m,s.keep,s.bb,λ x u hz=>?_,λ j ks h=>?_,λ j k ks ls x C I J h4=>?_⟩,hZ,(hB rfl).1,(hB rfl).2⟩
 .have e:i≠j:= λ e=>by subst e;rw[jP o]at h;cases h
  rw[wL e]at h;obtain⟨v',e',r⟩:=s.pu j d h;exact⟨v',e',r.mono m⟩
 .have e:i≠j:= λ e=>by subst e;rw[jP o]at h;cases h
  rw[wL e]at h;obtain⟨b1,ws,e',C,I,J,h4,h5⟩:=s.ow j b ys h;refine⟨b1,ws,e',C,I.mono m,J,h4,?_⟩;show upd c.Z a (.lst vs) b1=none;rw[br λ q=>e (s.ne i j _ _ _ _ a hi h ha (by rw[e',q]))];omega
 .have g:∀(j:Nat) b ys,(δ.set i Slot.un)[j]?=some (.ow b ys)->δ[j]?=some (.ow b ys):= λ j b ys h=>by
   have e:i≠j:= λ e=>by subst e;rw[jP o]at h;cases h
   rwa [wL e]at h
  exact s.ne j k b b' ys zs x (g _ _ _ C) (g _ _ _ I) J h4
 .have U:upd c.Z a (.lst vs) x=some u:=hz;by_cases q:x=a;. subst q;rw[bB]at U;cases U;exact⟨hH,λ _ h=>nomatch h⟩
  .rw[br q]at U;exact s.zk x u U
 .have e:i≠j:= λ e=>by subst e;rw[jP o]at h;cases h
  rw[wL e]at h;obtain⟨b1,e',C,J,h4,h5⟩:=s.od j ks h;refine⟨b1,e',C,J,h4,?_⟩;show upd c.Z a (.lst vs) b1=none;rw[br (od' j ks b1 h e')];exact h5
 .have g:∀(j:Nat) ks,(δ.set i Slot.un)[j]?=some (.od ks)->δ[j]?=some (.od ks):= λ j ks h=>by
   have e:i≠j:= λ e=>by subst e;rw[jP o]at h;cases h
   rwa [wL e]at h
  exact s.nd j k ks ls x (g _ _ C) (g _ _ I) J h4
theorem Sl.mut{U:Bool}{xs J:List D}{aa:List V}{i:Nat}(s:Sl c δ S σ T H)(hi:δ[i]?=some (.ow U xs))(ha:σ[i]?=some (some (.ref a)))(hv:Rs (eU c δ σ H) J aa):
  Sl c (δ.set i (.ow U J)) S σ T (upd H a (.lst aa)):=by
 have C:i<δ.length:=(xZ.mp hi).1;obtain⟨a',vs,e,hH,_,hB,ab,hZ⟩:=s.ow i U xs hi;rw[ha]at e;cases e;have ae:∀b,Oa (δ.set i (.ow U J)) σ b->Oa δ σ b:= λ b z=>by
  rcases z with⟨j,bb,ys,o,I⟩|⟨j,ks,o,I⟩ <;> by_cases e:i=j
  .subst e;exact .inl ⟨i,U,xs,hi,I⟩
  .rw[wL e]at o;exact .inl ⟨j,bb,ys,o,I⟩
  .subst e;rw[jP C]at o;cases o
  .rw[wL e]at o;exact .inr ⟨j,ks,o,I⟩
 have m:∀b u,eU c δ σ H b=some u->eU c (δ.set i (.ow U J)) σ (upd H a (.lst aa)) b=some u:=bH (λ b u e z=>z.elim .inl λ z=> .inr (ae b z)) λ b u hb e=>by have:b≠a:= λ z=>hb (.inr (.inl ⟨i,U,xs,hi,by rw[z];exact ha⟩));rw[br this];exact e
 refine⟨by simpa using s.len,λ j d' h=>?_,λ j b ys h=>?_,λ j k b b' ys zs x o I h3 h4=>?_,s.st.mono m,λ b u o I=>?_,λ b hb=>?_,λ x u hz=>?_,λ j ks h=>?_,λ j k ks ls x o I h3 h4=>?_⟩
 .have e:i≠j:= λ e=>by subst e;rw[jP C]at h;cases h
  rw[wL e]at h;obtain⟨v',e',r⟩:=s.pu j d' h;exact⟨v',e',r.mono m⟩
 .by_cases e:i=j;. subst e;rw[jP C]at h;cases h;exact⟨a,aa,ha,bB,hv.mono m,hB,ab,hZ⟩
  .rw[wL e]at h;obtain⟨b1,ws,e',o,I,h3⟩:=s.ow j b ys h;have:b1≠a:= λ z=>e (s.ne i j _ _ xs ys a hi h ha (by rw[e',z]));exact⟨b1,ws,e',by rw[br this];exact o,I.mono m,h3⟩
 .have g:∀(j:Nat) b ys,(δ.set i (.ow U J))[j]?=some (.ow b ys)->∃b ys,δ[j]?=some (.ow b ys):= λ j b ys h=>by
   by_cases e:i=j;. subst e;exact⟨U,xs,hi⟩
   .rw[wL e]at h;exact⟨b,ys,h⟩
  obtain⟨c1,af,o⟩:=g j b ys o;obtain⟨c2,ag,I⟩:=g k b' zs I;exact s.ne j k c1 c2 af ag x o I h3 h4
 .have:b≠a:= λ z=>by subst z;cases U with
   |true=>exact o (hB rfl)
   |false=>rw[(ab rfl).2]at I;cases I
  rw[br this];exact s.keep b u o I
 .by_cases e:b=a;. subst e;exact⟨_,bB⟩
  .rw[br e];exact s.bb b hb
 .have:x≠a:= λ e=>by rw[e,hZ]at hz;cases hz
  rw[br this];exact s.zk x u hz
 .have e:i≠j:= λ e=>by subst e;rw[jP C]at h;cases h
  rw[wL e]at h;obtain⟨x,e',o,h3⟩:=s.od j ks h;have:x≠a:= λ z=>by rw[z,hH]at o;cases o
  exact⟨x,e',by rw[br this];exact o,h3⟩
 .have g:∀(j:Nat) ks,(δ.set i (.ow U J))[j]?=some (.od ks)->δ[j]?=some (.od ks):= λ j ks h=>by
   have e:i≠j:= λ e=>by subst e;rw[jP C]at h;cases h
   simp_all
  exact s.nd j k ks ls x (g _ _ o) (g _ _ I) h3 h4
theorem Sl.ext(s:Sl c δ S σ T H)(k:Nat):Sl c (δ++List.replicate k .un) S (σ++List.replicate k none) T H:=by
 have g:∀(i:Nat) x,(δ++List.replicate k Slot.un)[i]?=some x->x≠ .un->δ[i]?=some x:= λ i x h n=>by
  by_cases hi:i<δ.length;. rwa [QZ hi]at h
  .rw[VP (by omega),V9]at h;split at h;. exact absurd (ZG h).symm n
   .cases h
 have C:∀(i:Nat) x,δ[i]?=some x->(σ++List.replicate k none)[i]?=σ[i]?:= λ i x h=>by rw[QZ (by rw[<- s.len];exact(xZ.mp h).1)]
 have aa:∀a,Oa (δ++List.replicate k .un) (σ++List.replicate k none) a->Oa δ σ a:= λ a z=>by
  rcases z with⟨j,b,xs,J,U⟩|⟨j,ks,J,U⟩ <;> have o:=g j _ J (by simp) <;> rw[C j _ o]at U
  .exact .inl ⟨j,b,xs,o,U⟩
  .exact .inr ⟨j,ks,o,U⟩
 have m:∀b u,eU c δ σ H b=some u->eU c (δ++List.replicate k .un) (σ++List.replicate k none) H b=some u:=bH (λ a u e z=>z.elim .inl λ z=> .inr (aa a z)) λ a u _ e=>e;refine⟨by simp[s.len],λ j d' h=>?_,λ j b xs h=>?_,λ j l b b' xs ys a J U h3 h4=>?_,s.st.mono m,s.keep,s.bb,s.zk,λ j ks h=>?_,λ j l ks ls a J U h3 h4=>?_⟩;. have h':=g j _ h (by simp);obtain⟨v,e,r⟩:=s.pu j d' h';exact⟨v,by rw[C j _ h'];exact e,r.mono m⟩
 .have h':=g j _ h (by simp);obtain⟨a,vs,e,J,U,h3⟩:=s.ow j b xs h';exact⟨a,vs,by rw[C j _ h'];exact e,J,U.mono m,h3⟩
 .have o:=g j _ J (by simp);have I:=g l _ U (by simp);rw[C j _ o]at h3;rw[C l _ I]at h4;exact s.ne j l b b' xs ys a o I h3 h4
 .have h':=g j _ h (by simp);obtain⟨a,e,J⟩:=s.od j ks h';exact⟨a,by rw[C j _ h'];exact e,J⟩
 .have o:=g j _ J (by simp);have I:=g l _ U (by simp);rw[C j _ o]at h3;rw[C l _ I]at h4;exact s.nd j l ks ls a o I h3 h4
theorem Sl.cut(s:Sl c δ S σ T H)(n:Nat):Sl c (δ.take n) S (σ.take n) T H:=by
 have g:∀(i:Nat) x,(δ.take n)[i]?=some x->i<n/\δ[i]?=some x:= λ i x h=>by
  have hi:i<n:=by have:=(xZ.mp h).1;rw[VJ]at this;omega
  simp_all
 have ab:∀a,Oa (δ.take n) (σ.take n) a->Oa δ σ a:= λ a z=>by
  rcases z with⟨j,b,xs,I,J⟩|⟨j,ks,I,J⟩ <;> obtain⟨C,o⟩:=g j _ I <;> rw[Q2 C]at J
  .exact .inl ⟨j,b,xs,o,J⟩
  .exact .inr ⟨j,ks,o,J⟩
 have m:∀b u,eU c δ σ H b=some u->eU c (δ.take n) (σ.take n) H b=some u:=bH (λ a u e z=>z.elim .inl λ z=> .inr (ab a z)) λ a u _ e=>e;refine⟨by simp[s.len],λ j d' h=>?_,λ j b xs h=>?_,λ j l b b' xs ys a I J U h4=>?_,s.st.mono m,s.keep,s.bb,s.zk,λ j ks h=>?_,λ j l ks ls a I J U h4=>?_⟩;. obtain⟨C,h'⟩:=g j _ h;obtain⟨v,e,r⟩:=s.pu j d' h';exact⟨v,by rw[Q2 C];exact e,r.mono m⟩
 .obtain⟨C,h'⟩:=g j _ h;obtain⟨a,vs,e,I,J,U⟩:=s.ow j b xs h';exact⟨a,vs,by rw[Q2 C];exact e,I,J.mono m,U⟩
 .obtain⟨C,o⟩:=g j _ I;obtain⟨hl,aa⟩:=g l _ J;rw[Q2 C]at U;rw[Q2 hl]at h4;exact s.ne j l b b' xs ys a o aa U h4
 .obtain⟨C,h'⟩:=g j _ h;obtain⟨a,e,I⟩:=s.od j ks h';exact⟨a,by rw[Q2 C];exact e,I⟩
 .obtain⟨C,o⟩:=g j _ I;obtain⟨hl,aa⟩:=g l _ J;rw[Q2 C]at U;rw[Q2 hl]at h4;exact s.nd j l ks ls a o aa U h4
theorem Sl.seeT(s:Sl c δ S σ T H){b:Addr}{vs:List V}(h:H b=some (.tup vs)):eU c δ σ H b=some (.tup vs):=by
 refine eN.mpr ⟨λ z=>?_,h⟩;rcases z with⟨o,z⟩|⟨i,bb,xs,C,I⟩|⟨i,ks,C,I⟩
 .obtain⟨C,I⟩:=s.zk b o z;rw[h]at C;cases C;exact I vs rfl
 .obtain⟨a,ws,e,J,_⟩:=s.ow i bb xs C;simp_all
 .obtain⟨a,e,J,_⟩:=s.od i ks C;rw[I]at e;cases e;rw[h]at J;cases J
end
noncomputable def M(α:Type):=DS->Option (α×DS)
noncomputable instance:Monad M where
 pure a:=fun s=>some (a,s)
 bind x f:=fun s=>match x s with
  | none=>none
  | some (a,s')=>f a s'
noncomputable def lift{α:Type}(o:Option α):M α:= λ s=>match o with
 |none=>none
 |some a=>some (a,s)
theorem M.bind_def(x:M α)(f:α->M β)(s:DS):(x >>= f) s=(match x s with|none=>none|some (a,s')=>f a s'):=rfl
theorem M.pure_def(a:α)(s:DS):(pure a:M α) s=some (a,s):=rfl
inductive NZ {α β:Type} (x:M α) (f:α->M β) (s:DS) (b:β) (s2:DS):Prop
 | mk (a:α) (s1:DS) (e1:x s=some (a,s1)) (e2:f a s1=some (b,s2)):NZ x f s b s2
theorem bind_some (h:(x >>= f) s=some (b,s2)):NZ x f s b s2:= by
 rw [M.bind_def] at h
 cases e:x s with
 | none=>simp_all
 | some p=>obtain ⟨a,s1⟩:=p;rw [e] at h;exact ⟨a,s1,e,h⟩
theorem bg (h:(pure a:M α) s=some (b,s')):a=b∧s=s':= by
 rw [M.pure_def] at h;grind
theorem bt (h:lift o s=some (b,s')):o=some b∧s=s':= by
 unfold lift at h
 grind
theorem bK:∀b o,Av p H b=some o->H b=some o:= λ b o h=>(eN.mp h).2
inductive tM (f:M D) (σ:St) (H:Hp) (Q:VK):Prop
 | mk (c:Ct) (δ:DS) (S:List D) (T:List V) (d:D) (δ':DS) (s:Sl c δ S σ T H) (e:f δ=some (d,δ')) (q:∀v H',Sl c δ' (d :: S) σ (v :: T) H' -> Q v H'):tM f σ H Q
inductive pX (f:M Bool) (σ:St) (H:Hp) (Q:Bool->Hp->Prop):Prop
 | mk (c:Ct) (δ:DS) (S:List D) (T:List V) (b:Bool) (δ':DS) (s:Sl c δ S σ T H) (e:f δ=some (b,δ')) (q:∀H',Sl c δ' S σ T H' -> Q b H'):pX f σ H Q
inductive Mv (f:M (List D)) (σ:St) (H:Hp) (Q:List V->Hp->Prop):Prop
 | mk (c:Ct) (δ:DS) (S:List D) (T:List V) (ds:List D) (δ':DS) (s:Sl c δ S σ T H) (e:f δ=some (ds,δ')) (q:∀vs H',vs.length=ds.length->Sl c δ' (ds ++ S) σ (vs ++ T) H' -> Q vs H'):Mv f σ H Q
inductive GP (f:M (List D)) (σ:St) (H:Hp) (Q:VK):Prop
 | mk (c:Ct) (δ:DS) (S:List D) (T:List V) (xs:List D) (δ':DS) (s:Sl c δ S σ T H) (e:f δ=some (xs,δ')) (q:∀l vs H',vs.length=xs.length->Sl { c with Z:=upd c.Z l (.lst vs) } δ' (xs ++ S) σ (vs ++ T) H' -> c.Z l=none->l ∉ c.B->c.H0 l=none->Q (.ref l) H'):GP f σ H Q
noncomputable abbrev DE(X:Cx)(e:Expr)(f:M D):Prop:=PE X e (tM f)
noncomputable abbrev DT(X:Cx)(e:Expr)(f:M Bool):Prop:=PT X e (pX f)
noncomputable abbrev DW(X:Cx)(e:Expr)(f:M Bool):Prop:=PW X e (pX f)
noncomputable abbrev DA(X:Cx)(es:List Expr)(f:M (List D)):Prop:=PA X es (Mv f)
noncomputable abbrev DF(X:Cx)(e:Expr)(f:M (List D)):Prop:=PE X e (GP f)
theorem cM(h:PE X e t)(w:∀σ H Q,t' σ H Q->t σ H Q):PE X e t':= λ pins s σ H Q I q=>h pins s σ H Q I (w σ H Q q)
theorem yP(h:PT X e t)(w:∀σ H Q,t' σ H Q->t σ H Q):PT X e t':= λ pins s σ H Q I q=>h pins s σ H Q I (w σ H Q q)
theorem Kb(h:PW X e t)(w:∀σ H Q,t' σ H Q->t σ H Q):PW X e t':= λ wh pins s σ H Q I q=>h wh pins s σ H Q I (w σ H Q q)
theorem KZ(h:PA X e t)(w:∀σ H Q,t' σ H Q->t σ H Q):PA X e t':= λ ps pins s σ H Q I q=>h ps pins s σ H Q I (w σ H Q q)
section
variable {X:Cx} {a b e:Expr} {fa fb:M D} {pos:Pos}
noncomputable def di(i:Nat):M D:= λ o=>match o[i]? with
 |some (.pu d)=>some (d,o)
 |_=>none
theorem oh (h:di i δ=some (d,δ')):δ[i]? = some (.pu d)∧δ=δ':= by
 unfold di at h
 grind
theorem ba(i:Nat){x:Str}{pos:Pos}(C:X.N[i]?=some x:=by rfl)(I:oW X.env.scope x:=by first | exact Or.inl rfl | exact Or.inr (Or.inl rfl) | exact Or.inr (Or.inr rfl))(hd:(x==("__debug__":Str))=false:=by decide)
  (o:(x==("__classdict__":Str))=false:=by decide):DE X (.Name x pos) (di i):=cM (cY C I hd o) λ σ H Q ⟨c,δ,S,T,d,J,s,e,k⟩=>by obtain⟨U,rfl⟩:=oh e;obtain⟨v,ev,r⟩:=s.pu i d U;exact⟨v,ev,k v H (s.stk (.cons r s.st))⟩
theorem LU(h:PE X e (tC v))(r:∀H,R H d v):DE X e (pure d):=cM h λ σ H Q ⟨c,C,S,T,d',o,s,e,k⟩=>by obtain⟨rfl,rfl⟩:=bg e;exact k v H (s.stk (.cons (r _) s.st))
theorem bf{j pos}:DE X (.Constant (.int i) j pos) (pure (.int i)):=LU qb λ _=> .mkI
theorem fV{j pos}:DE X (.Constant (.bool i) j pos) (pure (.bl i)):=LU vV λ _=> .mkB
theorem eR{j pos}:DE X (.Constant (.str i) j pos) (pure (.str i)):=LU dY λ _=> .mkS
theorem qd{j pos}:DE X (.Constant .none j pos) (pure .non):=LU IK λ _=> .mkN
theorem bz(h:DF X e f):DE X e (do let xs<- f;pure (.lst xs)):=cM h λ σ H Q ⟨c,C,S,T,d,I,s,e,k⟩=>by obtain⟨xs,o,J,U⟩:=bind_some e;obtain⟨rfl,rfl⟩:=bg U;exact⟨c,C,S,T,xs,o,s,J,λ l vs H' hl s' hz _ _=>k _ _ (s'.unhideL hl hz)⟩
noncomputable def qQ(r:R2)(f:D->D->Option D):Prop:=∀(c:Ct)(o:DS)(S:List D)(σ:St)(T:List V)(H:Hp)(x y:D)(v u:V)(d:D)(Q:VK),Sl c o (y::x::S) σ (u::v::T) H->f x y=some d->(∀z H',Sl c o (d::S) σ (z::T) H'->Q z H')->r v u H Q
noncomputable def m2(f:D->D->Option D)(fa fb:M D):M D:=do
 let x<- fa
 let y<- fb
 lift (f x y)
theorem wz(hd:qQ r f):∀σ H Q,tM (m2 f fa fb) σ H Q->uO r (tM fa) (tM fb) σ H Q:= λ σ H Q ⟨c,I,S,T,d,J,s,e,k⟩=>by obtain⟨x,o,U,e⟩:=bind_some e;obtain⟨y,C,e2,e⟩:=bind_some e;obtain⟨e3,rfl⟩:=bt e;exact⟨c,I,S,T,x,o,s,U,λ v H1 s1=>⟨c,o,x::S,v::T,y,C,s1,e2,λ u H2 s2=>hd _ _ _ _ _ _ _ _ _ _ _ _ s2 e3 k⟩⟩
theorem ka(o:gG X (binaryOp op) r)(hd:qQ r f)(C:DE X a fa)(I:DE X b fb):DE X (.BinOp a op b pos) (m2 f fa fb):=cM (rj o C I) (wz hd)
theorem jC(o:gG X (compareOp op) r)(hd:qQ r f)(C:DE X a fa)(I:DE X b fb)(hm:behindInMarks op b=false:=by first | exact t8 _ | rfl):DE X (.Compare a [op] [b] pos) (m2 f fa fb):=cM (Fi o C I hm) (wz hd)
theorem Lq(o:B2 X r)(hd:qQ r f)(C:DE X a fa)(I:DE X b fb)(hs:kx b:=by exact fun _ _=>rfl):DE X (.Subscript a b pos) (m2 f fa fb):=cM (AY o C I hs) (wz hd)
noncomputable def cZ(C:Int->Int->Bool)(g:Int->Int->D):D->D->Option D
 | .int i,.int j=>if C i j=true then some (g i j)else none
 |_,_=>none
theorem ff(h:cZ C g x y=some d):∃i j,x= .int i/\y= .int j/\C i j=true/\d=g i j:=by unfold cZ at h;grind
theorem qY{o:Int->Int->Bool}{g:Int->Int->V}{g':Int->Int->D}(I:∀i j,o i j=true->C i j)(J:∀H i j,R H (g' i j) (g i j)):qQ (rI C g) (cZ o g'):= λ c δ S σ T H x y v u d Q s e k=>by obtain⟨i,j,rfl,rfl,U,rfl⟩:=ff e;have h1:=s.st.head.int;have h2:=s.st.tail.head.int;exact⟨i,j,h2,h1,I i j U,k _ _ (s.stk (.cons (J _ _ _) s.st.tail.tail))⟩
theorem jT{g':Int->Int->D}(o:∀H i j,R H (g' i j) (g i j)):qQ (uk g) (cZ (λ _ _=>true) g'):= λ c J S σ T H x y v u d Q s e k=>by obtain⟨i,j,rfl,rfl,U,rfl⟩:=ff e;have C:=s.st.head.int;have I:=s.st.tail.head.int;exact⟨i,j,I,C,k _ _ (s.stk (.cons (o _ _ _) s.st.tail.tail))⟩
noncomputable def ng:=cZ (λ _ _=>true) λ i j=> .int (i+j)
noncomputable def Kh:=cZ (λ _ _=>true) λ i j=> .int (i-j)
noncomputable def ya:=cZ (λ i j=>(decide (-(2^64)<i)&&decide (i<2^64))||(decide (-(2^64)<j)&&decide (j<2^64))) λ i j=> .int (i*j)
noncomputable def EU:=cZ (λ _ j=>decide (0<j)) λ i j=> .int (i%j)
noncomputable def KC:=cZ (λ _ j=>decide (0<j)&&decide (j<1073741824)) λ i j=> .int (i/j)
noncomputable def yo:=cZ (λ _ _=>true) λ i j=> .bl (decide (i<j))
noncomputable def Gu:=cZ (λ _ _=>true) λ i j=> .bl (decide (i<=j))
noncomputable def uJ:=cZ (λ _ _=>true) λ i j=> .bl (decide (j<i))
theorem dR(o:DE X a fa)(C:DE X b fb):DE X (.BinOp a .Add b pos) (m2 ng fa fb):=ka Jn (jT λ _ _ _=> .mkI) o C
theorem kN(o:DE X a fa)(C:DE X b fb):DE X (.BinOp a .Sub b pos) (m2 Kh fa fb):=ka JN (jT λ _ _ _=> .mkI) o C
theorem pQ(o:DE X a fa)(C:DE X b fb):DE X (.BinOp a .Mult b pos) (m2 ya fa fb):=ka Jv (qY (λ i j h=>by simp at h;exact h) λ _ _ _=> .mkI) o C
theorem qk(o:DE X a fa)(C:DE X b fb):DE X (.BinOp a .Mod b pos) (m2 EU fa fb):=ka JJ (qY (λ i j h=>ZC h) λ _ _ _=> .mkI) o C
theorem Il(o:DE X a fa)(C:DE X b fb):DE X (.BinOp a .FloorDiv b pos) (m2 KC fa fb):=ka Ff (qY (λ i j h=>by simp at h;exact h) λ _ _ _=> .mkI) o C
theorem Kc (ha:DE X a fa) (hb:DE X b fb):DE X (.Compare a [.Gt] [b] pos) (m2 uJ fa fb):=jC FU (jT fun _ _ _=>.mkB) ha hb
noncomputable def i3:D->D->Option D
 | .tup ds,.int i=>jb ds i
 | .lst ds,.int i=>jb ds i
 |_,_=>none
theorem uy(h:Rs H ds vs)(e:jb ds i=some d):∃v,jb vs i=some v/\R H d v:=by unfold jb at*;rw[h.length];cases q:ym ds.length i with
 |none=>simp_all
 |some j=>rw[q]at e;exact h.get e
theorem Hv:qQ (Nj K) i3:= λ c U S σ T H x y v u d Q s e k=>by cases x with
 |tup ds=>cases y with
  |int i=>have o:jb ds i=some d:=e;obtain⟨p,vs,rfl,C,I⟩:=s.st.tail.head.tup;obtain⟨z,J,r⟩:=uy I o;exact .inr (.inl ⟨p,vs,i,z,rfl,s.st.head.int,.of (bK _ _ C),J,k _ _ (s.stk (.cons r s.st.tail.tail))⟩)
  |_=>cases e
 |lst ds=>cases y with
  |int i=>have o:jb ds i=some d:=e;obtain⟨p,vs,rfl,C,I⟩:=s.st.tail.head.lst;obtain⟨z,J,r⟩:=uy I o;exact .inl ⟨p,vs,i,z,rfl,s.st.head.int,.inl (Rd.mono bK C),J,k _ _ (s.stk (.cons r s.st.tail.tail))⟩
  |_=>cases e
 |_=>cases e
theorem bx(o:DE X a fa)(C:DE X b fb)(hs:kx b:=by exact fun _ _=>rfl):DE X (.Subscript a b pos) (m2 i3 fa fb):=Lq AG Hv o C hs
noncomputable def mE:D->M Bool
 | .bl b=>pure b
 |_=>lift none
theorem jo{b:Bool}{C o:DS}(h:mE d C=some (b,o)):d= .bl b/\C=o:=by
 unfold mE at h;split at h;. obtain⟨rfl,rfl⟩:=bg h;simp
 .cases h
theorem gS(C:gG X (compareOp op) r)(hd:qQ r f)(I:DE X a fa)(J:DE X b fb)(hm:behindInMarks op b=false:=by first | exact t8 _ | rfl):DT X (.Compare a [op] [b] pos) (m2 f fa fb >>= mE):=
 yP (qj C I J hm) λ σ H Q ⟨c,U,S,T,d,aa,s,e,k⟩=>by obtain⟨x,o,e1,e⟩:=bind_some e;obtain⟨rfl,rfl⟩:=jo e;exact wz hd σ H _ ⟨c,U,S,T,.bl d,o,s,e1,λ v H' s'=>⟨d,s'.st.head.bl,k _ s'.pop⟩⟩
theorem Ky (ha:DE X a fa) (hb:DE X b fb):DT X (.Compare a [.Lt] [b] pos) (m2 yo fa fb >>= mE):=gS we (jT fun _ _ _=>.mkB) ha hb
theorem zj (ha:DE X a fa) (hb:DE X b fb):DT X (.Compare a [.Gt] [b] pos) (m2 uJ fa fb >>= mE):=gS FU (jT fun _ _ _=>.mkB) ha hb
noncomputable def Mc:D->Option Bool
 | .non=>some false
 | .bl b=>some b
 | .int i=>some (i !=0)
 | .str y=>if y.length<=16777216 then some ((y.length:Int)!=0)else none
 | .tup ds=>some (!ds.isEmpty)
 | .lst ds=>some (!ds.isEmpty)
 | .dct=>none
 | .dic _=>none
 | .dip _=>none
theorem lJ(h:Rs H ds vs):(!ds.isEmpty)= !vs.isEmpty:=by cases ds with
 |nil=>rw[h.inv0];rfl
 |cons d ds=>obtain⟨v,r,e,_⟩:=h.inv;grind
theorem ES{J H:Hp}{d:D}{v:V}{b:Bool}(m:∀b o,J b=some o->H b=some o)(r:R J d v)(e:Mc d=some b):FG K v H b:=by cases d with
 |non=>cases r.non;cases e;rfl
 |bl x=>cases r.bl;cases e;rfl
 |int i=>cases r.int;cases e;rfl
 |str x=>cases r.str;have e:(if x.length<=16777216 then some ((x.length:Int)!=0)else none)=some b:=e;split at e;(cases e;exact⟨by rw[PySem.sizeLine_eq];assumption,rfl⟩);cases e
 |dct=>cases e
 |dic _=>cases e
 |dip _=>cases e
 |tup ds=>obtain⟨p,vs,rfl,C,I⟩:=r.tup;cases e;exact .inr (.inl ⟨vs,.of (m _ _ C),lJ I⟩)
 |lst ds=>obtain⟨p,vs,rfl,C,I⟩:=r.lst;cases e;exact .inl ⟨vs,.inl (Rd.mono m C),lJ I⟩
theorem cU(C:DE X a fa)(he:∀whole,isTrue a X.env whole=(do let v<- whole;standAt a.pos;holding [v] (truthy v)):=by intro _;rfl):DT X a (do let x<- fa;lift (Mc x)):=
 yP (sR C he) λ σ H Q ⟨c,I,S,T,d,J,s,e,k⟩=>by obtain⟨x,o,U,e⟩:=bind_some e;obtain⟨e2,rfl⟩:=bt e;exact⟨c,I,S,T,x,o,s,U,λ v H' s'=>⟨d,ES bK s'.st.head e2,k _ s'.pop⟩⟩
noncomputable def FI(fa fb:M Bool):M Bool:=do
 let x<- fa
 if x=true then fb else pure false
noncomputable def LJ(fa fb:M Bool):M Bool:=do
 let x<- fa
 if x=true then pure true else fb
noncomputable def Fg(fa:M Bool):M Bool:=do
 let x<- fa
 pure (!x)
variable {ta tb:M Bool} {rest:List Expr}
theorem uH(o:DT X a ta):DW X (.BoolOp .And [a] pos) ta:=DU o
theorem gi(o:DT X a ta):DW X (.BoolOp .Or [a] pos) ta:=zf o
theorem Bc(I:DT X a ta)(J:DW X (.BoolOp .And (b::rest) pos) tb):DW X (.BoolOp .And (a::b::rest) pos) (FI ta tb):=Kb (JI I J) λ σ H Q ⟨c,U,S,T,d,C,s,e,k⟩=>by obtain⟨x,o,e1,e⟩:=bind_some e;refine⟨c,U,S,T,x,o,s,e1,λ H' s'=>?_⟩;cases x with
 |true=>exact⟨c,o,S,T,d,C,s',e,k⟩
 |false=>obtain⟨rfl,rfl⟩:=bg e;simp_all
theorem jd(I:DT X a ta)(J:DW X (.BoolOp .Or (b::rest) pos) tb):DW X (.BoolOp .Or (a::b::rest) pos) (LJ ta tb):=Kb (FW I J) λ σ H Q ⟨c,U,S,T,d,C,s,e,k⟩=>by obtain⟨x,o,e1,e⟩:=bind_some e;refine⟨c,U,S,T,x,o,s,e1,λ H' s'=>?_⟩;cases x with
 |false=>exact⟨c,o,S,T,d,C,s',e,k⟩
 |true=>obtain⟨rfl,rfl⟩:=bg e;simp_all
theorem mx(h:DW X a ta):DT X a ta:=h.pt
theorem d6(C:DT X a ta):DT X (.UnaryOp .Not a pos) (Fg ta):=yP (zL C) λ σ H Q ⟨c,I,S,T,d,J,s,e,k⟩=>by obtain⟨x,o,U,e⟩:=bind_some e;obtain⟨rfl,rfl⟩:=bg e;exact⟨c,I,S,T,x,o,s,U,λ H' s'=>k _ s'⟩
noncomputable def E_(fa fb:M D):M D:=do
 let x<- fa
 match x with
 | .bl true=>fb
 | .bl false=>pure (.bl false)
 |_=>lift none
noncomputable def Ht(fa:M D):M D:=do
 let x<- fa
 match x with
 | .bl b=>pure (.bl (!b))
 |_=>lift none
theorem g_(h:DE X a fa):DE X (.BoolOp op [a] pos) fa:=Jq h
theorem gN(I:DE X a fa)(J:DE X (.BoolOp .And (b::rest) pos) fb):DE X (.BoolOp .And (a::b::rest) pos) (E_ fa fb):=cM (Hj I J) λ σ H Q ⟨c,U,S,T,d,C,s,e,k⟩=>by obtain⟨x,o,e1,e⟩:=bind_some e;refine⟨c,U,S,T,x,o,s,e1,λ v H' s'=>?_⟩;cases x with
 |bl q=>cases q with
  |true=>exact⟨true,s'.st.head.bl,Kx ⟨c,o,S,T,d,C,s'.pop,e,k⟩⟩
  |false=>obtain⟨rfl,rfl⟩:=bg e;exact⟨false,s'.st.head.bl,Nq (k _ _ (s'.stk (.cons .mkB s'.st.tail)))⟩
 |_=>cases e
theorem yT(C:DE X a fa):DE X (.UnaryOp .Not a pos) (Ht fa):=cM (Iz C) λ σ H Q ⟨c,I,S,T,d,J,s,e,k⟩=>by obtain⟨x,o,U,e⟩:=bind_some e;refine⟨c,I,S,T,x,o,s,U,λ v H' s'=>?_⟩;cases x with
 |bl q=>obtain⟨rfl,rfl⟩:=bg e;exact⟨q,s'.st.head.bl,k _ _ (s'.stk (.cons .mkB s'.st.tail))⟩
 |_=>cases e
noncomputable def EA{α:Type}(t:M Bool)(fa fb:M α):M α:=do
 let x<- t
 if x=true then fa else fb
variable {es:List Expr} {fs:M (List D)}
theorem bc:DA X [] (pure []):=KZ cy λ σ H Q ⟨c,C,S,T,d,o,s,e,k⟩=>by obtain⟨rfl,rfl⟩:=bg e;exact k [] H rfl s
noncomputable def bw(fa:M D)(fs:M (List D)):M (List D):=do
 let x<- fa
 let xs<- fs
 pure (x::xs)
theorem a_(J:DE X a fa)(U:DA X es fs)(hs:starEach (a::es) X.env=(false,eval a X.env)::starEach es X.env:=by rfl):DA X (a::es) (bw fa fs):=KZ (bA J U hs) λ σ H Q ⟨c,δ,S,T,d,aa,s,e,k⟩=>by obtain⟨x,o,e1,e⟩:=bind_some e;obtain⟨xs,C,e2,e⟩:=bind_some e;obtain⟨rfl,rfl⟩:=bg e;refine⟨c,δ,S,T,x,o,s,e1,λ v H1 s1=>⟨c,o,x::S,v::T,xs,C,s1,e2,λ vs H2 l s2=>k (v::vs) H2 (by grind) (s2.stk ?_)⟩⟩;have h1:=s2.st.left l;have I:=s2.st.right l;exact .cons I.head (h1.append I.tail)
noncomputable def few(n:Nat):Option Unit:=if n<=100000 then some ()else none
theorem gX(h:few n=some u):n<=sizeLine/\n<sizeLine:=by
 unfold few at h;split at h
 .have:100000<sizeLine:=by decide
  omega
 grind
noncomputable def eS(fs:M (List D)):M D:=do
 let ds<- fs
 let _<- lift (few ds.length)
 pure (.tup ds)
noncomputable def qf(fs:M (List D)):M (List D):=do
 let ds<- fs
 let _<- lift (few ds.length)
 pure ds
theorem bJ(h:DA X es fs):DE X (.Tuple es x1 pos) (eS fs):=cM (Hi h) λ σ H Q ⟨c,C,S,T,d,I,s,e,k⟩=>by obtain⟨ds,o,J,e⟩:=bind_some e;obtain⟨_,U,e2,e⟩:=bind_some e;obtain⟨e3,rfl⟩:=bt e2;obtain⟨rfl,rfl⟩:=bg e;exact⟨c,C,S,T,ds,o,s,J,λ vs H1 l s1=>⟨by rw[l];exact(gX e3).1,λ p hp=>k _ _ (s1.newTup l hp)⟩⟩
theorem cG(h:DA X es fs):DF X (.List es pos) (qf fs):=cM (jH h) λ σ H Q ⟨c,I,S,T,d,J,s,e,k⟩=>by obtain⟨ds,o,U,e⟩:=bind_some e;obtain⟨_,aa,e2,e⟩:=bind_some e;obtain⟨e3,rfl⟩:=bt e2;obtain⟨rfl,rfl⟩:=bg e;refine⟨c,I,S,T,ds,o,s,U,λ vs H1 l s1=>⟨by rw[l];exact(gX e3).1,λ p C=>?_⟩⟩;obtain⟨f1,f2,f3⟩:=s1.fresh C;exact k p vs _ l (s1.hide C) f1 f2 f3
noncomputable def ji(r:List V->Hp->VK->Prop)(f:List D->Option D):Prop:=∀(c:Ct)(o:DS)(S:List D)(σ:St)(T:List V)(H:Hp)(ds:List D)(vs:List V)(d:D)(Q:VK),vs.length=ds.length->Sl c o (ds++S) σ (vs++T) H->f ds=some d->(∀z H',Sl c o (d::S) σ (z::T) H'->Q z H')->r vs H Q
noncomputable def AK(r:List V->Hp->VK->Prop)(f:List D->Option (List D)):Prop:=∀(c:Ct)(o:DS)(S:List D)(σ:St)(T:List V)(H:Hp)(ds:List D)(vs:List V)(xs:List D)(Q:VK),vs.length=ds.length->Sl c o (ds++S) σ (vs++T) H->f ds=some xs->
 (∀l ws H',ws.length=xs.length->Sl { c with Z:=upd c.Z l (.lst ws) } o (xs++S) σ (ws++T) H'->c.Z l=none->l∉c.B->c.H0 l=none->Q (.ref l) H')->r vs H Q
noncomputable def mC{α:Type}(f:List D->Option α)(fs:M (List D)):M α:=do
 let ds<- fs
 lift (f ds)
variable {x:Str} {p:Pos} {id T:String} {r:List V->Hp->VK->Prop} {f:List D->Option D} {g:List D->Option (List D)}
theorem GK(hd:ji r f):∀σ H Q,tM (mC f fs) σ H Q->MD r (Mv fs) σ H Q:= λ σ H Q ⟨c,C,S,T,d,I,s,e,k⟩=>by obtain⟨ds,o,J,e⟩:=bind_some e;obtain⟨U,rfl⟩:=bt e;exact⟨c,C,S,T,ds,o,s,J,λ vs H1 l s1=>hd _ _ _ _ _ _ _ _ _ _ l s1 U k⟩
theorem Ip(hd:AK r g):∀σ H Q,GP (mC g fs) σ H Q->MD r (Mv fs) σ H Q:= λ σ H Q ⟨c,C,S,T,d,I,s,e,k⟩=>by obtain⟨ds,o,J,e⟩:=bind_some e;obtain⟨U,rfl⟩:=bt e;exact⟨c,C,S,T,ds,o,s,J,λ vs H1 l s1=>hd _ _ _ _ _ _ _ _ _ _ l s1 U k⟩
noncomputable def i7:List D->Option D
 |[.tup ds]=>some (.int ds.length)
 |[.lst ds]=>some (.int ds.length)
 |_=>none
theorem wK(h:Rs H [d] vs):∃v,vs=[v]/\R H d v:=by obtain⟨v,r,e,C,o⟩:=h.inv;rw[o.inv0]at e;grind
theorem NQ(h:Rs H [d,d'] vs):∃v u,vs=[v,u]/\R H d v/\R H d' u:=by obtain⟨v,r,e,C,o⟩:=h.inv;obtain⟨u,rfl,I⟩:=wK o;grind
theorem JF:ji (λ xs H Q=>∃p ys,xs=[.ref p]/\(gK K H p ys\/fv K H p ys)/\Q (.int ys.length) H) i7:= λ c J S σ T H ds vs d Q l s e k=>by
 have h:=s.st.left l;have I:=s.st.right l;unfold i7 at e;split at e;. obtain⟨v,rfl,r⟩:=wK h;obtain⟨p,ws,rfl,o,C⟩:=r.tup;cases e;exact⟨p,ws,rfl,.inr (.of (bK _ _ o)),k _ _ (s.stk (.cons (by rw[C.length];exact .mkI) I))⟩
 .obtain⟨v,rfl,r⟩:=wK h;obtain⟨p,ws,rfl,o,C⟩:=r.lst;cases e;exact⟨p,ws,rfl,.inl (.inl (Rd.mono bK o)),k _ _ (s.stk (.cons (by rw[C.length];exact .mkI) I))⟩
 grind
theorem ib(I:dw X (.builtin id) r)(hd:ji r f)(J:Gl X x)(hm:X.mg x=none)(U:bootBuiltins x=some (.builtin id))(ha:DA X (a::es) fs)(hn:x≠"__name__":=by decide)(o:(x==("__debug__":Str))=false:=by decide)
  (he:starEach (a::es) X.env=(false,eval a X.env)::starEach es X.env:=by rfl)(C:(backTo pos (starEach es X.env)).any (·.1)=false:=by rfl):DE X (.Call (.Name x p) (a::es) [] pos) (mC f fs):=
 cM (dA I J hm U ha hn o he C) (GK hd)
end
inductive Fl where
 | nx | bk | ct | rt (d:D) | rf (xs:List D)
noncomputable def Fin(c:Ct)(o:DS)(S:List D)(T:List V)(C:Fl)(E:Ends):Prop:=
 match C with
 | .nx=>∀σ H,Sl c o S σ T H->E.nx σ H
 | .bk=>∀σ H,Sl c o S σ T H->E.bk σ H
 | .ct=>∀σ H,Sl c o S σ T H->E.ct σ H
 | .rt d=>∀v σ H,Sl c o (d::S) σ (v::T) H->E.rt v H
 | .rf xs=>∀l vs σ H,vs.length=xs.length->Sl { c with Z:=upd c.Z l (.lst vs) } o (xs++S) σ (vs++T) H->c.Z l=none->l∉c.B->c.H0 l=none->E.rt (.ref l) H
inductive J8 (f:M Fl) (E:Ends) (σ:St) (H:Hp):Prop
 | mk (c:Ct) (δ:DS) (S:List D) (T:List V) (fl:Fl) (δ':DS) (s:Sl c δ S σ T H) (e:f δ=some (fl,δ')) (q:Fin c δ' S T fl E):J8 f E σ H
noncomputable abbrev ku(X:Cx)(st:Stmt)(f:M Fl):Prop:=PS X st (J8 f)
noncomputable abbrev pZ(X:Cx)(st:List Stmt)(f:M Fl):Prop:=mV X st (J8 f)
theorem iE(h:PS X e t)(w:∀E σ H,t' E σ H->t E σ H):PS X e t':= λ pins s σ H Q I q=>h pins s σ H Q I (w Q σ H q)
theorem GV(h:mV X e t)(w:∀E σ H,t' E σ H->t E σ H):mV X e t':= λ pins s σ H Q I q=>h pins s σ H Q I (w Q σ H q)
section
variable {X:Cx} {a b e:Expr} {fa:M D} {fF:M (List D)} {pos:Pos} {st:Stmt} {rest:List Stmt} {f g:M Fl} {tt:M Bool}
theorem cm:pZ X [] (pure .nx):=GV u_ λ E σ H ⟨c,C,S,T,I,o,s,e,k⟩=>by obtain⟨rfl,rfl⟩:=bg e;exact k σ H s
noncomputable def eC(f g:M Fl):M Fl:=do
 let o<- f
 match o with
 | .nx=>g
 |o=>pure o
theorem bh(J:ku X st f)(U:pZ X rest g):pZ X (st::rest) (eC f g):=GV (f6 J U) λ E σ H ⟨c,δ,S,T,fl,I,s,e,k⟩=>by obtain⟨o,C,e1,e⟩:=bind_some e;refine⟨c,δ,S,T,o,C,s,e1,?_⟩;cases o with
 |nx=>exact λ aa H' s'=>⟨c,C,S,T,fl,I,s',e,k⟩
 |bk=>obtain⟨rfl,rfl⟩:=bg e;exact k
 |ct=>obtain⟨rfl,rfl⟩:=bg e;exact k
 |rt d=>obtain⟨rfl,rfl⟩:=bg e;exact k
 |rf xs=>obtain⟨rfl,rfl⟩:=bg e;exact k
theorem bp(o:ku X st f):pZ X [st] f:=kz o
theorem bF(he:DE X e fa):ku X (.Return (some e) pos) (do let d<- fa;pure (.rt d)):=iE (qA he) λ E σ H ⟨c,C,S,T,U,I,s,e,k⟩=>by obtain⟨d,o,J,e⟩:=bind_some e;obtain⟨rfl,rfl⟩:=bg e;exact⟨c,C,S,T,d,o,s,J,λ v H' s'=>k v σ H' s'⟩
theorem qu(he:DF X e fF):ku X (.Return (some e) pos) (do let d<- fF;pure (.rf d)):=iE (qA he) λ E σ H ⟨c,C,S,T,fl,I,s,e,k⟩=>by obtain⟨d,o,J,e⟩:=bind_some e;obtain⟨rfl,rfl⟩:=bg e;exact⟨c,C,S,T,d,o,s,J,λ l vs H' U h2 h3 h4 h5=>k l vs σ H' U h2 h3 h4 h5⟩
noncomputable def oD(i:Nat):M (List D):= λ o=>match o[i]? with
 |some (.ow false xs)=>some (xs,o.set i .un)
 |_=>none
theorem Iu(i:Nat){x:Str}{pos:Pos}(J:X.N[i]?=some x:=by rfl)(U:oW X.env.scope x:=by first | exact Or.inl rfl | exact Or.inr (Or.inl rfl) | exact Or.inr (Or.inr rfl))(hd:(x==("__debug__":Str))=false:=by decide)
  (o:(x==("__classdict__":Str))=false:=by decide):DF X (.Name x pos) (oD i):=cM (cY J U hd o) λ σ H Q ⟨c,δ,S,T,xs,aa,s,e,k⟩=>by
 unfold oD at e;split at e;. rename_i ys C;cases e;obtain⟨a,ab,I,_⟩:=s.ow i _ _ C;obtain⟨vs,h1,h2,h3,h4,h5⟩:=s.giveOw C I;exact⟨_,I,k a vs H h1 h2 h3 h4 h5⟩
 grind
theorem dN(J:DT X t tt)(U:pZ X as f)(hb:pZ X bs g):ku X (.If t as bs pos) (EA tt f g):=iE (Gr J U hb) λ E σ H ⟨c,δ,S,T,I,C,s,e,k⟩=>by obtain⟨x,o,e1,e⟩:=bind_some e;refine⟨c,δ,S,T,x,o,s,e1,λ H' s'=>?_⟩;cases x with
 |true=>exact⟨c,o,S,T,I,C,s',e,k⟩
 |false=>exact⟨c,o,S,T,I,C,s',e,k⟩
theorem pq(he:DE X e fa)(hs:swapsWith e none pos.line X.env=pure false:=by rfl):ku X (.Expr e pos) (do let _<- fa;pure .nx):=iE (vk he hs) λ E σ H ⟨c,C,S,T,U,I,s,e,k⟩=>by obtain⟨x,o,J,e⟩:=bind_some e;obtain⟨rfl,rfl⟩:=bg e;exact⟨c,C,S,T,x,o,s,J,λ v H' s'=>k _ _ s'.pop⟩
noncomputable def jk(i:Nat)(d:D):M Unit:= λ o=>if i<o.length then some ((),o.set i (.pu d))else none
noncomputable def Ab(i:Nat)(xs:List D):M Unit:= λ o=>if i<o.length then some ((),o.set i (.ow false xs))else none
theorem iw{u:Unit}(h:jk i d C=some (u,o)):i<C.length/\o=C.set i (.pu d):=by unfold jk at h;grind
theorem n_{u:Unit}(h:Ab i d C=some (u,o)):i<C.length/\o=C.set i (.ow false d):=by unfold Ab at h;grind
noncomputable def uU(i:Nat)(fa:M D):M Fl:=do
 let d<- fa
 jk i d
 pure .nx
noncomputable def FY(i:Nat)(fF:M (List D)):M Fl:=do
 let d<- fF
 Ab i d
 pure .nx
theorem Kr(w:∀σ H Q,tM fa σ H Q->te σ H Q):∀E σ H,J8 (uU i fa) E σ H->ko te (gH i) E σ H:= λ E σ H ⟨c,C,S,T,fl,I,s,e,k⟩=>by obtain⟨d,o,J,e⟩:=bind_some e;obtain⟨u,U,e2,e⟩:=bind_some e;obtain⟨rfl,rfl⟩:=bg e;obtain⟨hi,rfl⟩:=iw e2;exact w _ _ _ ⟨c,C,S,T,d,o,s,J,λ v H' s'=>k _ _ (s'.setPu hi)⟩
theorem L7(w:∀σ H Q,GP fF σ H Q->te σ H Q):∀E σ H,J8 (FY i fF) E σ H->ko te (gH i) E σ H:= λ E σ H ⟨c,C,S,T,fl,I,s,e,k⟩=>by obtain⟨d,o,J,e⟩:=bind_some e;obtain⟨u,U,e2,e⟩:=bind_some e;obtain⟨rfl,rfl⟩:=bg e;obtain⟨hi,rfl⟩:=n_ e2;exact w _ _ _ ⟨c,C,S,T,d,o,s,J,λ l vs H' h1 h2 h3 h4 h5=>k _ _ (h2.setOw h1 h3 h4 h5 hi)⟩
theorem bP(i:Nat){x:Str}{pos':Pos}(o:X.N.Nodup)(he:DE X e fa)(C:X.N[i]?=some x:=by rfl)(hx:Loc X.env.scope x:=by first | exact Or.inl rfl | exact Or.inr rfl)(hs:swapsWith e (some (.Name x pos')) pos.line X.env=pure false:=by rfl)
  (hf:X.fn x=true\/X.env.scope.names.lookup x=some .local:=by first | exact .inl rfl | exact .inr rfl | assumption):ku X (.Assign [.Name x pos'] e pos) (uU i fa):=iE (g7 o C hx he hs hf) (Kr λ _ _ _ h=>h)
theorem ir(i:Nat){x:Str}{pos':Pos}(o:X.N.Nodup)(he:DF X e fF)(C:X.N[i]?=some x:=by rfl)(hx:Loc X.env.scope x:=by first | exact Or.inl rfl | exact Or.inr rfl)(hs:swapsWith e (some (.Name x pos')) pos.line X.env=pure false:=by rfl)
  (hf:X.fn x=true\/X.env.scope.names.lookup x=some .local:=by first | exact .inl rfl | exact .inr rfl | assumption):ku X (.Assign [.Name x pos'] e pos) (FY i fF):=iE (g7 o C hx he hs hf) (L7 λ _ _ _ h=>h)
inductive JB (lo:Nat) (f:D->M Unit) (v:V) (σ:St) (H:Hp) (Q:St->Hp->Prop):Prop
 | mk (c:Ct) (δ:DS) (S:List D) (T:List V) (d:D) (δ':DS) (s:Sl c δ (d :: S) σ (v :: T) H) (e:f d δ=some ((),δ')) (q:∀σ' H',(∀n,n ≤ lo->σ'.take n=σ.take n)->Sl c δ' S σ' T H' -> Q σ' H'):JB lo f v σ H Q
inductive Lb (lo:Nat) (f:List D->M Unit) (vs:List V) (σ:St) (H:Hp) (Q:St->Hp->Prop):Prop
 | mk (c:Ct) (δ:DS) (S:List D) (T:List V) (ds:List D) (δ':DS) (l:vs.length=ds.length) (s:Sl c δ (ds ++ S) σ (vs ++ T) H) (e:f ds δ=some ((),δ')) (q:∀σ' H',(∀n,n ≤ lo->σ'.take n=σ.take n)->Sl c δ' S σ' T H' -> Q σ' H'):Lb lo f vs σ H Q
noncomputable abbrev DG(X:Cx)(lo:Nat)(tg:Expr)(f:D->M Unit):Prop:=PG X tg (JB lo f)
noncomputable abbrev MA(X:Cx)(lo:Nat)(tg:List Expr)(f:List D->M Unit):Prop:=Hc X tg (Lb lo f)
theorem KL(h:PG X e t)(w:∀v σ H Q,t' v σ H Q->t v σ H Q):PG X e t':= λ pins s σ H v u Q I r q=>h pins s σ H v u Q I r (w v σ H Q q)
theorem Gw{e:List Expr}{t t':Gy}(h:Hc X e t)(w:∀v σ H Q,t' v σ H Q->t v σ H Q):Hc X e t':= λ pins s σ H v u Q I r q=>h pins s σ H v u Q I r (w v σ H Q q)
theorem cg(i:Nat){x:Str}{pos:Pos}(I:X.N.Nodup)(o:lo<=i:=by decide)(C:X.N[i]?=some x:=by rfl)(hx:Loc X.env.scope x:=by first | exact Or.inl rfl | exact Or.inr rfl)
  (hf:X.fn x=true\/X.env.scope.names.lookup x=some .local:=by first | exact .inl rfl | exact .inr rfl | assumption):DG X lo (.Name x pos) (jk i):=KL (Cy I C hx hf) λ v σ H Q ⟨c,δ,S,T,d,J,s,e,k⟩=>by obtain⟨C,rfl⟩:=iw e;exact k _ _ (λ n U=>List.take_set_of_le (ZJ U o)) (s.setPu C)
noncomputable def AA:List D->M Unit
 |[]=>pure ()
 |_=>lift none
noncomputable def uc(f:D->M Unit)(g:List D->M Unit):List D->M Unit
 |d::ds=>do
  f d
  g ds
 |_=>lift none
theorem pe:MA X lo [] AA:=Gw DZ λ v σ H Q ⟨c,C,S,T,ds,o,l,s,e,k⟩=>by cases ds with
 |nil=>obtain⟨_,rfl⟩:=bg e;have:v=[]:=Z8 l;subst this;exact⟨rfl,k σ H (λ _ _=>rfl) s⟩
 |cons d ds=>cases e
theorem fT{e:Expr}{es:List Expr}{f:D->M Unit}{g:List D->M Unit}(U:DG X lo e f)(h2:MA X lo es g)
  (hs:(assignEach (e::es) X.env).map (·.2)=assign e X.env::(assignEach es X.env).map (·.2):=by rfl):MA X lo (e::es) (uc f g):=Gw (B0 U h2 hs) λ vs σ H Q ⟨c,δ,S,T,ds,C,l,s,e,k⟩=>by cases ds with
 |nil=>cases e
 |cons d ds=>cases vs with
  |nil=>cases l
  |cons v vs=>obtain⟨u,o,e1,e2⟩:=bind_some e;exact⟨v,vs,rfl,c,δ,ds++S,vs++T,d,o,s,e1,λ aa H1 t1 s1=>⟨c,o,S,T,ds,C,by grind,s1,e2,λ I H2 t2 s2=>k I H2 (λ n J=>(t2 n J).trans (t1 n J)) s2⟩⟩
noncomputable def z9(n:Nat)(g:List D->M Unit):D->M Unit
 | .tup ds=>if ds.length=n then g ds else lift none
 |_=>lift none
theorem uq{k:Nat}{g:List D->M Unit}{n:Nat}(h:MA X lo es g)(hc:X.calm=true:=by rfl)
  (hn:(assignEach es X.env).length=n:=by rfl)(C:(assignEach es X.env).findIdx? (·.1)=none:=by rfl):DG X lo (.Tuple es k pos) (z9 n g):=KL (IZ hc h hn C) λ v σ H Q ⟨c,U,S,T,d,o,s,e,k⟩=>by cases d with
 |tup ds=>
  have I:(if ds.length=n then g ds else lift none) U=some ((),o):=e;split at I;. obtain⟨p,vs,rfl,h1,J⟩:=s.st.head.tup;exact⟨p,vs,rfl,.of (bK _ _ h1),by rw[J.length];omega,c,U,S,T,ds,o,J.length,s.stk (J.append s.st.tail),I,k⟩
  .cases I
 |_=>cases e
theorem Ih{g:D->M Unit}(he:DE X e fa)(I:DG X 0 tg g)(hs:swapsWithSole [tg] e pos.line X.env=pure false:=by rfl)(hw:swappedStores [tg] e X.env=pure none:=by rfl)
  (J:(assignEach [tg] X.env).map (·.2)=[assign tg X.env]:=by rfl):ku X (.Assign [tg] e pos) (do let d<- fa;g d;pure .nx):=iE (Bz he I hs hw J) λ E σ H ⟨c,U,S,T,fl,aa,s,e,k⟩=>by obtain⟨d,o,e1,e⟩:=bind_some e;obtain⟨u,C,e2,e⟩:=bind_some e;obtain⟨rfl,rfl⟩:=bg e;exact⟨c,U,S,T,d,o,s,e1,λ v H' s'=>⟨c,o,S,T,d,C,s',e2,λ ab H2 _ s2=>k _ _ s2⟩⟩
noncomputable abbrev jy:=List (DS->Option D)×(DS->Bool)
noncomputable def KJ(J:It)(its:jy)(C:List D)(I:List V):Prop:=∀(c:Ct)(o:DS)(S:List D)(σ:St)(T:List V)(H:Hp)(i:Nat),Sl c o (C++S) σ (I++T) H->
 (∀act d,its.1[i]?=some act->act o=some d->J.go i H/\∀x H',J.yld i H x H'->Sl c o (d::(C++S)) σ (x::(I++T)) H')/\(i=its.1.length->its.2 o=true->J.stop i H)
inductive Mj (f:M jy) (σ:St) (H:Hp) (R:It->Hp->Prop):Prop
 | mk (c:Ct) (δ:DS) (S:List D) (T:List V) (it:jy) (δ':DS) (s:Sl c δ S σ T H) (e:f δ=some (it,δ')) (q:∀J Sx Tx H',Tx.length=Sx.length->KJ J it Sx Tx->Sl c δ' (Sx ++ S) σ (Tx ++ T) H' -> R J H'):Mj f σ H R
noncomputable abbrev DI(X:Cx)(tg iter:Expr)(f:M jy):Prop:=PI X tg iter (Mj f)
theorem yG{tg e:Expr}{t t':TI}(h:PI X tg e t)(w:∀σ H Q,t' σ H Q->t σ H Q):PI X tg e t':= λ pins s σ H Q I q=>h pins s σ H Q I (w σ H Q q)
noncomputable def bL(ds:List D):jy:=(ds.map λ d _=>some d,λ _=>true)
theorem iA{i:Nat}{act:DS->Option D}{o:DS}{d:D}(h:(bL ds).1[i]?=some act)(e:act o=some d):ds[i]?=some d:=by unfold bL at h;grind
theorem Fq{X:Cx}(hK:X.K=K){a:Addr}{ds:List D}:KJ (Nh K a) (bL ds) [.tup ds] [.ref a]:= λ c δ S σ T H i s=>by obtain⟨p,vs,e,J,C⟩:=s.st.head.tup;cases e;have o:fv K H a vs:= .of (bK _ _ J);refine⟨λ act d U hd=>?_,λ e _=>⟨vs,o,by rw[C.length,e];simp[bL]⟩⟩;obtain⟨v,I,r⟩:=C.get (iA U hd);refine⟨⟨vs,v,o,I⟩,λ x H' y=>?_⟩;obtain⟨rfl,y⟩:=y;have:=y vs o;rw[I]at this;cases this;exact s.stk (.cons r s.st)
theorem DP{a:Addr}{ds:List D}:KJ (Mw K a) (bL ds) [.lst ds] [.ref a]:= λ c δ S σ T H i s=>by obtain⟨p,vs,e,J,C⟩:=s.st.head.lst;cases e;have o:gK K H a vs:= .inl (Rd.mono bK J);refine⟨λ act d U hd=>?_,λ e _=>⟨vs,o,by rw[C.length,e];simp[bL]⟩⟩;obtain⟨v,I,r⟩:=C.get (iA U hd);refine⟨⟨vs,v,o,I⟩,λ x H' y=>?_⟩;obtain⟨rfl,y⟩:=y;have:=y vs o;rw[I]at this;cases this;exact s.stk (.cons r s.st)
noncomputable def me:D->Option jy
 | .tup ds=>some (bL ds)
 | .lst ds=>some (bL ds)
 |_=>none
theorem JL{tg l:Expr}{U:TE}(hl:PE X l U):PI X tg l (λ σ H R=>U σ H λ x H1=>∃a,x= .ref a/\(((∃xs,gK X.K H1 a xs)/\R (Mw X.K a) H1)\/((∃xs,fv X.K H1 a xs)/\R (Nh X.K a) H1))):=by
 intro pins s σ H R I h;refine cC (hl pins s σ H _ I h) λ v s1 ⟨x,H1,C,r1,q1⟩=>?_;obtain⟨a,e,q⟩:=q1;subst e;cases r1;rcases q with⟨⟨xs,J⟩,q⟩|⟨⟨xs,J⟩,q⟩
 .obtain⟨its,rv,p,hz⟩:=C.list J;refine VW p.isList ?_;refine⟨s1.heap.objs.size,[s1.heap.objs.size],_,_,H1,rfl,C.kept (t':=s1.toks) λ b o e=>kT _ e,nF a _,⟨_,wN _ rfl,rfl,rfl⟩,λ b hb=>?_,q⟩;have e:b=s1.heap.objs.size:=by simp_all
  subst e;exact C.fpOk (xS _) (C.hok.fresh (xS _))
 .obtain⟨its,rv,p,hz⟩:=C.tuple J;refine wpAny_pyIter_tuple (show s1.heap.IsTuple a its.toArray from p) ?_;refine⟨s1.heap.objs.size,[s1.heap.objs.size],_,_,H1,rfl,C.kept (t':=s1.toks) λ b o e=>kT _ e,sX a _,⟨_,wN _ rfl,rfl,rfl⟩,λ b hb=>?_,q⟩;have e:b=s1.heap.objs.size:=by simpa using hb
  subst e;exact C.fpOk (xS _) (C.hok.fresh (xS _))
theorem cF{tg l:Expr}(J:DE X l fa):DI X tg l (do let x<- fa;lift (me x)):=yG (JL J) λ σ H R ⟨c,U,S,T,it,aa,s,e,k⟩=>by obtain⟨x,o,e1,e⟩:=bind_some e;obtain⟨C,rfl⟩:=bt e;refine⟨c,U,S,T,x,o,s,e1,λ v H' s'=>?_⟩;cases x with
 |tup ds=>cases C;obtain⟨p,vs,rfl,I,h2⟩:=s'.st.head.tup;exact⟨p,rfl,.inr ⟨⟨vs,.of (bK _ _ I)⟩,k _ [.tup ds] [.ref p] H' rfl (Fq rfl) s'⟩⟩
 |lst ds=>cases C;obtain⟨p,vs,rfl,I,h2⟩:=s'.st.head.lst;exact⟨p,rfl,.inl ⟨⟨vs,.inl (Rd.mono bK I)⟩,k _ [.lst ds] [.ref p] H' rfl DP s'⟩⟩
 |_=>cases C
noncomputable def b_(lo:Int)(n:Nat):List D:=(List.range n).map λ(i:Nat)=>D.int (lo+(i:Int))
theorem Cv:KJ (Mg lo n) (bL (b_ lo n)) [] []:= λ c I S σ T H i s=>by
 refine⟨λ act d C hd=>?_,λ e _=>by
  have:(bL (b_ lo n)).1.length=n:=by simp[bL,b_]
  show n<=i;omega⟩;have h:=iA C hd;unfold b_ at h;rw[QH]at h;have o:i<n:=by grind
 rw[List.getElem?_range o]at h;cases h;refine⟨o,λ x H' y=>?_⟩;obtain⟨rfl,rfl⟩:=y;exact s.stk (.cons .mkI s.st)
noncomputable def iV(i:Int):Bool:=decide (-(2^62)<=i)&&decide (i<2^62)
noncomputable def mH:List D->Option jy
 |[.int j]=>if iV j=true then some (bL (b_ 0 j.toNat))else none
 |_=>none
theorem bO{tg a:Expr}{p:Pos}{fs:M (List D)}(J:Gl X "range")(hm:X.mg "range"=none)(U:DA X [a] fs)(hs:starEach [a] X.env=[(false,eval a X.env)]:=by rfl):DI X tg (.Call (.Name "range" p) [a] [] pos) (mC mH fs):=
 yG (xc J hm U hs) λ σ H R ⟨c,δ,S,T,it,aa,s,e,k⟩=>by
  obtain⟨ds,C,e1,e⟩:=bind_some e;obtain⟨o,rfl⟩:=bt e;refine⟨c,δ,S,T,ds,C,s,e1,λ vs H' l s'=>?_⟩;unfold mH at o;split at o
  .split at o;. rename_i j I;cases o;obtain⟨v,rfl,r⟩:=wK (s'.st.left l);cases r.int;simp[iV]at I;exact⟨j,rfl,I.1,I.2,k _ [] [] H' rfl Cv (s'.stk (s'.st.right l))⟩
   .cases o
  grind
noncomputable def dI(i n:Nat):jy:=((List.range n).map λ(j:Nat) (o:DS)=>match o[i]? with
 |some (.ow _ xs)=>if xs.length=n then xs[j]? else none
 |_=>none,λ o=>match o[i]? with
 |some (.ow _ xs)=>decide (xs.length=n)
 |_=>false)
noncomputable def dH(i:Nat):M (List D):= λ o=>match o[i]? with
 |some (.ow _ xs)=>some (xs,o)
 |_=>none
theorem cf{C o:DS}(h:dH i C=some (xs,o)):(∃b,C[i]?=some (.ow b xs))/\C=o:=by unfold dH at h;grind
end
section
variable {X:Cx} {a b e tg iter elt:Expr} {te:M D} {pos:Pos} {st:Stmt} {f body:M Fl} {tt:M Bool} {fi:M jy} {gt:D->M Unit}
theorem Sl.drop(s:Sl c o (A++S) σ (P++T) H)(l:P.length=A.length):Sl c o S σ T H:=s.stk (s.st.right l)
theorem Sl.rot(s:Sl c C (A++(B++S)) σ (P++(Q++T)) H)(l:P.length=A.length)(o:Q.length=B.length):Sl c C (B++(A++S)) σ (Q++(P++T)) H:=
 s.stk (((s.st.right l).left o).append ((s.st.left l).append ((s.st.right l).right o)))
noncomputable def forM(gt:D->M Unit)(body:M Fl)(fin:DS->Bool):List (DS->Option D)->M Fl
 |[]=> λ o=>if fin o=true then some (.nx,o)else none
 |a::r=> λ o=>match a o with
  |none=>none
  |some d=>(do
   gt d
   let C<- body
   match C with
   | .nx=>forM gt body fin r
   | .ct=>forM gt body fin r
   | .bk=>pure .nx
   | .rt d=>pure (.rt d)
   | .rf d=>pure (.rf d)) o
theorem fw(hi:DI X tg iter fi)(hg:DG X 0 tg gt)(hb:pZ X ag body)(hp:PassesOwn (model X.prog X.w) X.A X.env X.xe:=by exact PassesOwn.never)(hc:X.calm=true:=by rfl)
  (hs:∀x,foldedSetIterable iter X.env x=pure x:=by intro _;rfl):ku X (.For tg iter ag [] pos) (do let it<- fi;forM gt body it.2 it.1):=iE (Jc hp hc hi hg hb hs) λ E ak H0 ⟨c,ah,S,T,fl,aa,s0,e,k⟩=>by
 obtain⟨it,ab,e1,e⟩:=bind_some e;refine⟨c,ah,S,T,it,ab,s0,e1,λ J Sx Tx H1 l hJ s1=>?_⟩;obtain⟨items,fin⟩:=it;refine⟨λ i m σ H=>∃o,m=items.length-i/\i<=items.length/\Sl c o (Sx++S) σ (Tx++T) H/\forM gt body fin (items.drop i) o=some (fl,aa),⟨_,ab,rfl,QY _,s1,e⟩,?_⟩;rintro i m σ H ⟨o,rfl,hi,s,em⟩;by_cases I:i<items.length;. rw[Q4 I]at em;unfold forM at em;cases ea:items[i] o with
  |none=>rw[ea]at em;cases em
  |some d=>rw[ea]at em;obtain⟨u,ae,e2,em⟩:=bind_some em;obtain⟨af,U,e3,em⟩:=bind_some em;obtain⟨go,ai⟩:=(hJ c o S σ T H i s).1 items[i] d (kW I) ea;refine .inr ⟨go,λ C H'=>∃o,Sl c o (Sx++S) C (Tx++T) H'/\forM gt body fin (items.drop (i+1)) o=some (fl,aa),λ C H' ⟨aj,sj,ej⟩=>⟨items.length-(i+1),by omega,aj,rfl,I,sj,ej⟩,λ x H' y=>?_⟩;refine⟨c,o,Sx++S,Tx++T,d,ae,ai x H' y,e2,λ ao H2 _ s2=>⟨c,ae,Sx++S,Tx++T,af,U,s2,e3,?_⟩⟩;cases af with
   |nx=>exact λ C H' s'=>⟨U,s',em⟩
   |ct=>exact λ C H' s'=>⟨U,s',em⟩
   |bk=>obtain⟨rfl,rfl⟩:=bg em;exact λ C H' s'=>k _ _ (s'.drop l)
   |rt d'=>obtain⟨rfl,rfl⟩:=bg em;exact λ v C H' s'=>k v C H' (s'.stk (.cons s'.st.head (s'.st.tail.right l)))
   |rf xs=>obtain⟨rfl,rfl⟩:=bg em;exact λ q vs C H' h1 h2 h3 h4 h5=>k q vs C H' h1 (h2.stk ((h2.st.left h1).append ((h2.st.right h1).right l))) h3 h4 h5
 .have ei:i=items.length:=by omega
  subst ei;rw[Z4]at em;unfold forM at em;by_cases hf:fin o=true;. rw[fD hf]at em;cases em;exact .inl ⟨(hJ c _ S σ T H _ s).2 rfl hf,k _ _ (s.drop l)⟩
  simp_all
noncomputable def Ou(J:It)(its:jy)(C:List D)(I:List V)(σ:St):Prop:=∀(c:Ct)(o:DS)(S:List D)(T:List V)(H:Hp)(i:Nat),Sl c o (C++S) σ (I++T) H->
 (∀act d,its.1[i]?=some act->act o=some d->J.go i H/\∀x H',J.yld i H x H'->Sl c o (d::(C++S)) σ (x::(I++T)) H')/\(i=its.1.length->its.2 o=true->J.stop i H)
inductive J9 (f:M jy) (σ:St) (H:Hp) (R:It->Hp->Prop):Prop
 | mk (c:Ct) (δ:DS) (S:List D) (T:List V) (it:jy) (δ':DS) (s:Sl c δ S σ T H) (e:f δ=some (it,δ')) (q:∀J Sx Tx H',Tx.length=Sx.length->Ou J it Sx Tx σ->Sl c δ' (Sx ++ S) σ (Tx ++ T) H' -> R J H'):J9 f σ H R
noncomputable abbrev DC(X:Cx)(tg iter:Expr)(f:M jy):Prop:=PI X tg iter (J9 f)
theorem cw(h:DI X tg iter fi):DC X tg iter fi:=yG h λ σ H R ⟨c,o,S,T,it,C,s,e,k⟩=>⟨c,o,S,T,it,C,s,e,λ J I U H' l hJ s'=>k J I U H' l (λ c o S T H i=>hJ c o S σ T H i) s'⟩
theorem zF(i:Nat){x:Str}{pos:Pos}(hN:X.N[i]?=some x:=by rfl)(hv:oW X.env.scope x:=by first|exact Or.inl rfl|exact Or.inr (Or.inl rfl)|exact Or.inr (Or.inr rfl))(hd:(x==("__debug__":Str))=false:=by decide)
  (aa:(x==("__classdict__":Str))=false:=by decide):DC X tg (.Name x pos) (do let xs<- dH i;pure (dI i xs.length)):=yG (CQ (cY hN hv hd aa)) λ σ H R ⟨c,δ,S,T,it,ab,s,e,k⟩=>by
 obtain⟨xs,ae,e1,e⟩:=bind_some e;obtain⟨rfl,rfl⟩:=bg e;obtain⟨⟨b,hi⟩,rfl⟩:=cf e1;obtain⟨a,vs,ea,hH,hv,_⟩:=s.ow i b xs hi;refine⟨_,ea,a,rfl,⟨vs,.of hH⟩,k _ [] [] H rfl ?_ s⟩;intro c δ S T H j s;refine⟨λ act d J hd=>?_,λ ej hf=>?_⟩
 .unfold dI at J;rw[QH]at J;have hj:j<xs.length:=by
   by_cases hj:j<xs.length;. exact hj
   .rw[YK (by simp;omega)]at J;cases J
  rw[List.getElem?_range hj]at J;cases J;dsimp only at hd;split at hd
  .rename_i b' ys hy;split at hd
   .obtain⟨a',ws,o,C,I,_⟩:=s.ow i b' ys hy;rw[ea]at o;cases o;obtain⟨v,U,r⟩:=I.get hd;refine⟨⟨ws,v,.of C,U⟩,λ x H' y=>?_⟩;obtain⟨rfl,y⟩:=y;have:=y ws (.of C);rw[U]at this;cases this;exact s.stk (.cons r s.st)
   .cases hd
  simp_all
 .unfold dI at hf ej;dsimp only at hf;split at hf;. rename_i b' ys hy;obtain⟨a',ws,o,C,I,_⟩:=s.ow i b' ys hy;rw[ea]at o;cases o;have hl:ys.length=xs.length:=ZC hf;refine⟨ws,.of C,?_⟩;rw[I.length,ej];simp;omega
  .cases hf
noncomputable def cp(gt:D->M Unit)(tt:M Bool)(te:M D)(d:D):M (Option D):=do
 gt d
 let b<- tt
 if b=true then do
  let x<- te
  pure (some x)
 else pure none
noncomputable def d7(own:Nat)(turn:D->M (Option D))(fin:DS->Bool):List (DS->Option D)->M (List D)
 |[]=> λ C=>if fin C=true then some ([],C)else none
 |a::r=> λ C=>match a C with
  |none=>none
  |some d=>match turn d (C++List.replicate own .un)with
   |none=>none
   |some (o,I)=>match d7 own turn fin r (I.take C.length)with
    |none=>none
    |some (xs,J)=>some (o.toList++xs,J)
noncomputable def gF(n:Nat):M Unit:= λ o=>if o.length=n then some ((),o)else none
noncomputable def dG(lo own:Nat)(fi:M jy)(turn:D->M (Option D)):M (List D):=do
 gF lo
 let it<- fi
 let _<- lift (few it.1.length)
 d7 own turn it.2 it.1
theorem lg:∀σ H Q,GP (dG lo own fi (cp gt tt te)) σ H Q->vm (J9 fi) own (JB lo gt) (pX tt) (tM te) σ H Q:= λ σ H Q ⟨c,ah,S,T,xs,au,s0,e,k⟩=>by
 obtain⟨u,av,e0,e⟩:=bind_some e;have ae:σ.length=lo/\ah=av:=by
  unfold gF at e0;split at e0;. cases e0;exact⟨by rw[<- s0.len];assumption,rfl⟩
  .cases e0
 obtain⟨ae,rfl⟩:=ae;obtain⟨it,ai,e1,e⟩:=bind_some e;obtain⟨u',aw,e2,e⟩:=bind_some e;obtain⟨e3,rfl⟩:=bt e2;have aj:=(gX e3).2;refine⟨c,ah,S,T,it,ai,s0,e1,λ J Sx Tx H1 l hJ s1 q hq=>?_⟩;obtain⟨items,fin⟩:=it;dsimp only at e aj;obtain⟨f1,f2,f3⟩:=s1.fresh hq;refine⟨λ i m acc H=>∃I C af,m=items.length-i/\i<=items.length/\acc.length=C.length/\acc.length<=i/\Sl { c with Z:=upd c.Z q (.lst acc) } I (C++(Sx++S)) σ (acc++(Tx++T)) H/\
  d7 own (cp gt tt te) fin (items.drop i) I=some (af,au)/\C++af=xs,⟨_,ai,[],xs,rfl,QY _,rfl,xS _,s1.hide hq,e,rfl⟩,?_⟩;rintro i m acc H ⟨I,C,af,rfl,hi,la,li,s,em,ex⟩;have ak:H q=some (.lst acc):=s.zz q _ bB;refine⟨ak,?_⟩;have sr:=s.rot la l;by_cases aa:i<items.length;. rw[Q4 aa]at em;unfold d7 at em;cases ea:items[i] I with
  |none=>rw[ea]at em;cases em
  |some d=>rw[ea]at em;dsimp only at em;cases U:cp gt tt te d (I++List.replicate own .un)with
   |none=>rw[U]at em;cases em
   |some p=>obtain⟨o,ax⟩:=p;rw[U]at em;dsimp only at em;cases ec:d7 own (cp gt tt te) fin (items.drop (i+1)) (ax.take I.length)with
    |none=>rw[ec]at em;cases em
    |some p=>
     obtain⟨ao,aw⟩:=p;rw[ec]at em;cases em;obtain⟨u1,aq,ay,U⟩:=bind_some U;obtain⟨b,ag,az,U⟩:=bind_some U;obtain⟨go,aA⟩:=(hJ { c with Z:=upd c.Z q (.lst acc) } I (C++S) (acc++T) H i sr).1 items[i] d (kW aa) ea;refine .inr ⟨go,λ x H' y=>?_⟩;refine⟨{ c with Z:=upd c.Z q (.lst acc) },I++List.replicate own .un,Sx++(C++S),Tx++(acc++T),d,aq,(aA x H' y).ext own,ay,λ aB H2 hn s2=>?_⟩;have ht:aB.take σ.length=σ:=by rw[hn _ (WN ae)];exact JP rfl
     refine⟨ht,{ c with Z:=upd c.Z q (.lst acc) },aq,Sx++(C++S),Tx++(acc++T),b,ag,s2,az,λ H3 s3=>?_⟩;have ab:I.length=σ.length:=s.len;cases b with
     |true=>obtain⟨y1,ar,ey,U⟩:=bind_some U;obtain⟨rfl,rfl⟩:=bg U;refine⟨{ c with Z:=upd c.Z q (.lst acc) },ag,Sx++(C++S),Tx++(acc++T),y1,ar,s3,ey,λ v H4 s4=>?_⟩;refine⟨s4.zz q _ bB,by omega,items.length-(i+1),by omega,ar.take I.length,C++[y1],ao,rfl,aa,by simp[la],by simp;omega,?_,ec,by rw[<- ex];simp⟩;have s5:=s4.cut σ.length;rw[ht,<- ab]at s5;have s6:=Sl.hideSet (.lst (acc++[v])) s5 f2 f3;refine s6.stk ?_;have h1:=s6.st.head;have h2:=s6.st.tail.left l;have h3:=s6.st.tail.right l;have h4:=h3.left la;have h5:=h3.right la;exact(h4.append (.cons h1 .nil)).append (h2.append h5)
     |false=>obtain⟨rfl,rfl⟩:=bg U;refine⟨items.length-(i+1),by omega,ag.take I.length,C,ao,rfl,aa,la,by omega,?_,ec,ex⟩;have s5:=s3.cut σ.length;rw[ht,<- ab]at s5;exact s5.rot l la
 .have ei:i=items.length:=by omega
  subst ei;rw[Z4]at em;unfold d7 at em;by_cases hf:fin I=true;. rw[fD hf]at em;cases em;rw[Z1]at ex;subst ex;refine .inl ⟨(hJ { c with Z:=upd c.Z q (.lst acc) } _ (C++S) (acc++T) H _ sr).2 rfl hf,k q acc H la ?_ f1 f2 f3⟩;exact s.stk ((s.st.left la).append ((s.st.right la).right l))
  .rw[QB hf]at em;cases em
theorem ik:oi X [] (pX (pure true)):= λ pins s σ H Q I ⟨c,C,S,T,b,o,sl,e,k⟩=>by obtain⟨rfl,rfl⟩:=bg e;exact E6 pins s σ H Q I (k H sl)
theorem E2(h:DT X t tt):oi X [t] (pX tt):=Cq h
variable {N' own:List Str} {scope:Scope} {ifs:List Expr} {lo:Nat}
theorem D0(o:DC X tg iter fi)(C:∀s H fp pins,DG (blk X N' own scope s H fp pins) lo tg gt)(I:∀s H fp pins,oi (blk X N' own scope s H fp pins) ifs (pX tt))(he:∀s H fp pins,DE (blk X N' own scope s H fp pins) elt te)
  (J:dv N' own X.env.scope scope=true:=by rfl)(U:du X.N N' scope=true:=by rfl)(hk:scope.kind= .function:=by rfl)(hc:X.calm=true:=by rfl)(hs:∀x,foldedSetIterable iter X.env x=pure x:=by intro _;rfl):
  DF X (.ListComp elt [⟨tg,iter,ifs,0⟩] scope pos) (dG lo own.length fi (cp gt tt te)):=cM (E4 o C I he J U hk hc hs) lg
theorem Dk(i:Nat){x:Str}{o C:Pos}(U:X.N.Nodup)(hi:DC X tg iter fi)(hg:∀s H fp pins,DG (blk X N' own scope s H fp pins) lo tg gt)(ht:∀s H fp pins,oi (blk X N' own scope s H fp pins) ifs (pX tt))(he:∀s H fp pins,DE (blk X N' own scope s H fp pins) elt te)
  (I:X.N[i]?=some x:=by rfl)(hx:X.env.scope.names.lookup x=some .local:=by rfl)
  (J:swapsWith (.ListComp elt [⟨tg,iter,ifs,0⟩] scope pos) (some (.Name x o)) C.line X.env=pure true:=by rfl)
  (hS:dv N' own X.env.scope scope=true:=by rfl)(hM:du X.N N' scope=true:=by rfl)(hk:scope.kind= .function:=by rfl)(hc:X.calm=true:=by rfl)(hs:∀x,foldedSetIterable iter X.env x=pure x:=by intro _;rfl):
  ku X (.Assign [.Name x o] (.ListComp elt [⟨tg,iter,ifs,0⟩] scope pos) C) (FY i (dG lo own.length fi (cp gt tt te))):=
 iE (uM U I hx hi hg ht he J hS hM hk hc hs) (L7 lg)
theorem Oo{te:TE}{f:M (List D)}(w:∀σ H Q,GP f σ H Q->te σ H Q):∀σ H Q,tM (do let xs<- f;pure (.lst xs)) σ H Q->te σ H Q:= λ σ H Q ⟨c,C,S,T,d,I,s,e,k⟩=>by obtain⟨xs,o,J,U⟩:=bind_some e;obtain⟨rfl,rfl⟩:=bg U;exact w _ _ _ ⟨c,C,S,T,xs,o,s,J,λ l vs H' hl s' hz _ _=>k _ _ (s'.unhideL hl hz)⟩
theorem yF(i:Nat){x:Str}{o C:Pos}(U:X.N.Nodup)(hi:DC X tg iter fi)(hg:∀s H fp pins,DG (blk X N' own scope s H fp pins) lo tg gt)(ht:∀s H fp pins,oi (blk X N' own scope s H fp pins) ifs (pX tt))(he:∀s H fp pins,DE (blk X N' own scope s H fp pins) elt te)
  (I:X.N[i]?=some x:=by rfl)(hx:X.env.scope.names.lookup x=some .local:=by rfl)
  (J:swapsWith (.ListComp elt [⟨tg,iter,ifs,0⟩] scope pos) (some (.Name x o)) C.line X.env=pure true:=by rfl)
  (hS:dv N' own X.env.scope scope=true:=by rfl)(hM:du X.N N' scope=true:=by rfl)(hk:scope.kind= .function:=by rfl)(hc:X.calm=true:=by rfl)(hs:∀x,foldedSetIterable iter X.env x=pure x:=by intro _;rfl):
  ku X (.Assign [.Name x o] (.ListComp elt [⟨tg,iter,ifs,0⟩] scope pos) C) (uU i (do let xs<- dG lo own.length fi (cp gt tt te);pure (.lst xs))):=
 iE (uM U I hx hi hg ht he J hS hM hk hc hs) (Kr (Oo lg))
end
noncomputable def hz(Z H:Hp):Hp:=Av (λ a=>∃o,Z a=some o) H
noncomputable def F7(n:Nat)(o:List D->Option D):Sp:= λ vs H Q _=>vs.length=n/\∃(Z:Hp) (ds:List D) (d:D),IB Z H/\Rs (hz Z H) ds vs/\o ds=some d/\∀v H',jv H H'->R (hz Z H') d v->Q v H'
noncomputable def J3(n:Nat)(o:List D->Option (List D)):Sp:= λ vs H Q _=>vs.length=n/\∃(Z:Hp) (ds:List D) (xs:List D),IB Z H/\Rs (hz Z H) ds vs/\o ds=some xs/\
 ∀l ws H',jv H H'->H l=none->H' l=some (.lst ws)->Rs (hz (upd Z l (.lst ws)) H') xs ws->Q (.ref l) H'
noncomputable def JX(n:Nat)(J:List D->List D->Option (D×List D)):Sp:= λ vs H Q _=>vs.length=n/\∃(Z:Hp) (a:Addr) (ws:List V) (xs:List D) (us:List V) (ds:List D) (d:D) (I:List D),vs= .ref a::us/\IB Z H/\Z a=none/\H a=some (.lst ws)/\
 Rs (hz (upd Z a (.lst ws)) H) xs ws/\Rs (hz (upd Z a (.lst ws)) H) ds us/\J xs ds=some (d,I)/\
 ∀v C H',(∀b o,b≠a->H b=some o->H' b=some o)->H' a=some (.lst C)->Rs (hz (upd Z a (.lst C)) H') I C->R (hz (upd Z a (.lst C)) H') d v->Q v H'
section
variable {c:Ct} {δ:DS} {S:List D} {σ:St} {T:List V} {H:Hp}
open Classical in
noncomputable def Cb(c:Ct)(δ:DS)(σ:St)(H:Hp):Hp:= λ a=>if Hd c δ σ a then H a else none
theorem fC(s:Sl c δ S σ T H)(a:Addr):(∃o,Cb c δ σ H a=some o)↔Hd c δ σ a:=by
 unfold Cb;by_cases h:Hd c δ σ a;. rw[fD h];exact Iff.intro (λ _=>h) λ _=>s.hdSome h
 simp_all
theorem pz(s:Sl c δ S σ T H):IB (Cb c δ σ H) H:= λ a o h=>by
 unfold Cb at h;split at h
 .rename_i hd;refine⟨h,λ xs e=>?_⟩;subst e;rcases hd with⟨o,z⟩|⟨i,bb,ys,C,I⟩|⟨i,ks,C,I⟩
  .obtain⟨C,I⟩:=s.zk a o z;rw[h]at C;cases C;exact I xs rfl
  .obtain⟨U,ws,e,J,_⟩:=s.ow i bb ys C;rw[I]at e;cases e;rw[h]at J;cases J
  .obtain⟨U,e,J,_⟩:=s.od i ks C;rw[I]at e;cases e;rw[h]at J;cases J
 grind
end
section
variable {X:Cx} {a b e:Expr} {fs:M (List D)} {pos p:Pos} {es:List Expr} {x:Str} {k:Nat} {f:Addr} {fd:FuncData} {ps:List Str}
theorem C5{n:Nat}(F:d8 X.prog X.w X.K X.mg X.base fS k f fd ps (F7 n mf))(hr:cu k X.A)(hm:X.mg x=some (.ref f))(hk:PySem.W.keepIn X.K (.ref f)=true)(hb:Binds X.K fd ps [])(ha:DA X (a::es) fs)
  (hg:Gl X x:=by rfl)(I:(x==("__debug__":Str))=false:=by decide)(he:starEach (a::es) X.env=(false,eval a X.env)::starEach es X.env:=by rfl)(J:(backTo pos (starEach es X.env)).any (·.1)=false:=by rfl):
  DE X (.Call (.Name x p) (a::es) [] pos) (mC (λ ds=>if ds.length=n then mf ds else none) fs):=cM (p_ F hr hg hm hk hb .nil zI ha I he J) λ σ H Q ⟨c,δ,S,T,d,aa,s,e,k⟩=>by
 obtain⟨ds,C,e1,e⟩:=bind_some e;obtain⟨U,rfl⟩:=bt e;refine⟨c,δ,S,T,ds,C,s,e1,λ vs H1 l s1=>?_⟩;dsimp only at U|-;split at U;. rename_i hn;rw[Z1];refine⟨l.trans hn,Cb c C σ H1,ds,d,pz s1,(s1.st.left l).mono (bH (λ a o _ z=>(fC s1 a).mp z) λ _ _ _ h=>h),U,λ v H' g r=>k v H' ?_⟩;have s2:=s1.grow g;exact s2.stk (.cons (r.mono (bH (λ a o _ z=>(fC s1 a).mpr z) λ _ _ _ h=>h)) (s2.st.right l))
 simp_all
theorem Dx{n:Nat}(F:d8 X.prog X.w X.K X.mg X.base fS k f fd ps (J3 n mf))(hr:cu k X.A)(hm:X.mg x=some (.ref f))(hk:PySem.W.keepIn X.K (.ref f)=true)(J:Binds X.K fd ps [])(ha:DA X (a::es) fs)
  (hg:Gl X x:=by rfl)(U:(x==("__debug__":Str))=false:=by decide)(he:starEach (a::es) X.env=(false,eval a X.env)::starEach es X.env:=by rfl)(aa:(backTo pos (starEach es X.env)).any (·.1)=false:=by rfl):
  DF X (.Call (.Name x p) (a::es) [] pos) (mC (λ ds=>if ds.length=n then mf ds else none) fs):=cM (p_ F hr hg hm hk J .nil zI ha U he aa) λ σ H Q ⟨c,δ,S,T,d,ae,s,e,k⟩=>by
 obtain⟨ds,C,e1,e⟩:=bind_some e;obtain⟨e2,rfl⟩:=bt e;refine⟨c,δ,S,T,ds,C,s,e1,λ vs H1 l s1=>?_⟩;dsimp only at e2|-;split at e2
 .rename_i hn;rw[Z1];refine⟨l.trans hn,Cb c C σ H1,ds,d,pz s1,(s1.st.left l).mono (bH (λ a o _ z=>(fC s1 a).mp z) λ _ _ _ h=>h),e2,λ q ws H' g hq ab r=>?_⟩;obtain⟨f1,f2,f3⟩:=s1.fresh hq
  have s2:Sl { c with Z:=upd c.Z q (.lst ws) } C S σ T H':=by
   have h0:=(s1.drop l).hide (o:= .lst ws) hq;refine h0.grow λ b o J=>?_;by_cases eb:b=q;. subst eb;rw[bB]at J;cases J;exact ab
   .rw[br eb]at J;exact g b o J
  refine k q ws H' r.length (s2.stk ((r.mono (bH (λ a o ha z=>?_) λ _ _ _ h=>h)).append s2.st)) f1 f2 f3;rcases z with⟨w,z⟩|z
  .have z':upd c.Z q (.lst ws) a=some w:=z;by_cases I:a=q;. subst I;exact⟨_,bB⟩
   .rw[br I]at z';obtain⟨o',h'⟩:=(fC s1 a).mpr (.inl ⟨w,z'⟩);exact⟨o',by rw[br I];exact h'⟩
  .have I:a≠q:= λ I=>s1.hdNew hq (.inr (by rw[<- I];exact z));obtain⟨o',h'⟩:=(fC s1 a).mpr (.inr z);exact⟨o',by rw[br I];exact h'⟩
 simp_all
noncomputable def mJ(i n:Nat)(I:List D->List D->Option (D×List D))(fs:M (List D)):M D:= λ δ=>match fs δ with
 |none=>none
 |some (ds,o)=>match o[i]? with
  |some (.ow b xs)=>if ds.length+1=n then(match I xs ds with
   |none=>none
   |some (d,C)=>some (d,o.set i (.ow b C)))else none
  |_=>none
theorem x5(i:Nat){mf:List D->List D->Option (D×List D)}{n:Nat}{y:Str}{py:Pos}(F:d8 X.prog X.w X.K X.mg X.base fS k f fd ps (JX n mf))(hr:cu k X.A)(hm:X.mg x=some (.ref f))(hk:PySem.W.keepIn X.K (.ref f)=true)(hb:Binds X.K fd ps [])(ha:DA X es fs)
  (hN:X.N[i]?=some y:=by rfl)(hv:oW X.env.scope y:=by first|exact Or.inl rfl|exact Or.inr (Or.inl rfl)|exact Or.inr (Or.inr rfl))(hd:(y==("__debug__":Str))=false:=by decide)(aa:(y==("__classdict__":Str))=false:=by decide)
  (hg:Gl X x:=by rfl)(ab:(x==("__debug__":Str))=false:=by decide)(he:starEach (.Name y py::es) X.env=(false,eval (.Name y py) X.env)::starEach es X.env:=by rfl)(ae:(backTo pos (starEach es X.env)).any (·.1)=false:=by rfl):
  DE X (.Call (.Name x p) (.Name y py::es) [] pos) (do let _<- dH i;mJ i n mf fs):=cM (p_ F hr hg hm hk hb .nil zI (bA (cY hN hv hd aa) ha he) ab he ae) λ σ H Q ⟨c,δ,S,T,d,ak,s,e,k⟩=>by obtain⟨af,ao,e0,e⟩:=bind_some e;obtain⟨⟨b0,ag⟩,rfl⟩:=cf e0;obtain⟨a,aq,ea,_⟩:=s.ow i b0 af ag;unfold mJ at e;cases e1:fs δ with
 |none=>rw[e1]at e;cases e
 |some q=>
  obtain⟨ds,C⟩:=q;rw[e1]at e;dsimp only at e;split at e
  .rename_i b xs hi;split at e;. cases e2:mf xs ds with
    |none=>rw[e2]at e;cases e
    |some q=>
     obtain⟨d',ah⟩:=q;rw[e2]at e;cases e;refine⟨_,ea,c,δ,S,T,ds,C,s,e1,λ vs H1 l s1=>?_⟩;dsimp only;rw[Z1];obtain⟨a',ws,J,hH,ai,hB,ar,hZ⟩:=s1.ow i b xs hi;rw[ea]at J;cases J;have aj:Hd c C σ a:= .inr (.inl ⟨i,b,xs,hi,ea⟩);have zi:∀(o:HO)(y:Addr),(∃u,upd (λ z=>if z=a then none else Cb c C σ H1 z) a o y=some u)↔Hd c C σ y:= λ o y=>by
      by_cases I:y=a;. subst I;rw[bB];exact Iff.intro (λ _=>aj) λ _=>⟨o,rfl⟩
      .rw[br I,QB I];exact fC s1 y
     refine⟨by simp[l];omega,λ z=>if z=a then none else Cb c C σ H1 z,a,ws,xs,vs,ds,d,ah,rfl,λ b o h=>?_,fD rfl,hH,ai.mono (bH (λ y o _ z=>(zi _ y).mp z) λ _ _ _ h=>h),
      (s1.st.left l).mono (bH (λ y o _ z=>(zi _ y).mp z) λ _ _ _ h=>h),e2,λ v U H' g ga r1 r2=>k v H' ?_⟩
     .dsimp only at h;split at h;. cases h
      .exact pz s1 _ _ h
     .have gr:jv H1 (upd H' a (.lst ws)):= λ y o hy=>by
       by_cases I:y=a;. subst I;rw[hH]at hy;cases hy;exact bB
       .rw[br I];exact g y o I hy
      have s2:=(s1.drop l).grow gr;have m2:∀y o,hz (upd (λ z=>if z=a then none else Cb c C σ H1 z) a (.lst U)) H' y=some o->eU c C σ (upd H' a (.lst ws)) y=some o :=
       bH (λ y o _ z=>(zi _ y).mpr z) λ y o hy h=>by have:y ≠ a:=λ I=>hy (by rw [I];exact ⟨_,bB⟩);rw [br this];exact h
      have s3:=(s2.stk (.cons (r2.mono m2) s2.st)).mut hi ea (r1.mono m2);have eH:upd (upd H' a (.lst ws)) a (.lst U)=H':= by
       rw [EK];funext y;by_cases I:y=a;. subst I;rw [bB,ga]
       .rw [br I]
      rw [eH] at s3;exact s3
   grind
  grind
end
noncomputable def entry(N:List Str)(ds:List D):DS:=ds.map .pu++List.replicate (N.length-ds.length) .un
noncomputable def bU(N:List Str)(body:M Fl)(ds:List D):Option D:=match body (entry N ds)with
 |some (.rt d,_)=>some d
 |some (.nx,_)=>some .non
 |_=>none
noncomputable def ki(N:List Str)(body:M Fl)(ds:List D):Option (List D):=match body (entry N ds)with
 |some (.rf xs,_)=>some xs
 |_=>none
noncomputable def d_(N:List Str)(xs ds:List D):DS:= .ow true xs::(ds.map .pu++List.replicate (N.length-(ds.length+1)) .un)
noncomputable def fz(N:List Str)(body:M Fl)(xs ds:List D):Option (D×List D):=match body (d_ N xs ds)with
 |some (.rt d,δ)=>(match(show DS from δ)[0]? with
  |some (Slot.ow true o)=>some (d,o)
  |_=>none)
 |_=>none
theorem dC{ds:List D}{n:Nat}{i:Nat}{x:Slot}(h:(ds.map Slot.pu++List.replicate n .un)[i]?=some x):(∃d,x= .pu d/\ds[i]?=some d)\/x= .un:=by
 by_cases hi:i<ds.length;. rw[QZ (by simpa using hi),QH]at h;simp_all
 .rw[VP (by simpa using hi),V9]at h;simp_all
theorem kU{ds:List D}{vs:List V}(U:IB Z H)(r:Rs (hz Z H) ds vs)(hl:vs.length<=N.length):Sl ⟨Z,[],H⟩ (entry N ds) [] (L2.start N vs) [] H:=by
 have C:∀a,¬Oa (entry N ds) (L2.start N vs) a:= λ a z=>by rcases z with⟨i,b,xs,I,_⟩|⟨i,ks,I,_⟩ <;> rcases dC I with⟨d,e,_⟩|e <;> cases e
 have m:∀b o,hz Z H b=some o->eU ⟨Z,[],H⟩ (entry N ds) (L2.start N vs) H b=some o:=bH (λ a o _ z=>z.elim (λ z=>z) λ z=>absurd z (C a)) λ _ _ _ h=>h;refine⟨?_,λ i d h=>?_,λ i b xs h=>?_,λ i j b b' xs ys a h=>?_,.nil,λ b o _ h=>h,λ b hb=>(nomatch hb),U,λ i ks h=>?_,λ i j ks ls a h=>?_⟩;. have:=r.length;simp[entry,L2.start];omega
 .rcases dC h with⟨d',e,hd⟩|e
  .cases e;obtain⟨v,J,rv⟩:=r.get hd;refine⟨v,?_,rv.mono m⟩;have hi:i<vs.length:=(xZ.mp J).1;unfold L2.start;rw[QZ (by simpa using hi),QH,J];rfl
  grind
 .rcases dC h with⟨d',e,hd⟩|e <;> cases e
 .rcases dC h with⟨d',e,hd⟩|e <;> cases e
 .rcases dC h with⟨d',e,hd⟩|e <;> cases e
 .rcases dC h with⟨d',e,hd⟩|e <;> cases e
section
variable {P:Program} {w:World} {K:PySem.W.Frag} {mg:Str->Option Value} {base:Heap} {x qual:Str} {st:Stmt} {f:Addr} {fd:FuncData} {N ps:List Str} {k:Nat} {body:M Fl}
theorem N3(F:yn K x qual st f fd)(S:cx N ps (bj st))(U:∀(cdv:Value)(A:Around)(outer:List Env)(s:Shared)(H:Hp)(E:XK),cu k (A.deeper (PyProof.Rows.envOfC qual (bj st) s.heap.objs.size f cdv))->pZ (fB fS P w K mg base N qual (bj st) f cdv A outer s H E).nox (bR st) body):
  d8 P w K mg base fS (k+1) f fd ps (F7 ps.length (bU N body)):=by
 refine F.ok S (λ vs H Q E h=>h.1) (λ cdv A outer s H vs Q E hr h=>⟨_,U cdv A outer s H E hr,?_⟩);obtain⟨hl,Z,ds,d,hZ,r,e,q⟩:=h;have aa:ps.length<=N.length:=by have:=Q9 List.length S.pre;grind
 have s0:=kU (N:=N) hZ r (by rw[hl];exact aa);have fin:∀{C:DS}{I:St}{v:V}{H':Hp},Sl ⟨Z,[],H⟩ C [d] I [v] H'->Q v H':= λ{C I v H'} J=>
  q v H' (λ b o U=>J.keep b o (by simp) U) (J.st.head.mono (bH (λ a o _ z=> .inl z) λ _ _ _ h=>h));unfold bU at e;split at e;. rename_i d' C eb;cases e;exact⟨_,_,_,_,_,_,s0,eb,λ v I H' J=>fin J⟩
 .rename_i C eb;cases e;exact⟨_,_,_,_,_,_,s0,eb,λ I H' J=>fin (v:= .non) (J.stk (.cons .mkN .nil))⟩
 .cases e
theorem Om(F:yn K x qual st f fd)(S:cx N ps (bj st))(C:∀(cdv:Value)(A:Around)(outer:List Env)(s:Shared)(H:Hp)(E:XK),cu k (A.deeper (PyProof.Rows.envOfC qual (bj st) s.heap.objs.size f cdv))->pZ (fB fS P w K mg base N qual (bj st) f cdv A outer s H E).nox (bR st) body):
  d8 P w K mg base fS (k+1) f fd ps (J3 ps.length (ki N body)):=by
 refine F.ok S (λ vs H Q E h=>h.1) (λ cdv A outer s H vs Q E hr h=>⟨_,C cdv A outer s H E hr,?_⟩);obtain⟨hl,Z,ds,d,hZ,r,e,q⟩:=h;have I:ps.length<=N.length:=by have:=Q9 List.length S.pre;grind
 have s0:=kU (N:=N) hZ r (by rw[hl];exact I);unfold ki at e;split at e;. rename_i d' aa eb;cases e;refine⟨_,_,_,_,_,_,s0,eb,λ l J ab H' h1 U h3 h4 h5=>?_⟩;refine q l J H' (λ b o C=>U.keep b o (by simp) C) h5 (U.zz l _ bB) ?_;exact(U.st.left h1).mono (bH (λ a o _ z=> .inl z) λ _ _ _ h=>h)
 .cases e
theorem Ob(F:yn K x qual st f fd)(S:cx N ps (bj st))(hb:∀(cdv:Value)(A:Around)(outer:List Env)(s:Shared)(H:Hp)(E:XK),cu k (A.deeper (PyProof.Rows.envOfC qual (bj st) s.heap.objs.size f cdv))->pZ (fB fS P w K mg base N qual (bj st) f cdv A outer s H E).nox (bR st) body):
  d8 P w K mg base fS (k+1) f fd ps (JX ps.length (fz N body)):=by
 refine F.ok S (λ vs H Q E h=>h.1) (λ cdv A outer s H vs Q E hr h=>⟨_,hb cdv A outer s H E hr,?_⟩);obtain⟨hl,Z,a,ws,xs,us,ds,d,au,rfl,hZ,aa,hH,ag,ab,e,q⟩:=h;have ae:ps.length<=N.length:=by have:=Q9 List.length S.pre;rw[VJ]at this;omega
 have aw:us.length+1<=N.length:=by rw[<- hl]at ae;simpa using ae
 have ld:=ab.length;have C:∀(i:Nat) ks,(d_ N xs ds)[i]?≠some (.od ks):= λ i ks U=>by cases i with
  |zero=>cases U
  |succ i=>
   have I:(ds.map Slot.pu++List.replicate (N.length-(ds.length+1)) .un)[i]?=some (.od ks):=by simpa[d_]using U
   rcases dC I with⟨d,e,_⟩|e <;> cases e
 have ah:∀b,Oa (d_ N xs ds) (L2.start N (.ref a::us)) b->b=a:= λ b z=>by
  rcases z with⟨i,bb,ys,U,h2⟩|⟨i,ks,U,h2⟩
  .cases i with
   |zero=>cases h2;rfl
   |succ i=>
    have I:(ds.map Slot.pu++List.replicate (N.length-(ds.length+1)) .un)[i]?=some (.ow bb ys):=by simpa[d_]using U
    rcases dC I with⟨d,e,_⟩|e <;> cases e
  .exact absurd U (C i ks)
 have m:∀b o,hz (upd Z a (.lst ws)) H b=some o->eU ⟨Z,[a],H⟩ (d_ N xs ds) (L2.start N (.ref a::us)) H b=some o:=bH (λ b o _ z=>by
  rcases z with⟨o',z⟩|z
  .have z':Z b=some o':=z;by_cases J:b=a;. rw[J,aa]at z';cases z'
   .exact⟨o',by rw[br J];exact z'⟩
  .rw[ah b z];exact⟨_,bB⟩) λ _ _ _ h=>h;have s0:Sl ⟨Z,[a],H⟩ (d_ N xs ds) [] (L2.start N (.ref a::us)) [] H:=by
  refine⟨?_,λ i d h=>?_,λ i b ys h=>?_,λ i j b b' ys zs y h h'=>?_,.nil,λ b o _ h=>h,λ b hb=>?_,hZ,λ i ks h=>absurd h (C i ks),λ i j ks ls y h=>absurd h (C i ks)⟩
  .simp only[d_,L2.start,QC,wF,YL,QT];omega
  .cases i with
   |zero=>cases h
   |succ i=>
    have h':(ds.map Slot.pu++List.replicate (N.length-(ds.length+1)) .un)[i]?=some (.pu d):=by simpa[d_]using h
    rcases dC h' with⟨d',e,hd⟩|e
    .cases e;obtain⟨v,hv,rv⟩:=ab.get hd;refine⟨v,?_,rv.mono m⟩;have hi:i<us.length:=(xZ.mp hv).1;have:(L2.start N (.ref a::us))[i+1]?=some (some v):=by
      unfold L2.start;rw[QZ (by simpa using hi),QH,KW,hv];rfl
     exact this
    .cases e
  .cases i with
   |zero=>
    cases h;exact⟨a,ws,rfl,hH,ag.mono m,(λ _=>wW.mpr rfl),(λ z=>absurd z (by simp)),aa⟩
   |succ i=>
    have h':(ds.map Slot.pu++List.replicate (N.length-(ds.length+1)) .un)[i]?=some (.ow b ys):=by simpa[d_]using h
    rcases dC h' with⟨d',e,hd⟩|e <;> cases e
  .intro _ _;have z:∀(i:Nat) b ys,(d_ N xs ds)[i]?=some (.ow b ys)->i=0:= λ i b ys h=>by cases i with
    |zero=>rfl
    |succ i=>
     have h':(ds.map Slot.pu++List.replicate (N.length-(ds.length+1)) .un)[i]?=some (.ow b ys):=by simpa[d_]using h
     rcases dC h' with⟨d',e,hd⟩|e <;> cases e
   rw[z i b ys h,z j b' zs h']
  .rw[wW.mp hb];exact⟨_,hH⟩
 unfold fz at e;split at e
 .rename_i d' ai J;split at e
  .rename_i ys hy;cases e;refine⟨_,_,_,_,_,_,s0,J,λ v aj H' s'=>?_⟩;obtain⟨a',af,ea,ak,ao,aq,_,_⟩:=s'.ow 0 true _ hy;have ar:a'=a:=wW.mp (aq rfl);subst ar;have m':∀b o,eU ⟨Z,[a'],H⟩ ai aj H' b=some o->hz (upd Z a' (.lst af)) H' b=some o:=bH (λ b o _ z=>by
    obtain ⟨o',z⟩:=z;by_cases J:b=a';. subst J;exact .inr (.inl ⟨0,true,_,hy,ea⟩)
    .rw [br J] at z;exact .inl ⟨o',z⟩) λ _ _ _ h=>h;exact q v af H' (λ b o hb h=>s'.keep b o (λ z=>hb (wW.mp z)) h) ak (ao.mono m') (s'.st.head.mono m')
  .cases e
 .cases e
end
section
variable {X:Cx} {a b e:Expr} {fa fb:M D} {fs:M (List D)} {pos p apos cpos:Pos} {es:List Expr} {x:Str}
theorem Sl.own (s:Sl c δ S σ T H) {i:Nat} {b:Bool} (hi:δ[i]? = some (.ow b xs)):∃a vs,σ[i]? = some (some (.ref a))∧H a=some (.lst vs)∧Rs (eU c δ σ H) xs vs:= by
 obtain ⟨a,vs,h1,h2,h3,_⟩:=s.ow i b xs hi
 grind
noncomputable def setOw(i:Nat)(xs:List D):M Unit:= λ o=>match o[i]? with
 |some (.ow b _)=>some ((),o.set i (.ow b xs))
 |_=>none
theorem gq{u:Unit}(h:setOw i xs C=some (u,o)):∃b ys,C[i]?=some (.ow b ys)/\o=C.set i (.ow b xs):=by unfold setOw at h;grind
noncomputable def i8(i:Nat)(fs:M (List D)):M Fl:=do
 let _<- dH i
 let ds<- fs
 match ds with
 |[d]=>do
  let xs<- dH i
  let _<- lift (few xs.length)
  setOw i (xs++[d])
  pure .nx
 |_=>lift none
theorem fX(i:Nat)(ha:DA X [a] fs)(hN:X.N[i]?=some x:=by rfl)(hv:oW X.env.scope x:=by first | exact Or.inl rfl | exact Or.inr (Or.inl rfl) | exact Or.inr (Or.inr rfl))(hd:(x==("__debug__":Str))=false:=by decide)(aa:(x==("__classdict__":Str))=false:=by decide)
  (I:((backTo cpos (starEach [a] X.env)).all (λ x=> !x.1)&&(backToKw cpos (keywordEach [] X.env)).all (λ x=>x.1.isSome)
   &&decide (([a]:List Expr).length+([]:List Keyword).length+(if([]:List Keyword).isEmpty then 0 else 1)<30))=true:=by rfl)
  (o:(apos.endLine==cpos.line)=true:=by rfl)(hs:starEach [a] X.env=[(false,eval a X.env)]:=by rfl)(ab:swapsWith (.Call (.Attribute (.Name x p) "append" apos) [a] [] cpos) none pos.line X.env=pure false:=by rfl):
  ku X (.Expr (.Call (.Attribute (.Name x p) "append" apos) [a] [] cpos) pos) (i8 i fs):=
 iE (vk (vA YA PySem.F.slot_list_append PySem.F.type_list_append jG (cY hN hv hd aa) ha rfl I o hs rfl) ab) λ E σ H ⟨c,δ,S,T,fl,ai,s,e,k⟩=>by
  obtain⟨aj,ak,e0,e⟩:=bind_some e;obtain⟨⟨b0,ae⟩,rfl⟩:=cf e0;obtain⟨q,af,eq,hq,_⟩:=s.own ae;obtain⟨ds,ag,e1,e⟩:=bind_some e;refine⟨_,eq,.inl ⟨rfl,af,.of hq⟩,c,δ,S,T,ds,ag,s,e1,λ vs H1 l s1=>?_⟩;split at e;. obtain⟨xs,ao,e2,e⟩:=bind_some e;obtain⟨⟨b1,C⟩,rfl⟩:=cf e2;obtain⟨_,aq,e3,e⟩:=bind_some e;obtain⟨e4,rfl⟩:=bt e3;obtain⟨_,ar,e5,e⟩:=bind_some e;obtain⟨rfl,rfl⟩:=bg e;obtain⟨b2,ys,J,rfl⟩:=gq e5;rw[C]at J;cases J;obtain⟨q',ws,U,ah,hx⟩:=s1.own C;rw[eq]at U;cases U;obtain⟨v,rfl,r⟩:=wK (s1.st.left l);refine⟨q,ws,v,rfl,rfl,ah,by rw[hx.length];exact(gX e4).2,k _ _ ?_⟩;exact(s1.drop l).mut C eq (hx.append (.cons r .nil))
  .cases e
noncomputable def Ed(i:Nat)(fs:M (List D)):M D:=do
 let _<- dH i
 let ds<- fs
 match ds with
 |[.int j]=>do
  let xs<- dH i
  let d<- lift (if 0<=j/\j<100000 then xs[j.toNat]? else none)
  setOw i (xs.eraseIdx j.toNat)
  pure d
 |_=>lift none
theorem Rs.erase:∀{ds:List D}{vs:List V}(i:Nat),Rs H ds vs->Rs H (ds.eraseIdx i) (vs.eraseIdx i)
 |[],vs,i,h=>by rw[h.inv0];simpa using Rs.nil
 |d::ds,vs,0,h=>by obtain⟨v,r,e,_,o⟩:=h.inv;simp_all
 |d::ds,vs,i+1,h=>by obtain⟨v,r,e,C,o⟩:=h.inv;subst e;exact .cons C (Rs.erase i o)
theorem yA(i:Nat)(ha:DA X [a] fs)(hN:X.N[i]?=some x:=by rfl)(hv:oW X.env.scope x:=by first|exact Or.inl rfl|exact Or.inr (Or.inl rfl)|exact Or.inr (Or.inr rfl))(hd:(x==("__debug__":Str))=false:=by decide)(aa:(x==("__classdict__":Str))=false:=by decide)
  (I:((backTo cpos (starEach [a] X.env)).all (λ x=> !x.1)&&(backToKw cpos (keywordEach [] X.env)).all (λ x=>x.1.isSome)
   &&decide (([a]:List Expr).length+([]:List Keyword).length+(if([]:List Keyword).isEmpty then 0 else 1)<30))=true:=by rfl)
  (o:(apos.endLine==cpos.line)=true:=by rfl)(hs:starEach [a] X.env=[(false,eval a X.env)]:=by rfl):
  DE X (.Call (.Attribute (.Name x p) "pop" apos) [a] [] cpos) (Ed i fs):=
 cM (vA YA PySem.F.slot_list_pop PySem.F.type_list_pop BL (cY hN hv hd aa) ha rfl I o hs rfl) λ σ H Q ⟨c,δ,S,T,fl,ah,s,e,k⟩=>by
  obtain⟨ai,aj,e0,e⟩:=bind_some e;obtain⟨⟨b0,ab⟩,rfl⟩:=cf e0;obtain⟨q,ae,eq,hq,_⟩:=s.own ab;obtain⟨ds,af,e1,e⟩:=bind_some e;refine⟨_,eq,.inl ⟨rfl,ae,.of hq⟩,c,δ,S,T,ds,af,s,e1,λ vs H1 l s1=>?_⟩;split at e
  .rename_i j;obtain⟨xs,ak,e2,e⟩:=bind_some e;obtain⟨⟨b1,C⟩,rfl⟩:=cf e2;obtain⟨d,ao,e3,e⟩:=bind_some e;obtain⟨e4,rfl⟩:=bt e3;obtain⟨_,aq,e5,e⟩:=bind_some e;obtain⟨rfl,rfl⟩:=bg e;obtain⟨b2,ys,J,rfl⟩:=gq e5;rw[C]at J;cases J;obtain⟨q',ws,U,ag,hx⟩:=s1.own C;rw[eq]at U;cases U;obtain⟨v,rfl,r⟩:=wK (s1.st.left l);cases r.int;split at e4
   .obtain⟨y,hy,ry⟩:=hx.get e4;have ar:j.toNat<ws.length:=(xZ.mp hy).1;refine⟨q,ws,j,j.toNat,y,rfl,rfl,ag,by omega,by omega,?_,hy,k _ _ ?_⟩
    .unfold seqIndex?;have h1: ¬j<0:=by omega
     simp only[h1,Y4];rw[fD];simp;omega
    .have s2:=s1.drop l;exact(s2.stk (.cons ry s2.st)).mut C eq (hx.erase j.toNat)
   simp_all
  .cases e
noncomputable def tq(i:Nat)(fa:M D)(k:Int):M Fl:=do
 let d<- fa
 let xs<- dH i
 let j<- lift (ym xs.length k)
 setOw i (xs.set j d)
 pure .nx
theorem Rs.set(r:R H d v):∀{ds:List D}{vs:List V}(i:Nat),Rs H ds vs->Rs H (ds.set i d) (vs.set i v)
 |[],vs,i,h=>by rw[h.inv0];rfl
 |d::ds,vs,0,h=>by obtain⟨v,q,e,_,o⟩:=h.inv;subst e;exact .cons r o
 |d::ds,vs,i+1,h=>by obtain⟨v,q,e,C,o⟩:=h.inv;subst e;exact .cons C (Rs.set r i o)
theorem Bx(i:Nat){k:Int}{j:Nat}{pc o:Pos}(he:DE X e fa)(hN:X.N[i]?=some x:=by rfl)(hv:oW X.env.scope x:=by first | exact Or.inl rfl | exact Or.inr (Or.inl rfl) | exact Or.inr (Or.inr rfl))(hd:(x==("__debug__":Str))=false:=by decide)(U:(x==("__classdict__":Str))=false:=by decide)
  (ha:∀v,assign (.Subscript (.Name x p) (.Constant (.int k) j pc) o) X.env v=(do
   let J<- holding [v] (eval (.Name x p) X.env)
   let iv<- holding [v,J] (eval (.Constant (.int k) j pc) X.env)
   standAt o
   holding [v,J,iv] (setItem J iv v)
   release [v,J,iv] []):=by intro _;rfl)
  (hs:swapsWithSole [.Subscript (.Name x p) (.Constant (.int k) j pc) o] e pos.line X.env=pure false:=by rfl)(hw:swappedStores [.Subscript (.Name x p) (.Constant (.int k) j pc) o] e X.env=pure none:=by rfl)
  (h1:(assignEach [.Subscript (.Name x p) (.Constant (.int k) j pc) o] X.env).map (·.2)=[assign (.Subscript (.Name x p) (.Constant (.int k) j pc) o) X.env]:=by rfl):
  ku X (.Assign [.Subscript (.Name x p) (.Constant (.int k) j pc) o] e pos) (tq i fa k):=
 iE (Bz he (Hs (cY hN hv hd U) qb set_list ha) hs hw h1) λ E σ H ⟨c,δ,S,T,fl,ab,s,e,kk⟩=>by obtain⟨d,aa,e1,e⟩:=bind_some e;obtain⟨xs,ae,e2,e⟩:=bind_some e;obtain⟨⟨b1,C⟩,rfl⟩:=cf e2;obtain⟨jj,af,e3,e⟩:=bind_some e;obtain⟨e4,rfl⟩:=bt e3;obtain⟨_,ag,e5,e⟩:=bind_some e;obtain⟨rfl,rfl⟩:=bg e;obtain⟨b2,ys,I,rfl⟩:=gq e5;rw[C]at I;cases I;refine⟨c,δ,S,T,d,aa,s,e1,λ v H1 s1=>?_⟩;obtain⟨q,ws,eq,hq,hx⟩:=s1.own C;refine⟨_,eq,q,ws,k,jj,rfl,rfl,hq,by rw[hx.length];omega,kk _ _ ?_⟩;exact s1.pop.mut C eq (hx.set s1.st.head jj)
noncomputable def Eg(i:Nat)(fb:M D):M D:=do
 let _<- dH i
 let y<- fb
 let xs<- dH i
 lift (i3 (.lst xs) y)
theorem AO(i:Nat){px:Pos}(hb:DE X b fb)(hN:X.N[i]?=some x:=by rfl)(hv:oW X.env.scope x:=by first | exact Or.inl rfl | exact Or.inr (Or.inl rfl) | exact Or.inr (Or.inr rfl))(hd:(x==("__debug__":Str))=false:=by decide)(C:(x==("__classdict__":Str))=false:=by decide)
  (hs:kx b:=by exact fun _ _=>rfl):DE X (.Subscript (.Name x px) b pos) (Eg i fb):=cM (AY vL (cY hN hv hd C) hb hs) λ σ H Q ⟨c,δ,S,T,fl,ab,s,e,k⟩=>by obtain⟨ae,af,e0,e⟩:=bind_some e;obtain⟨⟨b0,I⟩,rfl⟩:=cf e0;obtain⟨q,ag,eq,hq,_⟩:=s.own I;obtain⟨y,J,e1,e⟩:=bind_some e;obtain⟨xs,ah,e2,e⟩:=bind_some e;obtain⟨⟨b1,U⟩,rfl⟩:=cf e2;obtain⟨e3,rfl⟩:=bt e;refine⟨_,eq,c,δ,S,T,y,J,s,e1,λ u H2 s2=>?_⟩;obtain⟨q',ws,o,aa,hx⟩:=s2.own U;rw[eq]at o;cases o;cases y with
 |int j=>have e':jb xs j=some fl:=e3;obtain⟨z,e4,r⟩:=uy hx e';exact⟨q,ws,j,z,rfl,s2.st.head.int,.of aa,e4,k _ _ (s2.stk (.cons r s2.st.tail))⟩
 |_=>cases e3
noncomputable def wk(i:Nat):M D:=do
 let xs<- dH i
 pure (.int xs.length)
theorem kE(i:Nat){px:Pos}(hm:X.mg "len"=none)(I:Gl X "len":=by rfl)(J:X.N[i]?=some x:=by rfl)(U:oW X.env.scope x:=by first | exact Or.inl rfl | exact Or.inr (Or.inl rfl) | exact Or.inr (Or.inr rfl))(hd:(x==("__debug__":Str))=false:=by decide)(o:(x==("__classdict__":Str))=false:=by decide):
  DE X (.Call (.Name "len" p) [.Name x px] [] pos) (wk i):=cM (dA jc I hm PySem.boot_len (bA (cY J U hd o) cy) (by decide) (by decide) rfl rfl) λ σ H Q ⟨c,δ,S,T,fl,aa,s,e,k⟩=>by obtain⟨xs,ab,e1,e⟩:=bind_some e;obtain⟨rfl,rfl⟩:=bg e;obtain⟨⟨b1,C⟩,rfl⟩:=cf e1;obtain⟨q,ws,eq,hq,hx⟩:=s.own C;refine⟨_,eq,q,ws,rfl,.inl (.of hq),k _ _ (s.stk (.cons ?_ s.st))⟩;rw[hx.length];rfl
theorem cX(hm:X.mg "len"=none)(o:DA X [a] fs)(C:Gl X "len":=by rfl)(he:starEach [a] X.env=[(false,eval a X.env)]:=by rfl):DE X (.Call (.Name "len" p) [a] [] pos) (mC i7 fs):=
 ib jc JF C hm PySem.boot_len o (by decide) (by rfl) he rfl
theorem wO:∀{bs:List Bool}{its:List Value}{i:Nat}{v:Value},Vals (bs.map V.bl) its->its[i]?=some v->∃b,bs[i]?=some b/\v= .bool b:= λ{bs its i v} h e=>by
 have o:=h.length;rw[wF]at o;have I:i<bs.length:=by rw[o];exact(xZ.mp e).1
 obtain⟨u,C,r⟩:=h.get (i:=i) (x:=V.bl bs[i]) (by grind);rw[e]at C;cases C;exact⟨bs[i],kW I,r⟩
theorem uC(bs:List Bool):((List.range bs.length).all λ i=>(bs[i]?).getD true)=bs.all id:=by
 rw[VR,fR,fR];constructor;. intro h b I;obtain⟨i,C,rfl⟩:=ZE I;simpa[kW C]using h i (QL.mpr C)
 .intro h i C;have o:=QL.mp C;simpa[kW o]using h _ (QN o)
theorem Bb(hc:X.calm=true):dw X (.builtin "all") (λ xs H Q=>∃(p:Addr) (bs:List Bool),xs=[.ref p]/\gK X.K H p (bs.map V.bl)/\Q (.bl (bs.all id)) H):=by
 intro pins s σ H xs us Q I r h;obtain⟨p,bs,rfl,hq,q⟩:=h;obtain⟨u,rfl,rx⟩:=r.one;cases rx;obtain⟨its,J,pl,hz⟩:=I.list hq;have C:p<s.heap.objs.size:=by obtain⟨_,e,_⟩:=pl.isList;exact wV e
 refine call_all_walk (VW pl.isList ?_);refine⟨s.heap.objs.size,[s.heap.objs.size,p],[s.heap.objs.size],its.toArray.size,_,_,λ i=>(bs[i]?).getD true,rfl,Walks.list (A:=X.A.in1) (I.ok.hd hc) _ p (uT C) its.toArray,
  ⟨⟨_,wN _ rfl,rfl,rfl⟩,pl.isList.push _⟩,λ i v s' Q' E' hP U=>?_,λ h' tk hk=>?_⟩;. obtain⟨b,e,rfl⟩:=wO J (by simpa using hP);simp[e]at U;exact ZY U
 .have e:((List.range its.toArray.size).all λ i=>(bs[i]?).getD true)=bs.all id:=by rw[uP,<- J.length,wF];exact uC bs
  rw[e];exact⟨.bl _,H,I.kept λ b o eb=>hk b o (λ hm=>absurd (wV eb) (by simp_all)) (kT _ eb),rfl,q⟩
noncomputable def boolsOf:List D->Option (List Bool)
 |[]=>some []
 | .bl b::r=>(boolsOf r).map (b:: .)
 |_=>none
theorem rP:∀{ds:List D}{vs:List V}{bs:List Bool},Rs H ds vs->boolsOf ds=some bs->vs=bs.map V.bl
 |[],vs,bs,h,e=>by cases e;exact h.inv0
 |d::ds,vs,bs,h,e=>by obtain⟨v,r,ev,o,C⟩:=h.inv;cases d with
  |bl b=>unfold boolsOf at e;cases q:boolsOf ds with
   |none=>simp_all
   |some I=>rw[q]at e;cases e;rw[ev,o.bl,rP C q];rfl
  |_=>cases e
noncomputable def kl:List D->Option D
 |[.lst ds]=>(boolsOf ds).map λ bs=> .bl (bs.all id)
 |_=>none
theorem BG(g:List Bool->Bool)(f:List D->Option D)(hf:∀ds d,f ds=some d->∃es bs,ds=[.lst es]/\boolsOf es=some bs/\d= .bl (g bs)):
  ji (λ xs H Q=>∃(p:Addr) (bs:List Bool),xs=[.ref p]/\gK K H p (bs.map V.bl)/\Q (.bl (g bs)) H) f:= λ c U S σ T H ds vs d Q l s e k=>by obtain⟨es,bs,rfl,o,rfl⟩:=hf _ _ e;have h:=s.st.left l;have C:=s.st.right l;obtain⟨v,rfl,r⟩:=wK h;obtain⟨p,ws,rfl,I,J⟩:=r.lst;have:=rP J o;subst this;exact⟨p,bs,rfl,.inl (Rd.mono bK I),k _ _ (s.stk (.cons .mkB C))⟩
theorem xf(ds:List D)(d:D)(h:kl ds=some d):∃es bs,ds=[.lst es]/\boolsOf es=some bs/\d= .bl (bs.all id):=by
 unfold kl at h;split at h;. rename_i es;cases q:boolsOf es with
  |none=>rw[q]at h;cases h
  |some bs=>rw[q]at h;cases h;exact⟨es,bs,rfl,q,rfl⟩
 grind
theorem iR(hm:X.mg "all"=none)(o:DA X [a] fs)(C:Gl X "all":=by rfl)(I:X.calm=true:=by rfl)(he:starEach [a] X.env=[(false,eval a X.env)]:=by rfl):DE X (.Call (.Name "all" p) [a] [] pos) (mC kl fs):=
 ib (Bb I) (BG _ kl xf) C hm PyProof.Rows.boot_all o (by decide) (by rfl) he rfl
theorem oE(I:dw X (.type T) r)(hd:ji r f)(J:Gl X x)(hm:X.mg x=none)(U:bootBuiltins x=some (.type T))(ha:DA X (a::es) fs)(hn:x≠"__name__":=by decide)(o:(x==("__debug__":Str))=false:=by decide)
  (he:starEach (a::es) X.env=(false,eval a X.env)::starEach es X.env:=by rfl)(C:(backTo pos (starEach es X.env)).any (·.1)=false:=by rfl):DE X (.Call (.Name x p) (a::es) [] pos) (mC f fs):=
 cM (eA I J hm U ha hn o he C) (GK hd)
theorem yd(I:dw X (.type T) r)(hd:AK r f)(J:Gl X x)(hm:X.mg x=none)(U:bootBuiltins x=some (.type T))(ha:DA X (a::es) fs)(hn:x≠"__name__":=by decide)(o:(x==("__debug__":Str))=false:=by decide)
  (he:starEach (a::es) X.env=(false,eval a X.env)::starEach es X.env:=by rfl)(C:(backTo pos (starEach es X.env)).any (·.1)=false:=by rfl):DF X (.Call (.Name x p) (a::es) [] pos) (mC f fs):=
 cM (eA I J hm U ha hn o he C) (Ip hd)
noncomputable def um:D->Option (List D)
 | .tup ds=>some ds
 | .lst ds=>some ds
 |_=>none
noncomputable def i0:List D->Option D
 |[x]=>(um x).map .tup
 |_=>none
theorem yQ:ji (λ xs H Q=>∃p ys,xs=[.ref p]/\((gK K H p ys/\∀l,H l=none->Q (.ref l) (upd H l (.tup ys)))\/(fv K H p ys/\Q (.ref p) H))) i0:= λ c U S σ T H ds vs d Q l s e k=>by
 unfold i0 at e;split at e;. rename_i x;have h:=s.st.left l;have I:=s.st.right l;obtain⟨v,rfl,r⟩:=wK h;cases x with
  |tup es=>cases e;obtain⟨p,ws,rfl,o,C⟩:=r.tup;exact⟨p,ws,rfl,.inr ⟨.of (bK _ _ o),k _ _ (s.stk (.cons (.mkT o C) I))⟩⟩
  |lst es=>cases e;obtain⟨p,ws,rfl,o,C⟩:=r.lst;exact⟨p,ws,rfl,.inl ⟨.inl (Rd.mono bK o),λ q J=>k _ _ ((s.stk (C.append I)).newTup C.length J)⟩⟩
  |_=>cases e
 grind
theorem cn(hm:X.mg "tuple"=none)(o:DA X [a] fs)(C:Gl X "tuple":=by rfl)(he:starEach [a] X.env=[(false,eval a X.env)]:=by rfl):DE X (.Call (.Name "tuple" p) [a] [] pos) (mC i0 fs):=
 oE iL yQ C hm (by rfl) o (by decide) (by rfl) he rfl
noncomputable def dList:List D->Option (List D)
 |[x]=>um x
 |_=>none
theorem ER:AK (λ xs H Q=>∃p ys,xs=[.ref p]/\(gK K H p ys\/fv K H p ys)/\∀l,H l=none->Q (.ref l) (upd H l (.lst ys))) dList:= λ c δ S σ T H ds vs d Q l s e k=>by
 unfold dList at e;split at e;. rename_i x;have h:=s.st.left l;have U:=s.st.right l;obtain⟨v,rfl,r⟩:=wK h;cases x with
  |tup es=>cases e;obtain⟨p,ws,rfl,I,o⟩:=r.tup;refine⟨p,ws,rfl,.inr (.of (bK _ _ I)),λ q C=>?_⟩;have s1:=s.stk (o.append U);obtain⟨f1,f2,J⟩:=s1.fresh C;exact k q ws _ o.length (s1.hide C) f1 f2 J
  |lst es=>cases e;obtain⟨p,ws,rfl,I,o⟩:=r.lst;refine⟨p,ws,rfl,.inl (.inl (Rd.mono bK I)),λ q C=>?_⟩;have s1:=s.stk (o.append U);obtain⟨f1,f2,J⟩:=s1.fresh C;exact k q ws _ o.length (s1.hide C) f1 f2 J
  |_=>cases e
 grind
theorem pF (hm:X.mg "list" = none) (ha:DA X [a] fs) (hg:Gl X "list":=by rfl) (he:starEach [a] X.env=[(false,eval a X.env)]:=by rfl):DF X (.Call (.Name "list" p) [a] [] pos) (mC dList fs) :=
 yd pv ER hg hm (by rfl) ha (by decide) (by rfl) he rfl
noncomputable def flat:D->Option V
 | .non=>some .non
 | .bl b=>some (.bl b)
 | .int i=>some (.int i)
 | .str x=>some (.str x)
 |_=>none
theorem eF(r:R H d v)(e:flat d=some u):v=u/\g6 u=true:=by cases d with
 |non=>cases e;exact⟨r.non,rfl⟩
 |bl b=>cases e;exact⟨r.bl,rfl⟩
 |int b=>cases e;exact⟨r.int,rfl⟩
 |str b=>cases e;exact⟨r.str,rfl⟩
 |_=>cases e
noncomputable def l6:List D->Option (List V)
 |[]=>some []
 |d::ds=>match flat d,l6 ds with
  |some v,some vs=>some (v::vs)
  |_,_=>none
theorem mB:∀{ds:List D}{vs us:List V},Rs H ds vs->l6 ds=some us->vs=us/\us.all g6=true
 |[],vs,us,h,e=>by cases e;exact⟨h.inv0,rfl⟩
 |d::ds,vs,us,h,e=>by
  obtain⟨v,r,ev,o,C⟩:=h.inv;unfold l6 at e;split at e;. rename_i w ws I J;cases e;obtain⟨a1,a2⟩:=eF o I;obtain⟨b1,U⟩:=mB C J;refine⟨by rw[ev,a1,b1],?_⟩;rw[Z7,a2,U];rfl
  grind
noncomputable def sU(neg:Bool)(x y:D):Option D:=match flat x,um y with
 |some v,some ds=>(l6 ds).map λ vs=> .bl (if neg then !JW v vs else JW v vs)
 |_,_=>none
theorem tE:qQ (NJ K neg) (sU neg):= λ c δ S σ T H x y v u d Q s e k=>by
 unfold sU at e;split at e;. rename_i w ds U C;cases o:l6 ds with
  |none=>rw[o]at e;cases e
  |some vs=>rw[o]at e;cases e;obtain⟨rfl,f1⟩:=eF s.st.tail.head U;cases y with
   |tup es=>cases C;obtain⟨p,ws,rfl,I,J⟩:=s.st.head.tup;obtain⟨rfl,f2⟩:=mB J o;exact⟨p,ws,rfl,.inr (.of (bK _ _ I)),f1,f2,k _ _ (s.stk (.cons .mkB s.st.tail.tail))⟩
   |lst es=>cases C;obtain⟨p,ws,rfl,I,J⟩:=s.st.head.lst;obtain⟨rfl,f2⟩:=mB J o;exact⟨p,ws,rfl,.inl (.inl (Rd.mono bK I)),f1,f2,k _ _ (s.stk (.cons .mkB s.st.tail.tail))⟩
   |_=>cases C
 grind
theorem K4(o:DE X a fa)(C:DE X b fb)(hm:behindInMarks .In b=false:=by rfl):DE X (.Compare a [.In] [b] pos) (m2 (sU false) fa fb):=jC nq tE o C hm
theorem y0(o:DE X a fa)(C:DE X b fb)(hm:behindInMarks .In b=false:=by rfl):DT X (.Compare a [.In] [b] pos) (m2 (sU false) fa fb >>= mE):=gS nq tE o C hm
theorem sJ(o:DE X a fa)(C:DE X b fb)(hm:behindInMarks .NotIn b=false:=by rfl):DT X (.Compare a [.NotIn] [b] pos) (m2 (sU true) fa fb >>= mE):=gS pG tE o C hm
noncomputable def km(neg:Bool)(x y:D):Option D:=match flat x,flat y with
 |some v,some u=>if xb v u=true then some (.bl (if neg then !decide (v=u)else decide (v=u)))else none
 |_,_=>none
theorem o_:qQ M3 (km false):= λ c I S σ T H x y v u d Q s e k=>by
 unfold km at e;split at e
 .rename_i w z o C;split at e
  .rename_i hs;cases e;obtain⟨rfl,_⟩:=eF s.st.tail.head o;obtain⟨rfl,_⟩:=eF s.st.head C;exact⟨hs,k _ _ (s.stk (.cons .mkB s.st.tail.tail))⟩
  .cases e
 grind
theorem vn:qQ LK (km true):= λ c I S σ T H x y v u d Q s e k=>by
 unfold km at e;split at e
 .rename_i w z o C;split at e
  .rename_i hs;cases e;obtain⟨rfl,_⟩:=eF s.st.tail.head o;obtain⟨rfl,_⟩:=eF s.st.head C;exact⟨hs,k _ _ (s.stk (.cons .mkB s.st.tail.tail))⟩
  .cases e
 grind
theorem IL(o:DE X a fa)(C:DE X b fb):DE X (.Compare a [.Eq] [b] pos) (m2 (km false) fa fb):=jC Ah o_ o C
theorem fL(o:DE X a fa)(C:DE X b fb):DT X (.Compare a [.Eq] [b] pos) (m2 (km false) fa fb >>= mE):=gS Ah o_ o C
theorem tI(o:DE X a fa)(C:DE X b fb):DT X (.Compare a [.NotEq] [b] pos) (m2 (km true) fa fb >>= mE):=gS zy vn o C
end
section
variable {X:Cx} {a b e:Expr} {fa fb:M D} {fs:M (List D)} {pos p:Pos} {x:Str}
noncomputable def tj:List D->Option D
 |[.int i,.int j]=>some (.int (if j<i then j else i))
 |_=>none
noncomputable def w9:List D->Option D
 |[.int i,.int j]=>some (.int (if j>i then j else i))
 |_=>none
theorem Gh(g:Int->Int->Int)(f:List D->Option D)(hf:∀ds d,f ds=some d->∃i j,ds=[.int i,.int j]/\d= .int (g i j)):ji (λ xs H Q=>∃i j,xs=[.int i,.int j]/\Q (.int (g i j)) H) f:= λ c I S σ T H ds vs d Q l s e k=>by obtain⟨i,j,rfl,rfl⟩:=hf _ _ e;obtain⟨v,u,rfl,o,C⟩:=NQ (s.st.left l);cases o.int;cases C.int;exact⟨i,j,rfl,k _ _ (s.stk (.cons .mkI (s.st.right l)))⟩
theorem w8(ds:List D)(d:D)(h:tj ds=some d):∃i j,ds=[.int i,.int j]/\d= .int (if j<i then j else i):=by unfold tj at h;grind
theorem xp(ds:List D)(d:D)(h:w9 ds=some d):∃i j,ds=[.int i,.int j]/\d= .int (if j>i then j else i):=by unfold w9 at h;grind
theorem tK (hm:X.mg "min" = none) (ha:DA X [a,b] fs) (hg:Gl X "min":=by rfl) (hc:X.calm=true:=by rfl) (he:starEach [a,b] X.env=(false,eval a X.env) :: starEach [b] X.env:=by rfl) (hp:(backTo pos (starEach [b] X.env)).any (·.1)=false:=by rfl):DE X (.Call (.Name "min" p) [a,b] [] pos) (mC tj fs) :=
 ib (xP hc) (Gh _ tj w8) hg hm (by rfl) ha (by decide) (by rfl) he hp
theorem zp (hm:X.mg "max" = none) (ha:DA X [a,b] fs) (hg:Gl X "max":=by rfl) (hc:X.calm=true:=by rfl) (he:starEach [a,b] X.env=(false,eval a X.env) :: starEach [b] X.env:=by rfl) (hp:(backTo pos (starEach [b] X.env)).any (·.1)=false:=by rfl):DE X (.Call (.Name "max" p) [a,b] [] pos) (mC w9 fs) :=
 ib (xu hc) (Gh _ w9 xp) hg hm (by rfl) ha (by decide) (by rfl) he hp
noncomputable def Gb:D->D->Option D
 | .tup (x::xs),.tup ys=>if xs.length+1+ys.length<=100000 then some (.tup ((x::xs)++ys))else none
 |_,_=>none
theorem AU:qQ (Bp K) Gb:= λ c δ S σ T H x y v u d Q s e k=>by
 unfold Gb at e;split at e
 .rename_i x xs ys;split at e
  .cases e;obtain⟨p,ws,rfl,J,C⟩:=s.st.tail.head.tup;obtain⟨q,zs,rfl,U,o⟩:=s.st.head.tup;have hl:100000<sizeLine:=by decide
   have I:=C.length;have l2:=o.length;rw[QT]at I;refine⟨p,q,ws,zs,rfl,rfl,.of (bK _ _ J),.of (bK _ _ U),λ z=>(by rw[z]at I;simp at I),by omega,λ z=>?_,λ z r hr=>?_⟩;. rw[z]at o;cases ys with
    |nil=>rw[Z1]at k;exact k _ _ (s.stk (.cons s.st.tail.head s.st.tail.tail))
    |cons y ys=>obtain⟨_,_,e,_⟩:=o.inv;cases e
   .have s1:=s.stk ((C.append o).append s.st.tail.tail);exact k _ _ (s1.newTup (by rw[QC,QC,o.length,C.length]) hr)
  grind
 grind
noncomputable def dE:Nat->D->D->Option Bool
 |0,_,_=>none
 |n+1,.tup xs,.tup ys=>(go n xs ys).map λ b=>b&&xs.length==ys.length
 |n+1,.lst xs,.lst ys=>if xs.length=ys.length then go n xs ys else some false
 |_+1,x,y=>match flat x,flat y with
  |some v,some u=>some (x9 v u)
  |_,_=>none
where
 go(n:Nat):List D->List D->Option Bool
  |x::xs,y::ys=>match dE n x y,go n xs ys with
   |some a,some b=>some (a&&b)
   |_,_=>none
  |_,_=>some true
theorem va:∀{a b:List (Int×Int)},(a.map λ p=>((.inl p.1,.int p.2):Key×V))=b.map (λ p=>(.inl p.1,.int p.2))->a=b
 |[],[],_=>rfl
 |[],_::_,h=>by cases h
 |_::_,[],h=>by cases h
 |(x,y)::a,(z,w)::b,h=>by simp at h;rw[va h.2,h.1.1,h.1.2]
theorem vP:∀{a b:List ((Int×Int)×Int)},(a.map λ p=>(([.inl p.1.1,.inl p.1.2],.int p.2):List Key×V))=b.map (λ p=>([.inl p.1.1,.inl p.1.2],.int p.2))->a=b
 |[],[],_=>rfl
 |[],_::_,h=>by cases h
 |_::_,[],h=>by cases h
 |((x,o),y)::a,((z,C),w)::b,h=>by simp at h;rw[vP h.2,h.1.1.1,h.1.1.2,h.1.2]
mutual
theorem R.inj {H:Hp}:∀(x y:D) (v:V),R H x v->R H y v->x=y
 | .non,y,v,h,g=>by
  cases h.non
  cases y with
  | non=>rfl
  | bl b=>cases g.bl
  | int b=>cases g.int
  | str b=>cases g.str
  | tup b=>obtain ⟨_,_,e,_⟩:=g.tup;cases e
  | lst b=>obtain ⟨_,_,e,_⟩:=g.lst;cases e
  | dct=>obtain ⟨_,e,_⟩:=g.dct;cases e
  | dic _=>obtain ⟨_,e,_⟩:=g.dic;cases e
  | dip _=>obtain ⟨_,e,_⟩:=g.dip;cases e
 | .bl x,y,v,h,g=>by
  cases h.bl
  cases y with
  | non=>cases g.non
  | bl b=>cases g.bl;rfl
  | int b=>cases g.int
  | str b=>cases g.str
  | tup b=>obtain ⟨_,_,e,_⟩:=g.tup;cases e
  | lst b=>obtain ⟨_,_,e,_⟩:=g.lst;cases e
  | dct=>obtain ⟨_,e,_⟩:=g.dct;cases e
  | dic _=>obtain ⟨_,e,_⟩:=g.dic;cases e
  | dip _=>obtain ⟨_,e,_⟩:=g.dip;cases e
 | .int x,y,v,h,g=>by
  cases h.int
  cases y with
  | non=>cases g.non
  | bl b=>cases g.bl
  | int b=>cases g.int;rfl
  | str b=>cases g.str
  | tup b=>obtain ⟨_,_,e,_⟩:=g.tup;cases e
  | lst b=>obtain ⟨_,_,e,_⟩:=g.lst;cases e
  | dct=>obtain ⟨_,e,_⟩:=g.dct;cases e
  | dic _=>obtain ⟨_,e,_⟩:=g.dic;cases e
  | dip _=>obtain ⟨_,e,_⟩:=g.dip;cases e
 | .str x,y,v,h,g=>by
  cases h.str
  cases y with
  | non=>cases g.non
  | bl b=>cases g.bl
  | int b=>cases g.int
  | str b=>cases g.str;rfl
  | tup b=>obtain ⟨_,_,e,_⟩:=g.tup;cases e
  | lst b=>obtain ⟨_,_,e,_⟩:=g.lst;cases e
  | dct=>obtain ⟨_,e,_⟩:=g.dct;cases e
  | dic _=>obtain ⟨_,e,_⟩:=g.dic;cases e
  | dip _=>obtain ⟨_,e,_⟩:=g.dip;cases e
 | .tup xs,y,v,h,g=>by
  obtain ⟨a,vs,rfl,h1,h2⟩:=h.tup
  cases y with
  | non=>cases g.non
  | bl b=>cases g.bl
  | int b=>cases g.int
  | str b=>cases g.str
  | tup ys=>
   obtain ⟨a',vs',e,g1,g2⟩:=g.tup
   cases e
   rw [h1] at g1;cases g1
   rw [Rs.inj xs ys vs h2 g2]
  | lst ys=>
   obtain ⟨a',vs',e,g1,g2⟩:=g.lst
   cases e
   rcases g1 with g1 | ⟨o,g1⟩ <;> (rw [h1] at g1;cases g1)
  | dct=>
   obtain ⟨a',e,g1⟩:=g.dct
   cases e
   rw [h1] at g1;cases g1
  | dic _=>
   obtain ⟨a',e,g1⟩:=g.dic
   cases e
   rw [h1] at g1;cases g1
  | dip _=>
   obtain ⟨a',e,g1⟩:=g.dip
   cases e
   rw [h1] at g1;cases g1
 | .lst xs,y,v,h,g=>by
  obtain ⟨a,vs,rfl,h1,h2⟩:=h.lst
  cases y with
  | non=>cases g.non
  | bl b=>cases g.bl
  | int b=>cases g.int
  | str b=>cases g.str
  | tup ys=>
   obtain ⟨a',vs',e,g1,g2⟩:=g.tup
   cases e
   rcases h1 with h1 | ⟨o,h1⟩ <;> (rw [h1] at g1;cases g1)
  | lst ys=>
   obtain ⟨a',vs',e,g1,g2⟩:=g.lst
   cases e
   have:vs' = vs:= by
    rcases h1 with h1 | ⟨o,h1⟩ <;> rcases g1 with g1 | ⟨o',g1⟩ <;> (rw [h1] at g1;first | (cases g1;rfl) | cases g1)
   subst this
   rw [Rs.inj xs ys _ h2 g2]
  | dct=>
   obtain ⟨a',e,g1⟩:=g.dct
   cases e
   rcases h1 with h1 | ⟨o,h1⟩ <;> (rw [h1] at g1;cases g1)
  | dic _=>
   obtain ⟨a',e,g1⟩:=g.dic
   cases e
   rcases h1 with h1 | ⟨o,h1⟩ <;> (rw [h1] at g1;cases g1)
  | dip _=>
   obtain ⟨a',e,g1⟩:=g.dip
   cases e
   rcases h1 with h1 | ⟨o,h1⟩ <;> (rw [h1] at g1;cases g1)
 | .dct,y,v,h,g=>by
  obtain ⟨a,rfl,h1⟩:=h.dct
  cases y with
  | non=>cases g.non
  | bl b=>cases g.bl
  | int b=>cases g.int
  | str b=>cases g.str
  | tup ys=>
   obtain ⟨a',vs',e,g1,g2⟩:=g.tup
   cases e
   rw [h1] at g1;cases g1
  | lst ys=>
   obtain ⟨a',vs',e,g1,g2⟩:=g.lst
   cases e
   rcases g1 with g1 | ⟨o,g1⟩ <;> (rw [h1] at g1;cases g1)
  | dct=>rfl
  | dic _=>
   obtain ⟨a',e,g1⟩:=g.dic
   cases e
   rw [h1] at g1;cases g1
  | dip _=>
   obtain ⟨a',e,g1⟩:=g.dip
   cases e
   rw [h1] at g1;cases g1
 | .dic xs,y,v,h,g=>by
  obtain ⟨a,rfl,h1⟩:=h.dic
  cases y with
  | non=>cases g.non
  | bl b=>cases g.bl
  | int b=>cases g.int
  | str b=>cases g.str
  | tup ys=>
   obtain ⟨a',vs',e,g1,g2⟩:=g.tup
   cases e
   rw [h1] at g1;cases g1
  | lst ys=>
   obtain ⟨a',vs',e,g1,g2⟩:=g.lst
   cases e
   rcases g1 with g1 | ⟨o,g1⟩ <;> (rw [h1] at g1;cases g1)
  | dct=>
   obtain ⟨a',e,g1⟩:=g.dct
   cases e
   rw [h1] at g1;cases g1
  | dic ys=>
   obtain ⟨a',e,g1⟩:=g.dic
   cases e
   rw [h1] at g1
   rw [va (HO.dK.inj (ZG g1))]
  | dip ys=>
   obtain ⟨a',e,g1⟩:=g.dip
   cases e
   rw [h1] at g1;cases g1
 | .dip xs,y,v,h,g=>by
  obtain ⟨a,rfl,h1⟩:=h.dip
  cases y with
  | non=>cases g.non
  | bl b=>cases g.bl
  | int b=>cases g.int
  | str b=>cases g.str
  | tup ys=>
   obtain ⟨a',vs',e,g1,g2⟩:=g.tup
   cases e
   rw [h1] at g1;cases g1
  | lst ys=>
   obtain ⟨a',vs',e,g1,g2⟩:=g.lst
   cases e
   rcases g1 with g1 | ⟨o,g1⟩ <;> (rw [h1] at g1;cases g1)
  | dct=>
   obtain ⟨a',e,g1⟩:=g.dct
   cases e
   rw [h1] at g1;cases g1
  | dic ys=>
   obtain ⟨a',e,g1⟩:=g.dic
   cases e
   rw [h1] at g1;cases g1
  | dip ys=>
   obtain ⟨a',e,g1⟩:=g.dip
   cases e
   rw [h1] at g1
   rw [vP (HO.dT.inj (ZG g1))]
theorem Rs.inj {H:Hp}:∀(xs ys:List D) (vs:List V),Rs H xs vs->Rs H ys vs->xs=ys
 | [],ys,vs,h,g=>by
  cases h.inv0
  cases ys with
  | nil=>rfl
  | cons y ys=>obtain ⟨_,_,e,_⟩:=g.inv;cases e
 | x :: xs,ys,vs,h,g=>by
  obtain ⟨v,r,rfl,h1,h2⟩:=h.inv
  cases ys with
  | nil=>cases g.inv0
  | cons y ys=>rw [R.inj x y v h1 g.head,Rs.inj xs ys r h2 g.tail]
end
theorem jz:∀{xs ys:List D}{b:Bool},dE.go n xs ys=some b->∃e:Nat->Bool,(∀(j:Nat) x y,xs[j]?=some x->ys[j]?=some y->dE n x y=some (e j))/\b=(List.range (min xs.length ys.length)).all e
 |[],ys,b,h=>by cases h;exact⟨λ _=>true,λ j x y o=>by simp at o,by simp⟩
 |x::xs,[],b,h=>by cases h;exact⟨λ _=>true,λ j x y o C=>by simp at C,by simp⟩
 |x::xs,y::ys,b,h=>by
  unfold dE.go at h;split at h
  .rename_i b1 U e1 I;cases h;obtain⟨e,he,J⟩:=jz I;refine⟨λ j=>match j with|0=>b1|j+1=>e j,λ j x' y' o C=>?_,?_⟩;. grind
   .rw[QT,QT,Nat.add_min_add_right,WO,Z7,List.all_map,J];rfl
  grind
theorem jm(h:g6 v=true):x9 v v=true:=by cases v with
 |non=>rfl
 |bl b=>cases b <;> rfl
 |int i=>exact beq_self_eq_true i
 |str x=>exact beq_self_eq_true x
 |_=>cases h
theorem zE:∀(n:Nat)(x:D)(b:Bool),dE n x x=some b->b=true:=by intro n;induction n with
 |zero=>intro x b h;simp[dE]at h
 |succ n I=>
  have go:∀(xs:List D)(b:Bool),dE.go n xs xs=some b->b=true:= λ xs b h=>by obtain⟨e,he,C⟩:=jz h;rw[Nat.min_self]at C;subst C;rw[fR];intro j J;have o:=QL.mp J;exact I _ _ (he j _ _ (kW o) (kW o))
  intro x b h;cases x with
  |tup xs=>unfold dE at h;cases q:dE.go n xs xs with
   |none=>rw[q]at h;cases h
   |some U=>rw[q]at h;cases h;rw[go xs U q];simp
  |lst xs=>unfold dE at h;grind
  |non=>simp[dE,flat]at h;rw[<- h];exact jm rfl
  |bl q=>simp[dE,flat]at h;rw[<- h];exact jm rfl
  |int q=>simp[dE,flat]at h;rw[<- h];exact jm rfl
  |str q=>simp[dE,flat]at h;rw[<- h];exact jm rfl
  |dct=>simp[dE,flat]at h
  |dic _=>simp[dE,flat]at h
  |dip _=>simp[dE,flat]at h
open SeqAt in
theorem y3 {pins:List (Addr × Obj)} {σ:St} {H Hh:Hp} {s:Shared} (I:Inv X pins σ H s) (m:∀b o,Hh b=some o->H b=some o):∀(n:Nat) (A:Around),A.units + n < cLine->∀(x y:D) (v w:V) (u z:Value) (b:Bool),R Hh x v->R Hh y w->RelV v u->RelV w z->dE n x y=some b ->
  EqAt A s u z b∧((∃xs,x=.tup xs ∨ x=.lst xs)->RcAt A s u z b):= by
 intro n
 induction n with
 | zero=>intro A _ x y v w u z b _ _ _ _ h;simp [dE] at h
 | succ n ih=>
  intro A hu x y v w u z b rx ry ru rz h
  have hu':A.units < cLine:=by omega
  have items:∀{xs ys:List D} {vs ws:List V} {is js:List Value} {e:Nat->Bool},Rs Hh xs vs->Rs Hh ys ws->Vals vs is->Vals ws js->(∀(j:Nat) x y,xs[j]? = some x->ys[j]? = some y->dE n x y=some (e j)) ->
    ∀j (h1:j < is.toArray.size) (h2:j < js.toArray.size),EqAt A.in1 s is.toArray[j] js.toArray[j] (e j):=fun {xs ys vs ws is js e} r1 r2 v1 v2 he j h1 h2=>by
   have l1:j < xs.length:=by rw [<- r1.length,v1.length];simpa using h1
   have l2:j < ys.length:=by rw [<- r2.length,v2.length];simpa using h2
   obtain ⟨v',e1,q1⟩:=r1.get (kW l1)
   obtain ⟨w',e2,q2⟩:=r2.get (kW l2)
   obtain ⟨u',e3,q3⟩:=v1.get e1
   obtain ⟨z',e4,q4⟩:=v2.get e2
   have:=(ih A.in1 (by show A.units + 1 + n < _;omega) _ _ v' w' u' z' (e j) q1 q2 q3 q4 (he j _ _ (kW l1) (kW l2))).1
   have a1:is.toArray[j]=u':= by
    have:=(xZ.mp e3).2
    simpa using this
   have a2:js.toArray[j]=z':= by
    have:=(xZ.mp e4).2
    simpa using this
   rw [a1,a2];exact this
  have refs:∀{l k:Addr},u=.ref l->z=.ref k->v=.ref l->w=.ref k->RcAt A s u z b->EqAt A s u z b:=fun {l k} eu ez ev ew rc=>by
   by_cases hlk:l=k
   .subst hlk
    rw [ev] at rx;rw [ew] at ry
    have:=R.inj x y _ rx ry
    subst this
    rw [zE _ _ _ h,eu,ez]
    exact EqAt.same _
   .rw [eu,ez] at rc ⊢;exact EqAt.of_refs hlk rc
  have flatCase:∀{p q:V},flat x=some p->flat y=some q->b=x9 p q->EqAt A s u z b:=fun {p q} e1 e2 eb=>by
   obtain ⟨rfl,f1⟩:=eF rx e1
   obtain ⟨rfl,f2⟩:=eF ry e2
   rw [eb];exact A_ ru rz f1 f2
  have flatAll:(∀xs,x ≠ .tup xs)->(∀xs,x ≠ .lst xs)->∀p,flat x=some p->EqAt A s u z b:=fun _ _ p e1=>by
   cases y with
   | tup ys=>cases x <;> first | (simp [dE,flat] at h;done) | (cases e1;done)
   | lst ys=>cases x <;> first | (simp [dE,flat] at h;done) | (cases e1;done)
   | dct=>cases x <;> first | (simp [dE,flat] at h;done) | (cases e1;done)
   | dic _=>cases x <;> first | (simp [dE,flat] at h;done) | (cases e1;done)
   | dip _=>cases x <;> first | (simp [dE,flat] at h;done) | (cases e1;done)
   | non=>exact flatCase e1 rfl (by cases x <;> first | (cases e1;simpa [dE,flat] using h.symm) | cases e1)
   | bl q=>exact flatCase e1 rfl (by cases x <;> first | (cases e1;simpa [dE,flat] using h.symm) | cases e1)
   | int q=>exact flatCase e1 rfl (by cases x <;> first | (cases e1;simpa [dE,flat] using h.symm) | cases e1)
   | str q=>exact flatCase e1 rfl (by cases x <;> first | (cases e1;simpa [dE,flat] using h.symm) | cases e1)
  cases x with
  | dct=>simp [dE,flat] at h
  | dic _=>simp [dE,flat] at h
  | dip _=>simp [dE,flat] at h
  | non=>exact ⟨flatAll (fun _ z=>nomatch z) (fun _ z=>nomatch z) _ rfl,fun ⟨xs,z⟩=>by rcases z with z | z <;> cases z⟩
  | bl q=>exact ⟨flatAll (fun _ z=>nomatch z) (fun _ z=>nomatch z) _ rfl,fun ⟨xs,z⟩=>by rcases z with z | z <;> cases z⟩
  | int q=>exact ⟨flatAll (fun _ z=>nomatch z) (fun _ z=>nomatch z) _ rfl,fun ⟨xs,z⟩=>by rcases z with z | z <;> cases z⟩
  | str q=>exact ⟨flatAll (fun _ z=>nomatch z) (fun _ z=>nomatch z) _ rfl,fun ⟨xs,z⟩=>by rcases z with z | z <;> cases z⟩
  | tup xs=>
   cases y with
   | tup ys=>
    obtain ⟨l,vs,rfl,h1,h2⟩:=rx.tup
    obtain ⟨k,ws,rfl,g1,g2⟩:=ry.tup
    cases ru;cases rz
    obtain ⟨is,v1,p1,_⟩:=I.tuple (.of (m _ _ h1))
    obtain ⟨js,v2,p2,_⟩:=I.tuple (.of (m _ _ g1))
    have s1:is.toArray.size=xs.length:=by rw [uP,<- v1.length,h2.length]
    have s2:js.toArray.size=ys.length:=by rw [uP,<- v2.length,g2.length]
    have rc:RcAt A s (.ref l) (.ref k) b:= by
     unfold dE at h
     cases q:dE.go n xs ys with
     | none=>rw [q] at h;cases h
     | some b'=>
      rw [q] at h;cases h
      obtain ⟨e,he,hb⟩:=jz q
      have:=RcAt.tuples p1 p2 hu' (items h2 g2 v1 v2 he)
      rw [s1,s2,<- hb] at this
      exact this
    exact ⟨refs rfl rfl rfl rfl rc,fun _=>rc⟩
   | _=>simp [dE,flat] at h
  | lst xs=>
   cases y with
   | lst ys=>
    obtain ⟨l,vs,rfl,h1,h2⟩:=rx.lst
    obtain ⟨k,ws,rfl,g1,g2⟩:=ry.lst
    cases ru;cases rz
    obtain ⟨is,v1,p1,_⟩:=I.list (.inl (Rd.mono m h1))
    obtain ⟨js,v2,p2,_⟩:=I.list (.inl (Rd.mono m g1))
    have s1:is.toArray.size=xs.length:=by rw [uP,<- v1.length,h2.length]
    have s2:js.toArray.size=ys.length:=by rw [uP,<- v2.length,g2.length]
    have rc:RcAt A s (.ref l) (.ref k) b:= by
     unfold dE at h
     split at h
     .rename_i hl
      obtain ⟨e,he,hb⟩:=jz h
      have:=RcAt.lists p1.isList p2.isList (by rw [s1,s2,hl]) hu' (items h2 g2 v1 v2 he)
      rw [hb,<- hl,Nat.min_self,<- s1];exact this
     .rename_i hl
      cases h
      exact RcAt.lists_lengths p1.isList p2.isList (by rw [s1,s2];simpa using hl) hu'
    grind
   | _=>simp [dE,flat] at h
theorem gY(o:cu k A):A.units+20<cLine:=by have:=o.un;omega
noncomputable def jU:D->D->Bool
 | .tup _,.tup _=>true
 | .lst _,.lst _=>true
 |_,_=>false
noncomputable def jx(neg:Bool)(x y:D):Option D:=if jU x y=true then(dE 9 x y).map λ b=> .bl (if neg then !b else b)else km neg x y
noncomputable def Kp:R2:= λ v u H Q=>M3 v u H Q\/ ∃(C:Hp) (x y:D) (b:Bool),(∀b o,C b=some o->H b=some o)/\R C x v/\R C y u/\jU x y=true/\dE 9 x y=some b/\Q (.bl b) H
theorem BH(hu:X.A.units+20<cLine):gG X (compareOp .Eq) Kp:=by
 intro pins s σ H v w u z Q I o C h;rcases h with h|⟨Hh,x,y,b,m,J,U,hs,e,q⟩
 .exact Ah pins s σ H v w u z Q I o C h
 .have:=(y3 I m 9 X.A (by omega) x y v w u z b J U o C e).2 (by cases x <;> first|grind|exact⟨_,.inr rfl⟩|(simp[jU]at hs));exact this _ _ _ _ ⟨.bl b,H,I,rfl,q⟩
theorem wA:qQ Kp (jx false):= λ c o S σ T H x y v u d Q s e k=>by
 unfold jx at e;split at e;. rename_i hs;cases q:dE 9 x y with
  |none=>rw[q]at e;cases e
  |some b=>rw[q]at e;cases e;exact .inr ⟨_,x,y,b,bK,s.st.tail.head,s.st.head,hs,q,k _ _ (s.stk (.cons .mkB s.st.tail.tail))⟩
 .exact .inl (o_ c o S σ T H x y v u d Q s e k)
theorem L0(o:cu k X.A)(C:DE X a fa)(I:DE X b fb):DE X (.Compare a [.Eq] [b] pos) (m2 (jx false) fa fb):=jC (BH (gY o)) wA C I
theorem G0(o:cu k X.A)(C:DE X a fa)(I:DE X b fb):DT X (.Compare a [.Eq] [b] pos) (m2 (jx false) fa fb >>= mE):=gS (BH (gY o)) wA C I
end
section
variable {X:Cx} {a b e:Expr} {fa fb:M D} {fs:M (List D)} {pos p:Pos} {x:Str}
open SeqAt in
theorem Hu{σ:St}{H Hh:Hp}{s:Shared}(I:Inv X pins σ H s)(m:∀b o,Hh b=some o->H b=some o){n:Nat}{A:Around}(hu:A.units+(n+1)<cLine){x y:D}{v w:V}{u z:Value}{b:Bool}(rx:R Hh x v)(ry:R Hh y w)(ru:RelV v u)(rz:RelV w z)
  (hs:jU x y=true)(h:dE (n+1) x y=some b):RcNeAt A s u z (!b):=by
 have U:A.units<cLine:=by omega
 have items:∀{xs ys:List D}{vs ws:List V}{is C:List Value}{e:Nat->Bool},Rs Hh xs vs->Rs Hh ys ws->Vals vs is->Vals ws C->(∀(j:Nat) x y,xs[j]?=some x->ys[j]?=some y->dE n x y=some (e j))->
   ∀j(h1:j<is.toArray.size)(J:j<C.toArray.size),EqAt A.in1 s is.toArray[j] C.toArray[j] (e j):= λ{xs ys vs ws is C e} r1 r2 v1 v2 he j h1 J=>by
  have l1:j<xs.length:=by rw[<- r1.length,v1.length];simpa using h1
  have l2:j<ys.length:=by rw[<- r2.length,v2.length];simpa using J
  obtain⟨v',e1,q1⟩:=r1.get (kW l1);obtain⟨w',e2,q2⟩:=r2.get (kW l2);obtain⟨u',e3,q3⟩:=v1.get e1;obtain⟨z',e4,q4⟩:=v2.get e2;have:=(y3 I m n A.in1 (by show A.units+1+n<_;omega) _ _ v' w' u' z' (e j) q1 q2 q3 q4 (he j _ _ (kW l1) (kW l2))).1;grind
 cases x with
 |tup xs=>cases y with
  |tup ys=>
   obtain⟨l,vs,rfl,h1,J⟩:=rx.tup;obtain⟨k,ws,rfl,g1,g2⟩:=ry.tup;cases ru;cases rz;obtain⟨is,v1,p1,_⟩:=I.tuple (.of (m _ _ h1));obtain⟨C,v2,p2,_⟩:=I.tuple (.of (m _ _ g1));have s1:is.toArray.size=xs.length:=by rw[uP,<- v1.length,J.length]
   have s2:C.toArray.size=ys.length:=by rw[uP,<- v2.length,g2.length]
   unfold dE at h;cases q:dE.go n xs ys with
   |none=>rw[q]at h;cases h
   |some b'=>rw[q]at h;cases h;obtain⟨e,he,hb⟩:=jz q;have:=RcNeAt.tuples p1 p2 U (items J g2 v1 v2 he);rw[s1,s2,<- hb]at this;exact this
  |_=>simp[jU]at hs
 |lst xs=>cases y with
  |lst ys=>
   obtain⟨l,vs,rfl,h1,J⟩:=rx.lst;obtain⟨k,ws,rfl,g1,g2⟩:=ry.lst;cases ru;cases rz;obtain⟨is,v1,p1,_⟩:=I.list (.inl (Rd.mono m h1));obtain⟨C,v2,p2,_⟩:=I.list (.inl (Rd.mono m g1));have s1:is.toArray.size=xs.length:=by rw[uP,<- v1.length,J.length]
   have s2:C.toArray.size=ys.length:=by rw[uP,<- v2.length,g2.length]
   unfold dE at h;split at h;. rename_i hl;obtain⟨e,he,hb⟩:=jz h;have:=RcNeAt.lists p1.isList p2.isList (by rw[s1,s2,hl]) U (items J g2 v1 v2 he);rw[hb,<- hl,Nat.min_self,<- s1];exact this
   .rename_i hl;cases h;exact RcNeAt.lists_lengths p1.isList p2.isList (by rw[s1,s2];simpa using hl) U
  |_=>simp[jU]at hs
 |_=>simp[jU]at hs
noncomputable def KN:R2:= λ v u H Q=>LK v u H Q\/ ∃(C:Hp) (x y:D) (b:Bool),(∀b o,C b=some o->H b=some o)/\R C x v/\R C y u/\jU x y=true/\dE 9 x y=some b/\Q (.bl (!b)) H
theorem A4(hu:X.A.units+20<cLine):gG X (compareOp .NotEq) KN:=by
 intro pins s σ H v w u z Q I o C h;rcases h with h|⟨Hh,x,y,b,m,J,U,hs,e,q⟩
 .exact zy pins s σ H v w u z Q I o C h
 .exact Hu I m (n:=8) (A:=X.A) (by omega) J U o C hs e _ _ _ _ ⟨.bl (!b),H,I,rfl,q⟩
theorem Cn:qQ KN (jx true):= λ c o S σ T H x y v u d Q s e k=>by
 unfold jx at e;split at e;. rename_i hs;cases q:dE 9 x y with
  |none=>rw[q]at e;cases e
  |some b=>rw[q]at e;cases e;exact .inr ⟨_,x,y,b,bK,s.st.tail.head,s.st.head,hs,q,k _ _ (s.stk (.cons .mkB s.st.tail.tail))⟩
 .exact .inl (vn c o S σ T H x y v u d Q s e k)
theorem mr(o:cu k X.A)(C:DE X a fa)(I:DE X b fb):DT X (.Compare a [.NotEq] [b] pos) (m2 (jx true) fa fb >>= mE):=gS (A4 (gY o)) Cn C I
noncomputable def L_(ta:TA):TE:= λ σ H Q=>ta σ H λ vs H1=>∃j:Int,vs=[.int j]/\∀q,H1 q=none->Q (.ref q) (upd H1 q (.rng 0 j))
theorem xl(C:Gl X "range")(hm:X.mg "range"=none)(J:PA X [a] ta)(hs:starEach [a] X.env=[(false,eval a X.env)]:=by rfl):PE X (.Call (.Name "range" p) [a] [] pos) (L_ ta):=by intro pins s σ H Q I h;refine PyProof.Rows.Call_ (jX I C hm (show bootBuiltins "range"=some (.type "range")by decide+kernel) (VH (cC (J pos pins s σ H _ I h) λ us s1 ⟨vs,H1,o,U,q1⟩=>?_) hs rfl));obtain⟨j,e,q⟩:=q1;subst e;cases U with
 |cons r rr=>cases rr;obtain⟨t,rfl⟩:=r;refine call_range_1 ⟨.ref s1.heap.objs.size,upd H1 s1.heap.objs.size (.rng 0 j),o.laid (λ b u e=>kT _ e) (xS _) ?_,rfl,q _ o.fresh⟩;exact⟨_,_,_,wN _ rfl⟩
theorem sZ{acc:Array Value}(h:ItemsOf (λ i v=>∃t,v= .int (lo+i*1) t) acc n):Vals ((List.range n).map λ(i:Nat)=>V.int (lo+i)) acc.toList:=by
 obtain⟨U,I⟩:=h;have gen:∀(us:List Value)(k:Nat),(∀(j:Nat) v,us[j]?=some v->∃t,v= .int (lo+((k+j:Nat):Int)) t)->Vals ((List.range us.length).map λ i=>V.int (lo+((k+i:Nat):Int))) us:=by intro us;induction us with
  |nil=>intro k _;exact .nil
  |cons u us J=>
   intro k C;rw[QT,WO];obtain⟨t,e⟩:=C 0 u rfl;refine .cons ⟨t,by simpa using e⟩ ?_;have:=J (k+1) λ j v o=>by obtain⟨t,e⟩:=C (j+1) v (by simpa using o);exact⟨t,by rw[e];congr 2;omega⟩
   have e2:((λ i=>V.int (lo+((k+i:Nat):Int)))∘Nat.succ)= λ i=>V.int (lo+((k+1+i:Nat):Int)):=by funext i;show V.int _=V.int _;congr 2;omega
   simp_all
 have:=gen acc.toList 0 λ j v o=>by obtain⟨t,e⟩:=I j v (by simpa using o);exact⟨t,by rw[e];simp⟩
 grind
theorem tx(J:X.calm=true):dw X (.type "list") (λ xs H Q=>∃q j,xs=[.ref q]/\H q=some (.rng 0 j)/\j<100000/\ -(2^62)<=j/\∀l,H l=none->Q (.ref l) (upd H l (.lst ((List.range j.toNat).map λ(i:Nat)=>V.int (0+i))))):=by
 intro pins s σ H xs us Q I r h;obtain⟨q,j,rfl,U,hj,C,k⟩:=h;obtain⟨u,rfl,rx⟩:=r.one;cases rx;obtain⟨t,u',v,hr⟩:=I.hok q _ U;refine call_list_range (n:=j.toNat) (I.ok.hd J) hr (small_one (by omega) (by omega) C (by omega)) (by rw[rangeSize_one];split <;> omega) (by omega) λ h' tk o c' kp e hi=>?_;refine⟨.ref s.heap.objs.size,_,I.laid (t':=tk) kp (xS _) (show cN X.prog X.w _ h' _ (.lst _)from⟨?_,o.toList,c',sZ hi,by simpa using e⟩),rfl,k _ I.fresh⟩;have:100000<sizeLine:=by decide
 grind
noncomputable def Ej:List D->Option (List D)
 |[.int j]=>if j<100000/\ -(2^62)<=j then some (b_ 0 j.toNat)else none
 |_=>none
theorem Au:Rs H (b_ lo n) ((List.range n).map λ(i:Nat)=>V.int (lo+i)):=by unfold b_;induction(List.range n)with
 |nil=>rfl
 |cons i r o=>exact .cons .mkI o
theorem zU{p2 C:Pos}(I:X.mg "list"=none)(J:X.mg "range"=none)(ha:DA X [a] fs)(U:Gl X "list":=by rfl)(aa:Gl X "range":=by rfl)(hc:X.calm=true:=by rfl)(hs:starEach [a] X.env=[(false,eval a X.env)]:=by rfl):
  DF X (.Call (.Name "list" p) [.Call (.Name "range" p2) [a] [] C] [] pos) (mC Ej fs):=
 cM (eA (tx hc) U I (by decide+kernel) (bA (xl aa J ha hs) cy) (by decide) (by decide) rfl rfl) λ σ H Q ⟨c,δ,S,T,d,ae,s,e,k⟩=>by
  obtain⟨ds,ab,e1,e⟩:=bind_some e;obtain⟨o,rfl⟩:=bt e;refine⟨c,δ,S,T,ds,ab,s,e1,λ vs H1 l s1=>?_⟩;unfold Ej at o;split at o
  .rename_i j;split at o
   .rename_i hj;cases o;obtain⟨v,rfl,r⟩:=wK (s1.st.left l);cases r.int;refine⟨j,rfl,λ q hq=>⟨q,j,rfl,bB,hj.1,hj.2,λ m hm=>?_⟩⟩;have s2:=(s1.drop l).grow (dZ hq (.rng 0 j));obtain⟨f1,f2,f3⟩:=s2.fresh hm;refine k m _ _ (Au (H:=H)).length ((s2.hide hm).stk ?_) f1 f2 f3;exact Au.append (s2.hide hm).st
   .cases o
  .cases o
end
section
variable {X:Cx} {a b e:Expr} {fa:M D} {pos p:Pos}
inductive Ty where
 | int | bool | tup | lst | str
noncomputable def Ty.name:Ty->String
 | .int=>"int"
 | .bool=>"bool"
 | .tup=>"tuple"
 | .lst=>"list"
 | .str=>"str"
noncomputable def qZ:Ty->D->Option Bool
 | .int,.int _=>some true
 | .int,.bl _=>some true
 | .bool,.bl _=>some true
 | .tup,.tup _=>some true
 | .lst,.lst _=>some true
 | .str,.str _=>some true
 |_,_=>some false
theorem dictAt {a:Addr} (I:Inv X pins σ H s) (h:H a=some (kZ a)):∃o,s.heap.get? a=some o∧o.cls=.type "dict":= by
 obtain ⟨⟨_,o,_,h1,h2,_⟩,_⟩:=I.hok a _ h
 grind
theorem J7{σ:St}{H:Hp}{s:Shared}{a:Addr}{kvs:List (Int×Int)}(I:Inv X pins σ H s)(h:H a=some (C6 kvs)):∃o,s.heap.get? a=some o/\o.cls= .type "dict":=by obtain⟨_,_,vs,_,o,_,_,C,J,_⟩:=(show cN X.prog X.w H s.heap a (C6 kvs)from I.hok a _ h);exact⟨o,C,J.1⟩
theorem KR{σ:St}{H:Hp}{s:Shared}{a:Addr}{kvs:List ((Int×Int)×Int)}(I:Inv X pins σ H s)(h:H a=some (FO kvs)):∃o,s.heap.get? a=some o/\o.cls= .type "dict":=by obtain⟨_,_,xs,_,o,_,_,C,J,_⟩:=(show cN X.prog X.w H s.heap a (FO kvs)from I.hok a _ h);exact⟨o,C,J.1⟩
theorem zG:dw X (.builtin "isinstance") (λ xs H Q=>∃(Hh:Hp) (d:D) (v:V) (T:Ty) (k:Bool),xs=[v,.ty T.name]/\(∀b o,Hh b=some o->H b=some o)/\R Hh d v/\qZ T d=some k/\Q (.bl k) H):=by intro pins s σ H xs us Q I r h;obtain⟨Hh,d,v,T,k,rfl,m,rd,ek,q⟩:=h;obtain⟨u,z,rfl,ru,rz⟩:=r.two;cases rz;have fin:∀tk,EP X pins σ Q (.bool k) { s with toks:=tk }:= λ tk=>⟨.bl k,H,I.tok _,rfl,q⟩;have U:EP X pins σ Q (.bool k) s:=⟨.bl k,H,I,rfl,q⟩;cases d with
 |non=>
  cases rd.non;cases ru;cases T <;> cases ek;. exact IsiPair.NoneType_int (fin _)
  .exact IsiPair.NoneType_bool (fin _)
  .exact IsiPair.NoneType_tuple (fin _)
  .exact IsiPair.NoneType_list (fin _)
  .exact IsiPair.NoneType_str (fin _)
 |int i=>
  cases rd.int;obtain⟨t,rfl⟩:=ru;cases T <;> cases ek;. exact IsiPair.int_int U
  .exact IsiPair.int_bool (fin _)
  .exact IsiPair.int_tuple (fin _)
  .exact IsiPair.int_list (fin _)
  .exact IsiPair.int_str (fin _)
 |bl i=>
  cases rd.bl;cases ru;cases T <;> cases ek;. exact IsiPair.bool_int U
  .exact IsiPair.bool_bool U
  .exact IsiPair.bool_tuple (fin _)
  .exact IsiPair.bool_list (fin _)
  .exact IsiPair.bool_str (fin _)
 |str i=>
  cases rd.str;obtain⟨t,rfl⟩:=ru;cases T <;> cases ek;. exact IsiPair.str_int (fin _)
  .exact IsiPair.str_bool (fin _)
  .exact IsiPair.str_tuple (fin _)
  .exact IsiPair.str_list (fin _)
  .exact IsiPair.str_str U
 |tup ds=>
  obtain⟨q',vs,rfl,h1,h2⟩:=rd.tup;cases ru;obtain⟨its,_,⟨o,C,J,_⟩,_⟩:=I.tuple (.of (m _ _ h1));cases T <;> cases ek;. exact IsiPair.tuple_int C J (fin _)
  .exact IsiPair.tuple_bool C J (fin _)
  .exact IsiPair.tuple_tuple C J U
  .exact IsiPair.tuple_list C J (fin _)
  .exact IsiPair.tuple_str C J (fin _)
 |lst ds=>
  obtain⟨q',vs,rfl,h1,h2⟩:=rd.lst;cases ru;obtain⟨its,_,pl,_⟩:=I.list (.inl (Rd.mono m h1));obtain⟨o,C,J,_⟩:=pl.isList;cases T <;> cases ek;. exact IsiPair.list_int C J (fin _)
  .exact IsiPair.list_bool C J (fin _)
  .exact IsiPair.list_tuple C J (fin _)
  .exact IsiPair.list_list C J U
  .exact IsiPair.list_str C J (fin _)
 |dct=>
  obtain⟨q',rfl,h1⟩:=rd.dct;cases ru;obtain⟨o,C,J⟩:=dictAt I (m _ _ h1);cases T <;> cases ek;. exact IsiPair.dict_int C J (fin _)
  .exact IsiPair.dict_bool C J (fin _)
  .exact IsiPair.dict_tuple C J (fin _)
  .exact IsiPair.dict_list C J (fin _)
  .exact IsiPair.dict_str C J (fin _)
 |dic kvs=>
  obtain⟨q',rfl,h1⟩:=rd.dic;cases ru;obtain⟨o,C,J⟩:=J7 I (m _ _ h1);cases T <;> cases ek;. exact IsiPair.dict_int C J (fin _)
  .exact IsiPair.dict_bool C J (fin _)
  .exact IsiPair.dict_tuple C J (fin _)
  .exact IsiPair.dict_list C J (fin _)
  .exact IsiPair.dict_str C J (fin _)
 |dip kvs=>
  obtain⟨q',rfl,h1⟩:=rd.dip;cases ru;obtain⟨o,C,J⟩:=KR I (m _ _ h1);cases T <;> cases ek;. exact IsiPair.dict_int C J (fin _)
  .exact IsiPair.dict_bool C J (fin _)
  .exact IsiPair.dict_tuple C J (fin _)
  .exact IsiPair.dict_list C J (fin _)
  .exact IsiPair.dict_str C J (fin _)
noncomputable def Ei(T:Ty)(fa:M D):M D:=do
 let d<- fa
 let k<- lift (qZ T d)
 pure (.bl k)
theorem Lz(T:Ty){y:Str}{py:Pos}(o:Gl X y)(hm:X.mg y=none)(C:bootBuiltins y=some (.type T.name))(I:y≠"__name__":=by decide)(hd:(y==("__debug__":Str))=false:=by decide):PE X (.Name y py) (tC (.ty T.name)):=vX o hm C rfl I hd
theorem fK(T:Ty){y:Str}{py:Pos}(o:X.mg "isinstance"=none)(C:X.mg y=none)(ha:DE X a fa)(hv:bootBuiltins y=some (.type T.name):=by decide+kernel)(I:Gl X "isinstance":=by rfl)(J:Gl X y:=by rfl)(hn:y≠"__name__":=by decide)(hd:(y==("__debug__":Str))=false:=by decide)
  (he:starEach [a,.Name y py] X.env=(false,eval a X.env)::starEach [.Name y py] X.env:=by rfl):DE X (.Call (.Name "isinstance" p) [a,.Name y py] [] pos) (Ei T fa):=
 cM (dA zG I o (by decide+kernel) (bA ha (bA (Lz T J C hv hn hd) cy) he) (by decide) (by decide) he rfl) λ σ H Q ⟨c,δ,S,TT,d,aa,s,e,k⟩=>by obtain⟨x,U,e1,e⟩:=bind_some e;obtain⟨b,ab,e2,e⟩:=bind_some e;obtain⟨e3,rfl⟩:=bt e2;obtain⟨rfl,rfl⟩:=bg e;exact⟨c,δ,S,TT,x,U,s,e1,λ v H1 s1=>⟨_,x,v,T,b,rfl,bK,s1.st.head,e3,k _ _ (s1.stk (.cons .mkB s1.st.tail))⟩⟩
end
noncomputable def xj(x:Int):List Int->List Int
 |[]=>[x]
 |y::r=>if x<=y then x::y::r else y::xj x r
noncomputable def cT:List Int->List Int
 |[]=>[]
 |x::r=>xj x (cT r)
theorem jA(x:Int):∀l,(xj x l).Perm (x::l)
 |[]=>ZW _
 |y::r=>by
  unfold xj;split;. rfl
  .exact((jA x r).cons y).trans (List.Perm.swap _ _ _)
theorem fu:∀l,(cT l).Perm l
 |[]=>ZW _
 |x::r=>(jA x _).trans ((fu r).cons x)
theorem u0(x:Int):∀l:List Int,l.Pairwise (. <= .)->(xj x l).Pairwise (. <= .)
 |[],_=>ZL _ _
 |y::r,h=>by
  obtain⟨o,C⟩:=QE.mp h;unfold xj;split
  .rename_i hx;refine QE.mpr ⟨λ z hz=>?_,h⟩;rcases wR.mp hz with e|hz
   .rw[e];exact hx
   .exact Int.le_trans hx (o z hz)
  .refine QE.mpr ⟨λ z hz=>?_,u0 x r C⟩;rcases wR.mp ((jA x r).mem_iff.mp hz)with e|hz
   .omega
   simp_all
theorem l5:∀l,(cT l).Pairwise (. <= .)
 |[]=>List.Pairwise.nil
 |x::r=>u0 x _ (l5 r)
theorem nz:∀{a b:List Int},a.Perm b->a.Pairwise (. <= .)->b.Pairwise (. <= .)->a=b
 |[],b,p,_,_=>(List.nil_perm.mp p).symm
 |x::a,[],p,_,_=>absurd p (by simp)
 |x::a,y::b,p,o,C=>by
  obtain⟨a1,a2⟩:=QE.mp o;obtain⟨b1,I⟩:=QE.mp C;have e:x=y:=by have hx:x∈y::b:=p.mem_iff.mp uL;have J:y∈x::a:=p.mem_iff.mpr uL;grind
  subst e;rw[nz ((List.perm_cons x).mp p) a2 I]
theorem zA(p:a.Perm b)(h:a.Pairwise (. <= .)):a=cT b:=nz (p.trans (fu b).symm) h (l5 b)
noncomputable def jM:List Int->List Int
 |[]=>[]
 |x::r=>if x∈jM r then jM r else x::jM r
theorem eW:∀{l:List Int},z∈jM l↔z∈l
 |[]=>Iff.rfl
 |x::r=>by
  unfold jM;split;. rename_i h;rw[eW,wR];exact⟨.inr,λ q=>q.elim (λ e=>e▸eW.mp h) id⟩
  .rw[wR,wR,eW]
theorem dU:∀(l:List Int),(jM l).Nodup
 |[]=>V6
 |x::r=>by
  unfold jM;split;. exact dU r
  .rename_i h;exact ZF.mpr ⟨h,dU r⟩
theorem tG(l:List Int):(jM l).length<=l.length:=by induction l with
 |nil=>exact xS _
 |cons x r o=>unfold jM;grind
theorem zM{a b:List Int}(nd:a.Nodup)(h:∀z,z∈a↔z∈b):a.Perm (jM b):=by refine(List.perm_ext_iff_of_nodup nd (dU b)).mpr λ z=>?_;rw[h z,eW]
inductive N0 (K:PySem.W.Frag) (f:M (List D)) (σ:St) (H:Hp) (Q:VK):Prop
 | mk (c:Ct) (δ:DS) (S:List D) (T:List V) (xs:List D) (δ':DS) (s:Sl c δ S σ T H) (e:f δ=some (xs,δ')) (q:∀p vs H',vs.length=xs.length->(gK K H' p vs ∨ fv K H' p vs)->Sl c δ' (xs ++ S) σ (vs ++ T) H' -> Q (.ref p) H'):N0 K f σ H Q
noncomputable abbrev DQ(X:Cx)(e:Expr)(f:M (List D)):Prop:=PE X e (N0 X.K f)
section
variable {X:Cx} {b e:Expr} {fa:M D} {fq:M (List D)} {pos p:Pos} {x:Str}
theorem sg(h:DE X e fa):DQ X e (do let x<- fa;lift (um x)):=cM h λ σ H Q ⟨c,U,S,T,xs,aa,s,e,k⟩=>by obtain⟨d,C,e1,e⟩:=bind_some e;obtain⟨I,rfl⟩:=bt e;refine⟨c,U,S,T,d,C,s,e1,λ v H' s'=>?_⟩;cases d with
 |tup ds=>cases I;obtain⟨q,vs,rfl,J,o⟩:=s'.st.head.tup;exact k q vs H' o.length (.inr (.of (bK _ _ J))) (s'.stk (o.append s'.st.tail))
 |lst ds=>cases I;obtain⟨q,vs,rfl,J,o⟩:=s'.st.head.lst;exact k q vs H' o.length (.inl (.inl (Rd.mono bK J))) (s'.stk (o.append s'.st.tail))
 |_=>cases I
theorem Inv.kd{σ:St}{H:Hp}{s:Shared}{h':Heap}{t':Nat}{d':Drawn}(I:Inv X pins σ H s)(k:∀b u,s.heap.get? b=some u->h'.get? b=some u):Inv X pins σ H { s with heap:=h',toks:=t',drawn:=d' }:=by have o:=I.kept (t':=t') k;exact⟨o.ok,o.os,o.bare,o.base,o.loc,o.cell,o.free,o.freeC,o.pin,o.hok,o.len⟩
theorem iu:∀{us:List Value},PyProof.Rows.IntsAre us ns->Vals (ns.map V.int) us:=by induction ns with
 |nil=>intro us h;cases h;exact .nil
 |cons n ns o=>intro us h;cases h with
  |cons _ t h=>exact .cons ⟨t,rfl⟩ (o h)
theorem kI{σ:St}{H:Hp}{s:Shared}{ns ms:List Int}{Q:VK}{C h':Heap}{tk:Nat}{d:Drawn}{out:List Value}{e:Nat}(I:Inv X pins σ H s)(k:∀b o,s.heap.get? b=some o->C.get? b=some o)(k2:∀b o,C.get? b=some o->h'.get? b=some o)
  (hg:h'.get? C.objs.size=some { cls:= .type "list",data:= .seq out.toArray e })(hi:PyProof.Rows.IntsAre out ms)(J:ms.Perm ns)(hu:ms.Pairwise (. <= .))(hl:ns.length<64)(q:∀l,H l=none->Q (.ref l) (upd H l (.lst ((cT ns).map V.int)))):
  EP X pins σ Q (.ref C.objs.size) { s with heap:=h',toks:=tk,drawn:=d }:=by have U:Inv X pins σ H { s with heap:=C,toks:=tk,drawn:=d }:=Inv.kd I k;have em:=zA J hu;refine⟨.ref C.objs.size,_,U.laid (t':=tk) (o:= .lst ((cT ns).map V.int)) k2 (xS _) ⟨?_,out,e,em▸iu hi,hg⟩,rfl,q _ (U.hok.fresh (xS _))⟩;rw[wF,<- em,J.length_eq,VI];omega
theorem qU:dw X (.builtin "sorted") (λ xs H Q=>∃p ns,xs=[.ref p]/\(gK X.K H p (ns.map V.int)\/fv X.K H p (ns.map V.int))/\ns.length<64/\∀l,H l=none->Q (.ref l) (upd H l (.lst ((cT ns).map V.int)))):=by
 intro pins s σ H xs us Q I r h;obtain⟨p,ns,rfl,C,hl,q⟩:=h;obtain⟨u,rfl,ru⟩:=r.one;cases ru;refine kc (ns:=ns) (λ A' Q' E' hA J=>?_) hl λ h1 h' tk d out ms e k k2 hg hi hp hu=>kI I k k2 hg hi hp hu hl q;rcases C with C|C
 .obtain⟨its,U,pl,hz⟩:=I.list C;obtain⟨o,ho,hc,n,hd⟩:=pl.isList;exact WQ p (.inl rfl) ho hc hd (λ h' k=>J _ ns h' s.toks s.drawn (by simpa using intsAre_of U) (ZW _) k) (by rw[uP,<- U.length];omega)
 .obtain⟨its,U,⟨o,ho,hc,n,hd⟩,hz⟩:=I.tuple C;exact WQ p (.inr rfl) ho hc hd (λ h' k=>J _ ns h' s.toks s.drawn (by simpa using intsAre_of U) (ZW _) k) (by rw[uP,<- U.length];exact hz)
noncomputable def cz:List D->Option (List Int)
 |[]=>some []
 | .int i::r=>(cz r).map (i:: .)
 |_=>none
theorem eY:∀{ds:List D}{vs:List V}{ns:List Int},Rs H ds vs->cz ds=some ns->vs=ns.map V.int
 |[],vs,ns,h,e=>by cases e;exact h.inv0
 |d::ds,vs,ns,h,e=>by obtain⟨v,r,ev,o,C⟩:=h.inv;cases d with
  |int b=>unfold cz at e;cases q:cz ds with
   |none=>simp_all
   |some I=>rw[q]at e;cases e;rw[ev,o.int,eY C q];rfl
  |_=>cases e
theorem ij:∀(ns:List Int),Rs H (ns.map D.int) (ns.map V.int)
 |[]=> .nil
 |n::ns=> .cons .mkI (ij ns)
noncomputable def sortI(xs:List D):Option (List D):=match cz xs with
 |some ns=>if ns.length<64 then some ((cT ns).map D.int)else none
 |none=>none
noncomputable def mQ{α:Type}(g:List D->Option α)(f:M (List D)):M α:=do
 let xs<- f
 lift (g xs)
theorem jK(hm:X.mg "sorted"=none)(h:DQ X e fq)(J:Gl X "sorted":=by rfl)(he:starEach [e] X.env=[(false,eval e X.env)]:=by rfl):DF X (.Call (.Name "sorted" p) [e] [] pos) (mQ sortI fq):=
 cM (dA qU J hm ZP (bA h cy he) (by decide) (by decide) he rfl) λ σ H Q ⟨c,U,S,T,xs,aa,s,e,k⟩=>by
  obtain⟨ds,I,e1,e⟩:=bind_some e;obtain⟨C,rfl⟩:=bt e;refine⟨c,U,S,T,ds,I,s,e1,λ q vs H1 l hq s1=>?_⟩;unfold sortI at C;split at C
  .rename_i ns en;split at C
   .rename_i hn;cases C;have ev:=eY (s1.st.left l) en;subst ev;refine⟨q,ns,rfl,hq,hn,λ m hm=>?_⟩;obtain⟨f1,f2,f3⟩:=s1.fresh hm;have s2:=(s1.drop l).hide (o:= .lst ((cT ns).map V.int)) hm;exact k m _ _ (by simp) (s2.stk ((ij _).append s2.st)) f1 f2 f3
   .cases C
  grind
noncomputable def rG(w:World)(S:Addr)(ns:List Int):HO:= .ext λ h=>∃l o t,bG w h S l o t/\(l.map (·.1)).Perm (jM ns)
theorem AW(hc:X.calm=true):dw X (.type "set") (λ xs H Q=>∃p ns,xs=[.ref p]/\(gK X.K H p (ns.map V.int)\/fv X.K H p (ns.map V.int))/\ns.length<4000/\∀l,H l=none->Q (.ref l) (upd H l (rG X.w l ns))):=by
 intro pins s σ H xs us Q I r h;obtain⟨p,ns,rfl,C,hl,q⟩:=h;obtain⟨u,rfl,ru⟩:=r.one;cases ru;have fin:∀(h':Heap)(tk:Nat)(ls:List (Int×Tok))(J:Nat)(t:SetTable),bG X.w h' s.heap.objs.size ls J t->(ls.map (·.1)).Nodup->(∀z,z∈ls.map (·.1)↔z∈ns)->(∀b o,s.heap.get? b=some o->h'.get? b=some o)->
   EP X pins σ Q (.ref s.heap.objs.size) { s with heap:=h',toks:=tk }:= λ h' tk ls J t x nd mem k=>by refine⟨.ref s.heap.objs.size,_,I.laid (t':=tk) (o:=rG X.w s.heap.objs.size ns) k (xS _) ⟨⟨ls,J,t,x,zM nd mem⟩,?_,λ h1 h2 ⟨l,J,t,x,p⟩ k=>⟨l,J,t,x.at k,p⟩⟩,rfl,q _ I.fresh⟩;obtain⟨o,ho,_⟩:=x.obj;simp_all
 rcases C with C|C
 .obtain⟨its,U,pl,hz⟩:=I.list C;have hn:its.toArray.size=ns.length:=by rw[uP,<- U.length,wF]
  exact xO (ns:=ns) (I.ok.hd hc) pl.isList (by simpa using intsAre_of U) (by show _<4096;omega) fin
 .obtain⟨its,U,pl,hz⟩:=I.tuple C;have hn:its.toArray.size=ns.length:=by rw[uP,<- U.length,wF]
  exact w4 (ns:=ns) (I.ok.hd hc) (show s.heap.IsTuple p its.toArray from pl) (by simpa using intsAre_of U) (by show _<4096;omega) fin
theorem k_(U:X.calm=true):dw X (.builtin "sorted") (λ xs H Q=>∃p ns,xs=[.ref p]/\H p=some (rG X.w p ns)/\ns.length<64/\∀l,H l=none->Q (.ref l) (upd H l (.lst ((cT (jM ns)).map V.int)))):=by
 intro pins s σ H xs us Q I r h;obtain⟨p,ns,rfl,hq,hl,q⟩:=h;obtain⟨u,rfl,ru⟩:=r.one;cases ru;obtain⟨⟨l,ep,t,x,pm⟩,_⟩:=I.hok p _ hq;have C:(jM ns).length<64:=Nat.lt_of_le_of_lt (tG ns) hl;refine kc (ns:=jM ns) (λ A' Q' E' hA J=>?_) C λ h1 h' tk d out ms e k k2 hg hi hp hu=>kI I k k2 hg hi hp hu C q;refine gC (hA.trans (I.ok.hd U)) x λ ord h' tk d po k=>J _ (ord.map (·.1)) h' tk d ?_ ((po.map _).trans pm) k;have:∀o:List (Int×Tok),PyProof.Rows.IntsAre (o.map λ p=>Value.int p.1 p.2) (o.map (·.1)):= λ o=>by induction o with
  |nil=>exact .nil
  |cons x r ih=>exact .cons _ _ ih
 simp_all
noncomputable def ja(xs:List D):Option (List D):=match cz xs with
 |some ns=>if ns.length<64 then some ((cT (jM ns)).map D.int)else none
 |none=>none
noncomputable def KU(K:PySem.W.Frag)(w:World)(te:TE):TE:= λ σ H Q=>te σ H λ x H1=>∃p ns,[x]=[V.ref p]/\(gK K H1 p (ns.map V.int)\/fv K H1 p (ns.map V.int))/\ns.length<4000/\∀l,H1 l=none->Q (.ref l) (upd H1 l (rG w l ns))
theorem IP(hm:X.mg "set"=none)(h:PE X e te)(o:Gl X "set":=by rfl)(C:X.calm=true:=by rfl)(he:starEach [e] X.env=[(false,eval e X.env)]:=by rfl):PE X (.Call (.Name "set" p) [e] [] pos) (KU X.K X.w te):=
 cM (eA (AW C) o hm (by rfl) (bA h cy he) (by decide) (by rfl) he rfl) λ σ H Q h=>h
theorem ph{p2 I:Pos}(hm:X.mg "sorted"=none)(C:X.mg "set"=none)(h:DQ X e fq)(hg:Gl X "sorted":=by rfl)(U:Gl X "set":=by rfl)(hc:X.calm=true:=by rfl)(he:starEach [e] X.env=[(false,eval e X.env)]:=by rfl):
  DF X (.Call (.Name "sorted" p) [.Call (.Name "set" p2) [e] [] I] [] pos) (mQ ja fq):=
 cM (dA (k_ hc) hg hm ZP (bA (IP C h U hc he) cy rfl) (by decide) (by decide) rfl rfl) λ σ H Q ⟨c,δ,S,T,xs,ab,s,e,k⟩=>by
  obtain⟨ds,aa,e1,e⟩:=bind_some e;obtain⟨J,rfl⟩:=bt e;refine⟨c,δ,S,T,ds,aa,s,e1,λ q vs H1 l hq s1=>?_⟩;unfold ja at J;split at J
  .rename_i ns en;split at J
   .rename_i hn;cases J;have ev:=eY (s1.st.left l) en;subst ev;refine⟨q,ns,rfl,hq,by omega,λ m hm=>⟨m,ns,rfl,bB,hn,λ m2 C=>?_⟩⟩;have s2:=(s1.drop l).grow (dZ hm (rG X.w m ns));obtain⟨f1,f2,f3⟩:=s2.fresh C;have s3:=s2.hide (o:= .lst ((cT (jM ns)).map V.int)) C;exact k m2 _ _ (by simp) (s3.stk ((ij _).append s3.st)) f1 f2 f3
   .cases J
  grind
noncomputable def NG(xs ys:List D):Option (List D):=if xs.length+ys.length<=100000 then some (xs++ys)else none
end
inductive Hn where
 | th (x:D) | ls (j:Nat)
noncomputable def HK(c:Ct)(o:DS)(S:List D)(σ:St)(T:List V)(H:Hp)(v:V):Hn->Prop
 | .th d=>Sl c o (d::S) σ (v::T) H
 | .ls i=>Sl c o S σ T H/\σ[i]?=some (some v)
inductive Gp (f:M Hn) (σ:St) (H:Hp) (Q:VK):Prop
 | mk (c:Ct) (δ:DS) (S:List D) (T:List V) (h:Hn) (δ':DS) (s:Sl c δ S σ T H) (e:f δ=some (h,δ')) (q:∀v H',HK c δ' S σ T H' v h->Q v H'):Gp f σ H Q
noncomputable abbrev DH(X:Cx)(e:Expr)(f:M Hn):Prop:=PE X e (Gp f)
noncomputable def Hn.ds:Hn->List D
 | .th z=>[z]
 | .ls _=>[]
noncomputable def Hn.vs(v:V):Hn->List V
 | .th _=>[v]
 | .ls _=>[]
theorem Hn.len(v:V)(h:Hn):(h.vs v).length=h.ds.length:=by cases h <;> rfl
noncomputable def rL(h:Hn):M D:= λ o=>match h with
 | .th d=>some (d,o)
 | .ls i=>match o[i]? with
  |some (.ow _ xs)=>some (.lst xs,o)
  |_=>none
theorem HK.sl(k:HK c o S σ T H v h):Sl c o (h.ds++S) σ (h.vs v++T) H:=by cases h with
 |th d=>exact k
 |ls i=>exact k.1
theorem r9{S:List D}{σ:St}{T:List V}{H:Hp}{v:V}{h:Hn}{d:D}(s:Sl c o S σ T H)(hs:∀d',h= .th d'->R (eU c o σ H) d' v)(U:∀i,h= .ls i->σ[i]?=some (some v))(e:rL h o=some (d,C)):o=C/\R H d v/\
  (∀xs,d= .lst xs->∃p vs,v= .ref p/\Rd H p (.lst vs)/\Rs (eU c o σ H) xs vs)/\((∀xs,d≠ .lst xs)->R (eU c o σ H) d v):=by cases h with
 |th d0=>cases e;have r:=hs d rfl;refine⟨rfl,r.mono bK,λ xs ex=>?_,λ _=>r⟩;subst ex;obtain⟨p,vs,ev,h1,h2⟩:=r.lst;exact⟨p,vs,ev,Rd.mono bK h1,h2⟩
 |ls i=>
  unfold rL at e;dsimp only at e;split at e;. rename_i b xs hx;cases e;obtain⟨p,vs,ev,I,J⟩:=s.own hx;rw[U i rfl]at ev;cases ev;exact⟨rfl,.mkL (.inl I) (J.mono bK),λ ys ey=>by cases ey;exact⟨p,vs,rfl,.inl I,J⟩,λ z=>absurd rfl (z xs)⟩
  grind
section
variable {X:Cx} {a b e:Expr} {fa fb:M D} {ha' hb':M Hn} {fs:M (List D)} {pos p:Pos} {x:Str}
theorem mq(h:DE X e fa):DH X e (do let x<- fa;pure (.th x)):=cM h λ σ H Q ⟨c,C,S,T,h,I,s,e,k⟩=>by obtain⟨d,o,J,e⟩:=bind_some e;obtain⟨rfl,rfl⟩:=bg e;exact⟨c,C,S,T,d,o,s,J,λ v H' s'=>k v H' s'⟩
noncomputable def Dh(i:Nat):M Hn:=do
 let _<- dH i
 pure (.ls i)
theorem Jf(i:Nat){px:Pos}(C:X.N[i]?=some x:=by rfl)(I:oW X.env.scope x:=by first | exact Or.inl rfl | exact Or.inr (Or.inl rfl) | exact Or.inr (Or.inr rfl))(hd:(x==("__debug__":Str))=false:=by decide)(o:(x==("__classdict__":Str))=false:=by decide):
  DH X (.Name x px) (Dh i):=cM (cY C I hd o) λ σ H Q ⟨c,δ,S,T,h,J,s,e,k⟩=>by obtain⟨xs,U,e1,e⟩:=bind_some e;obtain⟨rfl,rfl⟩:=bg e;obtain⟨⟨b,hi⟩,rfl⟩:=cf e1;obtain⟨q,vs,ev,hq,hx⟩:=s.own hi;exact⟨_,ev,k _ H ⟨s,ev⟩⟩
noncomputable def DR{α:Type}(g:D->D->Option α)(fa fb:M Hn):M α:=do
 let o<- fa
 let C<- fb
 let x<- rL o
 let y<- rL C
 lift (g x y)
structure NU (c:Ct) (δ:DS) (S:List D) (σ:St) (T:List V) (H:Hp) (x y:D) (v u:V):Prop where
 sl:Sl c δ S σ T H
 rx:R H x v
 ry:R H y u
 lx:∀xs,x=.lst xs->∃p vs,v=.ref p∧Rd H p (.lst vs)∧Rs (eU c δ σ H) xs vs
 ly:∀xs,y=.lst xs->∃p vs,u=.ref p∧Rd H p (.lst vs)∧Rs (eU c δ σ H) xs vs
theorem LR{g:D->D->Option α}{W:Ct->DS->List D->St->List V->VK->α->Prop}
  (hr:∀c o S σ T H x y v u z Q,NU c o S σ T H x y v u->g x y=some z->W c o S σ T Q z->r v u H Q):
  ∀σ H Q,(∃c o S T z C,Sl c o S σ T H/\DR g ha' hb' o=some (z,C)/\W c C S σ T Q z)->uO r (Gp ha') (Gp hb') σ H Q:= λ σ H Q ⟨c,o,S,T,z,C,s,e,k⟩=>by obtain⟨J,U,e1,e⟩:=bind_some e;obtain⟨h2,I,e2,e⟩:=bind_some e;obtain⟨x,aa,e3,e⟩:=bind_some e;obtain⟨y,ab,e4,e⟩:=bind_some e;obtain⟨e5,rfl⟩:=bt e;refine⟨c,o,S,T,J,U,s,e1,λ v H1 k1=>?_⟩;refine⟨c,U,J.ds++S,J.vs v++T,h2,I,k1.sl,e2,λ u H2 k2=>?_⟩;have s2:=k2.sl;have s3:Sl c I S σ T H2:=(s2.drop (Hn.len u h2)).drop (Hn.len v J);obtain⟨rfl,r1,l1,_⟩:=r9 s3 (v:=v) (h:=J) (λ d' ed=>by subst ed;exact(s2.drop (Hn.len u h2)).st.head) (λ i ei=>by subst ei;exact k1.2) e3;obtain⟨rfl,r2,l2,_⟩:=r9 s3 (v:=u) (h:=h2) (λ d' ed=>by subst ed;exact s2.st.head) (λ i ei=>by subst ei;exact k2.2) e4;exact hr c I S σ T H2 x y v u z Q ⟨s3,r1,r2,l1,l2⟩ e5 k
noncomputable def vx:R2:= λ x y H Q=>∃l b xs zs,x= .ref l/\y= .ref b/\Rd H l (.lst xs)/\Rd H b (.lst zs)/\xs.length+zs.length<=sizeLine/\∀p,H p=none->Q (.ref p) (upd H p (.lst (xs++zs)))
theorem ky:gG X (binaryOp .Add) vx:=by intro pins s σ H x y v u Q I J U h;obtain⟨l,b,xs,zs,rfl,rfl,hH,hB,hz,q⟩:=h;cases J;cases U;obtain⟨z,its,n,r,e⟩:=hH.ok I.hok;obtain⟨z2,o,n2,C,e2⟩:=hB.ok I.hok;refine PySem.P.add_list e e2 ?_ (by rw[uP,uP,<- r.length,<- C.length];omega);rw[show its.toArray++o.toArray=(its++o).toArray by simp];exact⟨.ref _,_,I.lnew (t':=s.toks) (r.append C) (by rw[QC];exact hz),rfl,q _ I.fresh⟩
noncomputable def Eb:D->D->Option (List D)
 | .lst xs,.lst ys=>NG xs ys
 |_,_=>none
theorem tS(ha:DH X a ha')(hb:DH X b hb'):DF X (.BinOp a .Add b pos) (DR Eb ha' hb'):=cM (rj ky ha hb) λ σ H Q ⟨c,U,S,T,z,o,s,e,k⟩=>by refine LR (W:= λ c o S σ T Q z=>∀l vs H',vs.length=z.length->Sl { c with Z:=upd c.Z l (.lst vs) } o (z++S) σ (vs++T) H'->c.Z l=none->l∉c.B->c.H0 l=none->Q (.ref l) H') (λ c U S σ T H x y v u z Q t I w=>?_) σ H Q ⟨c,U,S,T,z,o,s,e,k⟩;cases x with
 |lst xs=>cases y with
  |lst ys=>
   have C:(if xs.length+ys.length<=100000 then some (xs++ys)else none)=some z:=I;split at C
   .cases C;obtain⟨p1,vs,rfl,a1,a2⟩:=t.lx xs rfl;obtain⟨p2,us,rfl,b1,J⟩:=t.ly ys rfl;have hl:100000<sizeLine:=by decide
    refine⟨p1,p2,vs,us,rfl,rfl,a1,b1,by rw[a2.length,J.length];omega,λ q hq=>?_⟩;have s1:=t.sl.stk ((a2.append J).append t.sl.st);obtain⟨f1,f2,f3⟩:=s1.fresh hq;exact w q _ _ (by rw[QC,QC,a2.length,J.length]) (s1.hide hq) f1 f2 f3
   grind
  |_=>cases I
 |_=>cases I
noncomputable def MF(neg:Bool)(x y:D):Option D:=if jU x y=true then(dE 9 x y).map λ b=> .bl (if neg then !b else b)else km neg x y
theorem Dc{x y:D}{v u:V}{z:D}{Q:VK}{neg:Bool}{r:R2}(t:NU c I S σ T H x y v u)(o:MF neg x y=some z)(w:∀v H',Sl c I (z::S) σ (v::T) H'->Q v H')
  (hs:∀(b:Bool),jU x y=true->dE 9 x y=some b->Q (.bl (if neg then !b else b)) H->r v u H Q)(hf:xb v u=true->Q (.bl (if neg then !decide (v=u)else decide (v=u))) H->r v u H Q):r v u H Q:=by
 unfold MF at o;split at o;. rename_i J;cases q:dE 9 x y with
  |none=>rw[q]at o;cases o
  |some b=>rw[q]at o;cases o;exact hs b J q (w _ _ (t.sl.stk (.cons .mkB t.sl.st)))
 .unfold km at o;split at o
  .rename_i w1 z1 U e2;split at o
   .rename_i C;cases o;obtain⟨rfl,_⟩:=eF t.rx U;obtain⟨rfl,_⟩:=eF t.ry e2;exact hf C (w _ _ (t.sl.stk (.cons .mkB t.sl.st)))
   .cases o
  grind
theorem Oy(w:∀σ H Q,tM (DR g ha' hb') σ H Q->uO r (Gp ha') (Gp hb') σ H Q):∀σ H Q,pX (DR g ha' hb' >>= mE) σ H Q->rh (uO r (Gp ha') (Gp hb')) σ H Q:= λ σ H Q ⟨c,C,S,T,d,I,s,e,k⟩=>by obtain⟨x,o,J,e⟩:=bind_some e;obtain⟨rfl,rfl⟩:=jo e;exact w σ H _ ⟨c,C,S,T,.bl d,o,s,J,λ v H' s'=>⟨d,s'.st.head.bl,k _ s'.pop⟩⟩
theorem Ja(I:cu k X.A)(J:DH X a ha')(U:DH X b hb'):DT X (.Compare a [.NotEq] [b] pos) (DR (MF true) ha' hb' >>= mE):=yP (qj (A4 (gY I)) J U (t8 _)) (Oy λ σ H Q ⟨c,C,S,T,z,o,s,e,k⟩=>
 LR (W:= λ c o S σ T Q z=>∀v H',Sl c o (z::S) σ (v::T) H'->Q v H') (λ c C S σ T H x y v u z Q t eg w=>Dc t eg w (λ b hs he q=> .inr ⟨H,x,y,b,λ _ _ h=>h,t.rx,t.ry,hs,he,q⟩) λ hs q=> .inl ⟨hs,q⟩) σ H Q ⟨c,C,S,T,z,o,s,e,k⟩)
noncomputable def tP(fa:M Hn)(fs:M (List D)):M (List D):=do
 let h<- fa
 let xs<- fs
 let x<- rL h
 pure (x::xs)
noncomputable def flatOnly(d:D):Option D:=match flat d with
 |some _=>some d
 |none=>none
noncomputable def N_(n:Nat)(mf:List D->Option D)(ds:List D):Option D:=if ds.length=n then(mf ds).bind flatOnly else none
noncomputable def cutD(xs:List D)(lo C:Option Int):List D:=(xs.drop (HT.sIx xs.length 0 lo)).take (HT.sIx xs.length xs.length C-HT.sIx xs.length 0 lo)
theorem A9(h:Rs H ds vs)(lo I:Option Int):Rs H (cutD ds lo I) (pV vs lo I):=by
 unfold cutD pV;rw[h.length];have U:∀(n:Nat){ds:List D}{vs:List V},Rs H ds vs->Rs H (ds.drop n) (vs.drop n):=by intro n;induction n with
  |zero=>intro ds vs h;exact h
  |succ n o=>intro ds vs h;cases ds with
   |nil=>rw[h.inv0];exact .nil
   |cons d ds=>obtain⟨v,r,e,J,C⟩:=h.inv;subst e;exact o C
 have tk:∀(n:Nat){ds:List D}{vs:List V},Rs H ds vs->Rs H (ds.take n) (vs.take n):=by intro n;induction n with
  |zero=>intro ds vs h;exact .nil
  |succ n o=>intro ds vs h;cases ds with
   |nil=>rw[h.inv0];exact .nil
   |cons d ds=>obtain⟨v,r,e,J,C⟩:=h.inv;subst e;exact .cons J (o C)
 grind
theorem sI{items:Array Value}{vl vu:Value}{lo hi:Option Int}{prog:Program}{w:World}{A:Around}{E:Value->Shared->Prop}{s:Shared}{Q:Value->Shared->Prop}(C:PyProof.Rows.IsTup s.heap t items)(hs:s.heap.IsSliceOf sl vl vu .none)(pl:IsPart vl lo)(pu:IsPart vu hi)
  (hw:HT.sIx items.size 0 lo=0/\HT.sIx items.size items.size hi=items.size)(h:Q (.ref t) s):wpAny (model prog w) A (getItem (.ref t) (.ref sl)) Q E s:=by
 obtain⟨os,hos,hcs,hds⟩:=id hs;have hTs:s.TypeIs (.ref sl) "slice":=⟨os,hos,hcs⟩;unfold getItem;try with_reducible refine QP ?_
 refine zN (WM C.typeIs (by decide) ?_);refine zN (QW (name:=Str.ofString "__getitem__") C.typeIs Z2 (QO Z2 C.typeIs PyProof.Rows.entry_tuple_getitem ?_ (PyProof.Rows.args_tuple_getitem _ _)));show wpAny (model prog w) _ (Builtin.Tuple.tupleItemsOf (.ref t) >>= _) _ _ s;refine zN (PyProof.Rows.tupleItemsOf_ C (zN (VZ hTs ?_)));refine zN (HT.sliceApplied_gen hs pl pu ?_);have hyes:(((HT.sIx items.size 0 lo:Nat):Int)==0&&(1:Int)==1&&(HT.sIx items.size items.size hi-HT.sIx items.size 0 lo)==items.size)=true:=by rw[hw.1,hw.2];simp
 show wpAny (model prog w) _ (if(((HT.sIx items.size 0 lo:Nat):Int)==0&&1==1&&(HT.sIx items.size items.size hi-HT.sIx items.size 0 lo)==items.size)=true then _ else _) _ _ s;rw[fD hyes];refine zN ?_;refine zN (VZ C.typeIs (zS ?_));exact zN (VE (zN (zS (zS ⟨_,rfl,zS h⟩))))
end
section
variable {X:Cx} {pins:List (Addr × Obj)} {σ:St} {H:Hp} {s:Shared} {h':Heap}
theorem _root_.L2.Inv.turnedN{fp:List Addr}{p:Addr}{o:HO}(I:Inv X pins σ H s)(k:∀b o,b∉fp->s.heap.get? b=some o->h'.get? b=some o)(hf:∀b∈fp,iC X pins H b)(hp:s.heap.objs.size<=p)(new:cN X.prog X.w (upd H p o) h' p o):
  Inv X pins σ (upd H p o) { s with heap:=h',toks:=t' }:=by
 have C:H p=none:=I.hok.fresh hp;have aa:∀b u,H b=some u->b∉fp:= λ b u e z=>by rw[(hf b z).1]at e;cases e
 refine I.step (g':=s.gens) (d':=s.drawn) (ch:=fp) (λ b U=>?_) (λ b o _ _ J e _=>k b o J e) (λ b o _ _ J e _=>⟨o.slots,k b o J e⟩) (λ b o _ e n=>?_)
  (λ b o J e=>⟨o,k b o J e⟩) (λ b xs e=>by rw[br (ck e C)];exact e) (λ b o u e=>by rw[br (ck e C)];exact e) (λ b ps e=>⟨#[],by rw[br (ck e C),e];simp⟩) (λ m hm=>?_) (λ b u e=>?_) I.bare;. obtain⟨_,f1,_,f3,f4,f5⟩:=hf b U;exact⟨f3,f1,f4,f5⟩
 .rw[br λ z=>by subst z;exact QX _ (gE (wV e) hp)];exact n
 .obtain⟨o',es,ep,ho,r⟩:=hm;exact⟨o',es,ep,k _ o' (λ z=>(hf _ z).2.1 rfl) ho,r⟩
 .by_cases U:b=p;. subst U;rw[bB]at e;cases e;exact new
  .rw[br U]at e;refine(I.hok b u e).stay (λ c v J q=>k c v ?_ q) (λ c q=>by rw[br (ck q C)];exact q) (λ c xs q=>by rw[br (ck q C)];exact q) λ c ob v q=>by rw[br (ck q C)];exact q
   grind
theorem _root_.L2.Inv.turnedL{fp:List Addr}(I:Inv X pins σ H s)(k:∀b o,b∉fp->s.heap.get? b=some o->h'.get? b=some o)(hf:∀b∈fp,iC X pins H b):Inv X pins σ H { s with heap:=h',toks:=t' }:=by
 have U:∀b u,H b=some u->b∉fp:= λ b u e z=>by rw[(hf b z).1]at e;cases e
 refine I.step (g':=s.gens) (d':=s.drawn) (ch:=fp) (λ b hb=>?_) (λ b o _ _ C e _=>k b o C e) (λ b o _ _ C e _=>⟨o.slots,k b o C e⟩) (λ _ _ _ _ n=>n)
  (λ b o C e=>⟨o,k b o C e⟩) (λ _ _ e=>e) (λ _ _ _ e=>e) (λ b ps e=>⟨#[],by rw[e];simp⟩) (λ m hm=>?_) (λ b u e=>?_) I.bare;. obtain⟨_,f1,_,f3,f4,f5⟩:=hf b hb;grind
 .obtain⟨J,es,ep,ho,r⟩:=hm;exact⟨J,es,ep,k _ J (λ z=>(hf _ z).2.1 rfl) ho,r⟩
 .refine(I.hok b u e).stay (λ c v C q=>k c v ?_ q) (λ _ q=>q) λ _ _ q=>q;grind
noncomputable def Sq(b:Bool)(K:PySem.W.Frag)(H:Hp)(q:Addr)(xs:List V):Prop:=match b with
 |true=>fv K H q xs
 |false=>gK K H q xs
theorem _root_.L2.Inv.sq(I:Inv X pins σ H s)(h:Sq b X.K H q xs):∃its:List Value,Vals xs its/\qD b s.heap q its.toArray:=by cases b with
 |true=>obtain⟨its,r,p,_⟩:=I.tuple h;exact⟨its,r,p⟩
 |false=>obtain⟨its,r,p,_⟩:=I.list h;exact⟨its,r,p.isList⟩
theorem _root_.L2.Inv.sq_inj(I:Inv X pins σ H s)(h:Sq b X.K H q xs)(h':Sq b X.K H q ys):xs=ys:=by cases b with
 |true=>exact I.tuple_inj h h'
 |false=>exact I.list_inj h h'
noncomputable def M5(K:PySem.W.Frag)(b1 o:Bool)(C I:Addr):It:=
 ⟨λ i H=>∃xs ys x y,Sq b1 K H C xs/\Sq o K H I ys/\xs[i]?=some x/\ys[i]?=some y,
   λ i H x H'=>∃p v u,x= .ref p/\H p=none/\H'=upd H p (.tup [v,u])/\(∀xs,Sq b1 K H C xs->xs[i]?=some v)/\∀ys,Sq o K H I ys->ys[i]?=some u,
   λ i H=>∃xs ys,Sq b1 K H C xs/\Sq o K H I ys/\(xs.length<=i\/ys.length<=i)⟩
noncomputable def Zt(b1 I:Bool)(z TI TO o C J U:Addr)(k:Nat)(h:Heap):Prop:=IsZip h z TI TO .none/\IsPair h TI (.ref o) (.ref C)/\(∃a c,IsPair h TO a c)/\qC b1 h o J k/\qC I h C U k
theorem zB{pt:Pos}(b1 b2:Bool){z TI TO J U l1 l2:Addr}(D:J2 z TI TO J U l1 l2)(au:l1∉[z,TI,TO,J,U])(av:l2∉[z,TI,TO,J,U]):
  Turn P w K (.Tuple es x1 pt) (M5 K b1 b2 l1 l2) [z,TI,TO,J,U] z (Zt b1 b2 z TI TO J U l1 l2) where
 mem:=by simp
 obj:= λ i h st b C=>by
  obtain⟨s1,s2,⟨a,c,s3⟩,s4,s5⟩:=st;have af:∀{bb:Bool}{it l:Addr},qC bb h it l i->∃o,h.get? it=some o/\∀v,o.data≠ .cell v:= λ{bb it l} q=>by cases bb with
   |true=>obtain⟨o,e,_,d⟩:=q;exact⟨o,e,λ v z=>by rw[d]at z;cases z⟩
   |false=>obtain⟨o,e,_,d⟩:=q;exact⟨o,e,λ v z=>by rw[d]at z;cases z⟩
  simp only[wR,ZA,YH]at C;rcases C with e|e|e|e|e <;> subst e
  .exact⟨_,s1,λ v q=>by cases q⟩
  .exact⟨_,s2,λ v q=>by cases q⟩
  .exact⟨_,s3,λ v q=>by cases q⟩
  .exact af s4
  .exact af s5
 keep:= λ i h h' st k=>by obtain⟨s1,s2,⟨a,c,s3⟩,s4,s5⟩:=st;exact⟨k z (by simp) _ s1,k TI (by simp) _ s2,⟨a,c,k TO (by simp) _ s3⟩,s4.at (k J (by simp)),s5.at (k U (by simp))⟩
 item:=by
  intro X hP hw hK hc i pins s σ H E I hf st hg;subst hP hw hK;obtain⟨xs,ys,x,y,aa,ab,hx,hy⟩:=hg;obtain⟨ah,r1,p1⟩:=I.sq aa;obtain⟨ai,r2,p2⟩:=I.sq ab;obtain⟨u1,e1,aj⟩:=r1.get hx;obtain⟨u2,e2,ak⟩:=r2.get hy;obtain⟨s1,s2,s3,s4,s5⟩:=st;refine Ag D ⟨s1,s2,s3,s4,s5,p1,p2⟩ (by simpa using e1) (by simpa using e2) λ h' ao hp kp=>?_;obtain⟨t1,t2,⟨a,c,t3⟩,t4,t5,_,_⟩:=ao;have aq:∀b o,b∉[z,TI,TO,J,U]->s.heap.get? b=some o->h'.get? b=some o:= λ b o C e=>kp b o (λ hm=>C (by simp only[wR,ZA,YH]at hm|-;rcases hm with e|e|e|e <;> simp[e])) e;refine⟨.ref s.heap.objs.size,rfl,wpAny_letOwnedTupleGo_zip (s:={ s with heap:=h' }) t1 λ h2 z2 sb=>?_⟩;obtain⟨n1,n2,n3,n4,n5,n6,n7,n8,n9,aw,m1,m2,m3,m4,m5,m6,m7,m8⟩:=D.ne;have ag:z<s.heap.objs.size:=wV s1;have ae:IsPair h2 s.heap.objs.size u1 u2:=sb.extBut _ _ (VX ag) hp;refine⟨.ref s.heap.objs.size,upd H s.heap.objs.size (.tup [x,y]),I.turnedN (t':=s.toks) (fp:=[z,TI,TO,J,U]) (λ b o C e=>sb.extBut _ _ (λ q=>C (by rw[q];simp)) (aq b o C e)) hf (xS _) ⟨by show 2<=_;decide,[u1,u2],.cons aj (.cons ak .nil),⟨_,ae,rfl,_,rfl⟩,_,ae,rfl⟩,rfl,
   ⟨_,x,y,rfl,I.fresh,rfl,λ zs hz=>by rw[I.sq_inj hz aa];exact hx,λ zs hz=>by rw[I.sq_inj hz ab];exact hy⟩,⟨z2,sb.extBut _ _ n1 t2,⟨a,c,sb.extBut _ _ n2 t3⟩,t4.at λ o e=>sb.extBut _ _ n3 e,t5.at λ o e=>sb.extBut _ _ n4 e⟩,λ b C=>?_⟩;have ar:=(hf b C).1;rw[br λ q=>?_];. exact ar
  .have:b<s.heap.objs.size:=by
    simp only[wR,ZA,YH]at C;rcases C with e|e|e|e|e <;> subst e
    .exact ag
    .exact wV s2
    .obtain⟨_,_,s3⟩:=s3;exact wV s3
    .exact s4.lt
    .exact s5.lt
   rw[q]at this;exact QX _ this
 done:=by intro X hP hw hK hc i pins s σ H E I hf st hg;subst hP hw hK;obtain⟨xs,ys,aa,ab,hx⟩:=hg;obtain⟨ah,r1,p1⟩:=I.sq aa;obtain⟨ai,r2,p2⟩:=I.sq ab;obtain⟨s1,s2,s3,s4,s5⟩:=st;have l1:=r1.length;have l2:=r2.length;refine CP (I.ok.hd hc) D ⟨s1,s2,s3,s4,s5,p1,p2⟩ (hx.elim (λ q=> .inl (by simp;omega)) λ q=> .inr (by simp;omega)) λ h' kp=>⟨rfl,I.turnedL (t':=s.toks) (fp:=[z,TI,TO,J,U]) (λ b o C e=>kp b o (λ hm=>C (by simp only[wR,ZA,YH]at hm|-;rcases hm with e|e|e|e <;> simp[e])) e) hf⟩
 self:= λ A i s Q E st h=>wpAny_pyIter_zip st.1 h
end
section
variable {X:Cx} {a b c0 e:Expr} {fa fb fc:M D} {fs:M (List D)} {pos p p2 pt:Pos} {es:List Expr} {x:Str} {x1:Nat}
noncomputable def Bg:D->Option (Bool × List D)
 | .tup ds=>some (true,ds)
 | .lst ds=>some (false,ds)
 | _=>none
theorem kq {c:Ct} {δ:DS} {σ:St} {H:Hp} {K:PySem.W.Frag} {d:D} {v:V} {b:Bool} {xs:List D} (r:R (eU c δ σ H) d v) (e:Bg d=some (b,xs)):∃p vs,v=.ref p∧Sq b K H p vs∧Rs (eU c δ σ H) xs vs:= by
 cases d with
 | tup ds=>
  cases e
  obtain ⟨p,vs,ev,h1,h2⟩:=r.tup
  exact ⟨p,vs,ev,.of (bK _ _ h1),h2⟩
 | lst ds=>
  cases e
  obtain ⟨p,vs,ev,h1,h2⟩:=r.lst
  exact ⟨p,vs,ev,.inl (Rd.mono bK h1),h2⟩
 | _=>cases e
noncomputable def gJ:List D->List D->List D
 | x :: xs,y :: ys=>.tup [x,y] :: gJ xs ys
 | _,_=>[]
theorem qT:∀{xs ys:List D} {i:Nat} {d:D},(gJ xs ys)[i]? = some d->∃x y,xs[i]? = some x∧ys[i]? = some y∧d=.tup [x,y]
 | x :: xs,y :: ys,0,d,h=>by cases h;exact ⟨x,y,rfl,rfl,rfl⟩
 | x :: xs,y :: ys,i + 1,d,h=>by
  obtain ⟨x',y',h1,h2,h3⟩:=qT (xs:=xs) (ys:=ys) (i:=i) (by simpa [gJ] using h)
  exact ⟨x',y',by simpa using h1,by simpa using h2,h3⟩
 | [],_,i,d,h=>by simp [gJ] at h
 | _ :: _,[],i,d,h=>by simp [gJ] at h
theorem qM:∀(xs ys:List D),(gJ xs ys).length=min xs.length ys.length
 | x :: xs,y :: ys=>by simp [gJ,qM xs ys,Nat.add_min_add_right]
 | [],_=>by simp [gJ]
 | _ :: _,[]=>by simp [gJ]
theorem JD {ta:TA} (hg:Gl X "zip") (hm:X.mg "zip" = none) (ha:PA X [a,b] ta) (hs:starEach [a,b] X.env=[(false,eval a X.env),(false,eval b X.env)]:=by rfl) (hs2:starEach [b] X.env=[(false,eval b X.env)]:=by rfl) :
  PI X (.Tuple es x1 pt) (.Call (.Name "zip" p) [a,b] [] pos) (fun σ H R=>ta σ H fun vs H1=>∃b1 b2 l1 l2 xs ys,vs=[.ref l1,.ref l2]∧Sq b1 X.K H1 l1 xs∧Sq b2 X.K H1 l2 ys∧R (M5 X.K b1 b2 l1 l2) H1):= by
 intro pins s σ H R I h
 refine PyProof.Rows.Call_ (jX I hg hm (show bootBuiltins "zip" = some (.type "zip") by decide +kernel) (VH (cC (ha pos pins s σ H _ I h) fun us s1 ⟨vs,H1,I1,r1,q1⟩=>?_) (by rw [hs,hs2]) (by rw [hs2];rfl)))
 obtain ⟨b1,b2,l1,l2,xs,ys,e,h1,h2,q⟩:=q1
 subst e
 obtain ⟨u1,u2,rfl,ru1,ru2⟩:=r1.two
 cases ru1
 cases ru2
 obtain ⟨i1s,rv1,p1⟩:=I1.sq h1
 obtain ⟨i2s,rv2,p2⟩:=I1.sq h2
 refine Fb p1 p2 fun h' z TI TO i1 i2 D st kp hnew=>?_
 have I2:Inv X pins σ H1 { s1 with heap:=h' }:=I1.kept (t':=s1.toks) kp
 obtain ⟨t1,t2,t3,t4,t5,_,_⟩:=st
 refine wpAny_pyIter_zip (s:={ s1 with heap:=h' }) t1 ⟨z,[z,TI,TO,i1,i2],_,_,H1,rfl,I2,zB b1 b2 D ?_ ?_,⟨t1,t2,t3,t4,t5⟩,fun c hc=>?_,q⟩
 .intro hc
  exact QX _ (gE p1.lt (hnew _ hc))
 .intro hc
  exact QX _ (gE p2.lt (hnew _ hc))
 .exact I1.fpOk (hnew c hc) (I1.hok.fresh (hnew c hc))
noncomputable def kR:List D->Option jy
 | [x,y]=>match Bg x,Bg y with
  | some (_,xs),some (_,ys)=>some (bL (gJ xs ys))
  | _,_=>none
 | _=>none
theorem FP {K:PySem.W.Frag} {b1 b2:Bool} {dx dy:D} {xs ys:List D} {l1 l2:Addr} (e1:Bg dx=some (b1,xs)) (e2:Bg dy=some (b2,ys)):KJ (M5 K b1 b2 l1 l2) (bL (gJ xs ys)) [dx,dy] [.ref l1,.ref l2]:=fun c δ S σ T H i s=>by
 obtain ⟨p1,vs,q1,h1,r1⟩:=kq (K:=K) s.st.head e1
 obtain ⟨p2,us,q2,h2,r2⟩:=kq (K:=K) s.st.tail.head e2
 cases q1
 cases q2
 refine ⟨fun act d ha hd=>?_,fun ei _=>⟨vs,us,h1,h2,?_⟩⟩
 .obtain ⟨x,y,g1,g2,rfl⟩:=qT (iA ha hd)
  obtain ⟨v,gv,rv⟩:=r1.get g1
  obtain ⟨u,gu,ru⟩:=r2.get g2
  refine ⟨⟨vs,us,v,u,h1,h2,gv,gu⟩,fun z H' yl=>?_⟩
  obtain ⟨q,v',u',rfl,hq,rfl,y1,y2⟩:=yl
  have ev:=y1 vs h1
  have eu:=y2 us h2
  rw [gv] at ev;cases ev
  rw [gu] at eu;cases eu
  exact (s.stk (.cons rv (.cons ru s.st))).newTup (ds:=[x,y]) (vs:=[v,u]) rfl hq
 .rw [r1.length,r2.length]
  have:(bL (gJ xs ys)).1.length=min xs.length ys.length:=by simp [bL,qM]
  omega
theorem zg (hm:X.mg "zip" = none) (ha:DA X [a,b] fs) (hg:Gl X "zip":=by rfl) (hs:starEach [a,b] X.env=[(false,eval a X.env),(false,eval b X.env)]:=by rfl) (hs2:starEach [b] X.env=[(false,eval b X.env)]:=by rfl) :
  DI X (.Tuple es x1 pt) (.Call (.Name "zip" p) [a,b] [] pos) (mC kR fs):=yG (JD hg hm ha hs hs2) fun σ H Rr ⟨c,δ,S,T,it,δ',s,e,k⟩=>by
 obtain ⟨ds,δ1,e1,e⟩:=bind_some e
 obtain ⟨e2,rfl⟩:=bt e
 refine ⟨c,δ,S,T,ds,δ1,s,e1,fun vs H1 l s1=>?_⟩
 unfold kR at e2
 split at e2
 .rename_i dx dy
  split at e2
  .rename_i b1 xs b2 ys q1 q2
   cases e2
   obtain ⟨v,u,rfl,r1,r2⟩:=NQ (s1.st.left l)
   obtain ⟨p1,vs,rfl,h1,_⟩:=kq (K:=X.K) r1 q1
   obtain ⟨p2,us,rfl,h2,_⟩:=kq (K:=X.K) r2 q2
   exact ⟨b1,b2,p1,p2,vs,us,rfl,h1,h2,k _ [dx,dy] [.ref p1,.ref p2] H1 rfl (FP q1 q2) s1⟩
  .cases e2
 .cases e2
noncomputable def cj (T:Ty) (d:D):Bool:=(qZ T d).getD false
theorem wU (T:Ty) (d:D):qZ T d=some (cj T d):=by cases T <;> cases d <;> rfl
noncomputable def GB (r1 r2:D->D->Option D) (fa fb fc:M D):M D:=do
 let x <- fa
 let y <- fb
 let z <- lift (r1 x y)
 match z with
 | .bl true=>do
  let w <- fc
  lift (r2 y w)
 | .bl false=>pure (.bl false)
 | _=>lift none
theorem yU {op op':CmpOp} {g g':Int->Int->V} {h h':Int->Int->D} (ho:gG X (compareOp op) (uk g)) (ho':gG X (compareOp op') (uk g')) (hg:∀H i j,R H (h i j) (g i j)) (hg':∀H i j,R H (h' i j) (g' i j)) (ha:DE X a fa) (hb:DE X b fb) (hc:DE X c0 fc)
  (hm:lastMarks [op,op'] [b,c0]=false:=by with_unfolding_all rfl):DE X (.Compare a [op,op'] [b,c0] pos) (GB (cZ (fun _ _=>true) h) (cZ (fun _ _=>true) h') fa fb fc):=cM (z4 ho ho' ha hb hc hm) fun σ H Q ⟨c,δ,S,T,d,δ',s,e,k⟩=>by
 obtain ⟨x,δ1,e1,e⟩:=bind_some e
 obtain ⟨y,δ2,e2,e⟩:=bind_some e
 obtain ⟨z,δ3,e3,e⟩:=bind_some e
 obtain ⟨e4,rfl⟩:=bt e3
 obtain ⟨i,j,rfl,rfl,_,rfl⟩:=ff e4
 refine ⟨c,δ,S,T,.int i,δ1,s,e1,fun v H1 s1=>⟨c,δ1,.int i :: S,v :: T,.int j,δ2,s1,e2,fun u H2 s2=>?_⟩⟩
 refine ⟨i,j,s2.st.tail.head.int,s2.st.head.int,?_⟩
 have rg:=hg (eU c δ2 σ H2) i j
 cases hz:h i j with
 | bl q=>
  rw [hz] at e rg
  refine ⟨q,rg.bl,?_⟩
  cases q with
  | true=>
   obtain ⟨w,δ4,e5,e⟩:=bind_some e
   obtain ⟨e6,rfl⟩:=bt e
   rw [fD rfl]
   obtain ⟨i',j',ei,rfl,_,rfl⟩:=ff e6
   cases ei
   exact ⟨c,δ2,.int j :: .int i :: S,u :: v :: T,.int j',δ4,s2,e5,fun w' H4 s4=>⟨j,j',s4.st.tail.head.int,s4.st.head.int,k _ _ (s4.stk (.cons (hg' _ _ _) s4.st.tail.tail.tail))⟩⟩
  | false=>
   obtain ⟨rfl,rfl⟩:=bg e
   rw [QB uS]
   exact k _ _ (s2.stk (.cons .mkB s2.st.tail.tail))
 | _=>rw [hz] at e;cases e
theorem Fj (ha:DE X a fa) (hb:DE X b fb) (hc:DE X c0 fc) (hm:lastMarks [.LtE,.Lt] [b,c0]=false:=by with_unfolding_all rfl):DE X (.Compare a [.LtE,.Lt] [b,c0] pos) (GB Gu yo fa fb fc):=yU GI we (fun _ _ _=>.mkB) (fun _ _ _=>.mkB) ha hb hc hm
noncomputable def Ij (tt:M Bool) (body:M Fl):Nat->M Fl
 | 0=>lift none
 | n + 1=>do
  let b <- tt
  if b=true then do
   let fl <- body
   match fl with
   | .nx=>Ij tt body n
   | .ct=>Ij tt body n
   | .bk=>pure .nx
   | .rt d=>pure (.rt d)
   | .rf d=>pure (.rf d)
  else pure .nx
theorem AQ {t:Expr} {sts:List Stmt} {tt:M Bool} {body:M Fl} (n:Nat) (ht:DT X t tt) (hb:pZ X sts body) (hp:PassesOwn (model X.prog X.w) X.A X.env X.xe:=by exact PassesOwn.never):ku X (.While t sts [] pos) (Ij tt body n) :=
 iE (yw hp ht hb) fun E σ0 H0 ⟨c,δ0,S,T,fl,δ',s0,e0,k⟩=>by
  refine ⟨fun m σ H=>∃δ,Sl c δ S σ T H∧Ij tt body m δ=some (fl,δ'),⟨n,δ0,s0,e0⟩,?_⟩
  rintro m σ H ⟨δ,s,e⟩
  cases m with
  | zero=>cases e
  | succ m=>
   obtain ⟨b,δ1,e1,e⟩:=bind_some e
   refine ⟨c,δ,S,T,b,δ1,s,e1,fun H1 s1=>?_⟩
   cases b with
   | false=>
    rw [QB uS] at e ⊢
    obtain ⟨rfl,rfl⟩:=bg e
    exact k _ _ s1
   | true=>
    rw [fD rfl] at e ⊢
    obtain ⟨fl1,δ2,e2,e⟩:=bind_some e
    refine ⟨fun σ' H'=>∃δi,Sl c δi S σ' T H' ∧ Ij tt body m δi=some (fl,δ'),fun σ' H' q=>⟨m,V5 m,q⟩,c,δ1,S,T,fl1,δ2,s1,e2,?_⟩
    cases fl1 with
    | nx=>exact fun σ' H' s'=>⟨δ2,s',e⟩
    | ct=>exact fun σ' H' s'=>⟨δ2,s',e⟩
    | bk=>obtain ⟨rfl,rfl⟩:=bg e;exact k
    | rt d'=>obtain ⟨rfl,rfl⟩:=bg e;exact k
    | rf xs=>obtain ⟨rfl,rfl⟩:=bg e;exact k
inductive N1 (f:M (Option Int)) (σ:St) (H:Hp) (Q:Option Int->Hp->Prop):Prop
 | mk (c:Ct) (δ:DS) (S:List D) (T:List V) (o:Option Int) (δ':DS) (s:Sl c δ S σ T H) (e:f δ=some (o,δ')) (q:∀H',Sl c δ' S σ T H' -> Q o H'):N1 f σ H Q
noncomputable abbrev DO (X:Cx) (e:Option Expr) (f:M (Option Int)):Prop:=PO X e (N1 f)
theorem KY {e:Option Expr} {t t':TO} (h:PO X e t) (w:∀σ H Q,t' σ H Q->t σ H Q):PO X e t':=fun pins s σ H Q I q=>h pins s σ H Q I (w σ H Q q)
theorem qB:DO X none (pure none):=KY D4 fun σ H Q ⟨c,δ,S,T,o,δ',s,e,k⟩=>by
 obtain ⟨rfl,rfl⟩:=bg e
 exact k _ s
noncomputable def Mz:D->M (Option Int)
 | .int i=>pure (some i)
 | _=>lift none
theorem qe (h:DE X e fa):DO X (some e) (fa >>= Mz):=KY (CT h) fun σ H Q ⟨c,δ,S,T,o,δ',s,e,k⟩=>by
 obtain ⟨d,δ1,e1,e⟩:=bind_some e
 refine ⟨c,δ,S,T,d,δ1,s,e1,fun v H' s'=>?_⟩
 cases d with
 | int i=>
  obtain ⟨rfl,rfl⟩:=bg e
  exact ⟨i,s'.st.head.int,k _ s'.pop⟩
 | _=>cases e
noncomputable def Nz (K:PySem.W.Frag):V->Option Int->Option Int->Hp->VK->Prop:=fun x lo hi H Q=>∃a xs,x=.ref a∧fv K H a xs∧(HT.sIx xs.length 0 lo=0∧HT.sIx xs.length xs.length hi=xs.length)∧Q (.ref a) H
theorem yz:Gj X (Nz X.K):= by
 intro pins s σ H x v vl vu lo hi sl Q I rx hs pl pu h
 obtain ⟨a,xs,rfl,hx,hw,q⟩:=h
 cases rx
 obtain ⟨its,r,ht,hz⟩:=I.tuple hx
 have hlen:its.toArray.size=xs.length:=by rw [uP];exact r.length.symm
 refine ⟨"tuple",_,PyProof.Rows.slot_tuple_getitem.lookup,ht.typeIs,?_⟩
 exact sI ht hs pl pu (by rw [hlen];exact hw) ⟨.ref a,H,I,rfl,q⟩
noncomputable def JZ (x:D) (lo hi:Option Int):Option D:=match x with
 | .tup xs=>some (.tup (cutD xs lo hi))
 | .lst xs=>some (.lst (cutD xs lo hi))
 | _=>none
noncomputable def MH (fa:M D) (fl fh:M (Option Int)):M D:=do
 let x <- fa
 let lo <- fl
 let hi <- fh
 lift (JZ x lo hi)
theorem xI {α:Type} (xs:List α) (lo hi:Option Int) (h1:HT.sIx xs.length 0 lo=0) (h2:HT.sIx xs.length xs.length hi=xs.length):(xs.drop (HT.sIx xs.length 0 lo)).take (HT.sIx xs.length xs.length hi - HT.sIx xs.length 0 lo)=xs:= by
 rw [h1,h2];simp
theorem l9 {lo hi:Option Expr} {fl fh:M (Option Int)} (he:DE X e fa) (hl:DO X lo fl) (hh:DO X hi fh):DE X (.Subscript e (.Slice lo hi none p2) pos) (MH fa fl fh):=cM (yt ((Hr.or yz).or Dv) he hl hh) fun σ H Q ⟨c,δ,S,T,d,δ',s,e,k⟩=>by
 obtain ⟨x,δ1,e1,e⟩:=bind_some e
 obtain ⟨l,δ2,e2,e⟩:=bind_some e
 obtain ⟨h,δ3,e3,e⟩:=bind_some e
 obtain ⟨e4,rfl⟩:=bt e
 refine ⟨c,δ,S,T,x,δ1,s,e1,fun v H1 s1=>⟨c,δ1,x :: S,v :: T,l,δ2,s1,e2,fun H2 s2=>⟨c,δ2,x :: S,v :: T,h,δ3,s2,e3,fun H3 s3=>?_⟩⟩⟩
 cases x with
 | tup xs=>
  cases e4
  obtain ⟨q,vs,rfl,h1,h2⟩:=s3.st.head.tup
  by_cases hw:HT.sIx vs.length 0 l=0∧HT.sIx vs.length vs.length h=vs.length
  .refine .inl (.inr ⟨q,vs,rfl,.of (bK _ _ h1),hw,k _ _ ?_⟩)
   rw [h2.length] at hw
   rw [show cutD xs l h=xs from xI xs l h hw.1 hw.2]
   exact s3
  .refine .inl (.inl ⟨q,vs,rfl,.of (bK _ _ h1),hw,fun m hm=>k _ _ ?_⟩)
   have rc:=A9 h2 l h
   exact (s3.stk (rc.append s3.st.tail)).newTup rc.length hm
 | lst xs=>
  cases e4
  obtain ⟨q,vs,rfl,h1,h2⟩:=s3.st.head.lst
  refine .inr ⟨q,vs,rfl,.inl (Rd.mono bK h1),fun m hm=>k _ _ ?_⟩
  have rc:=A9 h2 l h
  have s4:=s3.stk (rc.append s3.st.tail)
  obtain ⟨f1,f2,f3⟩:=s4.fresh hm
  exact (s4.hide (o:=.lst (pV vs l h)) hm).unhideL rc.length f1
 | _=>cases e4
end
section
variable {X:Cx} {b e:Expr} {pos p:Pos} {x:Str}
theorem nK(i:Nat){px:Pos}(hm:X.mg "tuple"=none)(C:Gl X "tuple":=by rfl)(I:X.N[i]?=some x:=by rfl)(J:oW X.env.scope x:=by first|exact Or.inl rfl|exact Or.inr (Or.inl rfl)|exact Or.inr (Or.inr rfl))(hd:(x==("__debug__":Str))=false:=by decide)(o:(x==("__classdict__":Str))=false:=by decide):
  DE X (.Call (.Name "tuple" p) [.Name x px] [] pos) (do let xs<- dH i;pure (.tup xs)):=cM (eA iL C hm (by decide+kernel) (bA (cY I J hd o) cy) (by decide) (by decide) rfl rfl) λ σ H Q ⟨c,δ,S,T,fl,U,s,e,k⟩=>by obtain⟨xs,aa,e1,e⟩:=bind_some e;obtain⟨rfl,rfl⟩:=bg e;obtain⟨⟨b,hi⟩,rfl⟩:=cf e1;obtain⟨q,vs,ev,hq,hx⟩:=s.own hi;exact⟨_,ev,q,vs,rfl,.inl ⟨.of hq,λ m hm=>k _ _ ((s.stk (hx.append s.st)).newTup hx.length hm)⟩⟩
end
noncomputable abbrev iJ{α:Type}(n:Nat)(mf:List D->Option α):List D->Option α:= λ ds=>if ds.length=n then mf ds else none
section
variable {K:PySem.W.Frag} {n:Nat}
noncomputable def Gk(K:PySem.W.Frag):Bool:=K.all λ p=> !(p.2.cls==Value.type "list")
theorem rd_of(J:Gk K=true)(h:gK K H a xs):Rd H a (.lst xs):=by
 rcases h with h|⟨o,its,n,C,hc,_⟩
 .exact h
 .have hm:∃p∈K,p.2=o:=by clear J;induction K with
   |nil=>cases C
   |cons q r U=>
    rw[List.lookup_cons]at C;split at C;. cases C;exact⟨q,uL,rfl⟩
    .obtain⟨p,I,e⟩:=U C;exact⟨p,uN _ I,e⟩
  obtain⟨p,I,e⟩:=hm;have:=fR.mp J p I;simp_all
end
noncomputable def Ok{α:Type}(m:M α)(C:DS)(Q:α->DS->Prop):Prop:=∃a o,m C=some (a,o)/\Q a o
theorem Ok.mono(h:Ok m C Q)(k:∀a o,Q a o->I a o):Ok m C I:=let⟨a,o,e,q⟩:=h;⟨a,o,e,k a o q⟩
section
variable {α:Type} {δ:DS} {Q:α->DS->Prop}
@[simp ↓]theorem cb:Ok (m >>= f) δ Q ↔ Ok m δ fun a δ'=>Ok (f a) δ' Q:= by
 constructor
 .rintro ⟨a,δ',e,q⟩
  obtain ⟨b,δ1,e1,e2⟩:=bind_some e
  exact ⟨b,δ1,e1,a,δ',e2,q⟩
 .rintro ⟨b,δ1,e1,a,δ',e2,q⟩
  exact ⟨a,δ',by rw [M.bind_def,e1];exact e2,q⟩
@[simp ↓]theorem e_:Ok (pure a) δ Q↔Q a δ:=by
 constructor;. rintro⟨b,o,e,q⟩;obtain⟨rfl,rfl⟩:=bg e;exact q
 .exact λ q=>⟨a,δ,rfl,q⟩
@[simp ↓]theorem qh:Ok (lift (some a)) δ Q↔Q a δ:=by
 constructor;. rintro⟨b,o,e,q⟩;obtain⟨C,rfl⟩:=bt e;simp_all
 .exact λ q=>⟨a,δ,rfl,q⟩
@[simp ↓]theorem FE:Ok (lift none) δ Q↔False:=⟨λ⟨_,_,e,_⟩=>(by cases e),False.elim⟩
theorem fG(h:o=some a)(q:Q a δ):Ok (lift o) δ Q:=by simp_all
@[simp ↓]theorem M6 [Decidable c]:Ok (if c then m else n) δ Q ↔ (if c then Ok m δ Q else Ok n δ Q):=by grind
end
section
variable {δ:DS}
@[simp ↓]theorem kA:Ok (di i) δ Q↔ ∃d,δ[i]?=some (.pu d)/\Q d δ:=by
 constructor;. rintro⟨d,o,e,q⟩;obtain⟨C,rfl⟩:=oh e;grind
 .rintro⟨d,e,q⟩;exact⟨d,δ,by unfold di;rw[e],q⟩
@[simp ↓ high]theorem MG{d:D}{r:DS}{Q:D->DS->Prop}:Ok (di 0) (.pu d::r) Q↔Q d (.pu d::r):=(⟨λ ⟨_,_,e,q⟩=>by cases e;exact q,λ q=>⟨_,_,rfl,q⟩⟩)
@[simp ↓ high]theorem ME{a0:Jt.Slot}{d:D}{r:DS}{Q:D->DS->Prop}:Ok (di 1) (a0::.pu d::r) Q↔Q d (a0::.pu d::r):=(⟨λ ⟨_,_,e,q⟩=>by cases e;exact q,λ q=>⟨_,_,rfl,q⟩⟩)
@[simp ↓ high]theorem Mn{a0 a1:Jt.Slot}{d:D}{r:DS}{Q:D->DS->Prop}:Ok (di 2) (a0::a1::.pu d::r) Q↔Q d (a0::a1::.pu d::r):=(⟨λ ⟨_,_,e,q⟩=>by cases e;exact q,λ q=>⟨_,_,rfl,q⟩⟩)
@[simp ↓]theorem Df:Ok (jk i d) δ Q↔i<δ.length/\Q () (δ.set i (.pu d)):=by
 constructor;. rintro⟨u,o,e,q⟩;obtain⟨h,rfl⟩:=iw e;simp_all
 .rintro⟨h,q⟩;exact⟨(),_,by unfold jk;rw[fD h],q⟩
@[simp ↓]theorem MB:Ok (Ab i d) δ Q↔i<δ.length/\Q () (δ.set i (.ow false d)):=by
 constructor;. rintro⟨u,o,e,q⟩;obtain⟨h,rfl⟩:=n_ e;simp_all
 .rintro⟨h,q⟩;exact⟨(),_,by unfold Ab;rw[fD h],q⟩
@[simp ↓]theorem gQ:Ok (dH i) δ Q↔ ∃b xs,δ[i]?=some (.ow b xs)/\Q xs δ:=by
 constructor;. rintro⟨d,o,e,q⟩;obtain⟨⟨b,C⟩,rfl⟩:=cf e;grind
 .rintro⟨b,d,e,q⟩;exact⟨d,δ,by unfold dH;rw[e],q⟩
@[simp ↓]theorem qP:Ok (setOw i xs) δ Q↔ ∃b ys,δ[i]?=some (.ow b ys)/\Q () (δ.set i (.ow b xs)):=by
 constructor;. rintro⟨u,o,e,q⟩;obtain⟨b,ys,h,rfl⟩:=gq e;grind
 .rintro⟨b,ys,h,q⟩;exact⟨(),_,by unfold setOw;rw[h],q⟩
@[simp ↓]theorem BP:Ok (oD i) δ Q↔ ∃xs,δ[i]?=some (.ow false xs)/\Q xs (δ.set i .un):=by
 constructor;. rintro⟨d,o,e,q⟩;unfold oD at e;grind
 .rintro⟨d,e,q⟩;exact⟨d,_,by unfold oD;rw[e],q⟩
@[simp ↓]theorem tU:Ok (uU i C) δ Q↔Ok C δ λ d o=>i<o.length/\Q .nx (o.set i (.pu d)):=by unfold uU;simp
@[simp ↓]theorem HR:Ok (FY i C) δ Q↔Ok C δ λ d o=>i<o.length/\Q .nx (o.set i (.ow false d)):=by unfold FY;simp
@[simp ↓]theorem cc:Ok (eC f g) δ Q↔Ok f δ λ C o=>match C with
  | .nx=>Ok g o Q
  |C=>Q C o:=by
 unfold eC;rw[cb];constructor <;>
 .intro h;refine h.mono λ C o q=>?_;cases C <;> simpa using q
theorem vq(P:DS->Prop)(h:Ok f δ λ C o=>C= .nx/\P o)(k:∀o,P o->Ok g o Q):Ok (eC f g) δ Q:=by rw[cc];refine h.mono λ C o ⟨e,p⟩=>?_;grind
theorem pW{Q:Fl->DS->Prop}(b:Bool)(U:Ok t δ λ C o=>C=b/\o=δ)(h1:b=true->Ok J δ λ I o=>∃d,I= .rt d/\Q (.rt d) o)(h2:b=false->Ok g δ Q):Ok (eC (EA t J (pure .nx)) g) δ Q:=by rw[cc];unfold EA;rw[cb];refine U.mono λ C o ⟨e1,e2⟩=>?_;subst e1 e2;cases C with
 |true=>refine Ok.mono (m:=J) (h1 rfl) λ I aa ⟨d,e,q⟩=>?_;simp_all
 |false=>exact(e_ (Q:= λ I o=>_)).mpr (h2 rfl)
@[simp ↓]theorem tX{Q:α->DS->Prop}:Ok (EA t C I) δ Q↔Ok t δ λ b o=>if b=true then Ok C o Q else Ok I o Q:=by unfold EA;simp
@[simp ↓]theorem Dq:Ok (FI ta tb) δ Q↔Ok ta δ λ b o=>if b=true then Ok tb o Q else Q false o:=by unfold FI;simp
@[simp ↓]theorem Ji:Ok (LJ ta tb) δ Q↔Ok ta δ λ b o=>if b=true then Q true o else Ok tb o Q:=by unfold LJ;simp
@[simp ↓]theorem DX:Ok (Fg ta) δ Q↔Ok ta δ λ b o=>Q (!b) o:=by unfold Fg;simp
@[simp ↓]theorem uQ:Ok (m2 f I J) δ Q↔Ok I δ λ x o=>Ok J o λ y C=>Ok (lift (f x y)) C Q:=by unfold m2;simp
@[simp ↓]theorem GF:Ok (mC f fs) δ Q↔Ok fs δ λ ds o=>Ok (lift (f ds)) o Q:=by unfold mC;simp
@[simp ↓]theorem Kq:Ok (mQ f fs) δ Q↔Ok fs δ λ ds o=>Ok (lift (f ds)) o Q:=by unfold mQ;simp
@[simp ↓]theorem sQ:Ok (bw I fs) δ Q↔Ok I δ λ x o=>Ok fs o λ xs C=>Q (x::xs) C:=by unfold bw;simp
@[simp ↓]theorem D9:Ok (eS fs) δ Q↔Ok fs δ λ xs o=>Ok (lift (few xs.length)) o λ _ C=>Q (.tup xs) C:=by unfold eS;simp
@[simp ↓]theorem uW:Ok (qf fs) δ Q↔Ok fs δ λ xs o=>Ok (lift (few xs.length)) o λ _ C=>Q xs C:=by unfold qf;simp
@[simp ↓]theorem gz:Ok (lift (few n)) δ Q↔n<=100000/\Q () δ:=by
 unfold few;split;. simp_all
 .rename_i h;rw[FE];exact⟨False.elim,λ q=>h q.1⟩
@[simp ↓]theorem z_:Ok (mE d) δ Q↔ ∃b,d= .bl b/\Q b δ:=by
 constructor;. rintro⟨b,o,e,q⟩;obtain⟨C,rfl⟩:=jo e;grind
 .rintro⟨b,rfl,q⟩;exact⟨b,δ,rfl,q⟩
@[simp ↓]theorem IC:Ok (Mz d) δ Q↔ ∃i,d= .int i/\Q (some i) δ:=by cases d <;> simp[Mz]
@[simp ↓]theorem Fo:Ok (Eg i C) δ Q↔(∃b xs,δ[i]?=some (.ow b xs))/\Ok C δ λ y o=>∃b xs,o[i]?=some (.ow b xs)/\Ok (lift (i3 (.lst xs) y)) o Q:=by unfold Eg;simp
@[simp ↓]theorem zO:Ok (wk i) δ Q↔ ∃b xs,δ[i]?=some (.ow b xs)/\Q (.int xs.length) δ:=by unfold wk;simp
@[simp ↓]theorem J6:Ok (tq i I k) δ Q↔Ok I δ λ d o=>∃b xs,o[i]?=some (.ow b xs)/\Ok (lift (ym xs.length k)) o λ j C=>∃b ys,C[i]?=some (.ow b ys)/\Q .nx (C.set i (.ow b (xs.set j d))):=by unfold tq;simp
theorem uE(h0:∃b xs,δ[i]?=some (.ow b xs))(h:Ok fs δ λ ds o=>∃d b xs,ds=[d]/\o[i]?=some (.ow b xs)/\xs.length<=100000/\Q .nx (o.set i (.ow b (xs++[d])))):Ok (i8 i fs) δ Q:=by unfold i8;obtain⟨b,xs,e⟩:=h0;simp only[cb,gQ];refine⟨b,xs,e,h.mono λ ds o q=>?_⟩;obtain⟨d,C,ys,rfl,I,J,q⟩:=q;simp only[cb,gQ,gz,qP,e_];grind
theorem Eo(h0:∃b xs,δ[i]?=some (.ow b xs))(h:Ok fs δ λ ds o=>∃(j:Nat) (b:Bool) (xs:List D) (d:D),ds=[.int j]/\o[i]?=some (.ow b xs)/\j<100000/\xs[j]?=some d/\Q d (o.set i (.ow b (xs.eraseIdx j)))):Ok (Ed i fs) δ Q:=by
 unfold Ed;obtain⟨b,xs,e⟩:=h0;simp only[cb,gQ];refine⟨b,xs,e,h.mono λ ds o q=>?_⟩;obtain⟨j,C,ys,d,rfl,I,U,J,q⟩:=q;simp only[cb,gQ,qP,e_];refine⟨C,ys,I,fG (a:=d) ?_ ⟨C,ys,I,?_⟩⟩;. rw[fD (by omega)];exact J
 .exact q
@[simp ↓]theorem Ez:Ok (E_ C I) δ Q↔Ok C δ λ x o=>match x with
  | .bl true=>Ok I o Q
  | .bl false=>Q (.bl false) o
  |_=>False:=by
 unfold E_;rw[cb];constructor <;>
 .intro h;refine h.mono λ x o q=>?_;cases x with
  |bl b=>cases b <;> simpa using q
  |_=>simp_all
@[simp ↓]theorem Mi:Ok (Ht C) δ Q↔Ok C δ λ x o=>match x with
  | .bl b=>Q (.bl (!b)) o
  |_=>False:=by
 unfold Ht;rw[cb];constructor <;>
 .intro h;refine h.mono λ x o q=>?_;cases x <;> simpa using q
@[simp ↓]theorem D5:Ok (Ei T C) δ Q↔Ok C δ λ d o=>Q (.bl (cj T d)) o:=by unfold Ei;simp[wU]
@[simp ↓]theorem HA:Ok (MH J U fh) δ Q↔Ok J δ λ x o=>Ok U o λ l C=>Ok fh C λ h I=>Ok (lift (JZ x l h)) I Q:=by unfold MH;simp
@[simp ↓]theorem Iq:Ok (DR g U fb) δ Q↔Ok U δ λ h1 o=>Ok fb o λ h2 C=>Ok (rL h1) C λ x I=>Ok (rL h2) I λ y J=>Ok (lift (g x y)) J Q:=by unfold DR;simp
@[simp ↓]theorem IH:Ok (rL (.th x)) δ Q↔Q x δ:=by
 constructor;. rintro⟨b,o,e,q⟩;cases e;exact q
 .exact λ q=>⟨x,δ,rfl,q⟩
@[simp ↓]theorem Jz:Ok (rL (.ls i)) δ Q↔ ∃b xs,δ[i]?=some (.ow b xs)/\Q (.lst xs) δ:=by
 constructor;. rintro⟨d,o,e,q⟩;unfold rL at e;grind
 .rintro⟨b,xs,h,q⟩;exact⟨_,δ,by unfold rL;dsimp only;rw[h],q⟩
@[simp ↓]theorem Ey:Ok (Dh i) δ Q↔ ∃b xs,δ[i]?=some (.ow b xs)/\Q (.ls i) δ:=by unfold Dh;simp
@[simp ↓]theorem xH:Ok (tP J fs) δ Q↔Ok J δ λ h o=>Ok fs o λ xs C=>Ok (rL h) C λ x I=>Q (x::xs) I:=by unfold tP;simp
@[simp ↓]theorem CU:Ok (mJ i n mf fs) δ Q↔Ok fs δ λ ds o=>∃b xs,o[i]?=some (.ow b xs)/\ds.length+1=n/\∃r,mf xs ds=some r/\Q r.1 (o.set i (.ow b r.2)):=by
 constructor
 .rintro⟨d,aa,e,q⟩;unfold mJ at e;split at e;. cases e
  .rename_i ds o I;split at e
   .rename_i b xs J;split at e
    .rename_i U;split at e;. cases e
     .rename_i d' C e3;cases e;exact⟨ds,o,I,b,xs,J,U,(d,C),e3,q⟩
    .cases e
   grind
 .rintro⟨ds,o,e,b,xs,I,U,⟨d,C⟩,J,q⟩;exact⟨d,_,by unfold mJ;rw[e];dsimp only;rw[I];dsimp only;rw[fD U,J],q⟩
@[simp ↓]theorem yE:Ok (cp gt tt te d) δ Q↔Ok (gt d) δ λ _ C=>Ok tt C λ b o=>if b=true then Ok te o λ x I=>Q (some x) I else Q none o:=by unfold cp;simp
@[simp ↓]theorem DJ:Ok (z9 n g (.tup ds)) δ Q↔(if ds.length=n then Ok (g ds) δ Q else False):=by show Ok (if ds.length=n then g ds else lift none) δ Q↔_;simp
@[simp ↓]theorem xt:Ok (uc f g (d::ds)) δ Q↔Ok (f d) δ λ _ o=>Ok (g ds) o Q:=by show Ok (f d >>=λ _=>g ds) δ Q↔_;simp
@[simp ↓]theorem zu:Ok (AA []) δ Q↔Q () δ:=by show Ok (pure ()) δ Q↔_;simp
end
section
variable {δ:DS}
theorem bQ{α:Type}{lo own:Nat}{J:M jy}{turn:D->M (Option D)}{Q:List D->DS->Prop}(as:List α)(e:α->D)(g:α->Option D)(hl:δ.length=lo)(hi:Ok J δ λ it C=>it=bL (as.map e)/\C=δ)(hn:as.length<=100000)
  (ht:∀a∈as,Ok (turn (e a)) (δ++List.replicate own .un) λ o I=>o=g a/\I.take lo=δ)(hQ:Q (as.filterMap g) δ):Ok (dG lo own J turn) δ Q:=by
 have gen:∀es:List α,(∀d∈es,d∈as)->d7 own turn (λ _=>true) (bL (es.map e)).1 δ=some (es.filterMap g,δ):=by intro es;induction es with
  |nil=>intro _;rfl
  |cons d es ih=>intro hs;obtain⟨o,I,U,e0,e2⟩:=ht d (hs d uL);show d7 own turn (λ _=>true) ((λ _=>some (e d))::(bL (es.map e)).1) δ=_;unfold d7;grind
 unfold dG;simp only[cb];refine⟨(),δ,by unfold gF;rw[fD hl],hi.mono λ it C ⟨U,e2⟩=>?_⟩;subst U e2;exact gz.mpr ⟨by simpa[bL]using hn,as.filterMap g,C,gen as λ _ h=>h,hQ⟩
theorem dr{α β:Type}(p:α->Bool)(f:α->β)(as:List α):(as.filterMap λ a=>if p a=true then some (f a)else none)=(as.filter p).map f:=by induction as with
 |nil=>rfl
 |cons a r o=>grind
theorem cB{fi:M jy}{turn:D->M (Option D)}{Q:List D->DS->Prop}(ds:List D)(I:Nat->List D->DS->Prop)(hl:δ.length=lo)(hi:Ok fi δ λ it C=>it=bL ds/\C=δ)(hn:ds.length<=100000)(h0:I 0 [] δ)
  (ht:∀k(hk:k<ds.length) acc δ,acc.length<=k->δ.length=lo->I k acc δ->Ok (turn ds[k]) (δ++List.replicate own .un) λ o J=>(J.take lo).length=lo/\I (k+1) (acc++o.toList) (J.take lo))(hQ:∀xs C,xs.length<=ds.length->C.length=lo->I ds.length xs C->Q xs C):Ok (dG lo own fi turn) δ Q:=by
 have gen:∀(n k:Nat)(acc:List D)(δ:DS),ds.length-k=n->k<=ds.length->acc.length<=k->δ.length=lo->I k acc δ->∃xs C,d7 own turn (λ _=>true) (bL (ds.drop k)).1 δ=some (xs,C)/\C.length=lo/\I ds.length (acc++xs) C/\(acc++xs).length<=ds.length:=by intro n;induction n with
  |zero=>
   intro k acc δ hk aa h0 h1 h2;have:k=ds.length:=by omega
   subst this;rw[Z4];exact⟨[],δ,rfl,h1,by simpa using h2,by simpa using h0⟩
  |succ n ih=>
   intro k acc δ hk aa h0 h1 h2;have U:k<ds.length:=by omega
   rw[Q4 U];obtain⟨o,J,e,q1,q2⟩:=ht k U acc δ h0 h1 h2;have ho:o.toList.length<=1:=by cases o <;> simp
   obtain⟨xs,C,e',r1,r2,r3⟩:=ih (k+1) (acc++o.toList) (J.take lo) (by omega) U (by rw[QC];omega) q1 q2;refine⟨o.toList++xs,C,?_,r1,by simpa using r2,by simpa using r3⟩;show d7 own turn (λ _=>true) ((λ _=>some ds[k])::(bL (ds.drop (k+1))).1) δ=_;unfold d7;dsimp only;rw[e];dsimp only;rw[h1,e']
 unfold dG;simp only[cb];refine⟨(),δ,by unfold gF;rw[fD hl],hi.mono λ it C ⟨e1,e2⟩=>?_⟩;subst e1 e2;obtain⟨xs,J,e,r1,r2,r3⟩:=gen ds.length 0 [] C (by omega) (QY _) (xS _) hl h0;exact gz.mpr ⟨by simpa[bL]using hn,xs,J,e,hQ xs J (by simpa using r3) r1 (by simpa using r2)⟩
theorem uh{i n k:Nat}{b:Bool}{xs:List D}(h:k<(dI i n).1.length)(hx:δ[i]?=some (.ow b xs))(o:xs.length=n):(dI i n).1[k] δ=xs[k]?:=by have e:=YW (λ j (δ:DS)=>(match δ[i]? with|some (.ow _ xs)=>if xs.length=n then xs[j]? else none|_=>none:Option D)) (l:=List.range n) (i:=k) (h:=by simpa[dI]using h);refine Eq.trans (congrFun e δ) ?_;grind
theorem rF{α:Type}{lo own i:Nat}{b:Bool}{fi:M jy}{turn:D->M (Option D)}{Q:List D->DS->Prop}(as:List α)(e:α->D)(g:α->Option D)(hl:δ.length=lo)(hx:δ[i]?=some (.ow b (as.map e)))(hi:Ok fi δ λ it J=>it=dI i as.length/\J=δ)(hn:as.length<=100000)
  (ht:∀a∈as,Ok (turn (e a)) (δ++List.replicate own .un) λ o U=>o=g a/\U.take lo=δ)(hQ:Q (as.filterMap g) δ):Ok (dG lo own fi turn) δ Q:=by
 have gen:∀(n k:Nat),as.length-k=n->k<=as.length->d7 own turn (dI i as.length).2 ((dI i as.length).1.drop k) δ=some ((as.drop k).filterMap g,δ):=by intro n;induction n with
  |zero=>
   intro k hk aa;have:k=as.length:=by omega
   subst this;rw[Z4,WR (by simp[dI])];have ef:(dI i as.length).2 δ=true:=by simp[dI,hx]
   unfold d7;rw[fD ef];rfl
  |succ n ih=>
   intro k hk aa;have C:k<as.length:=by omega
   have I:k<(dI i as.length).1.length:=by simpa[dI]using C
   rw[Q4 C,Q4 I];obtain⟨o,U,e1,e0,e2⟩:=ht as[k] (QN C);unfold d7;have ea:(dI i as.length).1[k] δ=some (e as[k]):=by rw[uh I hx (by simp)];simp[C]
   rw[ea];dsimp only;rw[e1];dsimp only;rw[hl,e2,ih (k+1) (by omega) C,Z0,<- e0];cases o <;> rfl
 unfold dG;simp only[cb];refine⟨(),δ,by unfold gF;rw[fD hl],hi.mono λ it J ⟨e1,e2⟩=>?_⟩;subst e1 e2;refine gz.mpr ⟨by simpa[dI]using hn,as.filterMap g,J,?_,hQ⟩;have:=gen as.length 0 (by omega) (QY _);simp_all
noncomputable def Lp(gt:D->M Unit)(body:M Fl)(its:List (DS->Option D))(o:Fl):M Fl:=match o with
 | .nx=>forM gt body (λ _=>true) its
 | .ct=>forM gt body (λ _=>true) its
 | .bk=>pure .nx
 | .rt d=>pure (.rt d)
 | .rf d=>pure (.rf d)
theorem xg(gt:D->M Unit)(body:M Fl)(its:List (DS->Option D)){d:D}{δ o C:DS}{u:Unit}{I:Fl}(J:gt d δ=some (u,o))(U:body o=some (I,C)):forM gt body (λ _=>true) ((λ _=>some d)::its) δ=Lp gt body its I C:=by rw[forM];dsimp only;rw[M.bind_def,J];dsimp only;rw[M.bind_def,U];rfl
theorem jW(ds:List D)(I:Nat->DS->Prop)(h0:I 0 δ)
  (ht:∀k(hk:k<ds.length) δ,I k δ->Ok (gt ds[k]) δ λ _ U=>Ok body U λ fl o=>match fl with
   | .nx=>I (k+1) o
   | .ct=>I (k+1) o
   | .bk=>Q .nx o
   | .rt d=>Q (.rt d) o
   | .rf d=>Q (.rf d) o)(hQ:∀δ,I ds.length δ->Q .nx δ):Ok (forM gt body (bL ds).2 (bL ds).1) δ Q:=by
 have gen:∀(n k:Nat)(δ:DS),ds.length-k=n->k<=ds.length->I k δ->Ok (forM gt body (λ _=>true) (bL (ds.drop k)).1) δ Q:=by intro n;induction n with
  |zero=>
   intro k δ hk aa h;have:k=ds.length:=by omega
   subst this;rw[Z4];exact⟨.nx,δ,rfl,hQ δ h⟩
  |succ n ih=>
   intro k δ hk aa h;have C:k<ds.length:=by omega
   rw[Q4 C];have ab:=ht k C δ h;obtain⟨u,U,e1,fl,o,e2,q⟩:=ab;have st:forM gt body (λ _=>true) (bL (ds[k]::ds.drop (k+1))).1 δ=Lp gt body (bL (ds.drop (k+1))).1 fl o:=xg gt body _ e1 e2;cases fl with
   |nx=>obtain⟨a,J,e,q'⟩:=ih (k+1) o (by omega) C q;exact⟨a,J,st.trans e,q'⟩
   |ct=>obtain⟨a,J,e,q'⟩:=ih (k+1) o (by omega) C q;exact⟨a,J,st.trans e,q'⟩
   |bk=>exact⟨.nx,o,st,q⟩
   |rt d=>exact⟨.rt d,o,st,q⟩
   |rf d=>exact⟨.rf d,o,st,q⟩
 have:=gen ds.length 0 δ (by omega) (QY _) h0;rwa [YS]at this
theorem Kf(ds:List D)(I:Nat->DS->Prop)(U:Ok fi δ λ it C=>it=bL ds/\C=δ)(h0:I 0 δ)
  (ht:∀k(hk:k<ds.length) δ,I k δ->Ok (gt ds[k]) δ λ _ J=>Ok body J λ fl o=>match fl with
   | .nx=>I (k+1) o
   | .ct=>I (k+1) o
   | .bk=>Q .nx o
   | .rt d=>Q (.rt d) o
   | .rf d=>Q (.rf d) o)(hQ:∀δ,I ds.length δ->Q .nx δ):Ok (do let it<- fi;Jt.forM gt body it.2 it.1) δ Q:=by rw[cb];refine U.mono λ it C ⟨e1,e2⟩=>?_;subst e1 e2;exact jW ds I h0 ht hQ
end
theorem bT{body:M Fl}{ds:List D}{d:D}(h:Ok body (entry N ds) λ o _=>o= .rt d):bU N body ds=some d:=by obtain⟨o,C,e,rfl⟩:=h;unfold bU;rw[e]
theorem DN{body:M Fl}{ds:List D}{d:List D}(h:Ok body (entry N ds) λ o _=>o= .rf d):ki N body ds=some d:=by obtain⟨o,C,e,rfl⟩:=h;unfold ki;rw[e]
theorem e9{body:M Fl}{xs ds:List D}{Q:D->List D->Prop}(h:Ok body (d_ N xs ds) λ C δ=>∃d o,C= .rt d/\δ[0]?=some (.ow true o)/\Q d o):∃d o,fz N body xs ds=some (d,o)/\Q d o:=by obtain⟨C,I,e,d,o,rfl,J,q⟩:=h;unfold fz;grind
theorem DY{body:M Fl}{ds:List D}{Q:D->Prop}(h:Ok body (entry N ds) λ o _=>∃d,o= .rt d/\Q d):∃d,bU N body ds=some d/\Q d:=by obtain⟨o,C,e,d,rfl,q⟩:=h;exact⟨d,by unfold bU;rw[e],q⟩
theorem DV{body:M Fl}{ds:List D}{Q:List D->Prop}(h:Ok body (entry N ds) λ o _=>∃d,o= .rf d/\Q d):∃d,ki N body ds=some d/\Q d:=by obtain⟨o,C,e,d,rfl,q⟩:=h;exact⟨d,by unfold ki;rw[e],q⟩
end Jt
namespace Jt
open PySem L2 PySem.Spec PyProof.Rows
noncomputable def Mm{α:Type}(g:Nat->Nat->Bool):PySem.W.KasT α->α
 | .ret a=>a
 | .ask i j k=>Mm g (k (g i j))
section
noncomputable def AX(K:PySem.W.Frag)(H:Hp):List V->List (List Int)->Prop
 |[],o=>o=[]
 |v::vs,o=>∃p ns r,v= .ref p/\fv K H p (ns.map V.int)/\o=ns::r/\AX K H vs r
theorem ip:∀{vs:List V}{us:List Value},Vals vs us->∀i:Nat,RelV (vs.getD i V.non) (us.getD i Value.none)
 |_,_,.nil,i=>by rfl
 |_,_,.cons r _,0=>by grind
 |_,_,.cons _ h,i+1=>by simpa using ip h i
theorem qN(h:∀i,RelV (f i) (g i)):∀l:List Nat,Vals (l.map f) (l.map g)
 |[]=> .nil
 |i::l=> .cons (h i) (qN h l)
end
noncomputable def dF:List D->Option (List (List Int))
 |[]=>some []
 | .tup ds::r=>match cz ds,dF r with
  |some ns,some o=>some (ns::o)
  |_,_=>none
 |_=>none
theorem jI{K:PySem.W.Frag}{c:Ct}{U:DS}{σ:L2.St}{H:Hp}:∀{ds:List D}{vs:List V}{o:List (List Int)},Rs (eU c U σ H) ds vs->dF ds=some o->AX K H vs o
 |[],vs,o,h,e=>by cases e;rw[h.inv0];rfl
 |d::ds,vs,o,h,e=>by obtain⟨v,r,ev,h1,h2⟩:=h.inv;cases d with
  |tup xs=>unfold dF at e;cases C:cz xs with
   |none=>rw[C]at e;cases e
   |some ns=>cases I:dF ds with
    |none=>rw[C,I]at e;cases e
    |some nr=>rw[C,I]at e;cases e;obtain⟨p,us,eu,g1,g2⟩:=h1.tup;subst ev eu;have J:=eY g2 C;subst J;exact⟨p,ns,nr,rfl,.of (bK _ _ g1),rfl,jI h2 I⟩
  |_=>cases e
theorem vW:∀{ds:List D}{vs:List V},Rs H ds vs->∀i:Nat,R H (ds.getD i D.non) (vs.getD i V.non)
 |[],vs,h,i=>by rw[h.inv0];rfl
 |d::ds,vs,h,i=>by obtain⟨v,r,ev,o,C⟩:=h.inv;subst ev;cases i with
  |zero=>simpa using o
  |succ i=>simpa using vW C i
theorem yN(h:∀i,R H (f i) (g i)):∀l:List Nat,Rs H (l.map f) (l.map g)
 |[]=> .nil
 |i::l=> .cons (h i) (yN h l)
end Jt
namespace Jt
open PySem L2
section
variable {X:Cx}
noncomputable def never{α:Type}:M α:= λ _=>none
theorem sd:ku X st never:= λ pins s σ H E I h=>by obtain⟨c,C,S,T,J,o,s,e,k⟩:=h;cases e
end
section
open Classical in
end
section
variable {X:Cx} {a:Expr} {fa:M D} {pos:Pos}
noncomputable def Jh:D->Option D
 | .int i=>some (.int (-i))
 |_=>none
noncomputable def m1(f:D->Option D)(fa:M D):M D:=do
 let x<- fa
 lift (f x)
theorem Bt(I:DE X a fa):DE X (.UnaryOp .USub a pos) (m1 Jh fa):=cM (Gs BO I) λ σ H Q ⟨c,J,S,T,d,U,s,e,k⟩=>by obtain⟨x,o,e1,e⟩:=bind_some e;obtain⟨C,rfl⟩:=bt e;refine⟨c,J,S,T,x,o,s,e1,λ v H' s'=>?_⟩;cases x with
 |int i=>cases C;exact⟨i,s'.st.head.int,k _ _ (s'.pop.stk (.cons .mkI s'.pop.st))⟩
 |_=>cases C
end
section
variable {δ:DS}
@[simp ↓]theorem Ks:Ok (m1 f C) δ Q↔Ok C δ λ x o=>Ok (lift (f x)) o Q:=by unfold m1;simp
@[simp ↓]theorem JT:Ok (GB U r2 fa fb fc) δ Q↔Ok fa δ λ x C=>Ok fb C λ y I=>Ok (lift (U x y)) I λ z o=>match z with
  | .bl true=>Ok fc o λ w J=>Ok (lift (r2 y w)) J Q
  | .bl false=>Q (.bl false) o
  |_=>False:=by
 unfold GB;simp;constructor <;>
 .intro h;refine h.mono λ x C h=>h.mono λ y I h=>h.mono λ z o h=>?_;cases z with
  |bl b=>cases b <;> simpa using h
  |_=>simp_all
theorem vE(I:Nat->DS->Prop)(h:∀k δ,I k δ->Ok tt δ λ b o=>(b=true->∃j,k=j+1/\Ok body o λ U C=>U= .nx/\I j C)/\(b=false->Q .nx o)):
  ∀(f n:Nat)(δ:DS),n<f->I n δ->Ok (Ij tt body f) δ Q
 |0,n,δ,hf,_=>by omega
 |f+1,n,δ,hf,hI=>by unfold Ij;rw[cb];refine(h n δ hI).mono λ b o hb=>?_;cases b with
  |false=>simp_all
  |true=>obtain⟨j,rfl,hj⟩:=hb.1 rfl;show Ok (body >>= _) o Q;rw[cb];refine hj.mono λ U C ⟨e,J⟩=>?_;subst e;exact vE I h f j C (by omega) J
end
end Jt
namespace Jt
open PySem L2 PySem.Spec PyProof.Rows
section
variable {prog:Program} {w:World} {A:Around} {E:Value->Shared->Prop} {s:Shared}
theorem y_ {ws:List Value} (ht:IsTup s.heap t #[]) (hb:IsTup s.heap b ws.toArray) (h:Q (.ref b) s):wpAny (model prog w) A (binaryOp .Add (.ref t) (.ref b)) Q E s:= by
 obtain ⟨⟨cls,dd,data,sl⟩,ho,hc,n,hd⟩:=id ht
 obtain ⟨⟨cls2,dd2,data2,sl2⟩,ho2,hc2,n2,hd2⟩:=id hb
 simp at hc hd hc2 hd2
 subst hc hd hc2 hd2
 exact concat_meets ⟨_,ho,rfl⟩ ⟨_,ho2,rfl⟩ noFill_tuple_add seq_tuple_add WL WE (Y3 _ _) (tuple_addW0 t b #[] ws.toArray n n2 dd dd2 sl sl2 rfl) ⟨ho,ho2,h⟩
end
section
variable {X:Cx} {a b e:Expr} {fa fb:M D} {pos:Pos}
noncomputable def GU(K:PySem.W.Frag):R2:= λ x y H Q=>Bp K x y H Q\/ ∃p q ys,x= .ref p/\y= .ref q/\fv K H p []/\fv K H q ys/\Q (.ref q) H
theorem D7:gG X (binaryOp .Add) (GU X.K):=by
 intro pins s σ H x y v u Q I o C h;rcases h with h|⟨p,q,ys,rfl,rfl,U,hq,k⟩
 .exact CC pins s σ H x y v u Q I o C h
 .cases o;cases C;obtain⟨its,r1,p1,_⟩:=I.tuple U;obtain⟨J,r2,p2,_⟩:=I.tuple hq;have e:its=[]:=r1.nil_iff.mpr rfl;subst e;exact y_ p1 p2 ⟨.ref q,H,I,rfl,k⟩
noncomputable def v7:D->D->Option D
 | .tup xs,.tup ys=>if xs.length+ys.length<=100000 then some (.tup (xs++ys))else none
 |_,_=>none
theorem y4{K:PySem.W.Frag}:qQ (GU K) v7:= λ c C S σ T H x y v u d Q s e k=>by
 unfold v7 at e;split at e
 .rename_i xs ys;split at e;. rename_i I;cases e;cases xs with
   |cons x xs=>refine .inl (AU c C S σ T H (.tup (x::xs)) (.tup ys) v u _ Q s ?_ k);show(if xs.length+1+ys.length<=100000 then _ else _)=_;rw[fD (by simpa using I)]
   |nil=>obtain⟨p,ws,rfl,o,J⟩:=s.st.tail.head.tup;obtain⟨q,zs,rfl,U,h5⟩:=s.st.head.tup;rw[J.inv0]at o;exact .inr ⟨p,q,zs,rfl,rfl,.of (bK _ _ o),.of (bK _ _ U),k _ _ (s.stk (.cons s.st.head s.st.tail.tail))⟩
  grind
 grind
theorem uG(o:DE X a fa)(C:DE X b fb):DE X (.BinOp a .Add b pos) (m2 v7 fa fb):=ka D7 y4 o C
theorem JS{σ:L2.St}{H:Hp}{s:Shared}(I:L2.Inv X pins σ H s):s.heap.objs.size≠sysModules:= λ e=>by obtain⟨_,_,_,o,_⟩:=I.mod.glob;have:=wV (I.bk _ _ o);rw[e]at this;exact absurd this (by decide)
theorem Bj:PE X (.Dict [] [] pos) (λ σ H Q=>∀l,H l=none->Q (.ref l) (upd H l (kZ l))):=by intro pins s σ H Q I h;refine wpAny_Dict_empty ?_;have g:(s.heap.push { cls:= .type "dict",data:= .dict #[] }).get? s.heap.objs.size=some { cls:= .type "dict",data:= .dict #[] }:=wN _ rfl;refine⟨.ref s.heap.objs.size,_,I.laid (t':=s.toks) (o:=kZ s.heap.objs.size) (λ b ob q=>kT _ q) (xS _) ⟨⟨JS I,_,_,g,rfl,rfl⟩,⟨_,g⟩,λ h1 h2 ⟨C,o,n,J,U,e3⟩ k=>⟨C,o,n,k o J,U,e3⟩⟩,rfl,h _ (I.hok.fresh (xS _))⟩
theorem Az:DE X (.Dict [] [] pos) (pure .dct):=cM Bj λ σ H Q ⟨c,I,S,T,d,C,s,e,k⟩=>by obtain⟨rfl,rfl⟩:=bg e;intro l o;have s':=s.grow (dZ o (kZ l));exact k _ _ (s'.stk (.cons (.mkD (eN.mpr ⟨s.hdNew o,bB⟩)) s'.st))
end
section
variable {prog:Program} {w:World} {A:Around} {E:Value->Shared->Prop} {s:Shared}
theorem j6{n:Nat}{Q:Int×Int×Nat->Shared->Prop}(hs:s.heap.IsSliceOf sl .none .none (.int (-1) t))(h:Q ((n:Int) -1,-1,n) s):wpAny (model prog w) A (Builtin.Slice.sliceApplied (.ref sl) (pure (n:Int))) Q E s:=by
 obtain⟨os,o,J,C⟩:=id hs;unfold Builtin.Slice.sliceApplied Builtin.Slice.sliceFields;refine zN (zN (Q7 o C (x:= .none) rfl (zN (Q7 o C (x:= .none) rfl (zN (Q7 o C (x:= .int (-1) t) rfl (zS ?_)))))));refine zN (HT.slicePart_ (.int (-1) t) ?_);show wpAny _ _ (if((-1:Int)==0)=true then _ else _) _ _ s;rw[QB (by decide)];refine zN (HT.slicePart_ .none (zN (HT.slicePart_ .none (zN (zS ?_)))));show wpAny _ _ (match Builtin.Slice.sliceAdjust none none (-1) (n:Int)with|(lo,U)=>pure (lo,(-1:Int),Builtin.Slice.slicePlaces lo U (-1))) _ _ s;have e1:Builtin.Slice.sliceAdjust none none (-1) (n:Int)=((n:Int) -1,-1):=rfl;rw[e1];show wpAny _ _ (pure ((n:Int) -1,(-1:Int),Builtin.Slice.slicePlaces ((n:Int) -1) (-1) (-1))) _ _ s;have e2:Builtin.Slice.slicePlaces ((n:Int) -1) (-1) (-1)=n:=by
  unfold Builtin.Slice.slicePlaces;rw[QB (by omega)];by_cases h0:n=0;. subst h0;rfl
  .have:((n:Int) -1- -1-1)/ -(-1)=(n:Int) -1:=by rw[show-(-1:Int)=1 from rfl,Int.ediv_one];omega
   omega
 rw[e2];exact zS h
theorem rX{α β:Type}{f g:α->Option β}:∀l:List α,(∀x∈l,f x=g x)->l.filterMap f=l.filterMap g
 |[],_=>rfl
 |a::r,h=>by rw[Z0,Z0,h a uL,rX r λ x hx=>h x (uN _ hx)]
theorem BU(xs:Array Value):((List.range xs.size).filterMap λ(m:Nat)=>xs[((xs.size:Int) -1+m*(-1)).toNat]?).toArray=xs.toList.reverse.toArray:=by
 congr 1;have:∀m∈List.range xs.size,xs[((xs.size:Int) -1+m*(-1)).toNat]?=some (xs.toList.reverse.getD m Value.none):= λ m hm=>by
  have o:m<xs.size:=QL.mp hm;rw[show((xs.size:Int) -1+m*(-1)).toNat=xs.size-1-m by omega];have C:xs.size-1-m<xs.size:=by omega
  rw[QI,kW (by simpa using o)];simp
 have e:(List.range xs.size).filterMap (λ(m:Nat)=>xs[((xs.size:Int) -1+m*(-1)).toNat]?)=(List.range xs.size).filterMap λ m=>some (xs.toList.reverse.getD m Value.none):=rX _ this;rw[e];refine List.ext_getElem (by simp) λ i C I=>?_;have:i<xs.size:=by simpa using C
 simp[this]
theorem jr{items:Array Value}{t:Tok}{Q:Value->Shared->Prop}(C:IsTup s.heap a items)(hs:s.heap.IsSliceOf sl .none .none (.int (-1) t))
  (h:Q (.ref s.heap.objs.size) { s with heap:=s.heap.push { cls:= .type "tuple",data:= .seq items.toList.reverse.toArray } })(hsz:items.size<=sizeLine):wpAny (model prog w) A (getItem (.ref a) (.ref sl)) Q E s:=by
 have o:sizeOk (.seq items.toList.reverse.toArray):=by show items.toList.reverse.toArray.size<=sizeLine;simpa using hsz
 obtain⟨os,I,J,ab⟩:=id hs;have U:s.TypeIs (.ref sl) "slice":=⟨os,I,J⟩;unfold getItem;try with_reducible refine QP ?_
 refine zN (WM C.typeIs (by decide) ?_);refine zN (QW (name:=Str.ofString "__getitem__") C.typeIs slot_tuple_getitem (QO slot_tuple_getitem C.typeIs entry_tuple_getitem ?_ (args_tuple_getitem _ _)));show wpAny _ _ (Builtin.Tuple.tupleItemsOf (.ref a) >>= _) _ _ s;refine zN (tupleItemsOf_ C (zN (VZ U ?_)));refine zN (j6 hs ?_);have aa: ¬(((((items.size:Int) -1)==0&&(-1:Int)==1&&items.size==items.size)=true)):=by simp
 show wpAny _ _ (if((((items.size:Int) -1)==0&&(-1:Int)==1&&items.size==items.size)=true)then _ else _) _ _ s;rw[QB aa,BU];first
  |exact zN (m:=Builtin.Tuple.tupleExact _) (QK (zS ⟨_,rfl,zS h⟩) o)
  |rfl
  |exact zN (zN (m:=Builtin.Tuple.tupleExact _) (QK (zS (zS ⟨_,rfl,zS h⟩)) o))
  |exact zN (zN (m:=Builtin.Tuple.tupleExact _) (QK (zS ⟨_,rfl,zS h⟩) o))
end
section
variable {X:Cx} {e:Expr} {te:TE} {fa:M D} {j:Nat} {pos p2 p3 p4:Pos}
theorem AH(r:Vals vs us):Vals vs.reverse us.reverse:=by induction r with
 |nil=>exact .nil
 |cons h _ o=>rw[WT,WT];exact o.append (.cons h .nil)
theorem IA(he:PE X e te):PE X (.Subscript e (.Slice none none (some (.UnaryOp .USub (.Constant (.int 1) j p3) p4)) p2) pos) (λ σ H Q=>te σ H λ x H1=>∃a xs,x= .ref a/\fv X.K H1 a xs/\∀l,H1 l=none->Q (.ref l) (upd H1 l (.tup xs.reverse))):=by
 intro pins s σ H Q I h;refine Subscript_ (cC (he pins s σ H _ I h) λ v s1 ⟨x,H1,U,r1,q1⟩=>?_);obtain⟨a,xs,rfl,hx,q⟩:=q1;cases r1;refine wpAny_Slice ?_;rw[evalPart_none];refine zS (zS ?_);rw[evalPart_some];refine cC ((Gs BO qb) pins s1 σ H1 (λ v H'=>v= .int (-1)/\H'=H1) U ⟨1,rfl,rfl,rfl⟩) λ v2 s2 ⟨y,H2,I2,r2,e2,e3⟩=>?_;subst e2;subst e3;obtain⟨t,rfl⟩:=r2;have C:Inv X pins σ H2 { s2 with heap:=s2.heap.push { cls:= .type "slice",data:= .fields #[.none,.none,.int (-1) t] } }:=I2.kept (t':=s2.toks) λ b ob q=>kT _ q;obtain⟨its,r,J,hz⟩:=C.tuple hx;have hlen:its.toArray.size=xs.length:=by rw[uP];exact r.length.symm
 refine tail_any (ops:=[.ref a,.ref s2.heap.objs.size]) J.typeIs slot_tuple_getitem.lookup (jr J (Heap.IsSliceOf.new ..) ?_ (by rw[hlen];exact hz)) (by with_unfolding_all rfl);refine⟨.ref _,_,C.laid (t':=s2.toks) (o:= .tup xs.reverse) (λ b ob q=>kT _ q) (xS _) ?_,rfl,q _ (C.hok.fresh (xS _))⟩;exact⟨by rw[XC];exact hz,_,AH r,ue.new _ _⟩
theorem zo:∀{ds:List D}{vs:List V},Rs H ds vs->Rs H ds.reverse vs.reverse
 |[],vs,h=>by rw[h.inv0];rfl
 |d::ds,vs,h=>by obtain⟨v,r,ev,o,C⟩:=h.inv;subst ev;rw[WT,WT];exact(zo C).append (.cons o .nil)
noncomputable def ML:D->Option D
 | .tup xs=>some (.tup xs.reverse)
 |_=>none
theorem Hz(he:DE X e fa):DE X (.Subscript e (.Slice none none (some (.UnaryOp .USub (.Constant (.int 1) j p3) p4)) p2) pos) (m1 ML fa):=cM (IA he) λ σ H Q ⟨c,J,S,T,d,U,s,e,k⟩=>by obtain⟨x,o,e1,e⟩:=bind_some e;obtain⟨C,rfl⟩:=bt e;refine⟨c,J,S,T,x,o,s,e1,λ v H' s'=>?_⟩;cases x with
 |tup xs=>cases C;obtain⟨a,vs,rfl,h1,I⟩:=s'.st.head.tup;refine⟨a,vs,rfl,.of (bK _ _ h1),λ l hl=>?_⟩;have s1:=s'.stk ((zo I).append s'.st.tail);exact k _ _ (s1.newTup (by rw[XC,XC,I.length]) hl)
 |_=>cases C
end
section
variable {X:Cx} {a:Expr} {fa:M D} {fs:M (List D)} {es us:List Expr} {vs:List (Option Expr)} {pos p2:Pos} {j:Nat} {c:Const} {o:UnaryOp} {env:Env}
theorem DD:swapsWith (.List es p2) t l env=pure false:=rfl
theorem zx:starEach (.Constant c j p2::es) env=(false,eval (.Constant c j p2) env)::starEach es env:=rfl
theorem Jx:starEach (.Tuple us j p2::es) env=(false,eval (.Tuple us j p2) env)::starEach es env:=rfl
theorem HV:starEach (.List us p2::es) env=(false,eval (.List us p2) env)::starEach es env:=rfl
theorem Jm:starEach (.Dict vs us p2::es) env=(false,eval (.Dict vs us p2) env)::starEach es env:=rfl
theorem K3:starEach (.UnaryOp o a p2::es) env=(false,eval (.UnaryOp o a p2) env)::starEach es env:=rfl
theorem nj(C:DE X (.Constant c j p2) fa)(I:DA X es fs):DA X (.Constant c j p2::es) (bw fa fs):=a_ C I zx
theorem iY(C:DE X (.Tuple us j p2) fa)(I:DA X es fs):DA X (.Tuple us j p2::es) (bw fa fs):=a_ C I Jx
theorem Ki(C:DE X (.List us p2) fa)(I:DA X es fs):DA X (.List us p2::es) (bw fa fs):=a_ C I HV
theorem Ny(C:DE X (.Dict vs us p2) fa)(I:DA X es fs):DA X (.Dict vs us p2::es) (bw fa fs):=a_ C I Jm
theorem M4(C:DE X (.UnaryOp o a p2) fa)(I:DA X es fs):DA X (.UnaryOp o a p2::es) (bw fa fs):=a_ C I K3
theorem vC(i:Nat)(x:Str)(e:Expr)(fa:M D)(pos pos':Pos)(C:X.N.Nodup)(I:X.N[i]?=some x)(hx:Loc X.env.scope x)(hf:X.fn x=true\/X.env.scope.names.lookup x=some .local)(hs:swapsWith e (some (.Name x pos')) pos.line X.env=pure false)(he:DE X e fa):ku X (.Assign [.Name x pos'] e pos) (uU i fa):=bP i C he I hx hs hf
end
theorem dz(neg:Bool)(a b:Int):km neg (.int a) (.int b)=some (.bl (if neg then !decide (a=b)else decide (a=b))):=by show(if xb (.int a) (.int b)=true then some (D.bl (if neg then !decide (V.int a=V.int b)else decide (V.int a=V.int b)))else none)=_;rw[fD (show xb (.int a) (.int b)=true from rfl)];simp
theorem Ir(neg:Bool)(a b:Int):jx neg (.int a) (.int b)=some (.bl (if neg then !decide (a=b)else decide (a=b))):=dz neg a b
@[simp]theorem Fz:cj .int .non=false:=rfl
@[simp]theorem G7(b:Bool):cj .int (.bl b)=true:=rfl
@[simp]theorem C4(i:Int):cj .int (.int i)=true:=rfl
@[simp]theorem E8(x:Str):cj .int (.str x)=false:=rfl
@[simp]theorem E5(xs:List D):cj .int (.tup xs)=false:=rfl
@[simp]theorem Fc(xs:List D):cj .int (.lst xs)=false:=rfl
@[simp]theorem EY:cj .int .dct=false:=rfl
@[simp]theorem Dw(k:List (Int×Int)):cj .int (.dic k)=false:=rfl
@[simp]theorem EO(k:List ((Int×Int)×Int)):cj .int (.dip k)=false:=rfl
@[simp]theorem B3:cj .bool .non=false:=rfl
@[simp]theorem Fp(b:Bool):cj .bool (.bl b)=true:=rfl
@[simp]theorem B6(i:Int):cj .bool (.int i)=false:=rfl
@[simp]theorem Cg(x:Str):cj .bool (.str x)=false:=rfl
@[simp]theorem Cj(xs:List D):cj .bool (.tup xs)=false:=rfl
@[simp]theorem Cf(xs:List D):cj .bool (.lst xs)=false:=rfl
@[simp]theorem B_:cj .bool .dct=false:=rfl
@[simp]theorem B9(k:List (Int×Int)):cj .bool (.dic k)=false:=rfl
@[simp]theorem B8(k:List ((Int×Int)×Int)):cj .bool (.dip k)=false:=rfl
@[simp]theorem Cz:cj .tup .non=false:=rfl
@[simp]theorem FV(b:Bool):cj .tup (.bl b)=false:=rfl
@[simp]theorem D1(i:Int):cj .tup (.int i)=false:=rfl
@[simp]theorem ED(x:Str):cj .tup (.str x)=false:=rfl
@[simp]theorem Dp(xs:List D):cj .tup (.tup xs)=true:=rfl
@[simp]theorem CB(xs:List D):cj .tup (.lst xs)=false:=rfl
@[simp]theorem EL:cj .tup .dct=false:=rfl
@[simp]theorem EH(k:List (Int×Int)):cj .tup (.dic k)=false:=rfl
@[simp]theorem Ef(k:List ((Int×Int)×Int)):cj .tup (.dip k)=false:=rfl
@[simp]theorem Dz:cj .lst .non=false:=rfl
@[simp]theorem F_(b:Bool):cj .lst (.bl b)=false:=rfl
@[simp]theorem D6(i:Int):cj .lst (.int i)=false:=rfl
@[simp]theorem Dd(x:Str):cj .lst (.str x)=false:=rfl
@[simp]theorem E1(xs:List D):cj .lst (.tup xs)=false:=rfl
@[simp]theorem EF(xs:List D):cj .lst (.lst xs)=true:=rfl
@[simp]theorem FC:cj .lst .dct=false:=rfl
@[simp]theorem Dg(k:List (Int×Int)):cj .lst (.dic k)=false:=rfl
@[simp]theorem FL(k:List ((Int×Int)×Int)):cj .lst (.dip k)=false:=rfl
@[simp]theorem Eh:cj .str .non=false:=rfl
@[simp]theorem Gi(b:Bool):cj .str (.bl b)=false:=rfl
@[simp]theorem D2(i:Int):cj .str (.int i)=false:=rfl
@[simp]theorem ET(x:Str):cj .str (.str x)=true:=rfl
@[simp]theorem EW(xs:List D):cj .str (.tup xs)=false:=rfl
@[simp]theorem CW(xs:List D):cj .str (.lst xs)=false:=rfl
@[simp]theorem C7:cj .str .dct=false:=rfl
@[simp]theorem EJ(k:List (Int×Int)):cj .str (.dic k)=false:=rfl
@[simp]theorem Fv(k:List ((Int×Int)×Int)):cj .str (.dip k)=false:=rfl
end Jt
namespace Jt
open PySem L2
open PyProof.Rows (AllBare)
structure yg (P:Program) (w:World) (l:List Env) (H H':Hp) (h0 h B:Heap):Prop where
 un:Un (hU l) [] H H' h0 h
 hok:iB P w H' h
 inB:∀b o,h0.get? b=some o->b ∉ hU l->∃o',B.get? b=some o'
 hB:∀b o,H' b=some o->∃o',B.get? b=some o'
 st:B.StaysIn h
theorem yg.same (F:yg P w l H H' h0 h B) (st:B.StaysIn h2) (e:h.get? b=some o) (e':B.get? b=some o'):h2.get? b=some o:= by
 have h1:=F.st b o' e'
 rw [e] at h1;cases h1
 exact st b o e'
theorem yg.move{h0 h h2 B base:Heap}(F:yg P w l H H' h0 h B)(st:B.StaysIn h2)(up:h.UpToSlots h2)(fr:h.FunFrames base l):yg P w l H H' h0 h2 B:=by
 have J:∀b∈hU l,∃o,h.get? b=some o/\∀vs,o.data≠ .fields vs:= λ b C=>(fr.mem C).2;refine⟨⟨λ b o e n C _=>?_,λ b o e n C _=>?_,F.un.free,λ b o e _=>?_,F.un.tups,F.un.frzs,F.un.tbls⟩,?_,F.inB,F.hB,st⟩;. obtain⟨I,U⟩:=F.inB b o e C;exact F.same st (F.un.keep b o e n C (by simp)) U
 .obtain⟨sl,e1⟩:=F.un.slot b o e n C (by simp);obtain⟨o1,e2,hd⟩:=J b C;rw[e1]at e2;cases e2;obtain⟨aa,e3⟩:=up b _ e1 hd;grind
 .by_cases C:b∈hU l;. obtain⟨o1,e2,hd⟩:=J b C;obtain⟨aa,e3⟩:=up b _ e2 hd;exact⟨_,e3⟩
  .obtain⟨I,U⟩:=F.inB b o e C;exact⟨I,st b I U⟩
 .intro a o e;refine(F.hok a o e).stay (λ b u C q=>?_) (λ _ q=>q) λ _ _ q=>q;have:∃I,H' b=some I:=by
   rcases C with rfl|C
   .exact⟨o,e⟩
   .exact⟨_,C⟩
  obtain⟨o1,e1⟩:=this;obtain⟨I,U⟩:=F.hB b o1 e1;exact F.same st q U
structure Fx (base:Heap) (l:List Env) (e:Addr) (oe:Obj) (vs:Array Value) (fl:Value) (h:Heap):Prop where
 st:base.StaysIn h
 ne:base.get? e=none
 fr:h.FunFrames base l
 sz:1 < vs.size
 tr:∃T oT ts,h.get? e=some { oe with data:=.fields (vs.setIfInBounds 1 (.ref T)) }∧base.get? T=none∧T ≠ e∧h.get? T=some oT∧oT.data=.fields ts∧ts[3]? = some fl
section
variable {M:Model} {A:Around} {E:Value->Shared->Prop} {s:Shared} {base:Heap} {env:Env} {outer:List Env} {L e:Addr} {oe:Obj} {vs ws:Array Value} {head fl:Value} {hadNext:Bool} {Q:Unit->Shared->Prop}
theorem rK(ai:A.frames=some (env::outer))(hl:s.heap.FunFrames base (env::outer))(hf:env.frame=some L)(he:s.heap.get? e=some { oe with data:= .fields ws })(hw:∀x,ws.setIfInBounds 1 x=vs.setIfInBounds 1 x)(hsz:1<vs.size)(aj:base.StaysIn s.heap)(af:base.get? e=none)
  (h:∀h',Fx base (env::outer) e oe vs (rawInt L) h'->s.heap.UpToSlots h'->Q () { s with heap:=h' }):
  wpAny M A (do let a<- frameOf env;let pl<- entryPlaceOf L hadNext;let b<- EntryCells.newEntry head a .none (rawInt L) .none pl;setField (.ref e) 1 b) Q E s:=by
 have ak:1<ws.size:=by have:=Q9 Array.size (hw .none);simp at this;omega
 have ag:e∉(env::outer).filterMap (·.frame):= λ hm=>by obtain⟨_,o,ho,aa⟩:=hl.mem hm;rw[he]at ho;cases ho;exact aa ws rfl
 refine zN (wpAny_frameOf_fun ai hl hf λ I C=>?_);refine zN (wpAny_entryPlaceOf λ pl ao=>?_);refine zN (QK ?_ (ao.sizeOk5 _ _ _ _ _));have J:I.get? e=some { oe with data:= .fields ws }:=(C.2.1 e ag).trans he;have ab:base.StaysIn I:= λ b o U=>(C.2.1 b λ hm=>by rw[(hl.mem hm).1]at U;cases U).trans (aj b o U);have ah:I.objs.size≠e:=VX (wV J);refine V7 (kT _ J) rfl ak (h _ ?_ ?_)
 .refine⟨λ b o U=>?_,af,hl.of_keeps λ b o hb aa=>?_,hsz,I.objs.size,_,_,(QQ _ (kT _ J) rfl).trans ?_,ab.fresh,ah,(QS _ _ (Ne.symm ah)).trans (wN I rfl),rfl,?_⟩
  .have ae:e≠b:= λ q=>by rw[<- q,af]at U;cases U
   exact(QS _ _ ae).trans (kT _ (ab b o U))
  .have ae:e≠b:= λ q=>by rw[<- q,he]at hb;cases hb;exact aa ws rfl
   obtain⟨sl,hs⟩:=C.2.2 b o hb;exact⟨_,(QS _ _ ae).trans (kT _ hs),rfl⟩
  .show some { oe with data:= .fields (ws.setIfInBounds 1 _) }=_;rw[hw]
  rfl
 .intro b o hb aa;have ae:e≠b:= λ q=>by rw[<- q,he]at hb;cases hb;exact aa ws rfl
  obtain⟨sl,hs⟩:=C.2.2 b o hb;exact⟨sl,(QS _ _ ae).trans (kT _ hs)⟩
theorem A6(o:A.frames=some (env::outer))(U:s.heap.FunFrames base (env::outer))(hf:env.frame=some L)(he:s.heap.get? e=some { oe with data:= .fields vs })(J:vs[1]?=some .none)(C:base.StaysIn s.heap)(I:base.get? e=none)
  (h:∀h',Fx base (env::outer) e oe vs (rawInt L) h'->s.heap.UpToSlots h'->Q () { s with heap:=h' }):wpAny M A (noteFrame (.ref e) env) Q E s:=by unfold noteFrame;simp only[hf];refine zN (Q7 he rfl J ?_);exact rK o U hf he (λ _=>rfl) (ZZ.mp J).1 C I h
theorem u5(aa:A.frames=some (env::outer))(hf:env.frame=some L)(F:Fx base (env::outer) e oe vs .none s.heap)
  (h:∀h',Fx base (env::outer) e oe vs (rawInt L) h'->s.heap.UpToSlots h'->Q () { s with heap:=h' }):wpAny M A (noteFrame (.ref e) env) Q E s:=by
 obtain⟨ab,ae,hl,hsz,T,oT,ts,he,ah,af,hT,U,h3⟩:=F;unfold noteFrame;simp[hf];refine zN (Q7 he rfl (x:= .ref T) (by simp[hsz]) ?_);refine zN (Q7 hT U h3 ?_);refine zN (V7 hT U (ZZ.mp h3).1 ?_);have other:∀b,b≠T->(s.heap.update T (Obj.mapFields (·.setIfInBounds 3 Value.none))).get? b=s.heap.get? b:= λ b J=>QS _ _ (Ne.symm J);have C:∀b o,s.heap.get? b=some o->(∀vs,o.data≠ .fields vs)->b≠T:= λ b o J I q=>by simp_all
 exact rK aa (hl.of_keeps λ b o J I=>⟨o,(other b (C b o J I)).trans J,rfl⟩) hf ((other e (Ne.symm af)).trans he) (λ x=>by simp) hsz
  (λ b o ag=>(other b λ q=>by simp_all).trans (ab b o ag)) ae λ h' F' up=>h h' F' λ b o J I=>up b o ((other b (C b o J I)).trans J) I
theorem kC(F:Fx base l e oe vs fl s.heap)(h:∀h',Fx base l e oe vs .none h'->s.heap.UpToSlots h'->Q () { s with heap:=h' }):wpAny M A (setFlight (.ref e) none) Q E s:=by
 obtain⟨ae,af,hl,hsz,T,oT,ts,he,ag,ab,hT,aa,h3⟩:=F;have J:3<ts.size:=(ZZ.mp h3).1;have other:∀b,b≠T->(s.heap.update T (Obj.mapFields (·.setIfInBounds 3 (none.elim Value.none λ f=>rawInt f)))).get? b=s.heap.get? b:= λ b U=>QS _ _ (Ne.symm U);have C:∀b o,s.heap.get? b=some o->(∀vs,o.data≠ .fields vs)->b≠T:= λ b o U I q=>by simp_all
 refine zN (Q7 he rfl (x:= .ref T) (by simp[hsz]) ?_);refine V7 hT aa J (h _ ⟨λ b o ah=>(other b λ q=>by simp_all).trans (ae b o ah),af,hl.of_keeps λ b o U I=>⟨o,(other b (C b o U I)).trans U,rfl⟩,hsz,T,_,_,(other e (Ne.symm ab)).trans he,ag,ab,QQ _ hT (WX (VO aa _)),VO aa _,by simp[J]⟩ λ b o U I=>⟨o.slots,(other b (C b o U I)).trans U⟩)
theorem zV(aa:A.frames=some (env::outer))(hf:env.frame=some L)(F:Fx base (env::outer) e oe vs .none s.heap)
  (h:∀h',Fx base outer e oe vs .none h'->s.heap.UpToSlots h'->Q () { s with heap:=h' }):wpAny M A (leaving env (.ref e)) Q E s:=by refine zN (u5 aa hf F λ ab I o=>kC I λ J U C=>h J ?_ (o.trans C));obtain⟨a,b,⟨_,_,c⟩,d,t⟩:=U;exact⟨a,b,c,d,t⟩
theorem wY(aa:A.frames=some (env::outer))(hl:s.heap.FunFrames base (env::outer))(hf:env.frame=some L)(he:s.heap.get? e=some { oe with data:= .fields vs })(hv:vs[1]?=some .none)(ab:base.StaysIn s.heap)(ae:base.get? e=none)
  (h:∀h',Fx base outer e oe vs .none h'->s.heap.UpToSlots h'->Q () { s with heap:=h' }):wpAny M A (leaving env (.ref e)) Q E s:=by refine zN (A6 aa hl hf he hv ab ae λ af I o=>kC I λ J U C=>h J ?_ (o.trans C));obtain⟨a,b,⟨_,_,c⟩,d,t⟩:=U;exact⟨a,b,c,d,t⟩
end
noncomputable def wc(cls:Value):Obj:={ cls:=cls,data:= .fields #[] }
noncomputable def Dj(t:Addr):Array Value:=#[.ref t,.none,.none,.none,.bool false,.none]
noncomputable def sV(P:Program)(w:World):xY:= λ outer H s E e s'=>∃(a:Addr) (cls:Value) (t:Addr) (B:Heap) (H':Hp),e= .ref a/\s'.os=s.os/\AllBare s'.gens/\yg P w outer H H' s.heap s'.heap B/\Fx B outer a (wc cls) (Dj t) .none s'.heap/\E cls none H'
section
variable {X:Cx} {pins:List (Addr × Obj)} {σ:St} {H:Hp} {s s':Shared} {h':Heap}
theorem yg.out(I:Inv X pins σ H s)(hx:X.ex=[])(F:yg X.prog X.w X.stack H H' s.heap h2 B):yg X.prog X.w X.outer X.H₀ H' X.s₀.heap h2 B:=by
 have ab:∀b o,X.s₀.heap.get? b=some o->b≠X.env.locals:= λ b o e=>uT (gE (wV e) I.ok.above);have aa:∀b o,X.s₀.heap.get? b=some o->b∉X.fs->b∉hU X.stack:= λ b o e J hm=>by
  rcases wR.mp (I.stkSub b hm)with z|z
  .exact ab b o e z
  .exact J z
 have ae:∀b∈X.fs,b∈hU X.stack:= λ b J=>by
  rcases I.ok.stk with e|⟨e,_⟩
  .rw[e];exact J
  .rw[e];unfold hU;rw[Z0];split;. exact J
   .exact uN _ J
 have C:∀b,b∉X.ex:= λ b z=>by rw[hx]at z;cases z
 refine⟨⟨λ b o e n J _=>?_,λ b o e n J _=>?_,λ b o e n _=>?_,λ b o e _=>?_,λ b xs e=>F.un.tups b xs (I.base.tups b xs e),λ b o u e=>F.un.frzs b o u (I.base.frzs b o u e),λ b ps e=>?_⟩,F.hok,λ b o e J=>?_,F.hB,F.st⟩;. exact F.un.keep b o (I.base.keep b o e n J (C b)) (I.base.free b o e n (C b)) (aa b o e J) (by simp)
 .obtain⟨sl,U⟩:=I.base.slot b o e n J (C b);obtain⟨af,e2⟩:=F.un.slot b _ U (I.base.free b o e n (C b)) (ae b J) (by simp);grind
 .obtain⟨o',U⟩:=I.base.there b o e (C b);exact F.un.free b o' U (I.base.free b o e n (C b)) (by simp)
 .obtain⟨o',U⟩:=I.base.there b o e (C b);exact F.un.there b o' U (by simp)
 .obtain⟨m1,U⟩:=I.base.tbls b ps e;obtain⟨m2,e2⟩:=F.un.tbls b _ U;exact⟨m1++m2,by rw[e2,Array.append_assoc]⟩
 .obtain⟨o',U⟩:=I.base.there b o e (C b);exact F.inB b o' U (aa b o e J)
theorem BR{e:Value}{Q:Unit->Shared->Prop}{U:Value->Shared->Prop}(I:Inv X pins σ H s)(hx:X.ex=[])(o:X.stack=X.env::X.outer)(hf:X.env.frame=some X.env.locals)(h:sV X.prog X.w X.stack H s E e s')(hE:∀c H',E c none H'->E' c none H')
  (k:∀C,sV X.prog X.w X.outer X.H₀ X.s₀ E' e C->Q () C):wpAny (model X.prog X.w) X.A (leaving X.env e) Q U s':=by
 obtain⟨a,cls,t,B,H',rfl,os,bare,F,fl,q⟩:=h;rw[o]at fl;refine zV (by rw[I.ok.frames,o]) hf fl λ h' J up=>k _ ⟨a,cls,t,B,H',rfl,os.trans I.os,bare,?_,J,hE _ _ q⟩;have fr:s'.heap.FunFrames B X.stack:=by rw[o];exact fl.fr
 exact yg.out I hx (F.move J.st up fr)
theorem tR{a:Addr}{cls:Value}{args:List Value}{Q:Unit->Shared->Prop}{X':Value->Shared->Prop}(I:Inv X pins σ H s)(hx:X.ex=[])(U:X.stack=X.env::X.outer)(hf:X.env.frame=some X.env.locals)(hm:Heap.MadeExcOf s.heap h' a cls args)(hE:E cls none H)
  (k:∀aa,sV X.prog X.w X.outer X.H₀ X.s₀ E (.ref a) aa->Q () aa):wpAny (model X.prog X.w) X.A (leaving X.env (.ref a)) Q X' { s with heap:=h' }:=by
 have hin:∀env∈X.stack,∀b,env.frame=some b->b∈hU X.stack:= λ env he b J=>YC.mpr ⟨env,he,J⟩;have af:s.heap.FunFrames (PySem.W.hideAll s.heap (hU X.stack)) X.stack:=PySem.W.funFrames_hide I.stack hin;have inB:∀b o,s.heap.get? b=some o->b∉hU X.stack->(PySem.W.hideAll s.heap (hU X.stack)).get? b=some o:= λ b o e J=>PySem.W.hideAll_get _ e J;have hH:∀b o,H b=some o->b∉hU X.stack:= λ b o e J=>by rw[I.stkFree b J]at e;cases e
 have ag:∀b o,H b=some o->∃o',(PySem.W.hideAll s.heap (hU X.stack)).get? b=some o':= λ b o e=>by cases q:s.heap.get? b with
  |some o'=>exact⟨o',inB b o' q (hH b o e)⟩
  |none=>exfalso;have:=I.hok b o e;revert this;cases o with
   |lst xs=>rintro⟨_,_,_,_,e⟩;rw[q]at e;cases e
   |tup xs=>rintro⟨_,_,_,⟨ob,e,_⟩,_⟩;rw[q]at e;cases e
   |dK kvs=>rintro⟨_,_,_,_,ob,_,_,e,_⟩;rw[q]at e;cases e
   |dT kvs=>rintro⟨_,_,_,_,ob,_,_,e,_⟩;rw[q]at e;cases e
   |set S n=>rintro⟨ob,_,_,_,e,_⟩;rw[q]at e;cases e
   |ins C dx fs=>rintro⟨_,_,_,e,_⟩;rw[q]at e;cases e
   |own y=>rintro⟨_,e⟩;rw[q]at e;cases e
   |xd fs=>rintro⟨_,⟨_,_,_,e,_⟩,_⟩;rw[q]at e;cases e
   |rng lo hi=>rintro⟨_,_,_,e⟩;rw[q]at e;cases e
   |frz ob u=>rintro⟨e,_⟩;rw[q]at e;cases e
   |tbl ps=>rintro⟨_,e,_⟩;rw[q]at e;cases e
   |met f y=>intro z;have e:s.heap.get? b=some _:=z;simp_all
   |ext φ=>rintro⟨_,⟨_,e⟩,_⟩;rw[q]at e;cases e
 have F0:yg X.prog X.w X.stack H H s.heap s.heap (PySem.W.hideAll s.heap (hU X.stack)):=⟨Un.refl,I.hok,λ b o e J=>⟨o,inB b o e J⟩,ag,λ b o e=>WC _ e⟩;have ab:s.heap.FunFrames (PySem.W.hideAll s.heap (hU X.stack)) (X.env::X.outer):=U▸af;obtain⟨t,he,ak,ht⟩:=hm.there;have ae:(PySem.W.hideAll s.heap (hU X.stack)).get? a=none:=by cases q:(PySem.W.hideAll s.heap (hU X.stack)).get? a with
  |none=>rfl
  |some o=>have:=WC _ q;rw[hm.new]at this;grind
 refine wY (base:=PySem.W.hideAll s.heap (hU X.stack)) (oe:=wc cls) (vs:=Dj t) (by rw[I.ok.frames,U]) (ab.of_keeps λ b o J _=>⟨o,hm.keeps b o J,rfl⟩) hf he rfl (λ b o e=>hm.keeps b o (WC _ e)) ae λ h2 fl up=>k _ ⟨a,cls,t,_,H,rfl,I.os,I.bare,?_,fl,hE⟩;have fr:s.heap.FunFrames (PySem.W.hideAll s.heap (hU X.stack)) X.stack:=PySem.W.funFrames_hide I.stack hin;exact yg.out I hx (F0.move fl.st ((Heap.UpToSlots.of_keeps hm.keeps).trans up) fr)
end
noncomputable abbrev XW:=St->Value->Hp->Prop
noncomputable def XF(X:Cx)(pins:List (Addr×Obj))(W:XW)(e:Value)(s':Shared):Prop:=∃σ H s,Inv X pins σ H s/\sV X.prog X.w X.stack H s (λ c _ H'=>W σ c H') e s'
noncomputable def XM(X:Cx)(pins:List (Addr×Obj))(W:XW)(e:Value)(s':Shared):Prop:=∃σ H s a cls args h',Inv X pins σ H s/\e= .ref a/\Heap.MadeExcOf s.heap h' a cls args/\s'={ s with heap:=h' }/\W σ cls H
noncomputable abbrev Oq:=St->Hp->VK->XW->Prop
noncomputable abbrev Oj:=St->Hp->(List V->Hp->Prop)->XW->Prop
noncomputable abbrev MX:=Ends->XW->XW->St->Hp->Prop
noncomputable def F9(X:Cx)(e:Expr)(t:Oq):Prop:=∀(pins:List (Addr×Obj))(s:Shared)(σ:St)(H:Hp)(Q:VK)(W:XW),Inv X pins σ H s->t σ H Q W->wpAny (model X.prog X.w) X.A (eval e X.env) (EP X pins σ Q) (XF X pins W) s
noncomputable def Jy(X:Cx)(es:List Expr)(t:Oj):Prop:=∀(pos:Pos)(pins:List (Addr×Obj))(s:Shared)(σ:St)(H:Hp)(Q:List V->Hp->Prop)(W:XW),Inv X pins σ H s->t σ H Q W->wpAny (model X.prog X.w) X.A (spliced (backTo pos (starEach es X.env))) (AP X pins σ Q) (XF X pins W) s
noncomputable def XS(X:Cx)(pins:List (Addr×Obj))(W o:XW)(e:Value)(s':Shared):Prop:=XF X pins W e s'\/XM X pins o e s'
noncomputable def CV(X:Cx)(st:Stmt)(t:MX):Prop:=∀(pins:List (Addr×Obj))(s:Shared)(σ:St)(H:Hp)(D:Ends)(W o:XW),Inv X pins σ H s->t D W o σ H->wpAny (model X.prog X.w) X.A (exec st X.env) (SP X pins D) (XS X pins W o) s
noncomputable def mL(X:Cx)(o:List Stmt)(t:MX):Prop:=∀(pins:List (Addr×Obj))(s:Shared)(σ:St)(H:Hp)(D:Ends)(W C:XW),Inv X pins σ H s->t D W C σ H->wpAny (model X.prog X.w) X.A (execs o X.env) (SP X pins D) (XS X pins W C) s
section
variable {X:Cx} {e c:Expr} {es:List Expr} {st:Stmt} {rest as bs:List Stmt} {pos p:Pos}
theorem HJ(h:PE X.nox e t):F9 X e (λ σ H Q _=>t σ H Q):= λ pins s σ H Q W I hw=>
 gA (h pins s σ H Q (I.wish _) hw) (λ _ _ ⟨v,H',o,r,q⟩=>⟨v,H',o.unwish,r,q⟩) λ _ _ z=>False.elim z
theorem De:Jy X [] (λ σ H Q _=>Q [] H):= λ _ pins s σ H Q W I h=>PySem.Calls.spliced_nil ⟨[],H,I,.nil,h⟩
theorem AJ(C:F9 X e te)(J:Jy X es t)(hs:starEach (e::es) X.env=(false,eval e X.env)::starEach es X.env:=by rfl):Jy X (e::es) (λ σ H Q W=>te σ H (λ x H1=>t σ H1 (λ xs o=>Q (x::xs) o) W) W):=by intro pos pins s σ H Q W I h;rw[hs];show wpAny _ _ (spliced ((false,eval e X.env)::backTo pos (starEach es X.env))) _ _ s;refine PySem.Calls.spliced_cons (cC (C pins s σ H _ W I h) λ u s1 ⟨x,H1,U,r1,q1⟩=>?_);exact cC (J pos pins s1 σ H1 _ W U q1) λ us s2 ⟨xs,o,I2,r2,q2⟩=>⟨x::xs,o,I2,.cons r1 r2,q2⟩
theorem zD(F:d8 X.prog X.w X.K X.mg X.base (sV X.prog X.w) k f fd ps sp)(hr:cu k X.A)(hg:Gl X x)(hm:X.mg x=some (.ref f))(hk:PySem.W.keepIn X.K (.ref f)=true)(hb:Binds X.K fd ps [])
  (ha:Jy X (e::es) t)(J:(x==("__debug__":Str))=false:=by decide)(he:starEach (e::es) X.env=(false,eval e X.env)::starEach es X.env:=by rfl)(U:(backTo pos (starEach es X.env)).any (·.1)=false:=by rfl):
  F9 X (.Call (.Name x p) (e::es) [] pos) (λ σ H Q W=>t σ H (λ vs H1=>sp vs H1 Q (λ c _ H'=>W σ c H')) W):=by
 intro pins s σ H Q W I h;refine YD (f9 I hg hm ?_ J);refine XG (h₀:=X.base) I.ok.mod.kin hk (cC (ha pos pins s σ H _ W I h) λ us s1 ⟨vs,H1,o,r,q⟩=>⟨o.kIn,?_⟩) he U;have r2:Vals (vs++[]) (us++[]):=by simp_all
 have q2:sp (vs++[]) H1 Q (λ c _ H'=>W σ c H'):=by simpa using q
 have hl:(us++[]).length=ps.length:=by rw[<- r2.length];exact F.len _ _ _ _ q2
 refine WB (ZQ (F.run X.A X.stack s1 H1 ⟨us,[]⟩ (us++[]) (vs++[]) Q (λ c _ H'=>W σ c H') hr o.env0 (hb s1 us o.kIn hl) r2 q2) λ r s' C=>?_);cases r with
 |error e=>exact⟨σ,H1,s1,o,C⟩
 |ok fl=>cases fl with
  |ret u=>exact o.after C
  |next=>exact False.elim C
  |brk=>exact False.elim C
  |cont=>exact False.elim C
theorem Hk(h:PS X.nox st t):CV X st (λ D _ _ σ H=>t D σ H):= λ pins s σ H D W o I hw=>
 gA (h pins s σ H D (I.wish _) hw) (λ _ _ q=>q.unwish) λ _ _ z=>False.elim z
theorem BC(he:F9 X e te)(hs:swapsWith e none pos.line X.env=pure false:=by rfl):CV X (.Expr e pos) (λ D W _ σ H=>te σ H (λ _ H1=>D.nx σ H1) W):=by intro pins s σ H D W J I h;exact wpAny_Expr_any (gA (he pins s σ H _ W I h) (λ v s1 ⟨x,H1,o,U,C⟩=>⟨σ,H1,o,C⟩) λ _ _ z=> .inl z) I.quiet hs
theorem Ec(o:X.N.Nodup)(C:X.N[i]?=some x)(hx:Loc X.env.scope x)(he:F9 X e te)(hs:swapsWith e (some (.Name x pos')) pos.line X.env=pure false)(hf:X.fn x=true\/X.env.scope.names.lookup x=some .local):
  CV X (.Assign [.Name x pos'] e pos) (λ D W _ σ H=>te σ H (λ v H1=>D.nx (σ.set i (some v)) H1) W):=by intro pins s σ H D W Wm I h;refine wpAny_Assign_Name (gA (he pins s σ H _ W I h) (λ v s1 ⟨y,H1,J,U,q1⟩=>?_) λ _ _ z=> .inl z) hs;exact jw J o C hx U (λ s2 I2=>⟨_,H1,I2,q1⟩) hf
theorem HC(U:PT X.nox c tc)(ha:mL X as t)(hb:mL X bs u):CV X (.If c as bs pos) (λ D W o σ H=>tc σ H λ b H1=>if b=true then t D W o σ H1 else u D W o σ H1):=by intro pins s σ H D W o I h;refine wpAny_If (gA (U pins s σ H _ (I.wish _) h) (λ d s1 ⟨H1,C,J⟩=>?_) λ _ _ z=>False.elim z);cases d with
 |true=>exact ha pins s1 σ H1 D W o C.unwish J
 |false=>exact hb pins s1 σ H1 D W o C.unwish J
theorem yS:mL X [] (λ D _ _ σ H=>D.nx σ H):= λ pins s σ H D W o I h=>YI ⟨σ,H,I,h⟩
theorem xr(J:CV X st t)(U:mL X rest u):mL X (st::rest) (λ D W o σ H=>t { D with nx:=u D W o } W o σ H):=by intro pins s σ H D W o I h;refine wpAny_execs_cons (cC (J pins s σ H { D with nx:=u D W o } W o I h) λ f s1 q=>?_);cases f with
 |next=>obtain⟨C,H',I',q⟩:=q;exact U pins s1 C H' D W o I' q
 |ret v=>exact q
 |brk=>exact q
 |cont=>exact q
theorem EI{C:Addr}{J:List Value}{newId:String}(Y:K.In h)(q:PySem.W.excIn K C J newId=true):
  ∃bm N nm qn bs hdct sn sub ab col dd k0 k1 k2 k3 k5 mN,h.get? C=some (excClassObj nm qn C N bs bm hdct sn sub ab col dd k0 k1 k2 k3 k5 newId)/\h.Ns N mN/\mN "__init__"=none/\OwnTail h J bm:=by
 unfold PySem.W.excIn at q;split at q
 .rename_i dd cd sl ho;split at q
  .rename_i C' bm k0 k1 k2 k3 n k5 hm hs;simp at q;obtain⟨⟨⟨⟨⟨rfl,rfl⟩,o⟩,ht⟩,I⟩,U⟩:=q;obtain⟨nm,bs,mro,ns,qn,hd,sn,sub,ab,col,del⟩:=cd;dsimp only at hm o I U;subst hm o;have aa:sl=#[k0,k1,k2,k3,some (.builtin n),k5]:=by obtain⟨l⟩:=sl;simp at hs;rw[hs]
   subst aa;exact⟨bm,ns,nm,qn,bs,hd,sn,sub,ab,col,dd,k0,k1,k2,k3,k5,_,Y _ _ ho,.of_isNs (PySem.W.isNs_of_in Y I),PySem.W.nsMap_none_of_in Y I U,PySem.W.tail_of_in Y ht⟩
  .cases q
 grind
theorem xa{B newId J:String}{bm:List Value}{np o:Pos}{ta:TA}(FB:ExcBaseFacts B newId J bm)(hc:X.calm=true)(hg:Gl X x)(hm:X.mg x=some (.ref C))(hC:PySem.W.excIn X.K C bm newId=true)(ha:PA X.nox (e::es) ta)
  (ae:(x==("__debug__":Str))=false:=by decide)(he:starEach (e::es) X.env=(false,eval e X.env)::starEach es X.env:=by rfl)(aj:(backTo o (starEach es X.env)).any (·.1)=false:=by rfl):
  CV X (.Raise (some (.Call (.Name x np) (e::es) [] o)) none pos) (λ _ _ Wm σ H=>ta σ H λ vs H1=>vs.length<=sizeLine/\Wm σ (.ref C) H1):=by
 intro pins s σ H D W Wm I h;obtain⟨tl,N,nm,q,bs,hdct,sn,sub,ab,col,dd,k0,k1,k2,k3,k5,mN,af,hN,ag,T⟩:=EI I.ok.mod.kin hC;refine wpAny_Raise_call_subT (C:=C) (nm:=nm) (q:=q) (N:=N) (bs:=bs) (bm:=tl) (hdct:=hdct) (sn:=sn) (sub:=sub) (ab:=ab) (col:=col) (dd:=dd) (k0:=k0) (k1:=k1) (k2:=k2) (k3:=k3) (k5:=k5)
  FB (mN:=mN) (T.hasType FB.hasBase) (I.ok.hd hc) (by rw[he];show(false||(backTo o (starEach es X.env)).any (·.1))=false;grind) ag (f9 I hg hm ⟨rfl,?_⟩ ae);have hA:=ha o pins s σ H _ (I.wish _) h;have ah:starEach (e::es) X.nox.env=(false,eval e X.env)::starEach es X.env:=he;rw[ah]at hA;rw[he];refine PySem.Calls.evalArgs_plain (gA hA (λ us aa ⟨vs,H1,U,r,hz,hw⟩=>?_) λ _ _ z=>False.elim z);have U:=U.unwish;exact⟨rfl,by rw[<- r.length];exact hz,U.bk _ _ af,hN.keeps U.bk,T.keeps U.bk,λ h' a ai=> .inr ⟨σ,H1,aa,a,_,_,h',U,rfl,ai,rfl,hw⟩⟩
end
end Jt
namespace Jt
open PySem L2
section
variable {X:Cx} {a b e:Expr} {fa fb:M D} {fs:M (List D)} {pos p:Pos}
noncomputable def vF:=cZ (λ i j=>decide (Builtin.Int.intBits i+Builtin.Int.intBits j<=134217728)) λ i j=> .int (i*j)
theorem CZ:gG X (binaryOp .Mult) (rI (λ i j=>Builtin.Int.intBits i+Builtin.Int.intBits j<=134217728) λ i j=> .int (i*j)):=LL λ i j _ _ _ _ _ o q=>PyProof.Rows.mul_int q (PyProof.Rows.mulOk_of_bits (xS _) (xS _) o)
theorem wb(o:DE X a fa)(C:DE X b fb):DE X (.BinOp a .Mult b pos) (m2 vF fa fb):=ka CZ (qY (λ i j h=>ZC h) λ _ _ _=> .mkI) o C
noncomputable def zY:=cZ (λ i j=>decide (0<=j)&&decide (j<=1000000)&&decide (i.natAbs<2^64)) λ i j=> .int (i^j.toNat)
theorem HZ(o:DE X a fa)(C:DE X b fb):DE X (.BinOp a .Pow b pos) (m2 zY fa fb):=ka JQ (qY (λ i j h=>by simp at h;exact⟨h.1.1,h.1.2,h.2⟩) λ _ _ _=> .mkI) o C
noncomputable def kD:List D->Option D
 |[.int i,.int j]=>if 0<j/\j<1073741824 then some (.tup [.int (i/j),.int (i%j)])else none
 |_=>none
theorem yk:ji (λ xs H Q=>∃i j,xs=[.int i,.int j]/\Jw i j/\∀p,H p=none->Q (.ref p) (upd H p (.tup [.int (i/j),.int (i%j)]))) kD:= λ c U S σ T H ds vs d Q l s e k=>by
 unfold kD at e;split at e
 .rename_i i j;split at e
  .rename_i o;cases e;obtain⟨v,u,rfl,C,I⟩:=NQ (s.st.left l);cases C.int;cases I.int;refine⟨i,j,rfl,o,λ q J=>k _ _ ?_⟩;have s1:=s.stk (Rs.append (ds:=[.int (i/j),.int (i%j)]) (vs:=[.int (i/j),.int (i%j)]) (.cons .mkI (.cons .mkI .nil)) (s.st.right l));exact s1.newTup rfl J
  grind
 grind
theorem wI(hm:X.mg "divmod"=none)(o:DA X [a,b] fs)(C:Gl X "divmod":=by rfl)(he:starEach [a,b] X.env=(false,eval a X.env)::starEach [b] X.env:=by rfl)(I:(backTo pos (starEach [b] X.env)).any (·.1)=false:=by rfl):DE X (.Call (.Name "divmod" p) [a,b] [] pos) (mC kD fs):=
 ib rm yk C hm (by rfl) o (by decide) (by rfl) he I
noncomputable def BJ:List D->Option D
 |[.int i]=>some (.int i)
 |[.bl k]=>some (.int (if k then 1 else 0))
 |_=>none
theorem CM:ji (λ xs H Q=>(∃i,xs=[.int i]/\Q (.int i) H)\/ ∃k,xs=[.bl k]/\Q (.int (if k then 1 else 0)) H) BJ:= λ c o S σ T H ds vs d Q l s e k=>by
 unfold BJ at e;split at e;. cases e;obtain⟨v,rfl,r⟩:=wK (s.st.left l);cases r.int;exact .inl ⟨_,rfl,k _ _ (s.stk (.cons .mkI (s.st.right l)))⟩
 .cases e;obtain⟨v,rfl,r⟩:=wK (s.st.left l);cases r.bl;exact .inr ⟨_,rfl,k _ _ (s.stk (.cons .mkI (s.st.right l)))⟩
 grind
theorem Et(hm:X.mg "int"=none)(o:DA X [a] fs)(C:Gl X "int":=by rfl)(he:starEach [a] X.env=[(false,eval a X.env)]:=by rfl):DE X (.Call (.Name "int" p) [a] [] pos) (mC BJ fs):=
 oE xR CM C hm (by rfl) o (by decide) (by rfl) he rfl
theorem Aw(hm:X.mg x=some (.int i t))(o:Gl X x:=by rfl)(hd:(x==("__debug__":Str))=false:=by decide):DE X (.Name x pos) (pure (.int i)):=LU (Ek (v:= .int i) o hm ⟨t,rfl⟩ hd) λ _=> .mkI
end
noncomputable def tW:Sp:= λ vs H Q _=>∃(a:Addr) (ns:List Int),vs=[.ref a]/\Rd H a (.lst (ns.map V.int))/\ns.length<=63/\(∀i∈ns,Builtin.Int.intBits i<=2^20)/\∀H',Q (.bl true) H'
section
variable {P:Program} {w:World} {K:PySem.W.Frag} {mg:Str->Option Value} {base:Heap} {k:Nat} {f:Addr} {fd:FuncData} {ps:List Str}
theorem Fu(F:d8 P w K mg base fS k f fd ps (F7 1 mf))(h:∀ns:List Int,ns.length<=63->(∀i∈ns,Builtin.Int.intBits i<=2^20)->mf [.lst (ns.map .int)]=some (.bl true)):d8 P w K mg base fS k f fd ps tW:=F.imp λ vs H Q E ⟨a,ns,ev,C,I,J,q⟩=>by subst ev;refine⟨rfl,λ _=>none,[.lst (ns.map .int)],.bl true,(λ a o z=>nomatch z),.cons (.mkL (Rd.mono (λ b o e=>eN.mpr ⟨(λ⟨_,z⟩=>nomatch z),e⟩) C) (ij ns)) .nil,h ns I J,λ v H' g r=>?_⟩;rw[r.bl];grind
end
end Jt
namespace Jt
open PySem PySem.W PySem.Calls PyProof.Rows L2
theorem Bk{ns:List Int}(h:WData.layableAll [WData.list (ns.map WData.int)]=true):∀i∈ns,Builtin.Int.intBits i<=2^20:= λ i o=>by
 have C:=layableW_arg h _ uL;have I:=layableW_item C (.int i) (QJ.mpr ⟨i,o,rfl⟩);have J:=lay0_int I;have U:PyData.layable0 (.int i)=true:=by simpa[PyData.layableAll0]using J
 exact PyData.bits_of_layable U
theorem walkB{l:PySem.W.OpenLaw}{q:Program}{loose:List Str}{XP:(Str->Option Value)->Heap->Prop}{YP:World->Heap->Prop}{d:DefRec}{K:Params->PySem.W.Frag}{k:Nat}(hn:l.most=some 63)(ag:d.params.defaults=[])(hr:cu k callerA)
  (hY:∀(w:World)(h:Heap),YP w h->(K w.params).In h)(hL:∀w:World,Gk (K w.params)=true)(hT:∀w:World,PySem.W.tabIn (K w.params) tH=none)
  (F:∀(w:World)(mg:Str->Option Value)(fa:Addr)(h:Heap),(K w.params).In h->h.Ns mainGlobals mg->mg d.name=some (.ref fa)->
   ∃fd:FuncData,(∀(s:Shared)(u:Value),BindsTo s fd ⟨[u],[]⟩ [("_law_script",u)])/\∀base:Heap,(K w.params).In base->base.Ns mainGlobals mg->d8 l.prog w (K w.params) mg base fS k fa fd ["_law_script"] tW):
  PySem.W.WalkO q loose XP YP l.row.toRowW d [] (λ f vs=>PySem.call f vs):=by intro w ae af mg mb G Y fa o pm cd doc dV kV ho hd ah hD U hg args vals as C I ai aa aj;obtain⟨a,vs,ns,rfl,rfl,J,hints,hlen⟩:=Att.script_of hn C aa;have KX:=hY w _ Y;obtain⟨fd,hb,hF⟩:=F w mg fa _ KX G.T.g U;have bits:=Bk I;refine enter_call (ZQ (BK KX G.T.g G.T.b G.T.builtins G.T.nolimit hg J hints (ZJ hlen (by decide)) hr hF hb (hT w) (λ H hO hS=>⟨a,ns,rfl,rd_of (hL w) hS,hlen,bits,λ _=>rfl⟩) λ H e s' z=>z) λ r s' hq=>?_);obtain⟨rfl,h2,h3,h4⟩:=hq;exact⟨.inl ⟨.bool true,.bool true,[],rfl,λ _=>rfl,.bool true,Att.post_true l _,λ _=>⟨List.Pairwise.nil,λ _ hm=>(nomatch hm)⟩⟩,h2,h3,h4⟩
end Jt
namespace Jt
open PySem L2
open PyProof.Rows (AllBare)
noncomputable def bX{α β:Type}(x:M (α⊕Addr))(f:α->M (β⊕Addr)):M (β⊕Addr):=do
 let r<- x
 match r with
 | .inl a=>f a
 | .inr C=>pure (.inr C)
noncomputable def J0{α:Type}(x:M α):M (α⊕Addr):=do
 let a<- x
 pure (.inl a)
theorem iq{f:α->M (β⊕Addr)}{J o:DS}{r:β⊕Addr}(h:bX x f J=some (r,o)):(∃a I,x J=some (.inl a,I)/\f a I=some (r,o))\/ ∃C,x J=some (.inr C,o)/\r= .inr C:=by obtain⟨z,I,U,e⟩:=bind_some h;cases z with
 |inl a=>grind
 |inr C=>obtain⟨rfl,rfl⟩:=bg e;grind
inductive Kg (f:M (D ⊕ Addr)) (σ:St) (H:Hp) (Q:VK) (W:XW):Prop
 | mk (c:Ct) (δ:DS) (S:List D) (T:List V) (r:D ⊕ Addr) (δ':DS) (s:Sl c δ S σ T H) (e:f δ=some (r,δ')) (q:match (generalizing:=false) r with
 | .inl d=>∀v H',Sl c δ' (d :: S) σ (v :: T) H' -> Q v H'
 | .inr C=>∀H',Sl c δ' S σ T H' -> W σ (.ref C) H'):Kg f σ H Q W
inductive K0 (f:M (List D ⊕ Addr)) (σ:St) (H:Hp) (Q:List V->Hp->Prop) (W:XW):Prop
 | mk (c:Ct) (δ:DS) (S:List D) (T:List V) (r:List D ⊕ Addr) (δ':DS) (s:Sl c δ S σ T H) (e:f δ=some (r,δ')) (q:match (generalizing:=false) r with
 | .inl ds=>∀vs H',vs.length=ds.length->Sl c δ' (ds ++ S) σ (vs ++ T) H' -> Q vs H'
 | .inr C=>∀H',Sl c δ' S σ T H' -> W σ (.ref C) H'):K0 f σ H Q W
inductive JH (k:Bool) (f:M (Fl ⊕ Addr)) (En:Ends) (W:XW) (Wm:XW) (σ:St) (H:Hp):Prop
 | mk (c:Ct) (δ:DS) (S:List D) (T:List V) (r:Fl ⊕ Addr) (δ':DS) (s:Sl c δ S σ T H) (e:f δ=some (r,δ')) (q:match (generalizing:=false) r with
 | .inl fl=>Fin c δ' S T fl En
 | .inr C=>∀σ' H',Sl c δ' S σ' T H' -> W σ' (.ref C) H' ∧ (k=true->Wm σ' (.ref C) H')):JH k f En W Wm σ H
noncomputable abbrev JY(X:Cx)(e:Expr)(f:M (D⊕Addr)):Prop:=F9 X e (Kg f)
noncomputable abbrev LH(X:Cx)(es:List Expr)(f:M (List D⊕Addr)):Prop:=Jy X es (K0 f)
noncomputable abbrev HQ(X:Cx)(k:Bool)(st:Stmt)(f:M (Fl⊕Addr)):Prop:=CV X st (JH k f)
noncomputable abbrev nc(X:Cx)(k:Bool)(st:List Stmt)(f:M (Fl⊕Addr)):Prop:=mL X st (JH k f)
theorem Gn(h:F9 X e t)(w:∀σ H Q W,t' σ H Q W->t σ H Q W):F9 X e t':= λ pins s σ H Q W I q=>h pins s σ H Q W I (w σ H Q W q)
theorem GC(h:Jy X e t)(w:∀σ H Q W,t' σ H Q W->t σ H Q W):Jy X e t':= λ ps pins s σ H Q W I q=>h ps pins s σ H Q W I (w σ H Q W q)
theorem rY(h:CV X e t)(w:∀D W o σ H,t' D W o σ H->t D W o σ H):CV X e t':= λ pins s σ H D W o I q=>h pins s σ H D W o I (w D W o σ H q)
theorem BZ(h:mL X e t)(w:∀D W o σ H,t' D W o σ H->t D W o σ H):mL X e t':= λ pins s σ H D W o I q=>h pins s σ H D W o I (w D W o σ H q)
section
variable {X:Cx} {a e:Expr} {es:List Expr} {fa:M D} {fx:M (D ⊕ Addr)} {fxs:M (List D ⊕ Addr)} {fs:M (List D)} {pos p:Pos} {st:Stmt} {rest as bs:List Stmt} {f:M Fl} {g h:M (Fl ⊕ Addr)} {tt:M Bool} {k:Bool}
theorem eP(he:DE X.nox e fa):JY X e (J0 fa):=Gn (HJ he) λ σ H Q W ⟨c,C,S,T,r,I,s,e,q⟩=>by obtain⟨d,o,J,e⟩:=bind_some e;obtain⟨rfl,rfl⟩:=bg e;exact⟨c,C,S,T,d,o,s,J,q⟩
theorem jt:LH X [] (pure (.inl [])):=GC De λ σ H Q W ⟨c,C,S,T,r,o,s,e,q⟩=>by obtain⟨rfl,rfl⟩:=bg e;grind
noncomputable def uR(fx:M (D⊕Addr))(fxs:M (List D⊕Addr)):M (List D⊕Addr):=bX fx λ x=>bX fxs λ xs=>pure (.inl (x::xs))
theorem dj(ha:JY X a fx)(hr:LH X es fxs)(hs:starEach (a::es) X.env=(false,eval a X.env)::starEach es X.env:=by rfl):LH X (a::es) (uR fx fxs):=GC (AJ ha hr hs) λ σ H Q W ⟨c,δ,S,T,r,I,s,e,q⟩=>by
 rcases iq e with⟨x,o,J,e⟩|⟨C,J,rfl⟩
 .refine⟨c,δ,S,T,.inl x,o,s,J,λ v H1 s1=>?_⟩;rcases iq e with⟨xs,U,e2,e⟩|⟨C,e2,rfl⟩
  .obtain⟨rfl,rfl⟩:=bg e;exact⟨c,o,x::S,v::T,.inl xs,U,s1,e2,λ vs H2 l s2=>q (v::vs) H2 (by grind) (by have st:=s2.st;have h1:=st.right l;exact s2.stk (.cons h1.head ((st.left l).append h1.tail)))⟩
  .exact⟨c,o,x::S,v::T,.inr C,I,s1,e2,λ H2 s2=>q H2 s2.pop⟩
 .exact⟨c,δ,S,T,.inr C,I,s,J,q⟩
noncomputable def J1(n:Nat)(mf:List D->Option (D⊕Addr)):Sp:= λ vs H Q E=>vs.length=n/\∃(Z:Hp) (ds:List D) (r:D⊕Addr),IB Z H/\Rs (hz Z H) ds vs/\mf ds=some r/\match r with
 | .inl d=>∀v H',jv H H'->R (hz Z H') d v->Q v H'
 | .inr C=>∀H',jv H H'->E (.ref C) none H'
theorem yI{f:Addr}{fd:FuncData}{ps:List Str}{x:Str}{mf:List D->Option (D⊕Addr)}{n:Nat}(F:d8 X.prog X.w X.K X.mg X.base (sV X.prog X.w) kk f fd ps (J1 n mf))(hr:cu kk X.A)(hm:X.mg x=some (.ref f))(hk:PySem.W.keepIn X.K (.ref f)=true)(hb:Binds X.K fd ps [])(ha:LH X (a::es) fxs)
  (hg:Gl X x:=by rfl)(J:(x==("__debug__":Str))=false:=by decide)(he:starEach (a::es) X.env=(false,eval a X.env)::starEach es X.env:=by rfl)(U:(backTo pos (starEach es X.env)).any (·.1)=false:=by rfl):
  JY X (.Call (.Name x p) (a::es) [] pos) (bX fxs λ ds=>lift (if ds.length=n then mf ds else none)):=Gn (zD F hr hg hm hk hb ha J he U) λ σ H Q W ⟨c,δ,S,T,r,aa,s,e,q⟩=>by
 rcases iq e with⟨ds,I,e1,e⟩|⟨C,e1,rfl⟩
 .obtain⟨e2,rfl⟩:=bt e;refine⟨c,δ,S,T,.inl ds,I,s,e1,λ vs H1 l s1=>?_⟩;split at e2;. rename_i hn;refine⟨l.trans hn,Cb c I σ H1,ds,r,pz s1,(s1.st.left l).mono (bH (λ a o _ z=>(fC s1 a).mp z) λ _ _ _ h=>h),e2,?_⟩;cases r with
   |inl d=>intro v H' g r;have s2:=s1.grow g;exact q v H' (s2.stk (.cons (r.mono (bH (λ a o _ z=>(fC s1 a).mpr z) λ _ _ _ h=>h)) (s2.st.right l)))
   |inr C=>exact λ H' g=>q H' ((s1.grow g).drop l)
  grind
 .exact⟨c,δ,S,T,.inr C,aa,s,e1,q⟩
theorem Ay(hs:ku X.nox st f):HQ X k st (J0 f):=rY (Hk hs) λ D W Wm σ H ⟨c,C,S,T,r,I,s,e,q⟩=>by obtain⟨J,o,U,e⟩:=bind_some e;obtain⟨rfl,rfl⟩:=bg e;exact⟨c,C,S,T,J,o,s,U,q⟩
theorem jq(he:JY X e fx)(hs:swapsWith e none pos.line X.env=pure false:=by rfl):HQ X k (.Expr e pos) (bX fx λ _=>pure (.inl .nx)):=rY (BC he hs) λ D W Wm σ H ⟨c,U,S,T,r,o,s,e,q⟩=>by
 rcases iq e with⟨d,I,J,e⟩|⟨C,J,rfl⟩
 .obtain⟨rfl,rfl⟩:=bg e;exact⟨c,U,S,T,.inl d,I,s,J,λ v H' s'=>q _ _ s'.pop⟩
 .exact⟨c,U,S,T,.inr C,o,s,J,λ H' s'=>(q σ H' s').1⟩
noncomputable def OD(i:Nat)(fx:M (D⊕Addr)):M (Fl⊕Addr):=bX fx λ d=>do
 jk i d
 pure (.inl .nx)
theorem Fw(i:Nat){x:Str}{pos':Pos}(hN:X.N.Nodup)(he:JY X e fx)(hi:X.N[i]?=some x:=by rfl)(hx:Loc X.env.scope x:=by first|exact Or.inl rfl|exact Or.inr rfl)(hs:swapsWith e (some (.Name x pos')) pos.line X.env=pure false:=by rfl)
  (hf:X.fn x=true\/X.env.scope.names.lookup x=some .local:=by first | exact .inl rfl | exact .inr rfl | assumption):HQ X k (.Assign [.Name x pos'] e pos) (OD i fx):=rY (Ec hN hi hx he hs hf) λ D W Wm σ H ⟨c,δ,S,T,r,o,s,e,q⟩=>by
 rcases iq e with⟨d,I,J,e⟩|⟨C,J,rfl⟩
 .obtain⟨u,aa,e2,e⟩:=bind_some e;obtain⟨rfl,rfl⟩:=bg e;obtain⟨U,rfl⟩:=iw e2;exact⟨c,δ,S,T,.inl d,I,s,J,λ v H' s'=>q _ _ (s'.setPu U)⟩
 .exact⟨c,δ,S,T,.inr C,o,s,J,λ H' s'=>(q σ H' s').1⟩
theorem uw(I:DT X.nox t tt)(J:nc X k as g)(U:nc X k bs h):HQ X k (.If t as bs pos) (EA tt g h):=rY (HC I J U) λ D W Wm σ H ⟨c,δ,S,T,r,C,s,e,q⟩=>by obtain⟨x,o,e1,e⟩:=bind_some e;refine⟨c,δ,S,T,x,o,s,e1,λ H' s'=>?_⟩;cases x with
 |true=>exact⟨c,o,S,T,r,C,s',e,q⟩
 |false=>exact⟨c,o,S,T,r,C,s',e,q⟩
noncomputable def G8(f g:M (Fl⊕Addr)):M (Fl⊕Addr):=bX f λ o=>match o with
 | .nx=>g
 |o=>pure (.inl o)
theorem i_:nc X k [] (pure (.inl .nx)):=BZ yS λ D W C σ H ⟨c,I,S,T,r,o,s,e,q⟩=>by obtain⟨rfl,rfl⟩:=bg e;exact q σ H s
theorem fZ(h1:HQ X k st g)(h2:nc X k rest h):nc X k (st::rest) (G8 g h):=BZ (xr h1 h2) λ D W Wm σ H ⟨c,δ,S,T,r,o,s,e,q⟩=>by
 rcases iq e with⟨I,J,U,e⟩|⟨C,U,rfl⟩
 .refine⟨c,δ,S,T,.inl I,J,s,U,?_⟩;cases I with
  |nx=>exact λ aa H' s'=>⟨c,J,S,T,r,o,s',e,q⟩
  |bk=>obtain⟨rfl,rfl⟩:=bg e;exact q
  |ct=>obtain⟨rfl,rfl⟩:=bg e;exact q
  |rt d=>obtain⟨rfl,rfl⟩:=bg e;exact q
  |rf xs=>obtain⟨rfl,rfl⟩:=bg e;exact q
 .exact⟨c,δ,S,T,.inr C,o,s,U,q⟩
theorem d5(o:HQ X k st g):nc X k [st] (G8 g (pure (.inl .nx))):=fZ o i_
noncomputable def Aa(C:Addr)(fs:M (List D)):M (Fl⊕Addr):=do
 let ds<- fs
 let _<- lift (few ds.length)
 pure (.inr C)
theorem jN{B newId o:String}{bm:List Value}{np I:Pos}(FB:ExcBaseFacts B newId o bm)(hm:X.mg x=some (.ref C))(hC:PySem.W.excIn X.K C bm newId=true)(ha:DA X.nox (a::es) fs)(hc:X.calm=true:=by rfl)(hg:Gl X x:=by rfl)
  (J:(x==("__debug__":Str))=false:=by decide)(he:starEach (a::es) X.env=(false,eval a X.env)::starEach es X.env:=by rfl)(U:(backTo I (starEach es X.env)).any (·.1)=false:=by rfl):
  HQ X true (.Raise (some (.Call (.Name x np) (a::es) [] I)) none pos) (Aa C fs):=rY (xa FB hc hg hm hC ha J he U) λ D W Wm σ H ⟨c,δ,S,T,r,ab,s,e,q⟩=>by
 obtain⟨ds,aa,e1,e⟩:=bind_some e;obtain⟨u,ae,e2,e⟩:=bind_some e;obtain⟨rfl,rfl⟩:=bg e;obtain⟨e3,rfl⟩:=bt e2;have hn:ds.length<=100000:=by unfold few at e3;simp_all
 refine⟨c,δ,S,T,ds,aa,s,e1,λ vs H' l s'=>⟨?_,(q σ H' (s'.drop l)).2 rfl⟩⟩;rw[l];exact ZJ hn (by decide)
end
theorem CF(h:mL X J t)(hx:X.ex=[])(C:X.stack=X.env::X.outer)(hf:X.env.frame=some X.env.locals)
  (U:∀e s',wpAny (model X.prog X.w) X.A (leaving X.env e) (λ _ o=>sV X.prog X.w X.outer X.H₀ X.s₀ E e o) (λ e' o=>sV X.prog X.w X.outer X.H₀ X.s₀ E e' o) s'->X.xe e s'):mV X J (λ D σ H=>t D (λ _ c H'=>E c none H') (λ _ c H'=>E c none H') σ H):= λ pins s σ H D I q=>
 gA (h pins s σ H D _ _ I q) (λ _ _ z=>z) λ e s' z=>U e s' (by
  rcases z with⟨aa,H1,s1,I1,z⟩|⟨aa,H1,s1,a,cls,args,h',I1,rfl,hm,rfl,z⟩
  .exact BR I1 hx C hf z (λ _ _ y=>y) λ o y=>y
  .exact tR I1 hx C hf hm z λ o y=>y)
noncomputable def fY(N:List Str)(body:M (Fl⊕Addr))(ds:List D):Option (D⊕Addr):=match body (entry N ds)with
 |some (.inl (.rt d),_)=>some (.inl d)
 |some (.inl .nx,_)=>some (.inl .non)
 |some (.inr C,_)=>some (.inr C)
 |_=>none
section
variable {P:Program} {w:World} {K:PySem.W.Frag} {mg:Str->Option Value} {base:Heap} {k:Nat} {f:Addr} {fd:FuncData} {N ps:List Str} {x qual:Str} {st:Stmt} {body:M (Fl ⊕ Addr)}
theorem fnX(F:yn K x qual st f fd)(S:cx N ps (bj st))(I:∀(cdv:Value)(A:Around)(outer:List Env)(s:Shared)(H:Hp)(E:XK),cu k (A.deeper (PyProof.Rows.envOfC qual (bj st) s.heap.objs.size f cdv))->nc (fB (sV P w) P w K mg base N qual (bj st) f cdv A outer s H E) true (bR st) body):
  d8 P w K mg base (sV P w) (k+1) f fd ps (J1 ps.length (fY N body)):=by
 obtain⟨oc,od,kV,doc,pm,an,cdv,ct,af,rfl,lk,ab⟩:=F.ex;refine Gx lk ab S (λ vs H Q E h=>h.1) λ A outer s H vs Q E hr h=>?_;refine⟨_,CF (E:=E) (I cdv A outer s H E hr) rfl rfl rfl (λ e s' z=>z),?_⟩;obtain⟨hl,Z,ds,r0,hZ,r,e,q⟩:=h;have ae:ps.length<=N.length:=by have:=Q9 List.length S.pre;rw[VJ]at this;omega
 have s0:=kU (N:=N) hZ r (by rw[hl];exact ae);unfold fY at e;split at e;. rename_i d J U;cases e;exact⟨_,_,_,_,_,_,s0,U,λ v aa H' s'=>q v H' (λ b o I=>s'.keep b o (by simp) I) (s'.st.head.mono (bH (λ a o _ z=> .inl z) λ _ _ _ h=>h))⟩
 .rename_i J U;cases e;exact⟨_,_,_,_,_,_,s0,U,λ aa H' s'=>q .non H' (λ b o I=>s'.keep b o (by simp) I) .mkN⟩
 .rename_i C J U;cases e;exact⟨_,_,_,_,_,_,s0,U,λ aa H' s'=>⟨q H' λ b o I=>s'.keep b o (by simp) I,λ _=>q H' λ b o I=>s'.keep b o (by simp) I⟩⟩
 grind
end
noncomputable def hx(X:Cx)(a:Addr)(o:Obj):Cx:={ X with A:=X.A.mark (some (.ref a)),calm:=false,pn:=(a,o)::X.pn,xe:= λ _ _=>False }
noncomputable def Ck(cls:Value)(o:Obj):Prop:=∃t T,o={ wc cls with data:= .fields ((Dj t).setIfInBounds 1 (.ref T)) }
noncomputable def NT(D:Ends)(i:Nat):Ends:={ nx:= λ σ H=>D.nx (σ.set i none) H,rt:=D.rt,bk:= λ σ H=>D.bk (σ.set i none) H,ct:= λ σ H=>D.ct (σ.set i none) H }
section
variable {X:Cx} {pins:List (Addr × Obj)} {σ:St} {H:Hp} {s:Shared}
theorem L8(I:Inv X pins σ H s)(e:s.heap.get? a=some o)(n:H a=none)(nl:a≠X.env.locals)(J:a∉X.fs)(d:∀v,o.data≠ .cell v):Inv (hx X a o) pins σ H s:=by
 have ok:=I.ok;refine⟨⟨ok.mod,ok.kind,ok.glob,ok.blt,ok.above,ok.inj,ok.has,ok.cab,(λ z=>Bool.noConfusion z),ok.frames,ok.stk,ok.exf,ok.bs,ok.bsz,ok.noex,ok.exfs,ok.funs,ok.frf,ok.tb⟩,I.os,I.bare,I.base,I.loc,I.cell,I.free,I.freeC,λ p C=>?_,I.hok,I.len⟩;rcases wR.mp (show p∈(a,o)::(X.pn++pins)from C)with rfl|C
 .exact⟨e,n,nl,J,d⟩
 .exact I.pin p C
theorem qw(ok:X.Ok)(I:Inv (hx X a o) pins σ H s):Inv X pins σ H s:=
 ⟨ok,I.os,I.bare,I.base,I.loc,I.cell,I.free,I.freeC,λ p C=>I.pin p (uN _ C),I.hok,I.len⟩
theorem i5{Q:Unit->Shared->Prop}{i:Nat}{n:Str}{pos:Pos}(I:Inv X pins σ H s)(hN:X.N.Nodup)(hi:X.N[i]?=some n)(hk:X.env.kindOf n=some .local)(h:∀s',Inv X pins (σ.set i none) H s'->Q () s'):
  wpAny (model X.prog X.w) A (do bindName X.env n .none;unbindBehindTheSuite X.env n pos) Q E s:=by
 obtain⟨m,hn,hl⟩:=id I.loc;have J:(X.env.scope.kind== .class||(X.env.scope.kind== .module&&X.env.locals !=X.env.globals))=false:=by rw[I.ok.kind];rfl
 have U:i<σ.length:=by rw[I.len];exact(xZ.mp hi).1
 have cne:=I.cne;have tracked:∀{h':Heap},Heap.SameBut X.env.locals s.heap h'->iB X.prog X.w H h':= λ{h'} hs b ob e=>by have aa:=I.free;refine(I.hok b ob e).stay (λ c w' hc q=>(hs.2 c ?_).trans q) (λ _ q=>q) λ _ _ q=>q;grind
 refine wpAny_nameGoes_keeps hk hn J λ h' v ab hs=>h _ ⟨I.ok,I.os,I.bare,⟨λ b o e n hb hx=>?_,λ b o e n hb hx=>?_,I.base.free,λ b o e hx=>?_,I.base.tups,I.base.frzs,I.base.tbls⟩,⟨_,ab,λ j y v' C e2 e3=>?_⟩,λ y c e=>?_,I.free,I.freeC,λ p hp=>?_,tracked hs,by simpa using I.len⟩;. exact(hs.2 b (uT (gE (wV e) I.ok.above))).trans (I.base.keep b o e n hb hx)
 .obtain⟨sl,C⟩:=I.base.slot b o e n hb hx;exact⟨sl,(hs.2 b (uT (gE (wV e) I.ok.above))).trans C⟩
 .obtain⟨o',C⟩:=I.base.there b o e hx;exact⟨o',(hs.2 b (uT (gE (wV e) I.ok.above))).trans C⟩
 .by_cases hj:j=i;. subst hj;rw[jP U]at e2;cases e2
  .rw[wL (Ne.symm hj)]at e2;obtain⟨u',r',q⟩:=hl j y v' C e2 e3;refine⟨u',r',?_⟩;rcases q with⟨k,e⟩|⟨k,c,e,z⟩
   .refine .inl ⟨k,?_⟩;have:y≠n:= λ e=>hj (kS hN C (e▸hi));simp[this,e]
   .exact .inr ⟨k,c,e,z.sameBut hs (cne y c e)⟩
 .obtain⟨w',z⟩:=I.cell y c e;exact⟨w',z.sameBut hs (cne y c e)⟩
 .obtain⟨e,n,ne,nf,d⟩:=I.pin p hp;exact⟨(hs.2 p.1 ne).trans e,n,ne,nf,d⟩
end
section
variable {X:Cx} {body sts:List Stmt} {b0:Stmt} {x n:Str} {C0:Addr} {i:Nat} {tb:MX} {th:Addr->Value->TS} {p hpos pos:Pos} {Adm:Value->Prop}
theorem Ju(hN:X.N.Nodup)(J:X.stack=X.env::X.outer)(hf:X.env.frame=some X.env.locals)(hb:mL X body tb)(hg:Gl X x)(hm:X.mg x=some (.ref C0))(hi:X.N[i]?=some n)(hl:X.env.kindOf n=some .local)
  (ag:∀cls,Adm cls->PySem.W.exmOne X.K cls (.ref C0)=some true)(hh:∀a o cls,Ck cls o->Adm cls->mV (hx X a o) (b0::sts) (th a cls))(aj:(x==("__debug__":Str))=false:=by decide):
  PS X (.Try body [.ExceptHandler (some (.Name x p)) (some n) (b0::sts) hpos] [] [] pos)
   (λ D σ H=>tb D (λ ak cls H'=>Adm cls/\∀a,H' a=none->th a cls (NT D i) (ak.set i (some (.ref a))) H') (λ _ _ _=>False) σ H):=by
 intro pins s σ H D I h;refine wpAny_Try_except (gA (hb pins s σ H D _ _ I h) (λ f s1 hq=>?_) λ e s1 he=>?_);. cases f with
  |next=>exact YI hq
  |brk=>exact hq
  |cont=>exact hq
  |ret u=>exact hq
 rcases he with⟨ab,H1,s0,I1,a,cls,t,B,H',rfl,os,bare,F,fl,aa,hw⟩|⟨ab,H1,s0,a,cls,args,h',I1,rfl,_,_,z⟩
 rotate_left;. exact False.elim z
 rw[J]at fl;have ao:s1.heap.FunFrames B X.stack:=by rw[J];exact fl.fr
 refine u5 (by rw[I.ok.frames,J]) hf fl λ h2 ae up2=>?_;have F2:=F.move ae.st up2 ao;have aq:h2.FunFrames B X.stack:=by rw[J];exact ae.fr
 refine kC ae λ h3 U ar=>?_;have F3:=F2.move U.st ar aq;have au:h3.FunFrames B X.stack:=by rw[J];exact U.fr
 have ah:H' a=none:=by cases q:H' a with
  |none=>rfl
  |some o=>obtain⟨o',e'⟩:=F.hB a o q;rw[fl.ne]at e';cases e'
 have inv:∀(h5:Heap),Fx B (X.env::X.outer) a (wc cls) (Dj t) .none h5->yg X.prog X.w X.stack H1 H' s0.heap h5 B->∃o,Ck cls o/\h5.get? a=some o/\Inv (hx X a o) pins ab H' { s1 with heap:=h5 }:= λ h5 f5 F5=>by
  have I5:Inv X pins ab H' { s1 with heap:=h5 }:=I1.call' (ch:=[]) os F5.un F5.hok bare λ b z=>nomatch z;obtain⟨T,oT,ts,C,_⟩:=f5.tr;refine⟨_,⟨t,T,rfl⟩,C,L8 I5 C ah ?_ ?_ λ v z=>nomatch z⟩;. rintro rfl;obtain⟨m,⟨o,es,ep,ho,hd,_⟩,_⟩:=I5.loc;have:=ho.symm.trans C;cases this;cases hd
  .intro hm;have:a∈hU (X.env::X.outer):=by unfold hU;rw[Z0,hf];exact uN _ hm
   obtain⟨_,o,ho,ax⟩:=f5.fr.mem this;simp_all
 obtain⟨o3,_,e3,I3⟩:=inv h3 U F3;have av:o3.cls=cls:=by obtain⟨T,oT,ts,C,_⟩:=U.tr;rw[e3]at C;cases C;rfl
 refine wpAny_handleBy_cons (codeAny_handlers_test (f9 (X:=hx X a o3) I3 hg hm ?_ aj)) (by intro q;cases q);have LT:PySem.W.Looks (model X.prog X.w) h3 (typeOf (.ref a)) cls:=av▸(PySem.W.Looks.ld e3).andThen .now;refine(PySem.W.exm_one (M:=model X.prog X.w) I3.kIn LT (ag cls aa)).at ?_;refine codeAny_handlers_suite_as ?_;refine kC U λ h6 ai aw=>?_;have F6:=F3.move ai.st aw au;obtain⟨o6,x6,e6,I6⟩:=inv h6 ai F6;refine jw (X:=hx X a o6) (i:=i) (v:= .ref a) I6 hN hi (.inl hl) rfl (λ s7 I7=>?_) (.inr hl);refine gA (hh a o6 cls x6 aa pins s7 _ H' (NT D i) I7 (hw a ah)) (λ f s8 hq=>?_) λ _ _ z=>False.elim z;cases f with
 |next=>obtain⟨af,H8,I8,q⟩:=hq;exact i5 (qw I.ok I8) hN hi hl λ s9 I9=>⟨_,H8,I9,q⟩
 |brk=>obtain⟨af,H8,I8,q⟩:=hq;exact i5 (qw I.ok I8) hN hi hl λ s9 I9=>⟨_,H8,I9,q⟩
 |cont=>obtain⟨af,H8,I8,q⟩:=hq;exact i5 (qw I.ok I8) hN hi hl λ s9 I9=>⟨_,H8,I9,q⟩
 |ret u=>obtain⟨v,af,H8,I8,r,q⟩:=hq;exact i5 (qw I.ok I8) hN hi hl λ s9 I9=>⟨v,_,H8,I9,r,q⟩
end
end Jt
namespace Jt
open PySem L2
open PySem.W (nd_bind Looks InstAt findIn specialIn takesIn mroIn clsIn findObj looks_findIn looks_find looks_mroIn KitX kitOne kitCls class_get)
section
variable {prog:Program} {w:World} {A:Around} {E:Value->Shared->Prop} {s:Shared} {K:PySem.W.Frag} {x D:Addr} {ox:Obj}
theorem D3(o:(clsIn K D).isSome=true)(C:findIn K (.ref D) name=some (some a))(I:specialIn K a "__get__"=some (some g))(J:takesIn K a=some true):findObj K D none name=some (.bind g a):=by obtain⟨cd,o⟩:=Z6.mp o;unfold findObj;grind
structure lb (K:PySem.W.Frag) (D:Addr):Prop where
 c:(clsIn K D).isSome=true
 ga:findIn K (.ref D) "__getattribute__" = some (some (.builtin "BaseException.__getattribute__"))
 gt:findIn K (.ref D) "__getattr__" = some none
 cl:findIn K (.ref D) "__class__" = some (some (.builtin "object.__class__"))
 ge:specialIn K (.builtin "object.__class__") "__get__" = some (some (.builtin "getset_descriptor.__get__"))
 tk:takesIn K (.builtin "object.__class__")=some true
 mo:mroIn K D (.type "object")=some true
 mb:mroIn K D (.type "BaseException")=some true
theorem IQ{Q:Value->Shared->Prop}(F:lb K D)(X:K.In s.heap)(I:InstAt s.heap x ox D none)(h:Q (.ref D) s):wpAny (model prog w) A (call (.builtin "BaseException.__getattribute__") [.ref x,.str "__class__" tk]) Q E s:=by
 obtain⟨J,g,d,t,os⟩:=s;have U:=I.type (M:=model prog w);have L1:=looks_mroIn (M:=model prog w) X F.mb;have L2:=looks_find (M:=model prog w) X I (D3 F.c F.cl F.ge F.tk);have C:builtinKind "BaseException.__getattribute__"=some .slot:=by decide+kernel
 have o:splitId "BaseException.__getattribute__"=some ("BaseException","__getattribute__"):=by decide+kernel
 have ha:=PySem.F.args_bexc_ga (.ref x) (.str "__class__" tk);refine WB (YQ PySem.F.attr_ValueError.ga.plain PySem.F.entry_bexc_ga ?_);simp only[checkBuiltinCall,C,o];refine zN ?_;. unfold isInstance;(repeat(first|with_reducible refine WB (class_get (ox:=ox) (od:=none) X I F.mo ?_)|lk|wp_step));exact h
theorem yh(F:lb K D)(X:K.In s.heap)(I:InstAt s.heap x ox D none)(h:Q (some (.ref D)) { s with toks:=s.toks+1 }):wpAny (model prog w) A (getAttr? (.ref x) "__class__") Q E s:=by
 obtain⟨hh,g,d,t,os⟩:=s;have J:=I.type (M:=model prog w);have U:=looks_findIn (M:=model prog w) X F.ga;have L2:=looks_findIn (M:=model prog w) X F.gt;have o:(Value.builtin "BaseException.__getattribute__"==Value.builtin "object.__getattribute__")=false:=by decide+kernel
 have C:(onTheHeap (Value.ref D)&&Value.builtin "BaseException.__getattribute__"==Value.builtin "object.__getattribute__")=false:=by rw[o];rfl
 have hb:=PySem.F.attr_ValueError.ga.bind (.ref x);unfold getAttr? getAttrBy? getAttrBy;refine zN (wpAny_mkText (zN (V0 (QP (zN (J.at (zN (U.at ?_))))))));dsimp only;rw[QB (by rw[C];decide)];refine zN (L2.at (zN (V0 (QP ?_))));refine IQ (ox:=ox) F X I ?_;exact zS (zS h)
theorem zQ(F:lb K D):KitX K (.ref x) (.ref D) (λ h=>InstAt h x ox D none) where
 ty:= λ _ _ _ I=>I.type
 it:= λ _ _ X _=>by
  obtain⟨C,o⟩:=Z6.mp F.c;unfold clsIn at o;split at o;. rename_i c' d' J U ho;intro A' Q' E' s' k q;exact zN (wpAny_loadPart (k _ _ (X _ _ ho)) (zS q))
  .cases o
 ne:= λ h tp dd its n sl X aa=>by
  obtain⟨C,o⟩:=Z6.mp F.c;refine VD.mpr λ q=>?_;have e:D=tp:=Value.ref.inj (XI.mp q);subst e;unfold clsIn at o;split at o;. rename_i c' d' J U ho;have z:=(X _ _ ho).symm.trans aa;cases z
  simp_all
 ca:= λ X I k=>yh F X I k
theorem Af{o:Obj}(z:Ck (.ref D) o)(e:h.get? x=some o):InstAt h x o D none:=by obtain⟨t,T,rfl⟩:=z;exact⟨e,rfl,rfl,trivial⟩
end
end Jt
namespace Jt
open PySem L2
open PySem.SeqAt (list_countAt list_indexAt)
section
variable {X:Cx}
noncomputable def Gv:Value->Bool
 | .bool b=>b
 |_=>false
theorem pN:∀{bs:List Bool}{us:List Value},Vals (bs.map V.bl) us->us=bs.map Value.bool
 |[],_,.nil=>rfl
 |b::bs,_,.cons r rs=>by rw[pN rs,r];rfl
theorem ui(bs:List Bool):(bs.map Value.bool).countP Gv=bs.count true:=by induction bs with
 |nil=>rfl
 |cons b bs o=>rw[QM,List.countP_cons,o];cases b <;> simp[Gv]
noncomputable def o5:V->List V->Hp->VK->Prop:= λ x vs H Q=>∃(l:Addr) (bs:List Bool),x= .ref l/\vs=[.bl true]/\H l=some (.lst (bs.map V.bl))/\Q (.int (bs.count true)) H
theorem x8:JV X "list.count" o5:=by
 intro pins s σ H x vs v us Q I o C h;obtain⟨l,bs,rfl,rfl,J,q⟩:=h;cases o;obtain⟨u,rfl,U⟩:=C.one;cases U;obtain⟨z,its,n,r,hl,e⟩:=I.lstM J;have hv:=pN r;subst hv;refine call_meets F.slot_list_count ⟨_,e,rfl⟩ F.entry_list_count (F.args_list_count_2 _ _) (list_countAt l _ n none #[] (.bool true) Gv) ⟨e,λ y hy=>?_,?_⟩;. obtain⟨b,_,rfl⟩:=QJ.mp (show y∈bs.map Value.bool by simpa using hy);have:=PySem.SeqAt.EqAt.bool_bool (A:=X.A.in1) (s:=s) b true;simpa[Gv]using this
 .exact⟨.int (bs.count true),H,I.tok _,⟨_,by rw[ui]⟩,q⟩
noncomputable def uV:V->List V->Hp->VK->Prop:= λ x vs H Q=>∃(l:Addr) (bs:List Bool) (j:Nat),x= .ref l/\vs=[.bl true]/\H l=some (.lst (bs.map V.bl))/\bs.length<1000/\bs[j]?=some true/\(∀m,m<j->bs[m]?=some false)/\Q (.int j) H
theorem xC:JV X "list.index" uV:=by
 intro pins s σ H x vs v us Q I rx rv h;obtain⟨l,bs,j,rfl,rfl,hH,hlen,U,o,q⟩:=h;cases rx;obtain⟨u,rfl,ru⟩:=rv.one;cases ru;obtain⟨z,its,n,r,hl,e⟩:=I.lstM hH;have hv:=pN r;subst hv;have C:j<bs.length:=(xZ.mp U).1;refine call_meets F.slot_list_index ⟨_,e,rfl⟩ F.entry_list_index (F.args_list_index_2 _ _) (list_indexAt l _ n none #[] (.bool true) Gv j (by simpa using C) (by omega) ?_ ?_) ⟨e,λ y hy=>?_,?_⟩;. have:=(xZ.mp U).2;simp[Gv,this]
 .intro m hm J;have:=(xZ.mp (o m J)).2;simp[Gv,this]
 .obtain⟨b,_,rfl⟩:=QJ.mp (show y∈bs.map Value.bool by simpa using hy);have:=PySem.SeqAt.EqAt.bool_bool (A:=X.A.in1) (s:=s) b true;simpa[Gv]using this
 .exact⟨.int j,H,I.tok _,⟨_,rfl⟩,q⟩
noncomputable def qm(i:Nat)(a:Addr)(b:Bool):TE:= λ σ H Q=>σ[i]?=some (some (.ref a))/\Q (.bl b) H
theorem rQ{a D:Addr}{o:Obj}{vc:V}{c:Value}{b:Bool}(F:lb X.K D)(C:(a,o)∈X.pn)(z:Ck (.ref D) o)(rc:∀u,RelV vc u->u=c)(e:PySem.W.kitOne X.K (.ref D) c=some b):dw X (.builtin "isinstance") (λ xs H Q=>xs=[.ref a,vc]/\Q (.bl b) H):=by intro pins s σ H xs us Q I J h;obtain⟨rfl,q⟩:=h;obtain⟨u1,u2,rfl,U,r2⟩:=J.two;cases U;have:=rc _ r2;subst this;obtain⟨e1,_⟩:=I.pin (a,o) (Z9 _ C);exact PySem.W.kia_one (zQ F) I.kIn (Af z e1) e (λ z=>nomatch z) λ tk=>⟨.bl b,H,I.tok _,rfl,q⟩
theorem zv(o:Gl X x)(hm:X.mg x=some (.ref C))(hd:(x==("__debug__":Str))=false:=by decide):PE X (.Name x pos) (tC (.ref C)):=
 λ _ _ _ H _ I h=>f9 I o hm ⟨.ref C,H,I,rfl,h⟩ hd
theorem Ic{a D C:Addr}{o:Obj}{x y:Str}{p1 p2 pos pf:Pos}{b:Bool}(F:lb X.K D)(hp:(a,o)∈X.pn)(z:Ck (.ref D) o)(e:PySem.W.kitOne X.K (.ref D) (.ref C)=some b)(J:X.mg "isinstance"=none)(hm:X.mg y=some (.ref C))
  (hN:X.N[i]?=some x:=by rfl)(hv:oW X.env.scope x:=by first | exact Or.inl rfl | exact Or.inr (Or.inl rfl) | exact Or.inr (Or.inr rfl))(U:Gl X "isinstance":=by rfl)(hg:Gl X y:=by rfl)(hd:(x==("__debug__":Str))=false:=by decide)(aa:(x==("__classdict__":Str))=false:=by decide)(hd2:(y==("__debug__":Str))=false:=by decide):
  PE X (.Call (.Name "isinstance" pf) [.Name x p1,.Name y p2] [] pos) (qm i a b):=
 λ pins s σ H Q I h=>dA (rQ F hp z (vc:= .ref C) (c:= .ref C) (λ _ r=>r) e) U J (by rfl) (bA (cY hN hv hd aa) (bA (zv hg hm hd2) cy)) (by decide) (by rfl) rfl rfl pins s σ H Q I ⟨_,h.1,rfl,h.2⟩
theorem CJ{a D:Addr}{o:Obj}{x y:Str}{T:String}{p1 p2 pos pf:Pos}{b:Bool}(F:lb X.K D)(hp:(a,o)∈X.pn)(z:Ck (.ref D) o)(e:PySem.W.kitOne X.K (.ref D) (.type T)=some b)(C:X.mg "isinstance"=none)(hm:X.mg y=none)(J:bootBuiltins y=some (.type T))
  (hN:X.N[i]?=some x:=by rfl)(hv:oW X.env.scope x:=by first | exact Or.inl rfl | exact Or.inr (Or.inl rfl) | exact Or.inr (Or.inr rfl))(U:Gl X "isinstance":=by rfl)(hg:Gl X y:=by rfl)(hd:(x==("__debug__":Str))=false:=by decide)(aa:(x==("__classdict__":Str))=false:=by decide)(hd2:(y==("__debug__":Str))=false:=by decide)(ab:y≠"__name__":=by decide):
  PE X (.Call (.Name "isinstance" pf) [.Name x p1,.Name y p2] [] pos) (qm i a b):=
 λ pins s σ H Q I h=>dA (rQ F hp z (vc:= .ty T) (c:= .type T) (λ _ r=>r) e) U C (by rfl) (bA (cY hN hv hd aa) (bA (vX (v:= .ty T) hg hm J rfl ab hd2) cy)) (by decide) (by rfl) rfl rfl pins s σ H Q I ⟨_,h.1,rfl,h.2⟩
end
end Jt
namespace Jt
open PySem L2 PySem.Spec PyProof.Rows
structure Rm (k:Nat) (A:Around):Prop where
 dp:A.depth + 3 * k + 5 < recursionLimit
 un:A.units + 16 * k + 200 < cLine
theorem Ko(r:cu k A):Rm k A:=⟨r.dp,r.un⟩
theorem Rm.mark(r:Rm k A)(h:Option Value):Rm k (A.mark h):=⟨r.dp,r.un⟩
theorem Rm.depth(r:Rm k A):A.depth<recursionLimit:=by have:=r.dp;omega
structure Mq (P:Program) (w:World) (K:PySem.W.Frag) (mg:Str->Option Value) (base:Heap) (k:Nat) (f:Addr) (fd:FuncData) (ps:List Str) (D:Addr) (res:V):Prop where
 run:∀(A:Around) (outer:List Env) (s:Shared) (H:Hp) (args:Args) (a:Addr) (o:Obj) (Q:VK),Rm k A->A.handled=some (.ref a)->xJ P w K mg base A outer s H->BindsTo s fd args (ps.zip [.ref a])->Ck (.ref D) o->s.heap.get? a=some o->H a=none->a ∉ hU outer ->
  (∀H',jv H H' -> Q res H')->codeAny (model P w) A (.call (.ref f) args) (CR fS outer P w H s Q fun _ _ _=>False) s
noncomputable def KH(P:Program)(w:World)(K:PySem.W.Frag)(C:Str->Option Value)(base:Heap)(N:List Str)(qual:Str)(scope:Scope)(f:Addr)(cd:Value)(A:Around)(outer:List Env)(s:Shared)(H:Hp)(a:Addr)(o:Obj):Cx:=
 { fB fS P w K C base N qual scope f cd A outer s H (λ _ _ _=>False)with calm:=false,pn:=[(a,o)],xe:= λ _ _=>False }
section
variable {P:Program} {w:World} {K:PySem.W.Frag} {mg:Str->Option Value} {base:Heap} {k:Nat} {f:Addr} {fd:FuncData} {N ps:List Str} {x qual:Str} {st:Stmt} {D:Addr} {res:V}
theorem Oe(F:yn K x qual st f fd)(S:cx N ps (bj st))(af:ps.length=1)
  (ab:∀(cdv:Value)(A:Around)(outer:List Env)(s:Shared)(H:Hp)(a:Addr)(o:Obj),Ck (.ref D) o->A.handled=some (.ref a)->∃t,mV (KH P w K mg base N qual (bj st) f cdv A outer s H a o) (bR st) t/\∀Q:VK,(∀H',jv H H'->Q res H')->t { nx:= λ _ H'=>Q .non H',rt:=Q } (start N [.ref a]) H):
  Mq P w K mg base (k+1) f fd ps D res:=by
 obtain⟨oc,od,kV,doc,pm,an,cdv,ct,ai,rfl,lk,ag⟩:=F.ex;refine⟨λ A outer s H args a o Q hr hh C hb z ea na nf hQ=>?_⟩;have KX:K.In s.heap:=C.mod.kin.keeps λ b o e=>(C.bs b o e).1;have lim:s.heap.NoLimit:=C.mod.nolimit.keeps λ b o e=>(C.bs b o e).1;have ae:∀y∈ps.zip [Value.ref a],(bj st).names.lookup y.1=some .local\/((bj st).names.lookup y.1=some .cell/\((cellsFrom (s.heap.objs.size+1) (bj st).names []).lookup y.1).isSome=true):= λ⟨n,v⟩ hy=>by
  rcases S.par n (Y9 hy).1 with q|q
  .exact .inl q
  .exact .inr ⟨q,YE _ _ _ (.inl q)⟩
 refine codeAny_call_function hr.depth (KX _ _ lk) rfl S.co S.gen rfl (PySem.W.codeRec_of KX ag) (hb _ _ _ _ ?_);refine wpAny_newFunctionEnv_cells S.kind ae λ env he s1 x=>?_;subst he;refine⟨lim.keeps x.toInCall.keep,codeAny_func ?_⟩;obtain⟨t,ht,hq⟩:=ab cdv A outer s H a o z hh;have ah:xJ P w K mg base { A with handled:=none } outer s H:=⟨C.frames,C.mod,C.bs,C.bsz,C.funs,C.frf,C.hok,C.bare,C.tb⟩;have U:L2.Inv (fB fS P w K mg base N qual (bj st) f cdv { A with handled:=none } outer s H λ _ _ _=>False) [] (start N [.ref a]) H s1:=ny (vs:=[.ref a]) (us:=[.ref a]) S rfl ah af.symm (.cons rfl .nil) x;have ok:=U.ok;have I:L2.Inv (KH P w K mg base N qual (bj st) f cdv A outer s H a o) [] (start N [.ref a]) H s1:=by
  refine⟨⟨ok.mod,ok.kind,ok.glob,ok.blt,ok.above,ok.inj,ok.has,ok.cab,(λ z=>Bool.noConfusion z),Around.frames_deeper C.frames,ok.stk,ok.exf,ok.bs,ok.bsz,ok.noex,ok.exfs,ok.funs,ok.frf,ok.tb⟩,U.os,U.bare,U.base,U.loc,U.cell,U.free,U.freeC,λ p hp=>?_,U.hok,U.len⟩;have hp:p=(a,o):=by simpa[KH]using hp
  subst hp;refine⟨x.toInCall.keep _ _ ea,na,uT (wV ea),nf,λ v q=>?_⟩;obtain⟨t,T,rfl⟩:=z;cases q
 refine gA (ht [] s1 (start N [.ref a]) H _ I (hq Q hQ)) (λ fl s' hs=>?_) λ e s' hs=>False.elim hs;have fin:∀{aa:L2.St}{H':Hp}{v:V}{u:Value},L2.Inv (KH P w K mg base N qual (bj st) f cdv A outer s H a o) [] aa H' s'->RelV v u->Q v H'->CE outer P w H s Q u s':=
  λ{aa H' v u} J rv q=>⟨v,H',J.os,J.bare,J.base,J.hok,rv,q⟩;cases fl with
 |ret u=>obtain⟨v,aa,H',J,rv,q⟩:=hs;exact fin J rv q
 |next=>obtain⟨aa,H',J,q⟩:=hs;exact fin (v:=V.non) (u:=Value.none) J rfl q
 |brk=>obtain⟨_,_,_,q⟩:=hs;simp_all
 |cont=>obtain⟨_,_,_,q⟩:=hs;exact False.elim q
end
noncomputable def EC(i:Nat)(a:Addr)(res:V):TE:= λ σ H Q=>σ[i]?=some (some (.ref a))/\∀H',jv H H'->Q res H'
theorem yY{X:Cx}{i k:Nat}{f a D:Addr}{o:Obj}{fd:FuncData}{ps:List Str}{x y:Str}{res:V}{p p1 pos:Pos}(F:Mq X.prog X.w X.K X.mg X.base k f fd ps D res)(hr:Rm k X.A)(hh:X.A.handled=some (.ref a))(hp:(a,o)∈X.pn)(z:Ck (.ref D) o)(hm:X.mg y=some (.ref f))(hk:PySem.W.keepIn X.K (.ref f)=true)(hb:Binds X.K fd ps [])(U:ps.length=1)
  (hN:X.N[i]?=some x:=by rfl)(hv:oW X.env.scope x:=by first|exact Or.inl rfl|exact Or.inr (Or.inl rfl)|exact Or.inr (Or.inr rfl))(hg:Gl X y:=by rfl)(hd:(x==("__debug__":Str))=false:=by decide)(aa:(x==("__classdict__":Str))=false:=by decide)(hd2:(y==("__debug__":Str))=false:=by decide):
  PE X (.Call (.Name y p) [.Name x p1] [] pos) (EC i a res):=by
 intro pins s σ H Q I h;refine YD (f9 I hg hm ?_ hd2);refine XG (h₀:=X.base) I.ok.mod.kin hk (cC ((bA (cY hN hv hd aa) cy) pos pins s σ H (λ vs H1=>vs=[.ref a]/\H1=H) I ⟨_,h.1,rfl,rfl⟩) λ us s1 ⟨vs,H1,C,r,q1,q2⟩=>⟨C.kIn,?_⟩) rfl rfl;subst q1 q2;obtain⟨u,rfl,ru⟩:=r.one;cases ru;obtain⟨e1,n1,nl,nf,_⟩:=C.pin (a,o) (Z9 _ hp);have ns:a∉hU X.stack:= λ hm=>by
  rcases wR.mp (C.stkSub a hm)with q|q
  .exact nl q
  simp_all
 refine WB (ZQ (F.run X.A X.stack s1 H1 ⟨[.ref a],[]⟩ a o Q hr hh C.env0 (by simpa using hb s1 [.ref a] C.kIn (by simp[U])) z e1 n1 ns h.2) λ r s' J=>?_);cases r with
 |error e=>exact False.elim J
 |ok fl=>cases fl with
  |ret u=>exact C.after J
  |next=>exact False.elim J
  |brk=>exact False.elim J
  |cont=>exact False.elim J
end Jt
namespace Jt
open PySem L2
theorem Sl.unset(s:Sl c I S σ T H)(hu:I[i]?=some .un):Sl c I S (σ.set i none) T H:=by
 have ne:∀(j:Nat) x,I[j]?=some x->x≠ .un->(σ.set i none)[j]?=σ[j]?:= λ j x h hx=>by rw[wL];grind
 have J:∀a,Oa I (σ.set i none) a->Oa I σ a:= λ a z=>z.elim (λ⟨j,b,xs,o,C⟩=> .inl ⟨j,b,xs,o,(ne j _ o (λ z=>nomatch z)).symm.trans C⟩) λ⟨j,ks,o,C⟩=> .inr ⟨j,ks,o,(ne j _ o (λ z=>nomatch z)).symm.trans C⟩;have m:∀b u,eU c I σ H b=some u->eU c I (σ.set i none) H b=some u:=bH (λ a u e z=>z.elim .inl λ z=> .inr (J a z)) λ _ _ _ h=>h;refine⟨by simpa using s.len,λ j d h=>?_,λ j b xs h=>?_,λ j k b b' xs ys a o C U h4=>?_,s.st.mono m,s.keep,s.bb,s.zk,λ j ks h=>?_,λ j k ks ls a o C U h4=>?_⟩;. obtain⟨v,e,r⟩:=s.pu j d h;exact⟨v,(ne j _ h (λ z=>nomatch z)).trans e,r.mono m⟩
 .obtain⟨a,vs,e,r1,r2,r3⟩:=s.ow j b xs h;exact⟨a,vs,(ne j _ h (λ z=>nomatch z)).trans e,r1,r2.mono m,r3⟩
 .exact s.ne j k b b' xs ys a o C ((ne j _ o (λ z=>nomatch z)).symm.trans U) ((ne k _ C (λ z=>nomatch z)).symm.trans h4)
 .obtain⟨a,e,r1⟩:=s.od j ks h;exact⟨a,(ne j _ h (λ z=>nomatch z)).trans e,r1⟩
 .exact s.nd j k ks ls a o C ((ne j _ o (λ z=>nomatch z)).symm.trans U) ((ne k _ C (λ z=>nomatch z)).symm.trans h4)
noncomputable def xG(J I:Nat)(kinds:Addr->Option Str)(U:M (Fl⊕Addr)):M Fl:= λ δ=>match U δ with
 |some (.inl fl,o)=>some (fl,o)
 |some (.inr C,o)=>match kinds C,o[J]? with
  |some w,some .un=>if I<o.length/\J≠I then some (.nx,o.set I (.pu (.str w)))else none
  |_,_=>none
 |none=>none
structure M8 (P:Program) (w:World) (K:PySem.W.Frag) (mg:Str->Option Value) (base:Heap) (k:Nat) (f C0:Addr) (fd:FuncData) (ps:List Str) (kinds:Addr->Option Str):Prop where
 fn:∀C x,kinds C=some x->Mq P w K mg base k f fd ps C (.str x)
 ex:∀C x,kinds C=some x->PySem.W.exmOne K (.ref C) (.ref C0)=some true
section
variable {X:Cx} {body:List Stmt} {x n y g:Str} {C0 f:Addr} {ie iy k:Nat} {fd:FuncData} {ps:List Str} {kinds:Addr->Option Str} {fx:M (Fl ⊕ Addr)} {p hpos pos py pg pn pc pa:Pos}
noncomputable def Od(kinds:Addr->Option Str)(ie:Nat)(t:TE->TS)(a:Addr):Value->TS
 | .ref C=>match kinds C with
  |some w=>t (EC ie a (.str w))
  |none=> λ _ _ _=>False
 |_=> λ _ _ _=>False
theorem v8(ie iy:Nat)(W:M8 X.prog X.w X.K X.mg X.base k f C0 fd ps kinds)(hN:X.N.Nodup)(af:X.stack=X.env::X.outer)(hf:X.env.frame=some X.env.locals)(hb:nc X false body fx)(hr:cu k X.A)(hm:X.mg x=some (.ref C0))(ag:X.mg g=some (.ref f))(hk:PySem.W.keepIn X.K (.ref f)=true)(ah:Binds X.K fd ps [])(ai:ps.length=1:=by rfl)
  (hi:X.N[ie]?=some n:=by rfl)(hl:X.env.kindOf n=some .local:=by rfl)(aj:X.N[iy]?=some y:=by rfl)(U:X.env.kindOf y=some .local:=by rfl)(hg:Gl X x:=by rfl)(ak:Gl X g:=by rfl)(ao:(x==("__debug__":Str))=false:=by decide)(hd:(n==("__debug__":Str))=false:=by decide)(aq:(n==("__classdict__":Str))=false:=by decide)(hd2:(g==("__debug__":Str))=false:=by decide)
  (ar:swapsWith (.Call (.Name g pg) [.Name n pn] [] pc) (some (.Name y py)) pa.line X.env=pure false:=by rfl):
  ku X (.Try body [.ExceptHandler (some (.Name x p)) (some n) [.Assign [.Name y py] (.Call (.Name g pg) [.Name n pn] [] pc) pa] hpos] [] [] pos) (xG ie iy kinds fx):=by
 refine iE (Ju (Adm:= λ cls=>∃C w,cls= .ref C/\kinds C=some w) (th:=Od kinds ie λ te=>ko te (gH iy)) hN af hf hb hg hm hi hl (λ cls ⟨C,w,e,hw⟩=>e▸W.ex C w hw) (λ a o cls z ⟨C,w,e,hw⟩=>?_) ao) λ E σ H ⟨c,δ,S,T,fl,aw,s,e,q⟩=>?_;. subst e;show mV (hx X a o) _ (match kinds C with|some w=>ko (EC ie a (.str w)) (gH iy)|none=> λ _ _ _=>False);rw[hw];exact kz (g7 (X:=hx X a o) hN aj (.inl U) (yY (X:=hx X a o) (W.fn C w hw) ((Ko hr).mark _) rfl uL z ag hk ah ai hi (.inl hl) ak hd aq hd2) ar (.inr U))
 .unfold xG at e;split at e;. rename_i ax aa J;cases e;exact⟨c,δ,S,T,.inl _,_,s,J,q⟩
  .rename_i C aa J;split at e
   .rename_i w hw ab;split at e
    .rename_i ae;cases e;refine⟨c,δ,S,T,.inr C,aa,s,J,λ I H' s'=>⟨⟨⟨C,w,rfl,hw⟩,λ a na=>?_⟩,λ z=>nomatch z⟩⟩;show(match kinds C with|some w=>ko (EC ie a (.str w)) (gH iy)|none=> λ _ _ _=>False) _ _ _;rw[hw];have au:ie<I.length:=by rw[<- s'.len];exact(xZ.mp ab).1
     refine⟨jP au,λ H2 sm=>?_⟩;show E.nx (((I.set ie (some (.ref a))).set iy (some (.str w))).set ie none) H2;have s2:=(s'.grow sm).unset ab;have s3:=(s2.stk (S':= .str w::S) (T':= .str w::T) (.cons .mkS s2.st)).setPu ae.1;have:((I.set ie (some (.ref a))).set iy (some (.str w))).set ie none=(I.set ie none).set iy (some (.str w)):=by rw[List.set_comm _ _ ae.2.symm,List.set_set]
     rw[this];exact q _ _ s3
    .cases e
   .cases e
  .cases e
end
end Jt
namespace L2
open PySem PySem.Spec PyProof.Rows
noncomputable abbrev tests(ifs:List Expr)(env:Env):Sem Bool:=forIn ifs true λ c r=>if r=true then do let ok<- isTrue c env (eval c env);pure (ForInStep.yield ok)else pure (ForInStep.yield r)
section
variable {prog:Program} {w:World} {A:Around} {R:Result->Shared->Prop} {s:Shared} {elt t1 i1 t2 i2:Expr} {ifs1 ifs2:List Expr} {scope:Scope} {pos:Pos} {it acc:Value} {env:Env}
noncomputable abbrev two(elt t1 i1:Expr)(ifs1:List Expr)(t2 i2:Expr)(ifs2:List Expr)(scope:Scope)(pos:Pos):Expr:= .ListComp elt [⟨t1,i1,ifs1,0⟩,⟨t2,i2,ifs2,0⟩] scope pos
theorem Ax:compTurn (two elt t1 i1 ifs1 t2 i2 ifs2 scope pos) 0 it acc env=(standAt i1.pos >>=λ _=>pyNext it >>=λ r=>match r with
  |none=>pure (.done .next)
  |some v=>letOwnedTupleGo t1 it v >>=λ _=>assign t1 env v >>=λ _=>tests ifs1 env >>=λ ok=>
   (if ok=true then(eval i2 env >>=λ x=>standAt i2.pos >>=λ _=>foldedSetIterable i2 env x >>=λ x=>holding [x] (pyIter x) >>=λ j=>runOwn (.compStart (two elt t1 i1 ifs1 t2 i2 ifs2 scope pos) 1 j acc env) env >>=λ _=>again (.compLoop (two elt t1 i1 ifs1 t2 i2 ifs2 scope pos) 0 it acc env))
     else again (.compLoop (two elt t1 i1 ifs1 t2 i2 ifs2 scope pos) 0 it acc env))):=by rfl
theorem E9:compTurn (two elt t1 i1 ifs1 t2 i2 ifs2 scope pos) 1 it acc env=(standAt i2.pos >>=λ _=>pyNext it >>=λ r=>match r with
  |none=>pure (.done .next)
  |some v=>letOwnedTupleGo t2 it v >>=λ _=>assign t2 env v >>=λ _=>tests ifs2 env >>=λ ok=>
   (if ok=true then((eval elt env >>=λ x=>call (.builtin "list.append") [acc,x] >>=λ _=>pure ()) >>=λ _=>again (.compLoop (two elt t1 i1 ifs1 t2 i2 ifs2 scope pos) 1 it acc env))
     else again (.compLoop (two elt t1 i1 ifs1 t2 i2 ifs2 scope pos) 1 it acc env))):=by rfl
noncomputable abbrev mD:Value->Shared->Prop:= λ _ _=>False
theorem AZ (hs:∀x,foldedSetIterable i2 env x=pure x) (I:Nat->Shared->Prop)
  (turn:∀n s,I n s->wpAny (model prog w) A (pyNext it) (fun r s1=>match r with
   | none=>R (.ok .next) s1
   | some v=>wpAny (model prog w) A (letOwnedTupleGo t1 it v) (fun _ s2=>wpAny (model prog w) A (assign t1 env v) (fun _ s3=>wpAny (model prog w) A (tests ifs1 env) (fun ok s4=>
     if ok=true then wpAny (model prog w) A (eval i2 env) (fun x s5=>wpAny (model prog w) A (pyIter x) (fun j s6=>
      codeAny (model prog w) A (.compStart (two elt t1 i1 ifs1 t2 i2 ifs2 scope pos) 1 j acc env) (fun r s7=>match r with | .ok _=>∃m,m < n∧I m s7 | .error _=>False) s6) mD s5) mD s4
     else ∃m,m < n∧I m s4) mD s3) mD s2) mD s1) mD s)
  (n:Nat) (h:I n s):codeAny (model prog w) A (.compLoop (two elt t1 i1 ifs1 t2 i2 ifs2 scope pos) 0 it acc env) R s:= by
 refine codeAny_loop rfl I (fun n s hI=>?_) n h
 show wpAny _ A ((compTurn (two elt t1 i1 ifs1 t2 i2 ifs2 scope pos) 0 it acc env).onRaise (fun x=>do noteFrame x env;theTreesLotGoes x)) _ _ s
 refine wpAny_noted ?_
 rw [Ax]
 refine zN (Z5 (zN (gA (turn n s hI) (fun r s1 h1=>?_) fun _ _ z=>z.elim)))
 cases r with
 | none=>exact zS h1
 | some v=>
  refine zN (gA h1 (fun _ s2 h2=>zN (gA h2 (fun _ s3 h3=>zN (gA h3 (fun ok s4 h4=>?_) fun _ _ z=>z.elim)) fun _ _ z=>z.elim)) fun _ _ z=>z.elim)
  cases ok with
  | false=>exact zS ⟨rfl,h4⟩
  | true=>
   refine zN (gA h4 (fun x s5 h5=>zN (Z5 ?_)) fun _ _ z=>z.elim)
   rw [hs]
   refine zN (zS (zN (QP (gA h5 (fun j s6 h6=>?_) fun _ _ z=>z.elim))))
   refine zN (wpAny_runOwn (ZQ h6 fun r s7 h7=>?_))
   cases r with
   | ok f=>exact zS ⟨rfl,h7⟩
   | error e=>simp_all
theorem EN(I:Nat->Shared->Prop)
  (turn:∀n s,I n s->wpAny (model prog w) A (pyNext it) (λ r s1=>match r with
   |none=>R (.ok .next) s1
   |some v=>wpAny (model prog w) A (letOwnedTupleGo t2 it v) (λ _ s2=>wpAny (model prog w) A (assign t2 env v) (λ _ s3=>wpAny (model prog w) A (tests ifs2 env) (λ ok s4=>
     if ok=true then wpAny (model prog w) A (eval elt env) (λ x s5=>wpAny (model prog w) A (call (.builtin "list.append") [acc,x]) (λ _ o=>∃m,m<n/\I m o) mD s5) mD s4
     else∃m,m<n/\I m s4) mD s3) mD s2) mD s1) mD s)
  (n:Nat)(h:I n s):codeAny (model prog w) A (.compLoop (two elt t1 i1 ifs1 t2 i2 ifs2 scope pos) 1 it acc env) R s:=by refine codeAny_loop rfl I (λ n s U=>?_) n h;refine wpAny_noted ?_;rw[E9];refine zN (Z5 (zN (gA (turn n s U) (λ r s1 C=>?_) λ _ _ z=>z.elim)));cases r with
 |none=>exact zS C
 |some v=>refine zN (gA C (λ _ s2 h2=>zN (gA h2 (λ _ s3 h3=>zN (gA h3 (λ ok s4 J=>?_) λ _ _ z=>z.elim)) λ _ _ z=>z.elim)) λ _ _ z=>z.elim);cases ok with
  |false=>exact zS ⟨rfl,J⟩
  |true=>exact zN (zN (gA J (λ x s5 h5=>zN (gA h5 (λ _ o h6=>zS (zS ⟨rfl,h6⟩)) λ _ _ z=>z.elim)) λ _ _ z=>z.elim))
theorem zq(h0:codeAny (model prog w) A (.compLoop (two elt t1 i1 ifs1 t2 i2 ifs2 scope pos) 1 it acc env) R s)
  (h:wpAny (model prog w) A (pyIter it) (λ j s'=>codeAny (model prog w) A (.compLoop (two elt t1 i1 ifs1 t2 i2 ifs2 scope pos) 1 j acc env) R s') mD s):
  codeAny (model prog w) A (.compStart (two elt t1 i1 ifs1 t2 i2 ifs2 scope pos) 1 it acc env) R s:=by
 refine YG ?_;refine wpAny_notedAt ?_;refine zN (VL (wpAny_ite ?_));split;. first
   |exact zN (zS (zS (And.intro rfl h0)))
   |exact zS (And.intro rfl h0)
 .first
   |exact zN (VE (zN (Z5 (zN (gA h (λ j s' q=>zS (And.intro rfl q)) λ _ _ z=>z.elim)))))
   |rfl
end
noncomputable abbrev TB:=Addr->List V->St->Hp->(List V->St->Hp->Prop)->Prop
noncomputable def My(wi:TI)(g:TG)(tt:TT)(te:TE):TB:= λ l I σ H Q=>wi σ H λ J H1=>∃W:Nat->Nat->List V->St->Hp->Prop,(∃m,W 0 m I σ H1)/\∀i m acc C H,W i m acc C H->
 H l=some (.lst acc)/\((J.stop i H/\Q acc C H)\/(J.go i H/\∀x H',J.yld i H x H'->g x C H' λ o H2=>tt o H2 λ b H3=>
  if b=true then te o H3 λ v H4=>H4 l=some (.lst acc)/\acc.length<sizeLine/\∃U,U<m/\W (i+1) U (acc++[v]) o (upd H4 l (.lst (acc++[v])))
  else∃U,U<m/\W (i+1) U acc o H3))
section
variable {Y:Cx} {elt t1 i1 t2 i2:Expr} {ifs1 ifs2:List Expr} {scope:Scope} {pos:Pos} {wi:TI} {g:TG} {tt:TT} {te:TE}
theorem Lj(hx:Y.xe=mD)(hc:Y.calm=true)(hi:PI Y t2 i2 wi)(hg:PG Y t2 g)(ht:oi Y ifs2 tt)(he:PE Y elt te){l:Addr}{af:List V}{pins:List (Addr×Obj)}{s:Shared}{σ:St}{H:Hp}{Q:List V->St->Hp->Prop}(I:Inv Y pins σ H s)(h:My wi g tt te l af σ H Q):
  wpAny (model Y.prog Y.w) Y.A (eval i2 Y.env) (λ x s5=>wpAny (model Y.prog Y.w) Y.A (pyIter x) (λ j s6=>codeAny (model Y.prog Y.w) Y.A (.compStart (two elt t1 i1 ifs1 t2 i2 ifs2 scope pos) 1 j (.ref l) Y.env)
   (λ r s7=>match r with| .ok _=>∃acc C H',Inv Y pins C H' s7/\Q acc C H'| .error _=>False) s6) mD s5) mD s:=by
 have ah:=hi pins s σ H _ I h;rw[hx]at ah;refine cC ah λ xv s1 h1=>cC h1 λ aC s2 h2=>?_;obtain⟨it,fp,tn,J,H2,e,I2,T,ai,f2,q2⟩:=h2;subst e;obtain⟨W,⟨m0,w0⟩,turn⟩:=q2;have aa:∀{H':Hp},(∀b∈fp,H' b=none)->∀b∈fp,iC Y pins H' b:= λ hn b hb=>⟨hn b hb,(f2 b hb).2⟩;have loop:codeAny (model Y.prog Y.w) Y.A (.compLoop (two elt t1 i1 ifs1 t2 i2 ifs2 scope pos) 1 (.ref it) (.ref l) Y.env) (λ r s7=>match r with| .ok _=>∃acc C H',Inv Y pins C H' s7/\Q acc C H'| .error _=>False) s2:=by
  refine EN (λ n s'=>∃i C H' acc,Inv Y pins C H' s'/\tn i s'.heap/\(∀b∈fp,H' b=none)/\W i n acc C H') ?_ m0 ⟨0,σ,H2,af,I2,ai,λ b hb=>(f2 b hb).1,w0⟩;rintro n s5 ⟨i,ab,H5,acc,I5,aj,ak,w5⟩;obtain⟨aB,cs⟩:=turn i n acc ab H5 w5;rcases cs with⟨stop,q⟩|⟨go,step⟩
  .refine gA (T.done Y rfl rfl rfl hc i pins s5 ab H5 mD I5 (aa ak) aj stop) (λ r s6 hr=>?_) λ _ _ z=>z;obtain⟨rfl,I6⟩:=hr;exact⟨acc,ab,H5,I6,q⟩
  .refine gA (T.item Y rfl rfl rfl hc i pins s5 ab H5 mD I5 (aa ak) aj go) (λ r s6 hr=>?_) λ _ _ z=>z;obtain⟨u,rfl,h6⟩:=hr;refine cC h6 λ _ s7 ⟨x,H7,I7,r7,y7,ag,av⟩=>?_;have aw:=I7.pinned (aa av) (T.obj _ _ ag);have ao:=hg _ s7 ab H7 x u _ aw r7 (step x H7 y7);rw[hx]at ao;refine cC ao λ _ s8 ⟨U,H8,I8,q8⟩=>?_;have aq:=ht _ s8 U H8 _ I8 q8;rw[hx]at aq;refine cC aq λ b s9 ⟨H9,I9,q9⟩=>?_;have again:∀{Ha:Hp}{sa:Shared}{ae:List V}{m':Nat},Inv Y (pins++lq fp s7.heap) U Ha sa->m'<n->W (i+1) m' ae U Ha->
     ∃m,m<n/\∃i C H' acc,Inv Y pins C H' sa/\tn i sa.heap/\(∀b∈fp,H' b=none)/\W i m acc C H':= λ{Ha sa ae m'} Ia hm wa=>by refine⟨m',hm,i+1,U,Ha,ae,Ia.unpinned,T.keep _ _ _ ag λ b hb o e=>(Ia.pin (b,o) (QR _ (QR _ (eB hb e)))).1,λ b hb=>?_,wa⟩;obtain⟨o,e,d⟩:=T.obj _ _ ag b hb;exact(Ia.pin (b,o) (QR _ (QR _ (eB hb e)))).2.1
   cases b with
   |false=>obtain⟨m',hm,wa⟩:=q9;exact again I9 hm wa
   |true=>have ar:=he _ s9 U H9 _ I9 q9;rw[hx]at ar;refine cC ar λ y ax ⟨v,au,ay,rv,az,aA,m',hm,wa⟩=>?_;have ap:=jG _ ax U au (.ref l) [v] (.ref l) [y] (λ _ Hb=>Hb=upd au l (.lst (acc++[v]))) ay rfl (.cons rv .nil) ⟨l,acc,v,rfl,rfl,az,aA,rfl⟩;rw[hx]at ap;exact cC ap λ _ aD ⟨_,Hb,Ib,_,eb⟩=>by subst eb;exact again Ib hm wa
 exact zq loop (T.self _ 0 _ _ _ ai loop)
end
noncomputable def Bh(wi:TI)(own:Nat)(g:TG)(tt:TT)(tb:TB):TE:= λ σ H Q=>wi σ H λ J H1=>∀l,H1 l=none->∃W:Nat->Nat->List V->Hp->Prop,(∃m,W 0 m [] (upd H1 l (.lst [])))/\∀i m acc H,W i m acc H->
 H l=some (.lst acc)/\((J.stop i H/\Q (.ref l) H)\/(J.go i H/\∀x H',J.yld i H x H'->g x (σ++List.replicate own none) H' λ o H2=>tt o H2 λ b H3=>
  if b=true then tb l acc o H3 λ C U H4=>U.take σ.length=σ/\∃I,I<m/\W (i+1) I C H4
  else o.take σ.length=σ/\∃I,I<m/\W (i+1) I acc H3))
section
variable {X:Cx} {elt t1 i1 t2 i2:Expr} {ifs1 ifs2:List Expr} {scope:Scope} {pos:Pos} {N' own:List Str} {wi wi2:TI} {g g2:TG} {tt tt2:TT} {te:TE}
theorem Ao(hi:PI X t1 i1 wi)(hg:∀s H fp pins,PG (blk X N' own scope s H fp pins) t1 g)(ht:∀s H fp pins,oi (blk X N' own scope s H fp pins) ifs1 tt)(az:∀s H fp pins,PI (blk X N' own scope s H fp pins) t2 i2 wi2)(aA:∀s H fp pins,PG (blk X N' own scope s H fp pins) t2 g2)
  (aB:∀s H fp pins,oi (blk X N' own scope s H fp pins) ifs2 tt2)(he:∀s H fp pins,PE (blk X N' own scope s H fp pins) elt te)
  (hS:dv N' own X.env.scope scope=true:=by rfl)(hM:du X.N N' scope=true:=by rfl)(hk:scope.kind= .function:=by rfl)(hc:X.calm=true:=by rfl)(hs:∀x,foldedSetIterable i1 X.env x=pure x:=by intro _;rfl)(aC:∀e x,foldedSetIterable i2 e x=pure x:=by intro _ _;rfl):
  PE X (two elt t1 i1 ifs1 t2 i2 ifs2 scope pos) (Bh wi own.length g tt (My wi2 g2 tt2 te)):=by
 intro pins s σ H Q I h
 refine jF (Q:=Q) (cal:= λ X=>X.calm=true) (ob:= λ _=> .lst []) (λ _ _ _ _=>hc) hi.g hk hS hM hs (λ env l v K s=>wpAny (model X.prog X.w) X.A (assign t1 env v) (λ _ s=>wpAny (model X.prog X.w) X.A (tests ifs1 env) (λ ok s=>if ok=true then wpAny (model X.prog X.w) X.A (eval i2 env) (λ x s=>wpAny (model X.prog X.w) X.A (pyIter x) (λ j=>
  codeAny (model X.prog X.w) X.A (.compStart (two elt t1 i1 ifs1 t2 i2 ifs2 scope pos) 1 j (.ref l) env) (λ r s7=>match r with|.ok _=>K s7|.error _=>False)) mD s) mD s else K s) mD s) mD s) rfl I h (λ h=>QK h) (λ I=>I.lnew (its:=[]) .nil (QY _)) (λ I h=>AZ (aC _) I h) (λ h k=>codeAny_compStart_list h (k _)) (λ J H1 l q hn=>?_)
  λ l H' s' C m I' q hn h1 h2 h3 h4 h5=>⟨m,hn,λ h' sb=>⟨.ref l,H',I'.turned (t':=s'.toks) (λ b o hb e=>(sb.2 b hb).trans e) h1 h2 (.inr h3) h4 h5,rfl,q⟩⟩
 obtain⟨W,⟨m0,w0⟩,turn⟩:=q l hn;refine⟨λ i m H=>∃C,W i m C H,⟨m0,_,w0⟩,λ i m H⟨acc,w⟩=>(turn i m acc H w).2.imp_right λ⟨go,step⟩=>⟨go,λ x H' y s3 U fp ps s u K I r ag=>?_⟩⟩
 refine cC (hg s3 U fp pins _ s _ H' x u _ I r (step x H' y)) λ _ s8 ⟨o,H8,I8,q8⟩=>cC (ht s3 U fp pins _ s8 o H8 _ I8 q8) λ b s9 ⟨H9,I9,q9⟩=>?_;cases b with
 |false=>obtain⟨e8,m',hm,wa⟩:=q9;exact ag I9 e8 hm ⟨_,wa⟩
 |true=>refine cC (Lj (Y:=blk X N' own scope s3 U fp pins) rfl hc (az s3 U fp pins) (aA s3 U fp pins) (aB s3 U fp pins) (he s3 U fp pins) I9 q9) λ xv sA hA=>cC hA λ j sB hB=>ZQ hB λ r sC hC=>?_;cases r with
  |error e=>exact hC.elim
  |ok f=>obtain⟨aM,aO,HE,IE,eE,m',hm,wa⟩:=hC;exact ag IE eE hm ⟨_,wa⟩
end
end L2
namespace Jt
open PySem L2
noncomputable def wZ(n:Nat):Option Unit:=if n<=1000 then some ()else none
theorem nT(h:wZ n=some u):n<=1000:=by unfold wZ at h;grind
noncomputable def jg(turn:D->M (Option D))(fin:DS->Bool):List (DS->Option D)->M (List D)
 |[]=> λ C=>if fin C=true then some ([],C)else none
 |a::r=> λ C=>match a C with
  |none=>none
  |some d=>match turn d C with
   |none=>none
   |some (o,I)=>match jg turn fin r I with
    |none=>none
    |some (xs,J)=>some (o.toList++xs,J)
noncomputable def FZ(o:M jy)(turn:D->M (Option D)):M (List D):=do
 let it<- o
 let _<- lift (wZ it.1.length)
 jg turn it.2 it.1
noncomputable def nZ(gt:D->M Unit)(tt:M Bool)(inn:M (List D))(d:D):M (List D):=do
 gt d
 let b<- tt
 if b=true then inn else pure []
noncomputable def i6(own:Nat)(turn:D->M (List D))(fin:DS->Bool):List (DS->Option D)->M (List D)
 |[]=> λ o=>if fin o=true then some ([],o)else none
 |a::r=> λ o=>match a o with
  |none=>none
  |some d=>match turn d (o++List.replicate own .un)with
   |none=>none
   |some (ys,C)=>match i6 own turn fin r (C.take o.length)with
    |none=>none
    |some (xs,I)=>some (ys++xs,I)
noncomputable def pD(lo own:Nat)(o:M jy)(turn:D->M (List D)):M (List D):=do
 gF lo
 let it<- o
 let _<- lift (wZ it.1.length)
 i6 own turn it.2 it.1
section
variable {X:Cx} {elt t1 i1 t2 i2:Expr} {te:M D} {pos:Pos} {tt tt2:M Bool} {fi fi2:M jy} {gt gt2:D->M Unit}
theorem JM{lo n0:Nat}(aB:n0<=1000000){c:Ct}{q:Addr}{acc:List V}{I xs S:List D}{T:List V}{δ ag:DS}{σ:St}{H:Hp}{Q:List V->St->Hp->Prop}(s:Sl { c with Z:=upd c.Z q (.lst acc) } δ (I++S) σ (acc++T) H)(la:acc.length=I.length)(ln:acc.length<=n0)(f2:q∉c.B)(f3:c.H0 q=none)
  (e:FZ fi (cp gt tt te) δ=some (xs,ag))(k:∀aa U H',aa.length=(I++xs).length->aa.length<=n0+1000->(∀n,n<=lo->U.take n=σ.take n)->Sl { c with Z:=upd c.Z q (.lst aa) } ag ((I++xs)++S) U (aa++T) H'->Q aa U H'):
  My (Mj fi) (JB lo gt) (pX tt) (tM te) q acc σ H Q:=by
 obtain⟨it,aj,e1,e⟩:=bind_some e;obtain⟨u',av,e2,e⟩:=bind_some e;obtain⟨e3,rfl⟩:=bt e2;have ak:=nT e3;refine⟨_,δ,I++S,acc++T,it,aj,s,e1,λ J Sx Tx H1 l hJ s1=>?_⟩;obtain⟨items,fin⟩:=it;dsimp only at e ak;refine⟨λ i m acc U H=>∃ab C ah,m=items.length-i/\i<=items.length/\acc.length=C.length/\acc.length<=n0+i/\(∀n,n<=lo->U.take n=σ.take n)/\Sl { c with Z:=upd c.Z q (.lst acc) } ab (C++(Sx++S)) U (acc++(Tx++T)) H/\
  jg (cp gt tt te) fin (items.drop i) ab=some (ah,ag)/\C++ah=I++xs,⟨_,aj,I,xs,rfl,QY _,la,ln,λ _ _=>rfl,s1.rot l la,e,rfl⟩,?_⟩;rintro i m acc U H ⟨ab,C,ah,rfl,hi,la,li,ao,s,em,ex⟩;refine⟨s.zz q _ bB,?_⟩;have sr:=s.rot la l;by_cases ae:i<items.length;. rw[Q4 ae]at em;unfold jg at em;cases ea:items[i] ab with
  |none=>rw[ea]at em;cases em
  |some d=>rw[ea]at em;dsimp only at em;cases et:cp gt tt te d ab with
   |none=>rw[et]at em;cases em
   |some p=>obtain⟨o,aw⟩:=p;rw[et]at em;dsimp only at em;cases ec:jg (cp gt tt te) fin (items.drop (i+1)) aw with
    |none=>rw[ec]at em;cases em
    |some p=>obtain⟨aq,av⟩:=p;rw[ec]at em;cases em;obtain⟨u1,ar,ax,et⟩:=bind_some et;obtain⟨b,ai,ay,et⟩:=bind_some et;obtain⟨go,az⟩:=(hJ { c with Z:=upd c.Z q (.lst acc) } ab (C++S) U (acc++T) H i sr).1 items[i] d (kW ae) ea;refine .inr ⟨go,λ x H' y=>?_⟩;refine⟨{ c with Z:=upd c.Z q (.lst acc) },ab,Sx++(C++S),Tx++(acc++T),d,ar,az x H' y,ax,λ aA H2 hn s2=>?_⟩;have af:∀n,n<=lo->aA.take n=σ.take n:= λ n h=>(hn n h).trans (ao n h);refine⟨{ c with Z:=upd c.Z q (.lst acc) },ar,Sx++(C++S),Tx++(acc++T),b,ai,s2,ay,λ H3 s3=>?_⟩;cases b with
     |true=>obtain⟨y1,au,ey,et⟩:=bind_some et;obtain⟨rfl,rfl⟩:=bg et;refine⟨{ c with Z:=upd c.Z q (.lst acc) },ai,Sx++(C++S),Tx++(acc++T),y1,au,s3,ey,λ v H4 s4=>?_⟩;refine⟨s4.zz q _ bB,by unfold sizeLine;omega,items.length-(i+1),by omega,au,C++[y1],aq,rfl,ae,by simp[la],by simp;omega,af,?_,ec,by rw[<- ex];simp⟩;have s6:=Sl.hideSet (.lst (acc++[v])) s4 f2 f3;refine s6.stk ?_;have h1:=s6.st.head;have h2:=s6.st.tail.left l;have h3:=s6.st.tail.right l;exact((h3.left la).append (.cons h1 .nil)).append (h2.append (h3.right la))
     |false=>obtain⟨rfl,rfl⟩:=bg et;exact⟨items.length-(i+1),by omega,ai,C,aq,rfl,ae,la,by omega,af,s3.rot l la,ec,ex⟩
 .have ei:i=items.length:=by omega
  subst ei;rw[Z4]at em;unfold jg at em;by_cases hf:fin ab=true;. rw[fD hf]at em;cases em;rw[Z1]at ex;subst ex;refine .inl ⟨(hJ { c with Z:=upd c.Z q (.lst acc) } _ (_++S) U (acc++T) H _ sr).2 rfl hf,k acc U H la (by omega) ao ?_⟩;exact s.stk ((s.st.left la).append ((s.st.right la).right l))
  .rw[QB hf]at em;cases em
theorem xm:∀σ H Q,GP (pD lo own fi (nZ gt tt (FZ fi2 (cp gt2 tt2 te)))) σ H Q->Bh (J9 fi) own (JB lo gt) (pX tt) (My (Mj fi2) (JB lo gt2) (pX tt2) (tM te)) σ H Q:= λ σ H Q ⟨c,ae,S,T,xs,aq,s0,e,k⟩=>by
 obtain⟨u,ar,e0,e⟩:=bind_some e;have I:σ.length=lo/\ae=ar:=by
  unfold gF at e0;split at e0;. cases e0;exact⟨by rw[<- s0.len];assumption,rfl⟩
  .cases e0
 obtain⟨I,rfl⟩:=I;obtain⟨it,af,e1,e⟩:=bind_some e;obtain⟨u',au,e2,e⟩:=bind_some e;obtain⟨e3,rfl⟩:=bt e2;have ag:=nT e3;refine⟨c,ae,S,T,it,af,s0,e1,λ J Sx Tx H1 l hJ s1 q hq=>?_⟩;obtain⟨items,fin⟩:=it;dsimp only at e ag;obtain⟨f1,f2,f3⟩:=s1.fresh hq;refine⟨λ i m acc H=>∃C o ab,m=items.length-i/\i<=items.length/\acc.length=o.length/\acc.length<=1000*i/\Sl { c with Z:=upd c.Z q (.lst acc) } C (o++(Sx++S)) σ (acc++(Tx++T)) H/\
  i6 own (nZ gt tt (FZ fi2 (cp gt2 tt2 te))) fin (items.drop i) C=some (ab,aq)/\o++ab=xs,⟨_,af,[],xs,rfl,QY _,rfl,xS _,s1.hide hq,e,rfl⟩,?_⟩;rintro i m acc H ⟨C,o,ab,rfl,hi,la,li,s,em,ex⟩;refine⟨s.zz q _ bB,?_⟩;have sr:=s.rot la l;by_cases U:i<items.length;. rw[Q4 U]at em;unfold i6 at em;cases ea:items[i] C with
  |none=>rw[ea]at em;cases em
  |some d=>rw[ea]at em;dsimp only at em;cases et:nZ gt tt (FZ fi2 (cp gt2 tt2 te)) d (C++List.replicate own .un)with
   |none=>rw[et]at em;cases em
   |some p=>obtain⟨ys,ah⟩:=p;rw[et]at em;dsimp only at em;cases ec:i6 own (nZ gt tt (FZ fi2 (cp gt2 tt2 te))) fin (items.drop (i+1)) (ah.take C.length)with
    |none=>rw[ec]at em;cases em
    |some p=>
     obtain⟨ai,au⟩:=p;rw[ec]at em;cases em;obtain⟨u1,aj,av,et⟩:=bind_some et;obtain⟨b,ak,aw,et⟩:=bind_some et;obtain⟨go,ax⟩:=(hJ { c with Z:=upd c.Z q (.lst acc) } C (o++S) (acc++T) H i sr).1 items[i] d (kW U) ea;refine .inr ⟨go,λ x H' y=>?_⟩;refine⟨{ c with Z:=upd c.Z q (.lst acc) },C++List.replicate own .un,Sx++(o++S),Tx++(acc++T),d,aj,(ax x H' y).ext own,av,λ ay H2 hn s2=>?_⟩;have ht:ay.take σ.length=σ:=by rw[hn _ (WN I)];exact JP rfl
     refine⟨{ c with Z:=upd c.Z q (.lst acc) },aj,Sx++(o++S),Tx++(acc++T),b,ak,s2,aw,λ H3 s3=>?_⟩;have aa:C.length=σ.length:=s.len;cases b with
     |true=>
      refine JM (n0:=1000*i) (by omega) (s3.rot l la) la li f2 f3 et λ aC az H4 aA ll aB s4=>?_;have ao:az.take σ.length=σ:=by rw[aB _ (WN I)];exact ht
      refine⟨ao,items.length-(i+1),by omega,ah.take C.length,o++ys,ai,rfl,U,aA,by omega,?_,ec,by rw[<- ex,WI]⟩;have s5:=s4.cut σ.length;rw[ao,<- aa]at s5;exact s5
     |false=>obtain⟨rfl,rfl⟩:=bg et;refine⟨ht,items.length-(i+1),by omega,ak.take C.length,o,ai,rfl,U,la,by omega,?_,ec,ex⟩;have s5:=s3.cut σ.length;rw[ht,<- aa]at s5;exact s5.rot l la
 .have ei:i=items.length:=by omega
  subst ei;rw[Z4]at em;unfold i6 at em;by_cases hf:fin C=true;. rw[fD hf]at em;cases em;rw[Z1]at ex;subst ex;refine .inl ⟨(hJ { c with Z:=upd c.Z q (.lst acc) } _ (o++S) (acc++T) H _ sr).2 rfl hf,k q acc H la ?_ f1 f2 f3⟩;exact s.stk ((s.st.left la).append ((s.st.right la).right l))
  .rw[QB hf]at em;cases em
variable {N' own:List Str} {scope:Scope} {ifs1 ifs2:List Expr} {lo:Nat}
theorem z3(U:DC X t1 i1 fi)(hg:∀s H fp pins,DG (blk X N' own scope s H fp pins) lo t1 gt)(ht:∀s H fp pins,oi (blk X N' own scope s H fp pins) ifs1 (pX tt))(o:∀s H fp pins,DI (blk X N' own scope s H fp pins) t2 i2 fi2)(C:∀s H fp pins,DG (blk X N' own scope s H fp pins) lo t2 gt2)
  (I:∀s H fp pins,oi (blk X N' own scope s H fp pins) ifs2 (pX tt2))(he:∀s H fp pins,DE (blk X N' own scope s H fp pins) elt te)
  (hS:dv N' own X.env.scope scope=true:=by rfl)(hM:du X.N N' scope=true:=by rfl)(hk:scope.kind= .function:=by rfl)(hc:X.calm=true:=by rfl)(hs:∀x,foldedSetIterable i1 X.env x=pure x:=by intro _;rfl)(J:∀e x,foldedSetIterable i2 e x=pure x:=by intro _ _;rfl):
  DF X (.ListComp elt [⟨t1,i1,ifs1,0⟩,⟨t2,i2,ifs2,0⟩] scope pos) (pD lo own.length fi (nZ gt tt (FZ fi2 (cp gt2 tt2 te)))):=cM (Ao U hg ht o C I he hS hM hk hc hs J) xm
end
section
variable {δ:DS}
theorem Ho{β:Type}{fi:M jy}{turn:D->M (Option D)}{Q:List D->DS->Prop}(I:DS->Prop)(bs:List β)(U:β->D)(g:β->Option D)(h0:I δ)(hi:Ok fi δ λ it C=>it=bL (bs.map U)/\C=δ)(hn:bs.length<=1000)
  (ht:∀b∈bs,∀δ,I δ->Ok (turn (U b)) δ λ o J=>o=g b/\I J)(hQ:∀C,I C->Q (bs.filterMap g) C):Ok (FZ fi turn) δ Q:=by
 have gen:∀(es:List β)(δ:DS),(∀d∈es,d∈bs)->I δ->∃C,jg turn (λ _=>true) (bL (es.map U)).1 δ=some (es.filterMap g,C)/\I C:=by intro es;induction es with
  |nil=>intro δ _ h;exact⟨δ,rfl,h⟩
  |cons d es ih=>intro δ hs h;obtain⟨o,J,e1,e0,h2⟩:=ht d (hs d uL) δ h;obtain⟨C,e3,h3⟩:=ih J (λ x hx=>hs x (uN _ hx)) h2;refine⟨C,?_,h3⟩;show jg turn (λ _=>true) ((λ _=>some (U d))::(bL (es.map U)).1) δ=_;unfold jg;grind
 unfold FZ;simp;refine hi.mono λ it C ⟨e1,e2⟩=>?_;subst e1 e2;obtain⟨J,e3,h3⟩:=gen bs C (λ _ h=>h) h0;exact fG (a:=()) (by unfold wZ;rw[fD (by simpa[bL]using hn)]) ⟨_,_,e3,hQ _ h3⟩
theorem AE{α:Type}{lo own:Nat}{J:M jy}{turn:D->M (List D)}{Q:List D->DS->Prop}(as:List α)(e:α->D)(f:α->List D)(hl:δ.length=lo)(hi:Ok J δ λ it C=>it=bL (as.map e)/\C=δ)(hn:as.length<=1000)
  (ht:∀a∈as,Ok (turn (e a)) (δ++List.replicate own .un) λ o I=>o=f a/\I.take lo=δ)(hQ:Q (as.flatMap f) δ):Ok (pD lo own J turn) δ Q:=by
 have gen:∀es:List α,(∀d∈es,d∈as)->i6 own turn (λ _=>true) (bL (es.map e)).1 δ=some (es.flatMap f,δ):=by intro es;induction es with
  |nil=>intro _;rfl
  |cons d es ih=>intro hs;obtain⟨o,I,U,e0,e2⟩:=ht d (hs d uL);show i6 own turn (λ _=>true) ((λ _=>some (e d))::(bL (es.map e)).1) δ=_;unfold i6;grind
 unfold pD;simp;refine⟨(),δ,by unfold gF;rw[fD hl],hi.mono λ it C ⟨U,e2⟩=>?_⟩;subst U e2;exact fG (a:=()) (by unfold wZ;rw[fD (by simpa[bL]using hn)]) ⟨_,_,gen as λ _ h=>h,hQ⟩
end
mutual
noncomputable def py:D->PyData
 | .non=>.none
 | .bl b=>.bool b
 | .int i=>.int i
 | .str x=>.str x
 | .tup xs=>.tuple (MZ xs)
 | .lst xs=>.list (MZ xs)
 | .dct=>.dict []
 | .dic _=>.dict []
 | .dip _=>.dict []
noncomputable def MZ:List D->List PyData
 | []=>[]
 | d :: r=>py d :: MZ r
end
section
variable {δ:DS} {α:Type}
theorem oV (h:m δ=some (a,δ')) (q:Q a δ'):Ok m δ Q:=⟨a,δ',h,q⟩
theorem oBind (h:Ok m δ fun a o=>Ok (f a) o Q):Ok (m >>= f) δ Q:=cb.mpr h
theorem oPure (q:Q a δ):Ok (pure a) δ Q:=⟨a,δ,rfl,q⟩
theorem oGet (h:δ[i]? = some (.pu d)) (q:Q d δ):Ok (di i) δ Q:=kA.mpr ⟨d,h,q⟩
theorem oPeek (h:δ[i]? = some (.ow b xs)) (q:Q xs δ):Ok (dH i) δ Q:=gQ.mpr ⟨b,xs,h,q⟩
theorem oTake (h:δ[i]? = some (.ow false xs)) (q:Q xs (δ.set i .un)):Ok (oD i) δ Q:=BP.mpr ⟨xs,h,q⟩
theorem oLen (h:δ[i]? = some (.ow b xs)) (q:Q (.int xs.length) δ):Ok (wk i) δ Q:=zO.mpr ⟨b,xs,h,q⟩
theorem oLift (h:o=some a) (q:Q a δ):Ok (lift o) δ Q:=fG h q
theorem oCall (hn:ds.length=n) (h:f ds=some d) (q:Q d δ):Ok (lift (iJ n f ds)) δ Q:=fG (by simp_all) q
theorem oCallF (hn:ds.length=n) (h:f ds=some d) (q:Q d δ):Ok (lift (iJ n f ds)) δ Q:=fG (by simp_all) q
theorem oSet (h:Nat.blt i δ.length=true) (q:Q () (δ.set i (.pu d))):Ok (jk i d) δ Q:=Df.mpr ⟨VQ h,q⟩
theorem oM1(h:Ok C δ λ x o=>Ok (lift (f x)) o Q):Ok (m1 f C) δ Q:=Ks.mpr h
theorem oM2(h:Ok I δ λ x o=>Ok J o λ y C=>Ok (lift (f x y)) C Q):Ok (m2 f I J) δ Q:=uQ.mpr h
theorem oMC (h:Ok fs δ fun ds o=>Ok (lift (f ds)) o Q):Ok (mC f fs) δ Q:=GF.mpr h
theorem oMQ (h:Ok fs δ fun ds o=>Ok (lift (f ds)) o Q):Ok (mQ f fs) δ Q:=Kq.mpr h
theorem oCons(h:Ok I δ λ x o=>Ok fs o λ xs C=>Q (x::xs) C):Ok (bw I fs) δ Q:=sQ.mpr h
theorem oTup(h:Ok fs δ λ xs o=>xs.length<=100000/\Q (.tup xs) o):Ok (eS fs) δ Q:=D9.mpr (h.mono λ _ _ q=>gz.mpr q)
theorem oLst(h:Ok fs δ λ xs o=>xs.length<=100000/\Q xs o):Ok (qf fs) δ Q:=uW.mpr (h.mono λ _ _ q=>gz.mpr q)
theorem oIf (h:Ok t δ fun b o=>if b=true then Ok C o Q else Ok I o Q):Ok (EA t C I) δ Q:=tX.mpr h
theorem oAnd(h:Ok t δ λ b o=>if b=true then Ok u o Q else Q false o):Ok (FI t u) δ Q:=Dq.mpr h
theorem oOr (h:Ok t δ fun b o=>if b=true then Q true o else Ok u o Q):Ok (LJ t u) δ Q:=Ji.mpr h
theorem oNot(h:Ok t δ λ b o=>Q (!b) o):Ok (Fg t) δ Q:=DX.mpr h
theorem oAsB (q:Q b δ):Ok (mE (.bl b)) δ Q:=z_.mpr ⟨b,rfl,q⟩
theorem oAsI (q:Q (some i) δ):Ok (Mz (.int i)) δ Q:=IC.mpr ⟨i,rfl,q⟩
inductive IxE (i:Nat) (Q:D->DS->Prop) (y:D) (o:DS):Prop
 | mk (h1:o[i]? = some (.ow b xs)) (h2:i3 (.lst xs) y=some d) (q:Q d o):IxE i Q y o
inductive BxE (i n:Nat) (mf:List D->List D->Option (D × List D)) (Q:D->DS->Prop) (ds:List D) (o:DS):Prop
 | mk (h1:o[i]? = some (.ow b xs)) (h2:ds.length + 1=n) (h3:mf xs ds=some (d,C)) (q:Q d (o.set i (.ow b C))):BxE i n mf Q ds o
theorem oIxO (h0:δ[i]? = some (.ow b xs)) (h:Ok C δ (IxE i Q)):Ok (Eg i C) δ Q :=
 Fo.mpr ⟨⟨b,xs,h0⟩,h.mono fun _ _ ⟨e,h,q⟩=>⟨_,_,e,fG h q⟩⟩
theorem oBox(h:Ok fs δ (BxE i n o Q)):Ok (mJ i n o fs) δ Q:=
 CU.mpr (h.mono λ _ _ ⟨C,I,J,q⟩=>⟨_,_,C,I,(_,_),J,q⟩)
theorem oTurn{Q:Option D->DS->Prop}(h:Ok (gt d) δ λ _ C=>Ok tt C λ b o=>if b=true then Ok te o λ x I=>Q (some x) I else Q none o):Ok (cp gt tt te d) δ Q:=yE.mpr h
theorem oTg{Q:Unit->DS->Prop}(hn:ds.length=n)(h:Ok (g ds) δ Q):Ok (z9 n g (.tup ds)) δ Q:=DJ.mpr ((fD hn).mpr h)
theorem oTc{Q:Unit->DS->Prop}(h:Ok (f d) δ λ _ o=>Ok (g ds) o Q):Ok (uc f g (d::ds)) δ Q:=xt.mpr h
theorem oTn(q:Q () δ):Ok (AA []) δ Q:=zu.mpr q
theorem oIsi{Q:D->DS->Prop}(h:Ok C δ λ d o=>Q (.bl (cj T d)) o):Ok (Ei T C) δ Q:=D5.mpr h
theorem oH2{Q:α->DS->Prop}(h:Ok U δ λ h1 o=>Ok fb o λ h2 C=>Ok (rL h1) C λ x I=>Ok (rL h2) I λ y J=>Ok (lift (g x y)) J Q):Ok (DR g U fb) δ Q:=Iq.mpr h
theorem oRd{Q:D->DS->Prop}(q:Q x δ):Ok (rL (.th x)) δ Q:=IH.mpr q
theorem oRdL{Q:D->DS->Prop}(h:δ[i]?=some (.ow b xs))(q:Q (.lst xs) δ):Ok (rL (.ls i)) δ Q:=Jz.mpr ⟨b,xs,h,q⟩
theorem oOwn{Q:Hn->DS->Prop}(h:δ[i]?=some (.ow b xs))(q:Q (.ls i) δ):Ok (Dh i) δ Q:=Ey.mpr ⟨b,xs,h,q⟩
theorem oConH(h:Ok J δ λ h o=>Ok fs o λ xs C=>Ok (rL h) C λ x I=>Q (x::xs) I):Ok (tP J fs) δ Q:=xH.mpr h
theorem oSl(h:Ok J δ λ x o=>Ok U o λ l C=>Ok fh C λ h I=>Ok (lift (JZ x l h)) I Q):Ok (MH J U fh) δ Q:=HA.mpr h
theorem oStP(h:Ok C δ λ d o=>Nat.blt i o.length=true/\Q .nx (o.set i (.pu d))):Ok (uU i C) δ Q:=tU.mpr (h.mono λ _ _ q=>⟨VQ q.1,q.2⟩)
theorem oStO(h:Ok C δ λ d o=>Nat.blt i o.length=true/\Q .nx (o.set i (.ow false d))):Ok (FY i C) δ Q:=HR.mpr (h.mono λ _ _ q=>⟨VQ q.1,q.2⟩)
theorem oSq(h:Ok C δ λ d o=>Nat.blt i o.length=true/\Ok g (o.set i (.pu d)) Q):Ok (eC (uU i C) g) δ Q:=cc.mpr (oStP h)
theorem oSqO(h:Ok C δ λ d o=>Nat.blt i o.length=true/\Ok g (o.set i (.ow false d)) Q):Ok (eC (FY i C) g) δ Q:=cc.mpr (oStO h)
theorem eL{Q:Fl->DS->Prop}(h:Ok t δ λ b o=>if b=true then Ok (eC C g) o Q else Ok (eC I g) o Q):Ok (eC (EA t C I) g) δ Q:=
 cc.mpr (tX.mpr (h.mono λ b o q=>by simp_all))
theorem oSqN(h:Ok g δ Q):Ok (eC (pure .nx) g) δ Q:=cc.mpr (e_.mpr h)
theorem Nc(h:Ok f δ λ C o=>match C with| .nx=>Ok (eC g k) o Q|C=>Q C o):Ok (eC (eC f g) k) δ Q:=by refine cc.mpr (cc.mpr (h.mono λ C o q=>?_));cases C <;> first|exact cc.mp q|exact q
theorem oSqR{Q:Fl->DS->Prop}{m:M D}(h:Ok m δ λ d o=>Q (.rt d) o):Ok (eC (do let d<- m;pure (Fl.rt d)) g) δ Q:=cc.mpr (cb.mpr (h.mono λ _ _ q=>e_.mpr q))
theorem C8(ds:List D)(I:Nat->DS->Prop)(U:Ok fi δ λ it C=>it=bL ds/\C=δ)(h0:I 0 δ)
  (ht:∀k(hk:k<ds.length) δ,I k δ->Ok (gt ds[k]) δ λ _ J=>Ok body J λ fl o=>match fl with
   | .nx=>I (k+1) o
   | .ct=>I (k+1) o
   | .bk=>Ok g o Q
   | .rt d=>Q (.rt d) o
   | .rf d=>Q (.rf d) o)(hQ:∀δ,I ds.length δ->Ok g δ Q):Ok (eC (do let it<- fi;Jt.forM gt body it.2 it.1) g) δ Q:=cc.mpr (Kf ds I U h0 (λ k hk δ h=>(ht k hk δ h).mono λ _ _ h=>h.mono λ fl _ h=>by omega) hQ)
theorem oSqSP(h:Ok C δ λ d o=>Nat.blt i o.length=true/\Ok (eC g k) (o.set i (.pu d)) Q):Ok (eC (eC (uU i C) g) k) δ Q:=Nc (oStP h)
inductive PpE (i:Nat) (Q:D->DS->Prop):List D->DS->Prop
 | mk (j:Nat) (h1:o[i]? = some (.ow b xs)) (h2:j < 100000) (h3:xs[j]? = some d) (q:Q d (o.set i (.ow b (xs.eraseIdx j)))):PpE i Q [.int j] o
theorem oPop{Q:D->DS->Prop}(h0:δ[i]?=some (.ow b xs))(h:Ok fs δ (PpE i Q)):Ok (Ed i fs) δ Q:=Eo ⟨b,xs,h0⟩ (h.mono λ _ _ ⟨j,o,C,I,q⟩=>⟨j,_,_,_,rfl,o,C,I,q⟩)
inductive ApE (i:Nat) (Q:Fl->DS->Prop):List D->DS->Prop
 | mk (h1:o[i]? = some (.ow b xs)) (h2:xs.length ≤ 100000) (q:Q .nx (o.set i (.ow b (xs ++ [d])))):ApE i Q [d] o
theorem oApp{Q:Fl->DS->Prop}(h0:δ[i]?=some (.ow b xs))(h:Ok fs δ (ApE i Q)):Ok (i8 i fs) δ Q:=uE ⟨b,xs,h0⟩ (h.mono λ _ _ ⟨o,C,q⟩=>⟨_,_,_,rfl,o,C,q⟩)
theorem oSqA{Q:Fl->DS->Prop}(h0:δ[i]?=some (.ow b xs))(h:Ok fs δ (ApE i λ _ o=>Ok g o Q)):Ok (eC (i8 i fs) g) δ Q:=cc.mpr (oApp h0 (h.mono λ _ _ ⟨C,I,q⟩=>⟨C,I,q⟩))
inductive ChE (fc:M D) (r:D->D->Option D) (y:D) (Q:D->DS->Prop):D->DS->Prop
 | t (h:Ok fc o fun w J=>Ok (lift (r y w)) J Q):ChE fc r y Q (.bl true) o
 | f (q:Q (.bl false) o):ChE fc r y Q (.bl false) o
theorem oChn(h:Ok o δ λ x C=>Ok J C λ y I=>Ok (lift (U x y)) I (ChE fc r y Q)):Ok (GB U r o J fc) δ Q:=
 JT.mpr (h.mono λ _ _ h=>h.mono λ _ _ h=>h.mono λ _ _ h=>by cases h <;> assumption)
theorem oT{A B:Prop}{b:Bool}(h:b=true)(q:A):if b=true then A else B:=(fD h).mpr q
theorem oF{A B:Prop}{b:Bool}(h:b=false)(q:B):if b=true then A else B:=(QB (Bool.not_eq_true _▸h)).mpr q
theorem oL(h:Nat.ble n 100000=true)(q:A):n<=100000/\A:=⟨VQ h,q⟩
end
end Jt
namespace Jt
open PySem L2 PySem.Spec PyProof.Rows
section
variable {X:Cx} {a b c0:Expr} {fa fb fc:M D} {pos:Pos}
theorem K2{h h':Int->Int->D}(hg:∀H i j,R H (h i j) (g i j))(I:∀H i j,R H (h' i j) (g' i j))(σ:L2.St)(H:Hp)(Q:V->Hp->Prop)
  (hq:tM (GB (cZ (λ _ _=>true) h) (cZ (λ _ _=>true) h') fa fb fc) σ H Q):uv (uk g) (uk g') (tM fa) (tM fb) (tM fc) σ H Q:=by obtain⟨c,δ,S,T,d,aa,s,e,k⟩:=hq;obtain⟨x,C,e1,e⟩:=bind_some e;obtain⟨y,o,e2,e⟩:=bind_some e;obtain⟨z,ab,e3,e⟩:=bind_some e;obtain⟨e4,rfl⟩:=bt e3;obtain⟨i,j,rfl,rfl,_,rfl⟩:=ff e4;refine⟨c,δ,S,T,.int i,C,s,e1,λ v H1 s1=>⟨c,C,.int i::S,v::T,.int j,o,s1,e2,λ u H2 s2=>?_⟩⟩;refine⟨i,j,s2.st.tail.head.int,s2.st.head.int,?_⟩;have rg:=hg (eU c o σ H2) i j;cases hz:h i j with
 |bl q=>rw[hz]at e rg;refine⟨q,rg.bl,?_⟩;cases q with
  |true=>obtain⟨w,J,e5,e⟩:=bind_some e;obtain⟨e6,rfl⟩:=bt e;obtain⟨i',U,ei,rfl,_,rfl⟩:=ff e6;cases ei;exact⟨c,o,.int j:: .int i::S,u::v::T,.int U,J,s2,e5,λ w' H4 s4=>⟨j,U,s4.st.tail.head.int,s4.st.head.int,k _ _ (s4.stk (.cons (I _ _ _) s4.st.tail.tail.tail))⟩⟩
  |false=>obtain⟨rfl,rfl⟩:=bg e;exact k _ _ (s2.stk (.cons .mkB s2.st.tail.tail))
 |_=>rw[hz]at e;cases e
theorem BF{g g':Int->Int->V}{h h':Int->Int->D}(U:gG X (compareOp op) (uk g))(C:gG X (compareOp o) (uk g'))(hg:∀H i j,R H (h i j) (g i j))(I:∀H i j,R H (h' i j) (g' i j))(ha:DE X a fa)(hb:DE X b fb)(hc:DE X c0 fc)
  (hm:lastMarks [op,o] [b,c0]=false:=by with_unfolding_all rfl):DT X (.Compare a [op,o] [b,c0] pos) (GB (cZ (λ _ _=>true) h) (cZ (λ _ _=>true) h') fa fb fc >>= mE):=
 yP (zh U C ha hb hc hm) λ σ H Q ⟨c,δ,S,T,d,aa,s,e,k⟩=>by obtain⟨x,J,e1,e⟩:=bind_some e;obtain⟨rfl,rfl⟩:=jo e;exact K2 hg I σ H _ ⟨c,δ,S,T,.bl d,J,s,e1,λ v H' s'=>⟨d,s'.st.head.bl,k _ s'.pop⟩⟩
theorem Dt(o:DE X a fa)(C:DE X b fb)(I:DE X c0 fc)(hm:lastMarks [.LtE,.Lt] [b,c0]=false:=by with_unfolding_all rfl):DT X (.Compare a [.LtE,.Lt] [b,c0] pos) (GB Gu yo fa fb fc >>= mE):=BF GI we (λ _ _ _=> .mkB) (λ _ _ _=> .mkB) o C I hm
end
section
open PySem.SeqAt
open PySem.AutoSeq1 (wpAny_loadPart')
open PySem.MeetsSeq PySem.MeetsSeq2 PySem.MeetsSeq3
theorem mY(l:Addr)(items:Array Value)(n:Nat)(dd:Option Addr)(sl:Array (Option Value))(x:Value)(e:Value->Bool)(j:Nat)(hj:j<items.size)(J:e items[j]=true)(U:∀m(hm:m<items.size),m<j->e items[m]=false):
  Meets (Builtin.«tuple.index» ⟨[.ref l,x],[]⟩) (λ A R s=>s.heap.get? l=some { cls:= .type "tuple",dict:=dd,data:= .seq items n,slots:=sl }/\(∀y∈items,EqAt A.in1 s y x (e y))/\R (.ok (.ret (.int (j:Int) s.toks))) { s with toks:=s.toks+1 }):=
 .of_wp λ prog w A R s h=>by
  obtain⟨hp,g,d,tk,os⟩:=s;obtain⟨hl,he,h⟩:=h;unfold Builtin.«tuple.index»;simp only[Std.Legacy.Range.forIn_eq_forIn_range'];wp_walk using wpAny_loadPart' hl,YX _ (λ rest b s'=>b.1=none/\s'=⟨hp,g,d,tk,os⟩/\∃m,rest=List.range' m (items.size-m)/\m<=j) _;case turn=>
   rintro i rest b s' ⟨hb,rfl,m,o,hm⟩;have C:items.size-m=(items.size-(m+1))+1:=by omega
   rw[C,List.range'_succ]at o;injection o with I o;subst I;have I:i<items.size:=by omega
   have hy:items[i]?=some items[i]:=ZI I;rw[hy];have hE:=he items[i] (Array.getElem_mem I);refine zN (hE prog w _ _ ?_);by_cases q:i=j;. subst q;rw[J];wp_walk;exact⟨_,rfl,h⟩
   .rw[U i I (by omega)];wp_walk;exact⟨rfl,rfl,i+1,o,by omega⟩
  case fin=>
   rintro⟨b1,b2⟩ s' ⟨hb,rfl,m,o,hm⟩;have C:items.size-m=(items.size-(m+1))+1:=by omega
   rw[C,List.range'_succ]at o;cases o
  case h=>exact⟨rfl,rfl,0,by simp,QY _⟩
end
section
variable {X:Cx} {o e a:Expr} {es:List Expr} {to:TE} {t:TA} {name:Str} {apos cpos p:Pos} {id:String} {r:V->List V->Hp->VK->Prop} {fo:M D} {fs:M (List D)}
noncomputable def Oi(r:V->List V->Hp->VK->Prop)(to:TE)(t:TA):TE:= λ σ H Q=>to σ H λ x H1=>(∃p xs,x= .ref p/\H1 p=some (.tup xs))/\t σ H1 λ xs C=>r x xs C Q
theorem HS(slot:PySem.Slot "tuple" name id)(ab:typeOf (.builtin id)=pure (.type "method_descriptor"))(hm:JV X id r)(ho:PE X o to)(ha:PA X (e::es) t)
  (C:attributeBase o name X.env (eval o X.env)=eval o X.env:=by rfl)
  (U:((backTo cpos (starEach (e::es) X.env)).all (λ x=> !x.1)&&(backToKw cpos (keywordEach [] X.env)).all (λ x=>x.1.isSome)
   &&decide ((e::es).length+([]:List Keyword).length+(if([]:List Keyword).isEmpty then 0 else 1)<30))=true:=by rfl)
  (J:(apos.endLine==cpos.line)=true:=by rfl)(hs:starEach (e::es) X.env=(false,eval e X.env)::starEach es X.env:=by rfl)(aa:(backTo cpos (starEach es X.env)).any (·.1)=false:=by rfl):
  PE X (.Call (.Attribute o name apos) (e::es) [] cpos) (Oi r to t):=by intro pins s σ H Q I h;refine wpAny_Call_method_late C U J rfl (cC (ho pins s σ H _ I h) λ v s1 ⟨x,H1,I1,r1,ty,q1⟩=>?_);obtain⟨p,xs,rfl,hp⟩:=ty;cases r1;obtain⟨_,its,_,⟨ob,e1,e2,_⟩,ae,e3,e4⟩:=(show cN X.prog X.w H1 s1.heap p (.tup xs)from I1.hok p _ hp);refine⟨"tuple",id,PySem.F.plainAttrs_tuple,slot,ab,⟨ob,e1,e2⟩,λ a z=>by grind,?_⟩;have hA:=ha cpos pins s1 σ H1 _ I1 q1;rw[hs]at hA|-;refine Calls.callWith_builtin (by grind) (Calls.evalArgs_plain ?_);exact cC hA λ us s2 ⟨vs,H2,I2,r2,q2⟩=>hm pins s2 σ H2 (.ref p) vs (.ref p) us Q I2 rfl r2 q2
noncomputable def Fe:V->List V->Hp->VK->Prop:= λ x vs H Q=>∃(l:Addr) (ns:List Int) (c:Int),x= .ref l/\vs=[.int c]/\H l=some (.tup (ns.map V.int))/\c∈ns/\Q (.int (ns.idxOf c)) H
noncomputable def M9(c:Int):Value->Bool
 | .int i _=>i==c
 |_=>false
theorem yi:JV X "tuple.index" Fe:=by
 intro pins s σ H x vs v us Q I rx rv h;obtain⟨l,ns,c,rfl,rfl,hH,hc,q⟩:=h;cases rx;obtain⟨u,rfl,J⟩:=rv.one;obtain⟨tc,rfl⟩:=J;obtain⟨its,r,pl,_⟩:=I.tuple (.of hH);obtain⟨⟨cls,dd,data,sl⟩,e0,e1,n,e2⟩:=id pl;subst e1 e2;have hl:its.length=ns.length:=by rw[<- r.length,wF]
 have hj:ns.idxOf c<ns.length:=Y5.mpr hc;have at_:∀m(hm:m<ns.length),∃t,its[m]?=some (.int ns[m] t):= λ m hm=>by obtain⟨u,e,J⟩:=r.get (i:=m) (x:= .int ns[m]) (by simp);obtain⟨t,rfl⟩:=J;exact⟨t,e⟩
 refine call_meets PySem.F.slot_tuple_index ⟨_,e0,rfl⟩ PySem.F.entry_tuple_index (PySem.F.args_tuple_index_2 _ _) (mY l its.toArray n dd sl (.int c tc) (M9 c) (ns.idxOf c) (by simp;omega) ?_ ?_) ⟨e0,λ y hy=>?_,?_⟩;. obtain⟨t,e⟩:=at_ _ hj;have:=(xZ.mp e).2;simp;rw[this];simp[M9]
 .intro m hm U;have C:m<ns.length:=by omega
  obtain⟨t,e⟩:=at_ _ C;have:=(xZ.mp e).2;simp;rw[this];have ne:ns[m]≠c:= λ z=>by have:=List.not_of_lt_findIdx (p:= λ x=>x==c) (xs:=ns) (i:=m) U;simp[z]at this
  simp[M9,ne]
 .obtain⟨m,hm⟩:=WY.mp (show y∈its by simpa using hy);have C:m<ns.length:=by rw[<- hl];exact(xZ.mp hm).1
  obtain⟨t,e⟩:=at_ _ C;rw[hm]at e;cases e;exact SeqAt.EqAt.int_int ns[m] t c tc
 .exact⟨.int (ns.idxOf c),H,I.tok _,⟨_,rfl⟩,q⟩
noncomputable def pS(x:D)(ds:List D):Option D:=match x,ds with
 | .tup es,[.int c]=>(cz es).bind λ ns=>if c∈ns then some (.int (ns.idxOf c))else none
 |_,_=>none
noncomputable def K6(fo:M D)(fs:M (List D)):M D:=do
 let x<- fo
 let ds<- fs
 lift (pS x ds)
theorem sD(ho:DE X o fo)(ha:DA X [a] fs)
  (I:attributeBase o "index" X.env (eval o X.env)=eval o X.env:=by rfl)
  (U:((backTo cpos (starEach [a] X.env)).all (λ x=> !x.1)&&(backToKw cpos (keywordEach [] X.env)).all (λ x=>x.1.isSome)
   &&decide (([a]:List Expr).length+([]:List Keyword).length+(if([]:List Keyword).isEmpty then 0 else 1)<30))=true:=by rfl)
  (J:(apos.endLine==cpos.line)=true:=by rfl)(hs:starEach [a] X.env=[(false,eval a X.env)]:=by rfl):
  DE X (.Call (.Attribute o "index" apos) [a] [] cpos) (K6 fo fs):=
 cM (HS PySem.F.slot_tuple_index PySem.F.type_tuple_index yi ho ha I U J hs rfl) λ σ H Q ⟨c,δ,S,T,d,ae,s,e,k⟩=>by
  obtain⟨x,aa,e1,e⟩:=bind_some e;obtain⟨ds,ab,e2,e⟩:=bind_some e;obtain⟨C,rfl⟩:=bt e;unfold pS at C;split at C;. rename_i es i af;cases q:cz es with
   |none=>rw[q]at C;cases C
   |some ns=>
    rw[q]at C;simp only[Option.bind_some]at C;split at C;. rename_i hc;cases C;refine⟨c,δ,S,T,_,aa,s,e1,λ v H1 s1=>?_⟩;obtain⟨p,vs,rfl,h1,h2⟩:=s1.st.head.tup;refine⟨⟨p,vs,rfl,bK _ _ h1⟩,c,aa,_,_,_,ab,s1,e2,λ ag H2 l s2=>?_⟩;obtain⟨v2,rfl,r2⟩:=wK (s2.st.left l);cases r2.int;obtain⟨p2,ws,ez,h3,h4⟩:=(s2.st.right l).head.tup;cases ez;have:=eY h4 q;subst this;exact⟨p,ns,i,rfl,rfl,bK _ _ h3,hc,k _ _ (s2.stk (.cons .mkI (s2.st.right l).tail))⟩
    simp_all
  grind
end
end Jt
namespace Jt
open PySem L2
structure Kn (P:Program) (w:World) (K:PySem.W.Frag) (mg:Str->Option Value) (base:Heap) (CX:xY) (k:Nat) (x:Str) (ps:List Str) (sp:Sp):Prop where
 ex:∃f fd,d8 P w K mg base CX k f fd ps sp∧mg x=some (.ref f)∧PySem.W.keepIn K (.ref f)=true∧Binds K fd ps []
structure Ent (K:PySem.W.Frag) (mg:Str->Option Value) (x:Str) (ps:List Str) (st:Stmt):Prop where
 ex:∃f fd,yn K x x st f fd∧mg x=some (.ref f)∧Binds K fd ps []
structure Fh (K:PySem.W.Frag) (x:Str) (st:Stmt):Prop where
 ex:∃(f:Addr) (oc:Value) (od:Option Addr) (kV dc pm:Value) (an:Option Addr) (cd ct:Value) (sl:Array (Option Value)),PySem.W.nsIn K mainGlobals x=some (some (.ref f))∧K.lookup f=some ⟨oc,od,.func (PySem.W.fnOf x x (eD st) (bR st) (bj st) .none kV dc pm an cd ct),sl⟩∧PySem.W.codeIn K cd x=true∧PySem.W.keepIn K (.ref f)=true
theorem fh_mk {kV dc pm cd ct:Value} (a:PySem.W.nsIn K mainGlobals x=some (some (.ref f))) (l:K.lookup f=some ⟨oc,od,.func (PySem.W.fnOf x x (eD st) (bR st) (bj st) .none kV dc pm an cd ct),sl⟩) (c:PySem.W.codeIn K cd x=true) (k:PySem.W.keepIn K (.ref f)=true):Fh K x st:=⟨f,oc,od,kV,dc,pm,an,cd,ct,sl,a,l,c,k⟩
section
variable {P:Program} {w:World} {K:PySem.W.Frag} {mg:Str->Option Value} {base:Heap} {CX:xY} {j k:Nat} {x:Str} {ps N:List Str} {sp:Sp} {st:Stmt} {body:M Fl}
theorem Kn.up(G:Kn P w K mg base CX j x ps sp)(h:j<=k):Kn P w K mg base CX k x ps sp:=let⟨⟨f,fd,F,m⟩⟩:=G;⟨⟨f,fd,F.mono h,m⟩⟩
theorem ent(X:K.In h)(G:h.Ns mainGlobals mg)(e:Fh K x st)(C:∀(kV doc pm:Value)(an:Option Addr)(cdv o:Value)(us:List Value),us.length=ps.length->bindArgs (PySem.W.fnOf x x (eD st) (bR st) (bj st) .none kV doc pm an cdv o) ⟨us,[]⟩=pure (ps.zip us)):Ent K mg x ps st:=by obtain⟨⟨f,I,od,kV,J,pm,an,cd,o,sl,a,l,c,k⟩⟩:=e;have F:=sY (st:=st) l c k;exact⟨⟨f,_,F,Q8 X G a,F.binds C⟩⟩
theorem OB(E:Ent K mg x ps st)(S:cx N ps (bj st))(o:∀(f:Addr)(cdv:Value)(A:Around)(outer:List Env)(s:Shared)(H:Hp)(E:XK),cu k (A.deeper (PyProof.Rows.envOfC x (bj st) s.heap.objs.size f cdv))->pZ (fB fS P w K mg base N x (bj st) f cdv A outer s H E).nox (bR st) body):
  Kn P w K mg base fS (k+1) x ps (F7 ps.length (bU N body)):=let⟨⟨f,fd,F,m,b⟩⟩:=E;⟨⟨f,fd,N3 F S (o f),m,F.kp,b⟩⟩
theorem Ov(E:Ent K mg x ps st)(S:cx N ps (bj st))(o:∀(f:Addr)(cdv:Value)(A:Around)(outer:List Env)(s:Shared)(H:Hp)(E:XK),cu k (A.deeper (PyProof.Rows.envOfC x (bj st) s.heap.objs.size f cdv))->pZ (fB fS P w K mg base N x (bj st) f cdv A outer s H E).nox (bR st) body):
  Kn P w K mg base fS (k+1) x ps (J3 ps.length (ki N body)):=let⟨⟨f,fd,F,m,b⟩⟩:=E;⟨⟨f,fd,Om F S (o f),m,F.kp,b⟩⟩
theorem OA(E:Ent K mg x ps st)(S:cx N ps (bj st))(o:∀(f:Addr)(cdv:Value)(A:Around)(outer:List Env)(s:Shared)(H:Hp)(E:XK),cu k (A.deeper (PyProof.Rows.envOfC x (bj st) s.heap.objs.size f cdv))->pZ (fB fS P w K mg base N x (bj st) f cdv A outer s H E).nox (bR st) body):
  Kn P w K mg base fS (k+1) x ps (JX ps.length (fz N body)):=let⟨⟨f,fd,F,m,b⟩⟩:=E;⟨⟨f,fd,Ob F S (o f),m,F.kp,b⟩⟩
theorem M7{l:PySem.W.OpenLaw}{o:Addr}{st:Stmt}(X:K.In h)(G:h.Ns mainGlobals mg)(C:mg "law"=some (.ref o))(e:Fh K "law" st)(U:∀(kV I pm:Value)(an:Option Addr)(cd J:Value)(s:Shared)(v:Value),BindsTo s (PySem.W.fnOf "law" "law" (eD st) (bR st) (bj st) .none kV I pm an cd J) ⟨[v],[]⟩ [("_law_script",v)])
  {N:List Str}{body:M Fl}(S:cx N ["_law_script"] (bj st))
  (hG:∀(base:Heap)(f:Addr)(cdv:Value)(A:Around)(outer:List Env)(s:Shared)(H:Hp)(E:XK),cu k (A.deeper (PyProof.Rows.envOfC "law" (bj st) s.heap.objs.size f cdv))->pZ (fB fS l.prog w K mg base N "law" (bj st) f cdv A outer s H E).nox (bR st) body)
  {Sq:Sp}(hS:∀base f fd,d8 l.prog w K mg base fS (k+1) f fd ["_law_script"] (F7 1 (bU N body))->d8 l.prog w K mg base fS (k+1) f fd ["_law_script"] Sq):
  ∃fd:FuncData,(∀(s:Shared)(v:Value),BindsTo s fd ⟨[v],[]⟩ [("_law_script",v)])/\∀base:Heap,K.In base->base.Ns mainGlobals mg->d8 l.prog w K mg base fS (k+1) o fd ["_law_script"] Sq:=by obtain⟨⟨f,oc,od,kV,I,pm,an,cd,J,sl,a,l,c,kp⟩⟩:=e;have e:=C.symm.trans (Q8 X G a);cases e;exact⟨_,U kV I pm an cd J,λ base _ _=>hS base _ _ (N3 (sY (st:=st) l c kp) S (hG base o))⟩
end
section
variable {X:Cx} {k:Nat} {x:Str} {ps:List Str} {a:Expr} {es:List Expr} {fs:M (List D)} {p pos:Pos}
theorem bC{n:Nat}(G:Kn X.prog X.w X.K X.mg X.base fS k x ps (F7 n mf))(I:cu k X.A)(J:DA X (a::es) fs)
  (U:Gl X x:=by rfl)(o:(x==("__debug__":Str))=false:=by decide)(he:starEach (a::es) X.env=(false,eval a X.env)::starEach es X.env:=by rfl)(C:(backTo pos (starEach es X.env)).any (·.1)=false:=by rfl):
  DE X (.Call (.Name x p) (a::es) [] pos) (mC (λ ds=>if ds.length=n then mf ds else none) fs):=let⟨⟨_,_,F,m,c,b⟩⟩:=G;C5 F I m c b J U o he C
theorem qO{n:Nat}(G:Kn X.prog X.w X.K X.mg X.base fS k x ps (J3 n mf))(I:cu k X.A)(J:DA X (a::es) fs)
  (U:Gl X x:=by rfl)(o:(x==("__debug__":Str))=false:=by decide)(he:starEach (a::es) X.env=(false,eval a X.env)::starEach es X.env:=by rfl)(C:(backTo pos (starEach es X.env)).any (·.1)=false:=by rfl):
  DF X (.Call (.Name x p) (a::es) [] pos) (mC (λ ds=>if ds.length=n then mf ds else none) fs):=let⟨⟨_,_,F,m,c,b⟩⟩:=G;Dx F I m c b J U o he C
theorem bu(i:Nat){mf:List D->List D->Option (D×List D)}{n:Nat}{y:Str}{py:Pos}(G:Kn X.prog X.w X.K X.mg X.base fS k x ps (JX n mf))(J:cu k X.A)(U:DA X es fs)
  (hN:X.N[i]?=some y:=by rfl)(hv:oW X.env.scope y:=by first | exact Or.inl rfl | exact Or.inr (Or.inl rfl) | exact Or.inr (Or.inr rfl))(hd:(y==("__debug__":Str))=false:=by decide)(o:(y==("__classdict__":Str))=false:=by decide)
  (hg:Gl X x:=by rfl)(C:(x==("__debug__":Str))=false:=by decide)(he:starEach (.Name y py::es) X.env=(false,eval (.Name y py) X.env)::starEach es X.env:=by rfl)(I:(backTo pos (starEach es X.env)).any (·.1)=false:=by rfl):
  DE X (.Call (.Name x p) (.Name y py::es) [] pos) (do let _<- dH i;mJ i n mf fs):=let⟨⟨_,_,F,m,c,b⟩⟩:=G;x5 i F J m c b U hN hv hd o hg C he I
theorem qG{p:Pos}(h:∃t,X.mg x=some (.int v t))(o:Gl X x:=by rfl)(hd:(x==("__debug__":Str))=false:=by decide):DE X (.Name x p) (pure (.int v)):=let⟨_,m⟩:=h;Aw m o hd
end
section
variable {P:Program} {w:World} {K:PySem.W.Frag} {mg:Str->Option Value} {base:Heap} {k:Nat} {x:Str} {ps N:List Str} {st:Stmt}
theorem Oz(E:Ent K mg x ps st)(S:cx N ps (bj st))(o:∀(f:Addr)(cdv:Value)(A:Around)(outer:List Env)(s:Shared)(H:Hp)(E:XK),cu k (A.deeper (PyProof.Rows.envOfC x (bj st) s.heap.objs.size f cdv))->nc (fB (sV P w) P w K mg base N x (bj st) f cdv A outer s H E) true (bR st) body):
  Kn P w K mg base (sV P w) (k+1) x ps (J1 ps.length (fY N body)):=let⟨⟨f,fd,F,m,b⟩⟩:=E;⟨⟨f,fd,fnX F S (o f),m,F.kp,b⟩⟩
end
section
variable {X:Cx} {k:Nat} {x:Str} {ps:List Str} {a:Expr} {es:List Expr} {p pos:Pos}
theorem f7 (G:Kn X.prog X.w X.K X.mg X.base (sV X.prog X.w) k x ps (J1 n mf)) (hr:cu k X.A) (ha:LH X (a :: es) fxs)
  (hg:Gl X x:=by rfl) (hdb:(x == ("__debug__":Str))=false:=by decide) (he:starEach (a :: es) X.env=(false,eval a X.env) :: starEach es X.env:=by rfl) (hpl:(backTo pos (starEach es X.env)).any (·.1)=false:=by rfl) :
  JY X (.Call (.Name x p) (a :: es) [] pos) (bX fxs fun ds=>lift (if ds.length=n then mf ds else none)):=let ⟨⟨_,_,F,m,c,b⟩⟩:=G;yI F hr m c b ha hg hdb he hpl
end
section
variable {P:Program} {w:World} {K:PySem.W.Frag} {mg:Str->Option Value} {base:Heap} {CX:xY} {j k:Nat} {x:Str} {ps:List Str} {sp:Sp} {st:Stmt}
theorem Kn.u (G:Kn P w K mg base CX j x ps sp) (h:j ≤ k:=by decide):Kn P w K mg base CX k x ps sp:=G.up h
theorem J5 {P:List Value->Prop} (h:P []) (us:List Value) (e:us.length=0):P us:=by cases us with | nil=>exact h | cons=>cases e
theorem ub {P:List Value->Prop} {n:Nat} (h:∀a us,us.length=n->P (a :: us)) (us:List Value) (e:us.length=n + 1):P us:=by cases us with | nil=>cases e | cons a r=>exact h a r (Nat.succ.inj e)
theorem dh {h:Heap} (X:K.In h) (G:h.Ns mainGlobals mg) (e:Fh K x st) (hb:∀(kV doc pm:Value) (an:Option Addr) (cdv ct:Value) (us:List Value),us.length=ps.length->bindArgs (PySem.W.fnOf x x (eD st) (bR st) (bj st) .none kV doc pm an cdv ct) ⟨us,[]⟩=pure (ps.zip us):= by
  intro _ _ _ _ _ _
  first
  | exact J5 rfl
  | exact ub fun _=>J5 rfl
  | exact ub fun _=>ub fun _=>J5 rfl
  | exact ub fun _=>ub fun _=>ub fun _=>J5 rfl
  | exact ub fun _=>ub fun _=>ub fun _=>ub fun _=>J5 rfl
  | exact ub fun _=>ub fun _=>ub fun _=>ub fun _=>ub fun _=>J5 rfl):Ent K mg x ps st:=ent X G e hb
end
noncomputable abbrev Zq:=Shared × Hp × List Addr × List (Addr × Obj)
noncomputable abbrev bk (X:Cx) (N' own:List Str) (scope:Scope) (z:Zq):Cx:=blk X N' own scope z.1 z.2.1 z.2.2.1 z.2.2.2
structure Cp (X:Cx) (elt tg iter:Expr) (ifs:List Expr) (scope:Scope) (N' own:List Str) (lo n:Nat) (fi:M jy) (gt:D->M Unit) (tt:M Bool) (te:M D):Prop where
 hn:own.length=n
 hi:DC X tg iter fi
 hg:∀z,DG (bk X N' own scope z) lo tg gt
 ht:∀z,oi (bk X N' own scope z) ifs (pX tt)
 he:∀z,DE (bk X N' own scope z) elt te
 hS:dv N' own X.env.scope scope=true
 hM:du X.N N' scope=true
 hk:scope.kind=.function
 hc:X.calm=true
 hs:∀x,foldedSetIterable iter X.env x=pure x
section
variable {X:Cx} {elt tg iter t:Expr} {ifs:List Expr} {scope:Scope} {fi:M jy} {gt:D->M Unit} {tt:M Bool} {te:M D} {pos p:Pos}
theorem NR (N' own:List Str) (lo:Nat) {n:Nat} (hi:DC X tg iter fi) (hg:(N' ++ own).Nodup->∀z,DG (bk X N' own scope z) lo tg gt) (ht:∀z,oi (bk X N' own scope z) ifs (pX tt)) (he:∀z,DE (bk X N' own scope z) elt te) (nd:(N' ++ own).Nodup:=by decide +kernel) (hn:own.length=n:=by rfl)
  (hS:dv N' own X.env.scope scope=true:=by rfl) (hM:du X.N N' scope=true:=by rfl) (hk:scope.kind=.function:=by rfl) (hc:X.calm=true:=by rfl) (hs:∀x,foldedSetIterable iter X.env x=pure x:=by intro _;rfl):Cp X elt tg iter ifs scope N' own lo n fi gt tt te:=⟨hn,hi,hg nd,ht,he,hS,hM,hk,hc,hs⟩
theorem B5 (N':List Str) (x:Str) (lo:Nat) (hi:DC X (.Name x p) iter fi) (ht:∀z,DT (bk X N' [x] scope z) t tt) (he:∀z,DE (bk X N' [x] scope z) elt te) (nd:(N' ++ [x]).Nodup:=by decide +kernel) (h1:(N' ++ [x])[lo]? = some x:=by rfl) (h2:∀z,Loc (bk X N' [x] scope z).env.scope x:=by intro _;first | exact Or.inl rfl | exact Or.inr rfl)
  (h3:∀z,(bk X N' [x] scope z).fn x=true ∨ (bk X N' [x] scope z).env.scope.names.lookup x=some .local:=by intro _;first | exact .inl rfl | exact .inr rfl)
  (hS:dv N' [x] X.env.scope scope=true:=by rfl) (hM:du X.N N' scope=true:=by rfl) (hk:scope.kind=.function:=by rfl) (hc:X.calm=true:=by rfl) (hs:∀x,foldedSetIterable iter X.env x=pure x:=by intro _;rfl):Cp X elt (.Name x p) iter [t] scope N' [x] lo 1 fi (jk lo) tt te :=
 ⟨rfl,hi,fun z=>cg lo nd (xS _) h1 (h2 z) (h3 z),fun z=>E2 (ht z),he,hS,hM,hk,hc,hs⟩
theorem mG (N':List Str) (x:Str) (lo:Nat) (hi:DC X (.Name x p) iter fi) (he:∀z,DE (bk X N' [x] scope z) elt te) (nd:(N' ++ [x]).Nodup:=by decide +kernel) (h1:(N' ++ [x])[lo]? = some x:=by rfl) (h2:∀z,Loc (bk X N' [x] scope z).env.scope x:=by intro _;first | exact Or.inl rfl | exact Or.inr rfl)
  (h3:∀z,(bk X N' [x] scope z).fn x=true ∨ (bk X N' [x] scope z).env.scope.names.lookup x=some .local:=by intro _;first | exact .inl rfl | exact .inr rfl)
  (hS:dv N' [x] X.env.scope scope=true:=by rfl) (hM:du X.N N' scope=true:=by rfl) (hk:scope.kind=.function:=by rfl) (hc:X.calm=true:=by rfl) (hs:∀x,foldedSetIterable iter X.env x=pure x:=by intro _;rfl):Cp X elt (.Name x p) iter [] scope N' [x] lo 1 fi (jk lo) (pure true) te :=
 ⟨rfl,hi,fun z=>cg lo nd (xS _) h1 (h2 z) (h3 z),fun _=>ik,he,hS,hM,hk,hc,hs⟩
variable {N' own:List Str} {lo n:Nat}
theorem cW (c:Cp X elt tg iter ifs scope N' own lo n fi gt tt te):DF X (.ListComp elt [⟨tg,iter,ifs,0⟩] scope pos) (dG lo n fi (cp gt tt te)):= by
 obtain ⟨rfl,hi,hg,ht,he,hS,hM,hk,hc,hs⟩:=c
 exact D0 hi (fun s H fp pins=>hg (s,H,fp,pins)) (fun s H fp pins=>ht (s,H,fp,pins)) (fun s H fp pins=>he (s,H,fp,pins)) hS hM hk hc hs
theorem G5 (i:Nat) {x:Str} {pos'' pos1:Pos} (hN:X.N.Nodup) (c:Cp X elt tg iter ifs scope N' own lo n fi gt tt te) (hx0:X.N[i]? = some x:=by rfl) (hx:X.env.scope.names.lookup x=some .local:=by rfl)
  (hsw:swapsWith (.ListComp elt [⟨tg,iter,ifs,0⟩] scope pos) (some (.Name x pos'')) pos1.line X.env=pure true:=by rfl) :
  ku X (.Assign [.Name x pos''] (.ListComp elt [⟨tg,iter,ifs,0⟩] scope pos) pos1) (FY i (dG lo n fi (cp gt tt te))):= by
 obtain ⟨rfl,hi,hg,ht,he,hS,hM,hk,hc,hs⟩:=c
 exact Dk i hN hi (fun s H fp pins=>hg (s,H,fp,pins)) (fun s H fp pins=>ht (s,H,fp,pins)) (fun s H fp pins=>he (s,H,fp,pins)) hx0 hx hsw hS hM hk hc hs
theorem l0 (i:Nat) {x:Str} {pos'' pos1:Pos} (hN:X.N.Nodup) (c:Cp X elt tg iter ifs scope N' own lo n fi gt tt te) (hx0:X.N[i]? = some x:=by rfl) (hx:X.env.scope.names.lookup x=some .local:=by rfl)
  (hsw:swapsWith (.ListComp elt [⟨tg,iter,ifs,0⟩] scope pos) (some (.Name x pos'')) pos1.line X.env=pure true:=by rfl) :
  ku X (.Assign [.Name x pos''] (.ListComp elt [⟨tg,iter,ifs,0⟩] scope pos) pos1) (uU i (do let xs <- dG lo n fi (cp gt tt te);pure (.lst xs))):= by
 obtain ⟨rfl,hi,hg,ht,he,hS,hM,hk,hc,hs⟩:=c
 exact yF i hN hi (fun s H fp pins=>hg (s,H,fp,pins)) (fun s H fp pins=>ht (s,H,fp,pins)) (fun s H fp pins=>he (s,H,fp,pins)) hx0 hx hsw hS hM hk hc hs
end
structure Cw where
 P:Program
 w:World
 K:PySem.W.Frag
 mg:Str->Option Value
 base:Heap
noncomputable abbrev HP (n:Nat) (x:Str) (N:List Str) (b:M Fl) (c:Cw) (k:Nat):Prop:=Kn c.P c.w c.K c.mg c.base fS k x (N.take n) (F7 n (bU N b))
noncomputable abbrev HF (n:Nat) (x:Str) (N:List Str) (b:M Fl) (c:Cw) (k:Nat):Prop:=Kn c.P c.w c.K c.mg c.base fS k x (N.take n) (J3 n (ki N b))
noncomputable abbrev HB (n:Nat) (x:Str) (N:List Str) (b:M Fl) (c:Cw) (k:Nat):Prop:=Kn c.P c.w c.K c.mg c.base fS k x (N.take n) (JX n (fz N b))
noncomputable abbrev HX (n:Nat) (x:Str) (N:List Str) (b:M (Fl ⊕ Addr)) (c:Cw) (k:Nat):Prop:=Kn c.P c.w c.K c.mg c.base (sV c.P c.w) k x (N.take n) (J1 n (fY N b))
structure Pk {α:Type} (H:Nat->Str->List Str->α->Cw->Nat->Prop) (n:Nat) (x:Str) (N:List Str) (st:Stmt) (φ:Cw->Nat->Prop->Prop) where
 m:α
 h:∀{c:Cw} {k:Nat},Ent c.K c.mg x (N.take n) st->φ c k (H n x N m c (k + 1))
noncomputable abbrev Pk.H {α:Type} {H:Nat->Str->List Str->α->Cw->Nat->Prop} {n:Nat} {x:Str} {N:List Str} {st:Stmt} {φ:Cw->Nat->Prop->Prop} (p:Pk H n x N st φ):Cw->Nat->Prop:=H n x N p.m
structure N9 (N:List Str) (st:Stmt) (φ:Cw->Nat->Prop->Prop) where
 m:M Fl
 h:∀{c:Cw} {k:Nat} {f:Addr} {cdv:Value} {A:Around} {outer:List Env} {s:Shared} {H:Hp} {E:XK},cu k (A.deeper (PyProof.Rows.envOfC "law" (bj st) s.heap.objs.size f cdv))->φ c k (pZ (fB fS c.P c.w c.K c.mg c.base N "law" (bj st) f cdv A outer s H E).nox (bR st) m)
noncomputable abbrev Kd (c:Cw) (k:Nat) (a cJ:Addr) (d:FuncData) (kn:Addr->Option Str):Prop:=M8 c.P c.w c.K c.mg c.base k a cJ d ["_law_e"] kn∧c.mg "JoinError" = some (.ref cJ)∧c.mg "_law_kind" = some (.ref a)∧PySem.W.keepIn c.K (.ref a)=true∧Binds c.K d ["_law_e"] []
noncomputable abbrev Ex (c:Cw) (x:Str) (a:Addr):Prop:=c.mg x=some (.ref a)∧PySem.W.excIn c.K a [.type "ValueError",.type "Exception",.type "BaseException",.type "object"] "ValueError.__new__" = true
section
variable {P:Program} {w:World} {K:PySem.W.Frag} {mg:Str->Option Value} {base:Heap} {k:Nat} {x:Str} {ps N:List Str} {st:Stmt}
theorem kP {body:M Fl} (E:Ent K mg x ps st) (hb:∀{f:Addr} {cdv:Value} {A:Around} {outer:List Env} {s:Shared} {H:Hp} {E:XK},N.Nodup->cu k (A.deeper (PyProof.Rows.envOfC x (bj st) s.heap.objs.size f cdv))->pZ (fB fS P w K mg base N x (bj st) f cdv A outer s H E).nox (bR st) body) (S:cx N ps (bj st):=by exact ⟨rfl,rfl,rfl,by decide +kernel,rfl,by decide +kernel,by decide +kernel⟩):Kn P w K mg base fS (k + 1) x ps (F7 ps.length (bU N body)):=OB E S fun _ _ _ _ _ _ _ r=>hb S.nd r
theorem kF {body:M Fl} (E:Ent K mg x ps st) (hb:∀{f:Addr} {cdv:Value} {A:Around} {outer:List Env} {s:Shared} {H:Hp} {E:XK},N.Nodup->cu k (A.deeper (PyProof.Rows.envOfC x (bj st) s.heap.objs.size f cdv))->pZ (fB fS P w K mg base N x (bj st) f cdv A outer s H E).nox (bR st) body) (S:cx N ps (bj st):=by exact ⟨rfl,rfl,rfl,by decide +kernel,rfl,by decide +kernel,by decide +kernel⟩):Kn P w K mg base fS (k + 1) x ps (J3 ps.length (ki N body)):=Ov E S fun _ _ _ _ _ _ _ r=>hb S.nd r
theorem kB {body:M Fl} (E:Ent K mg x ps st) (hb:∀{f:Addr} {cdv:Value} {A:Around} {outer:List Env} {s:Shared} {H:Hp} {E:XK},N.Nodup->cu k (A.deeper (PyProof.Rows.envOfC x (bj st) s.heap.objs.size f cdv))->pZ (fB fS P w K mg base N x (bj st) f cdv A outer s H E).nox (bR st) body) (S:cx N ps (bj st):=by exact ⟨rfl,rfl,rfl,by decide +kernel,rfl,by decide +kernel,by decide +kernel⟩):Kn P w K mg base fS (k + 1) x ps (JX ps.length (fz N body)):=OA E S fun _ _ _ _ _ _ _ r=>hb S.nd r
theorem kX {body:M (Fl ⊕ Addr)} (E:Ent K mg x ps st) (hb:∀{f:Addr} {cdv:Value} {A:Around} {outer:List Env} {s:Shared} {H:Hp} {E:XK},N.Nodup->cu k (A.deeper (PyProof.Rows.envOfC x (bj st) s.heap.objs.size f cdv))->nc (fB (sV P w) P w K mg base N x (bj st) f cdv A outer s H E) true (bR st) body) (S:cx N ps (bj st):=by exact ⟨rfl,rfl,rfl,by decide +kernel,rfl,by decide +kernel,by decide +kernel⟩):Kn P w K mg base (sV P w) (k + 1) x ps (J1 ps.length (fY N body)):=Oz E S fun _ _ _ _ _ _ _ r=>hb S.nd r
end
end Jt
namespace L2
open PySem
noncomputable def G9(h:Heap)(d:Addr):Prop:=∃o es,h.get? d=some o/\o.data= .dict es es.size
theorem G9.of (h1:h.get? d=some o) (h2:o.data=.dict es n) (h3:n=es.size):G9 h d:=⟨o,es,h1,h3 ▸ h2⟩
section
variable {prog:Program} {w:World} {K:Type} [DecidableEq K] {knd:HeapKind prog w K} {A:Around} {E:Value->Shared->Prop} {s:Shared}
theorem ug{d a:Addr}{xs:List (K×Addr×Value)}{k:K}{v:Value}{Q:Unit->Shared->Prop}(hu:knd.room A)(C:knd.is s.heap k a)(hm:s.heap.DictOfH knd d xs)(ae:G9 s.heap d)
  (hQ:∀h',h'.DictOfH knd d (storedH xs k a v)->G9 h' d->Heap.SameBut d s.heap h'->Q () { s with heap:=h',toks:=s.toks+knd.draws k })
  (hsz:xs.length<=sizeLine:=by size_fits):
  wpAny (model prog w) A (dictSet d (.ref a) v) Q E s:=by
 obtain⟨o,es,ep,I,hc,hd,he,U,hn⟩:=hm;obtain⟨o2,af,aa,hd2⟩:=ae;rw[I]at aa;cases aa;rw[hd]at hd2;cases hd2;unfold dictSet;try with_reducible refine QP ?_
 refine zN (knd.pyHash hu C ?_);unfold dictSetHashed;try with_reducible refine QP ?_
 refine zN (wpAny_dictFind_heap (s:={ s with toks:=s.toks+knd.draws k }) hu C I hd he U hn ?_ ?_)
 .intro J;have ab:k∉xs.map (·.1):=not_mem_keys_of_get J;refine zN (VE (wpAny_updateDictKeys (hz:=by have e:=size_of_entries he;omega) (s:={ s with toks:=s.toks+knd.draws k }) I hd (hQ _ ⟨_,_,es.size+1,QQ _ I (Y0 (YT hd _)),
   hc.mapDictKeys _,YT hd _,?_,?_,?_⟩ (.of (QQ _ I (Y0 (YT hd _))) (YT hd _) ?_) (Q5 ..))));. rw[storedH_new (atKey_none_of_get J)];simp[he,entryOfKey]
  .rw[storedH_new (atKey_none_of_get J)];intro x hx;rcases QD.mp hx with hx|hx
   .exact knd.keeps (U x hx) I hd (Q5 ..)
   .simp[wW]at hx;subst hx;exact knd.keeps C I hd (Q5 ..)
  .rw[storedH_new (atKey_none_of_get J),ZN,YN];refine⟨hn,by simp,?_⟩;intro x hx y hy;simp at hy;subst hy;exact λ e=>ab (e▸hx)
  simp
 .intro j p hj;refine zN (VE (zN (wpAny_updateDict (s:={ s with toks:=s.toks+knd.draws k }) I hd (wpAny_point (hQ _ ⟨_,_,es.size,QQ _ I (Y0 (W2 hd _)),
   hc.mapDict _,W2 hd _,?_,?_,?_⟩ (.of (QQ _ I (Y0 (W2 hd _))) (W2 hd _) ?_) (Q5 ..))))));. rw[storedH_old (atKey_of_get hn hj)];have:=modify_map_putAt (entryOfKey knd) (λ e:DictEntry=>{ e with val:=v }) k v (λ _ _=>rfl) hn hj;rw[<- he]at this;simpa using this
  .rw[storedH_old (atKey_of_get hn hj)];intro x hx;obtain⟨y,hy,rfl⟩:=QJ.mp hx;unfold putAt;split <;> exact knd.keeps (U y hy) I hd (Q5 ..)
  .rw[storedH_old (atKey_of_get hn hj),keys_map_putAt];exact hn
  .simp
theorem uu{d a:Addr}{xs:List (K×Addr×Value)}{k:K}{v:Value}{Q:Unit->Shared->Prop}(hu:knd.room A.in1)(o:knd.is s.heap k a)(hm:s.heap.DictOfH knd d xs)(C:G9 s.heap d)
  (hQ:∀h',h'.DictOfH knd d (storedH xs k a v)->G9 h' d->Heap.SameBut d s.heap h'->Q () { s with heap:=h',toks:=s.toks+knd.draws k })
  (hsz:xs.length<=sizeLine:=by size_fits):
  wpAny (model prog w) A (setItem (.ref d) (.ref a) v) Q E s:=by
 unfold setItem;try with_reducible refine QP ?_
 refine zN (WM hm.typeIs (by decide) ?_);refine zN (QW (name:=Str.ofString "__setitem__") hm.typeIs slot_dict_setitem
  (QO slot_dict_setitem hm.typeIs entry_dict_setitem ?_ (args_dict_setitem _ _ _)));refine zN (wpAny_notOrdered_dict hm.typeIs ?_);show wpAny _ _ (dictSet d (.ref a) v >>= _) _ _ s;exact zN (ug (hsz:=hsz) hu o hm C λ h' I J U=>zS ⟨.none,rfl,zS (hQ h' I J U)⟩)
end
end L2
namespace L2
open PySem PySem.Spec PyProof.Rows
section
variable {κ:Type} [DecidableEq κ]
noncomputable def valV (kvs:List (κ × V)) (k:κ):Option V:=(kvs.find? fun kv=>decide (kv.1=k)).map (·.2)
noncomputable def putK (kvs:List (κ × V)) (k:κ) (v:V):List (κ × V) :=
 if (kvs.any fun kv=>decide (kv.1=k))=true then kvs.map (fun kv=>if kv.1=k then (kv.1,v) else kv) else kvs ++ [(k,v)]
theorem valV_pos {p:κ × V} {r:List (κ × V)} {k:κ} (e:p.1=k):valV (p :: r) k=some p.2:=by simp [valV,XA,e]
theorem valV_neg {p:κ × V} {r:List (κ × V)} {k:κ} (e:¬ p.1=k):valV (p :: r) k=valV r k:=by simp [valV,XA,e]
theorem valV_any (k:κ):∀kvs:List (κ × V),(kvs.any fun kv=>decide (kv.1=k))=(valV kvs k).isSome
 | []=>rfl
 | p :: r=>by
  rw [W5]
  by_cases e:p.1=k
  .simp only [valV_pos e,fN e,Bool.true_or,Option.isSome_some]
  .rw [valV_neg e,gL e,Bool.false_or];exact valV_any k r
theorem length_putK (kvs:List (κ × V)) (k:κ) (v:V):(putK kvs k v).length ≤ kvs.length + 1:= by
 unfold putK
 split
 .rw [wF];omega
 .rw [QC,QT,List.length_nil];omega
theorem RelO.isSome_eq {o:Option V} {u:Option Value} (r:RelO o u):o.isSome=u.isSome:= by
 cases o with
 | none=>cases u with
  | none=>rfl
  | some _=>exact (show False from r).elim
 | some _=>cases u with
  | none=>exact (show False from r).elim
  | some _=>rfl
theorem KV.any {kvs:List (κ × V)} {vs:List (κ × Value)} (r:KV kvs vs) (k:κ):(kvs.any fun kv=>decide (kv.1=k))=vs.any fun kv=>decide (kv.1=k):= by
 unfold KV at r
 induction r with
 | nil=>rfl
 | cons h t ih=>rw [W5,W5,ih,h.1]
theorem KV.repl {kvs:List (κ × V)} {vs:List (κ × Value)} (r:KV kvs vs) (k:κ) {y:V} {u:Value} (ry:RelV y u) :
  KV (kvs.map fun kv=>if kv.1=k then (kv.1,y) else kv) (vs.map fun kv=>if kv.1=k then (kv.1,u) else kv):= by
 unfold KV at r ⊢
 induction r with
 | nil=>exact .nil
 | @cons p q ps qs h t ih=>
  rw [QM,QM]
  refine .cons ?_ ih
  obtain ⟨h1,h2⟩:=h
  by_cases e:p.1=k
  .rw [fD e,fD (h1.symm.trans e)];exact ⟨h1,ry⟩
  .rw [QB e,QB (fun z=>e (h1.trans z))];exact ⟨h1,h2⟩
theorem KV.put {kvs:List (κ × V)} {vs:List (κ × Value)} (r:KV kvs vs) (k:κ) {y:V} {u:Value} (ry:RelV y u):KV (putK kvs k y) (stored vs k u):= by
 unfold putK stored
 rw [r.any k]
 by_cases e:(vs.any fun kv=>decide (kv.1=k))=true
 .rw [fD e,fD e];exact r.repl k ry
 .rw [QB e,QB e];exact Paired.snoc r ⟨rfl,ry⟩
theorem KV.length {kvs:List (κ × V)} {vs:List (κ × Value)} (r:KV kvs vs):kvs.length=vs.length:=W4 r
end
theorem kV_is {P:Program} {w:World} {k:Key} {u:Value} (r:RelV (kV k) u):(c_ P w).is k u=true:= by
 cases k with
 | inl i=>obtain ⟨t,e⟩:=(show ∃t,u=Value.int i t from r);subst e;exact qF P w i t
 | inr x=>obtain ⟨t,e⟩:=(show ∃t,u=Value.str x t from r);subst e;exact sF P w x t
theorem items_are {P:Program} {w:World}:∀{ks:List Key} {us:List Value},Vals (ks.map kV) us->ItemsAre (c_ P w) ks us
 | [],_,r=>by rw [YF] at r;cases r;exact .nil
 | k :: ks,_,r=>by
  rw [QM] at r
  cases r with
  | cons h t=>exact .cons (kV_is h) (items_are t)
noncomputable abbrev KT (H:Hp):List (List Key × V)->List (List Key × Addr × Value)->Prop:=Paired fun p q=>p.1=q.1∧H q.2.1=some (.tup (p.1.map kV))∧RelV p.2 q.2.2
theorem KT.val {H:Hp} {kvs:List (List Key × V)} {xs:List (List Key × Addr × Value)} (r:KT H kvs xs) (k:List Key):RelO (valV kvs k) ((atKey xs k).map (·.2)):= by
 induction r with
 | nil=>exact True.intro
 | @cons p q ps qs h t ih=>
  obtain ⟨h1,_,h2⟩:=h
  by_cases e:p.1=k
  .have e':q.1=k:=h1.symm.trans e
   have b:atKey (q :: qs) k=some q.2:=by simp [atKey,XA,e']
   rw [valV_pos e,b];exact h2
  .have e':¬ q.1=k:=fun z=>e (h1.trans z)
   have b:atKey (q :: qs) k=atKey qs k:=by simp [atKey,XA,e']
   rw [valV_neg e,b];exact ih
theorem KT.repl {H:Hp} {kvs:List (List Key × V)} {xs:List (List Key × Addr × Value)} (r:KT H kvs xs) (k:List Key) {y:V} {u:Value} (ry:RelV y u) :
  KT H (kvs.map fun kv=>if kv.1=k then (kv.1,y) else kv) (xs.map (putAt k u)):= by
 induction r with
 | nil=>exact .nil
 | @cons p q ps qs h t ih=>
  rw [QM,QM]
  refine .cons ?_ ih
  obtain ⟨h1,h2,h3⟩:=h
  unfold putAt
  by_cases e:p.1=k
  .rw [fD e,fD (h1.symm.trans e)];exact ⟨h1,h2,ry⟩
  .rw [QB e,QB (fun z=>e (h1.trans z))];exact ⟨h1,h2,h3⟩
theorem KT.put {H:Hp} {kvs:List (List Key × V)} {xs:List (List Key × Addr × Value)} (r:KT H kvs xs) (k:List Key) {b:Addr} {y:V} {u:Value} (hb:H b=some (.tup (k.map kV))) (ry:RelV y u) :
  KT H (putK kvs k y) (storedH xs k b u):= by
 have e:(kvs.any fun kv=>decide (kv.1=k))=(atKey xs k).isSome:= by
  rw [valV_any,(r.val k).isSome_eq,Option.isSome_map]
 unfold putK storedH
 rw [e]
 by_cases q:(atKey xs k).isSome=true
 .rw [fD q,fD q];exact r.repl k ry
 .rw [QB q,QB q];exact Paired.snoc r ⟨rfl,hb,ry⟩
theorem KT.keeps {H H':Hp} {kvs:List (List Key × V)} {xs:List (List Key × Addr × Value)} (r:KT H kvs xs) (ht:∀b ys,H b=some (.tup ys)->H' b=some (.tup ys)):KT H' kvs xs :=
 Paired.mapP r fun _ _ z=>⟨z.1,ht _ _ z.2.1,z.2.2⟩
section
variable {P:Program} {w:World} {H:Hp} {h:Heap} {a:Addr}
theorem rd_of {u:HO} (ok:iB P w H h) (e:Rd H a u):cN P w H h a u:=e.ok ok
theorem dk_rd {kvs:List (Key × V)} (ok:iB P w H h) (e:Rd H a (.dK kvs)):kvs.length ≤ sizeLine∧(a == sysModules)=false∧∃vs,KV kvs vs∧h.DictOf (c_ P w) a vs :=
 show cN P w H h a (.dK kvs) from rd_of ok e
theorem dk_of {kvs:List (Key × V)} (ok:iB P w H h) (e:H a=some (.dK kvs)):kvs.length ≤ sizeLine∧(a == sysModules)=false∧∃vs,KV kvs vs∧h.DictOf (c_ P w) a vs:=dk_rd ok (.inl e)
theorem key_of {ks:List Key} (ok:iB P w H h) (e:H a=some (.tup (ks.map kV))):(tupleKind (c_ P w)).is h ks a:= by
 obtain ⟨_,its,r,⟨o,h1,h2,n,h3⟩,_⟩:=(show cN P w H h a (.tup (ks.map kV)) from ok a _ e)
 exact ⟨o,its.toArray,n,h1,h2,h3,by simpa using items_are r⟩
theorem dt_rd {kvs:List (List Key × V)} (ok:iB P w H h) (e:Rd H a (.dT kvs)):kvs.length ≤ sizeLine∧(a == sysModules)=false ∧
  ∃xs,KT H kvs xs∧h.DictOfH (tupleKind (c_ P w)) a xs:= by
 obtain ⟨z,y,xs,r,o,es,ep,h1,h2,h3,h4,h5⟩:=(show cN P w H h a (.dT kvs) from rd_of ok e)
 refine ⟨z,y,xs,r,o,es,ep,h1,h2,h3,h4,fun x hx=>?_,h5.1⟩
 have all:∀{l:List (List Key × V)} {m:List (List Key × Addr × Value)},KT H l m->∀x ∈ m,(tupleKind (c_ P w)).is h x.1 x.2.1:= by
  intro l m q
  induction q with
  | nil=>intro x hx;exact nomatch hx
  | @cons p q ps qs hq t ih=>
   intro x hx
   rcases wR.mp hx with e | hx
   .subst e
    exact key_of ok (by rw [<- hq.1];exact hq.2.1)
   .exact ih x hx
 exact all r x hx
theorem dt_of {kvs:List (List Key × V)} (ok:iB P w H h) (e:H a=some (.dT kvs)):kvs.length ≤ sizeLine∧(a == sysModules)=false ∧
  ∃xs,KT H kvs xs∧h.DictOfH (tupleKind (c_ P w)) a xs:=dt_rd ok (.inl e)
end
theorem dt_ep {P:Program} {w:World} {H:Hp} {h:Heap} {a:Addr} {kvs:List (List Key × V)} (ok:iB P w H h) (e:Rd H a (.dT kvs)):G9 h a:= by
 obtain ⟨z,y,xs,r,o,es,ep,h1,h2,h3,h4,h5,h6⟩:=(show cN P w H h a (.dT kvs) from rd_of ok e)
 exact .of h1 h3 h6
noncomputable def DPut (H:Hp) (a:Addr) (y v:V) (H':Hp):Prop :=
 (∃kvs k,H a=some (.dK kvs)∧y=kV k∧kvs.length < sizeLine∧H' = upd H a (.dK (putK kvs k v))) ∨
 ∃kvs k b,H a=some (.dT kvs)∧y=.ref b∧H b=some (.tup (k.map kV))∧kvs.length < sizeLine∧H' = upd H a (.dT (putK kvs k v))
theorem DPut.t {H:Hp} {a b:Addr} {kvs:List (List Key × V)} {k:List Key} {v:V} (e:H a=some (.dT kvs)) (eb:H b=some (.tup (k.map kV))) (hl:kvs.length < sizeLine) :
  DPut H a (.ref b) v (upd H a (.dT (putK kvs k v))):=.inr ⟨kvs,k,b,e,rfl,eb,hl,rfl⟩
section
variable {X:Cx} {pins:List (Addr × Obj)} {σ:St} {H:Hp} {s:Shared} {a:Addr} {y v:V} {u r:Value} {A:Around} {E:Value->Shared->Prop}
theorem Inv.big (I:Inv X pins σ H s):sysModules < s.heap.objs.size:= by
 have h:mainGlobals < s.heap.objs.size:=(I.mod.glob.keeps I.bk).lt
 exact Nat.lt_trans (by decide) h
theorem d_write {h':Heap} {t':Nat} {ob:HO} (I:Inv X pins σ H s) (mu:K8 (H a)) (hs:Heap.SameBut a s.heap h') (he:∃q,h'.get? a=some q) (new:cN X.prog X.w (upd H a ob) h' a ob) :
  Inv X pins σ (upd H a ob) { s with heap:=h',toks:=t' } :=
 I.write (x:=a) (e:=a) mu (.inl rfl) (fun b q hb z=>(hs.2 b hb).trans z) he new
theorem dk_new {P:Program} {w:World} {H':Hp} {h':Heap} {kvs:List (Key × V)} {vs:List (Key × Value)} (z:kvs.length ≤ sizeLine) (hd:(a == sysModules)=false) (rel:KV kvs vs) (dd:h'.DictOf (c_ P w) a vs) :
  cN P w H' h' a (.dK kvs):=⟨z,hd,vs,rel,dd⟩
theorem d_setItem {H':Hp} {Q:Unit->Shared->Prop} (hu:A.units + 1 < cLine) (I:Inv X pins σ H s) (g:DPut H a y v H') (ry:RelV y u) (rv:RelV v r) (h:∀s',Inv X pins σ H' s' -> Q () s') :
  wpAny (model X.prog X.w) A (setItem (.ref a) u r) Q E s:= by
 rcases g with ⟨kvs,k,e,ey,l,eH⟩ | ⟨kvs,k,b,e,ey,eb,l,eH⟩
 .subst ey eH
  obtain ⟨z,hd,vs,rel,dd⟩:=dk_of I.hok e
  have hz:vs.length ≤ sizeLine:=by rw [<- rel.length];exact z
  have hl:(putK kvs k v).length ≤ sizeLine:=by have:=length_putK kvs k v;omega
  refine wpAny_setItem_pairs (hsz:=hz) (kV_is ry) dd fun h' dd' hs=>h _ ?_
  have he:∃q,h'.get? a=some q:=let ⟨q,_,_,hq,_⟩:=dd';⟨q,hq⟩
  exact d_write I (by rw [e];exact True.intro) hs he (dk_new hl hd (rel.put k rv) dd')
 .subst ey eH
  cases (show u=Value.ref b from ry)
  obtain ⟨z,hd,xs,rel,dd⟩:=dt_of I.hok e
  have hz:xs.length ≤ sizeLine:=by rw [<- W4 rel];exact z
  have hl:(putK kvs k v).length ≤ sizeLine:=by have:=length_putK kvs k v;omega
  refine uu (hsz:=hz) (tupleKind_room_in1 hu) (key_of I.hok eb) dd (dt_ep I.hok (.inl e)) fun h' dd' de hs=>h _ ?_
  obtain ⟨q,es,ep,hq,h2,h3,h4,_,h5⟩:=dd'
  obtain ⟨q2,es2,hq2,h6⟩:=de
  rw [hq] at hq2
  cases hq2
  rw [h3] at h6
  cases h6
  refine d_write I (by rw [e];exact True.intro) hs ⟨q,hq⟩ ⟨hl,hd,_,(rel.put k eb rv).keeps fun c ys ec=>?_,q,es,_,hq,h2,h3,h4,h5,rfl⟩
  rw [br (KD ec e (fun z=>nomatch z))]
  exact ec
end
noncomputable def sDPut (td ty tv:TE):TS:=fun D σ H=>tv σ H fun v H1=>td σ H1 fun x H2=>ty σ H2 fun y H3=>∃a H4,x=.ref a∧DPut H3 a y v H4∧D.nx σ H4
section
variable {X:Cx} {o i value:Expr} {pos pos':Pos} {td ty tv:TE}
theorem ps_dput (hu:X.A.units + 1 < cLine) (ho:PE X o td) (hi:PE X i ty) (hv:PE X value tv) (hs:swapsWith value (some (.Subscript o i pos')) pos.line X.env=pure false) :
  PS X (.Assign [.Subscript o i pos'] value pos) (sDPut td ty tv):= by
 intro pins s σ H D I h
 refine wpAny_Assign_Subscript (cC (hv pins s σ H _ I h) fun r s1 ⟨v,H1,I1,rv,q1⟩=>cC (ho pins s1 σ H1 _ I1 q1) fun u s2 ⟨x,H2,I2,rx,q2⟩=>cC (hi pins s2 σ H2 _ I2 q2) fun iv s3 ⟨y,H3,I3,ry,a,H4,ex,g,q3⟩=>?_) hs
 subst ex
 obtain rfl:u=Value.ref a:=rx
 exact d_setItem hu I3 g ry rv fun s4 I4=>⟨σ,H4,I4,q3⟩
end
theorem dt_empty {P:Program} {w:World} {H:Hp} (h:Heap) (hb:sysModules < h.objs.size):cN P w H (h.push { cls:=.type "dict",data:=.dict #[] }) h.objs.size (.dT []) :=
 ⟨QY _,XB.mpr (Ne.symm (uT hb)),[],.nil,_,#[],0,wN _ rfl,⟨rfl,rfl,rfl⟩,rfl,rfl,V6,rfl⟩
noncomputable def tDNewT:TE:=fun _ H Q=>∀p,H p=none->Q (.ref p) (upd H p (.dT []))
section
variable {X:Cx} {pos:Pos}
theorem pe_dnewT:PE X (.Dict [] [] pos) tDNewT:=fun pins s σ H Q I h=>
 wpAny_Dict_empty ⟨.ref s.heap.objs.size,_,I.laid (a:=s.heap.objs.size) (o:=.dT []) (t':=s.toks) (fun _ _ q=>kT _ q) (xS _) (dt_empty s.heap I.big),rfl,h _ (I.hok.fresh (xS _))⟩
end
end L2
namespace Jt
open PySem PySem.Spec PyProof.Rows
section
variable {prog:Program} {w:World} {A:Around} {E:Value->Shared->Prop} {s:Shared}
theorem zX {d:Addr} {o:Obj} {es:Array DictEntry} {ep:Nat} {Q:Value->Shared->Prop} (hd:(d == sysModules)=false) (ho:s.heap.get? d=some o) (hT:s.TypeIs (.ref d) "dict") (hdat:o.data=.dict es ep)
  (hQ:Q (.ref s.heap.objs.size) { s with heap:=s.heap.push { cls:=.type "dict_keyiterator",data:=.fields #[.ref d,.int 0 0,.int es.size 0,.int ep 0] } }) :
  wpAny (model prog w) A (pyIter (.ref d)) Q E s:= by
 refine YO hT PySem.F.slot_dict_iter (QO PySem.F.slot_dict_iter hT PySem.F.entry_dict_iter ?_ (PySem.F.args_dict_iter_1 _))
 unfold Builtin.«dict.__iter__»
 refine zN ?_
 unfold Builtin.Dict.dictSlotNone
 refine zN (wpAny_notOrdered_dict hT ?_)
 show wpAny _ _ (pure (Value.ref d)) _ _ s
 refine zS ?_
 show wpAny _ _ (Builtin.Dict.showsAll d >>= _) _ _ s
 unfold Builtin.Dict.showsAll
 rw [QB (by rw [hd];exact uS)]
 refine zN (zS ?_)
 refine zN (wpAny_dictEntries ho hdat ?_)
 refine zN (wpAny_dictEpoch ho hdat ?_)
 refine zN (QK (zS ⟨_,rfl,"dict_keyiterator",_,⟨_,wN _ rfl,rfl⟩,PySem.F.slot_dict_keyiterator_next.lookup,?_⟩))
 simpa [rawInt] using hQ
theorem A7 {it d:Addr} {i ep:Nat} {od:Obj} {es:Array DictEntry} {Q:Option Value->Shared->Prop} (hit:s.heap.IsKeyIter it d i es.size ep) (hod:s.heap.get? d=some od) (hdd:od.data=.dict es ep) (hlt':i < es.size)
  (hQ:∀h':Heap,h'.IsKeyIter it d (i + 1) es.size ep->Heap.SameBut it s.heap h' -> Q (some es[i].key) { s with heap:=h' }) :
  wpAny (model prog w) A (pyNext (.ref it)) Q E s:= by
 obtain ⟨o,ho,hc,hd⟩:=id hit
 unfold pyNext
 refine zN (V0 (QW (name:=Str.ofString "__next__") hit.typeIs ZR
  (QO ZR hit.typeIs Y6 ?_ (Y1 _))))
 refine zN (zS ?_)
 refine zN ?_
 refine zN ?_
 first | refine zN (VB hit.typeIs (zS ?_)) | refine zN (V1 hit.typeIs (zS ?_))
 refine zN (wpAny_fieldsOf ho hd ?_)
 have hown:Builtin.Dict_items.ownsTuple "dict_keyiterator" = false:=by decide
 simp only [hown,ZS,Y4]
 show wpAny _ _ (if (Value.ref d == Value.none)=true then _ else _) _ _ s
 rw [QB (show ¬ ((Value.ref d == Value.none)=true) from uS)]
 refine zN (zS ?_)
 refine zN (wpAny_dictEntries hod hdd ?_)
 rw [QB (by simp)]
 refine zN (zS ?_)
 refine zN (wpAny_dictEpoch hod hdd ?_)
 rw [QB (by simp)]
 refine zS ?_
 simp only [show ¬ ((i:Int) < 0) from by omega,Y4,Int.toNat_natCast,ZI hlt']
 refine zN ?_
 first | refine zN (VB hit.typeIs (zS ?_)) | refine zN (V1 hit.typeIs (zS ?_))
 refine zN (wpAny_isOneOf_keyiter hit.typeIs ?_)
 show wpAny _ _ (setField (.ref it) 1 (rawInt ((i:Int) + 1)) >>= _) _ _ s
 refine zN (V7 ho hd (by simp) ?_)
 have hit':(s.heap.update it (Obj.mapFields (·.setIfInBounds 1 (rawInt ((i:Int) + 1))))).IsKeyIter it d (i + 1) es.size ep :=
  ⟨_,QQ _ ho (WX (VO hd _)),(Obj.cls_mapFields ..).trans hc,by rw [VO hd];simp [rawInt]⟩
 refine zN (QP ?_)
 refine zN (wpAny_isOneOf_keyiter (s:={ s with heap:=s.heap.update it (Obj.mapFields (·.setIfInBounds 1 (rawInt ((i:Int) + 1)))) }) hit'.typeIs ?_)
 show wpAny _ _ (pure es[i].key) _ _ _
 exact zS (zS ⟨_,rfl,zS (hQ _ hit' (Q5 ..))⟩)
theorem CN {it d:Addr} {i ep:Nat} {od:Obj} {es:Array DictEntry} {Q:Option Value->Shared->Prop} (hh:A.handled=none) (hit:s.heap.IsKeyIter it d i es.size ep) (hod:s.heap.get? d=some od) (hdd:od.data=.dict es ep) (hge:es.size ≤ i)
  (hQ:∀h',Heap.ExtBut it s.heap h' -> Q none { s with heap:=h' }):wpAny (model prog w) A (pyNext (.ref it)) Q E s:= by
 obtain ⟨o,ho,hc,hd⟩:=id hit
 unfold pyNext
 refine zN (V0 (QW (name:=Str.ofString "__next__") hit.typeIs ZR
  (QO ZR hit.typeIs Y6 ?_ (Y1 _))))
 refine zN (zS ?_)
 refine zN ?_
 refine zN ?_
 first | refine zN (VB hit.typeIs (zS ?_)) | refine zN (V1 hit.typeIs (zS ?_))
 refine zN (wpAny_fieldsOf ho hd ?_)
 have hown:Builtin.Dict_items.ownsTuple "dict_keyiterator" = false:=by decide
 simp only [hown,ZS,Y4]
 show wpAny _ _ (if (Value.ref d == Value.none)=true then _ else _) _ _ s
 rw [QB (show ¬ ((Value.ref d == Value.none)=true) from uS)]
 refine zN (zS ?_)
 refine zN (wpAny_dictEntries hod hdd ?_)
 rw [QB (by simp)]
 refine zN (zS ?_)
 refine zN (wpAny_dictEpoch hod hdd ?_)
 rw [QB (by simp)]
 refine zS ?_
 simp only [show ¬ ((i:Int) < 0) from by omega,Y4,Int.toNat_natCast,VG hge]
 refine zN ?_
 first | refine zN (VB hit.typeIs (zS ?_)) | refine zN (V1 hit.typeIs (zS ?_))
 show wpAny _ _ (setField (.ref it) 0 .none >>= _) _ _ s
 refine zN (V7 ho hd (by simp) ?_)
 show wpAny _ _ (newExc (.type "StopIteration") [] >>= _) _ _ _
 refine zN ?_
 simp only [newExc,newTuple]
 refine zN (QK ?_ (by size_fits))
 refine zN (m:=firstArgMember _ _) (wpAny_of_eq (a:=Value.none) (by first | rfl | (simp only [firstArgMember];rfl)) ?_)
 refine QK ?_ (by size_fits)
 simp only [raiseNew]
 refine zN (wpAny_handled ?_)
 rw [show A.in1.handled=none from hh]
 refine zN (zS (wpAny_throw ?_))
 refine zN (VM (T:="StopIteration") (b:=true) ⟨_,wN _ rfl,rfl⟩ isSubtype_stop ?_)
 exact zS (hQ _ (((Q5 ..).extBut.push _).push _))
end
end Jt
namespace L2
open PySem PySem.Spec PyProof.Rows
theorem Paired.get {α β:Type} {R:α->β->Prop} {l:List α} {m:List β} (h:Paired R l m):∀{i:Nat} {p:α},l[i]? = some p->∃q,m[i]? = some q∧R p q:= by
 induction h with
 | nil=>intro i p e;cases e
 | cons r t ih=>
  intro i p e
  cases i with
  | zero=>cases e;exact ⟨_,rfl,r⟩
  | succ i=>exact ih (by simpa using e)
theorem Jg {P:Program} {w:World} {H:Hp} {h:Heap} {a:Addr} {kvs:List (List Key × V)} (ok:iB P w H h) (e:Rd H a (.dT kvs)) :
  (a == sysModules)=false∧∃o es,h.get? a=some o∧o.cls=.type "dict" ∧ o.data=.dict es es.size∧es.size=kvs.length∧∀i p,kvs[i]? = some p->∃(hlt:i < es.size) (b:Addr),es[i].key=.ref b∧H b=some (.tup (p.1.map kV)):= by
 obtain ⟨z,y,xs,r,o,es,ep,h1,h2,h3,h4,h5,h6⟩:=(show cN P w H h a (.dT kvs) from rd_of ok e)
 subst h6
 have sz:es.size=kvs.length:= by
  rw [W4 r]
  have:=Q9 List.length h4
  simpa using this
 refine ⟨y,o,es,h1,h2.1,h3,sz,fun i p hp=>?_⟩
 obtain ⟨q,hq,_,hb,_⟩:=Paired.get r hp
 have hlt:i < es.size:=by rw [sz];exact (xZ.mp hp).1
 refine ⟨hlt,q.2.1,?_,hb⟩
 have e2:es.toList[i]? = some (entryOfKey (tupleKind (c_ P w)) q):=by rw [h4,QH,hq];rfl
 rw [QA,ZI hlt] at e2
 rw [ZG e2]
 rfl
end L2
namespace Jt.So
open PySem L2 PySem.Spec PyProof.Rows PySem.W
noncomputable def WpT{α:Type}(g:Nat->Nat->Bool)(n:Nat):KasT α->(α->Prop)->Prop
 | .ret a,R=>R a
 | .ask i j k,R=>i<n/\j<n/\WpT g n (k (g i j)) R
section
variable {g:Nat->Nat->Bool} {n:Nat}
theorem WpT.bind {R:β->Prop}:∀{t:KasT α},WpT g n t (fun a=>WpT g n (f a) R)->WpT g n (t.bind f) R
 | .ret _,h=>h
 | .ask i j k,h=>⟨h.1,h.2.1,WpT.bind (t:=k (g i j)) h.2.2⟩
theorem WpT.mono{R S:α->Prop}(o:∀a,R a->S a):∀{t:KasT α},WpT g n t R->WpT g n t S
 | .ret _,h=>o _ h
 | .ask i j k,h=>⟨h.1,h.2.1,WpT.mono o (t:=k (g i j)) h.2.2⟩
theorem WpT.ev{R:α->Prop}:∀{t:KasT α},WpT g n t R->R (Mm g t)
 | .ret _,h=>h
 | .ask i j k,h=>WpT.ev (t:=k (g i j)) h.2.2
theorem WpT.kas {R:α->Prop} (hc:∀i j C,i < n->j < n->C (g i j) s->cmp i j C s):∀{t:KasT α},WpT g n t R->Q (Mm g t) s->t.kasWp cmp Q s
 | .ret _,_,h=>h
 | .ask i j k,hw,h=>hc i j _ hw.1 hw.2.1 (WpT.kas hc (t:=k (g i j)) hw.2.2 h)
noncomputable abbrev wt(g:Nat->Nat->Bool)(a b:Nat):Prop:=g b a=false
structure OrdG (g:Nat->Nat->Bool):Prop where
 tr:∀a b c,wt g a b->wt g b c->wt g a c
 as:∀a b,g a b=true->wt g a b
theorem OrdG.rf(o:OrdG g)(a:Nat):wt g a a:=by cases h:g a a with
 |false=>exact h
 |true=>have:=o.as a a h;omega
noncomputable abbrev at0(p:Array Nat)(i:Nat):Nat:=p.getD i 0
noncomputable def Bs(n:Nat)(p:Array Nat):Prop:=p.Perm (List.range n).toArray
theorem Bs.size(h:Bs n p):p.size=n:=by rw[h.size_eq];simp
theorem Bs.lt(h:Bs n p){i:Nat}(o:i<n):at0 p i<n:=by
 have C:i<p.size:=by rw[h.size];exact o
 have e:at0 p i=p[i]:=by simp_all
 have hm:p[i]∈(List.range n).toArray.toList:=(YU.mp h).mem_iff.mp (by simp);grind
theorem Bs.mir(h:Bs n p)(i j d:Nat):Bs n (mirror p i j d):=(mirror_perm _ _ _ _).trans h
theorem Bs.bub(h:Bs n p)(i d:Nat):Bs n (bubble p i d):=(bubble_perm _ _ _).trans h
theorem fW{i j:Nat}(h:p[i]?=q[j]?):at0 p i=at0 q j:=by simp_all
theorem qv{i j:Nat}(C:j<=p.size)(k:Nat):at0 (mirror p i j ((j-i)/2)) k=if i<=k/\k<j then at0 p (i+j-1-k)else at0 p k:=by
 have e:=getElem?_mirror_all (i:=i) C k;by_cases o:i<=k/\k<j;. rw[fD o]at e|-;exact fW e
 .rw[QB o]at e|-;exact fW e
theorem uZ{src d:Nat}(hs:src<p.size)(hd:d<=src)(k:Nat):
  at0 (bubble p src d) k=if k=src-d then at0 p src else if src-d<k/\k<=src then at0 p (k-1)else at0 p k:=by
 have e:=getElem?_bubble hs d hd k;by_cases o:k=src-d;. rw[fD o]at e|-;exact fW e
 .rw[QB o]at e|-;by_cases C:src-d<k/\k<=src;. rw[fD C]at e|-;exact fW e
  .rw[QB C]at e|-;exact fW e
noncomputable def Up(g:Nat->Nat->Bool)(p:Array Nat)(k:Nat):Prop:=∀i j,i<=j->j<k->wt g (at0 p i) (at0 p j)
noncomputable def Dn(g:Nat->Nat->Bool)(p:Array Nat)(k:Nat):Prop:=∀i j,i<=j->j<k->wt g (at0 p j) (at0 p i)
noncomputable def Eqv(g:Nat->Nat->Bool)(a b:Nat):Prop:=wt g a b/\wt g b a
theorem Eqv.trans(o:OrdG g){a b c:Nat}(h:Eqv g a b)(k:Eqv g b c):Eqv g a c:=⟨o.tr _ _ _ h.1 k.1,o.tr _ _ _ k.2 h.2⟩
theorem Eqv.symm(h:Eqv g a b):Eqv g b a:=⟨h.2,h.1⟩
theorem Eqv.rf(o:OrdG g)(a:Nat):Eqv g a a:=⟨o.rf a,o.rf a⟩
theorem qi(o:OrdG g){p:Array Nat}{i j:Nat}(C:j<=p.size)(heq:∀k,i<=k->k<j->Eqv g (at0 p k) (at0 p (j-1)))(k:Nat):
  Eqv g (at0 (mirror p i j ((j-i)/2)) k) (at0 p k):=by
 rw[qv C];split;. exact(heq _ (by omega) (by omega)).trans o (heq k (by omega) (by omega)).symm
 .exact .rf o _
theorem Up.one(o:OrdG g)(p:Array Nat):Up g p 1:= λ i j C I=>by
 have:i=j:=by omega
 subst this;exact o.rf _
theorem Up.snoc(o:OrdG g){p:Array Nat}{x:Nat}(hx:1<=x)(h:Up g p x)(h':wt g (at0 p (x-1)) (at0 p x)):Up g p (x+1):= λ i j C U=>by
 by_cases I:j<x;. exact h i j C I
 .have:j=x:=by omega
  subst this;by_cases J:i=j;. subst J;exact o.rf _
  .exact o.tr _ _ _ (h i (j-1) (by omega) (by omega)) h'
theorem Dn.snoc(o:OrdG g){p:Array Nat}{x:Nat}(hx:1<=x)(h:Dn g p x)(h':wt g (at0 p x) (at0 p (x-1))):Dn g p (x+1):= λ i j C U=>by
 by_cases I:j<x;. exact h i j C I
 .have:j=x:=by omega
  subst this;by_cases J:i=j;. subst J;exact o.rf _
  .exact o.tr _ _ _ h' (h i (j-1) (by omega) (by omega))
theorem Dn.eqv(o:OrdG g){p q:Array Nat}{x:Nat}(h:Dn g p x)(e:∀k,Eqv g (at0 q k) (at0 p k)):Dn g q x:= λ i j C I=>o.tr _ _ _ (e j).1 (o.tr _ _ _ (h i j C I) (e i).2)
theorem y8(o:OrdG g){p:Array Nat}(b:Bs n p):∀(f x:Nat),x+f<=n->1<=x->Up g p x->
  WpT g n (kas_asc p f x) (λ m=>x<=m/\m<=x+f/\Up g p m/\(m=x+f\/g (at0 p m) (at0 p (m-1))=true))
 |0,x,_,_,h=>⟨xS _,xS _,h,.inl rfl⟩
 |f+1,x,hx,I,h=>by refine⟨b.lt (by omega),b.lt (by omega),?_⟩;cases C:g (p.getD x 0) (p.getD (x-1) 0)with
  |true=>exact⟨xS _,by omega,h,.inr C⟩
  |false=>refine WpT.mono (λ m hm=>?_) (y8 o b f (x+1) (by omega) (by omega) (h.snoc o I C));grind
noncomputable def DI(g:Nat->Nat->Bool)(n:Nat)(p:Array Nat)(x q:Nat):Prop:=Bs n p/\Dn g p x/\q+1<=x/\∀i,x-(q+1)<=i->i<x->Eqv g (at0 p i) (at0 p (x-1))
theorem AB(o:OrdG g):∀(f:Nat)(p:Array Nat)(x q:Nat),x+f<=n->DI g n p x q->
  WpT g n (kas_desc f p x q) (λ r=>x<=r.2.1/\r.2.1<=x+f/\DI g n r.1 r.2.1 r.2.2)
 |0,p,x,q,_,h=>⟨xS _,xS _,h⟩
 |f+1,p,x,q,hx,h=>by
  obtain⟨b,d,hq,he⟩:=h;have sz:x<=p.size:=by rw[b.size];omega
  refine⟨b.lt (by omega),b.lt (by omega),?_⟩;have next:∀{C:Array Nat}{J:Nat},DI g n C (x+1) J->WpT g n (kas_desc f C (x+1) J) (λ r=>x<=r.2.1/\r.2.1<=x+(f+1)/\DI g n r.1 r.2.1 r.2.2):= λ hd=>
   WpT.mono (λ r hr=>⟨by omega,by omega,hr.2.2⟩) (AB o f _ (x+1) _ (by omega) hd);have U:∀(C:Array Nat),∀i,x+1-(0+1)<=i->i<x+1->Eqv g (at0 C i) (at0 C (x+1-1)):= λ C i h1 h2=>by
   have:i=x+1-1:=by omega
   rw[this];exact .rf o _
  cases hc:g (p.getD x 0) (p.getD (x-1) 0)with
  |true=>
   have dn:Dn g p (x+1):=d.snoc o (by omega) (o.as _ _ hc);by_cases I:q>0;. rw[fD I];exact next ⟨b.mir _ _ _,dn.eqv o (qi o sz he),by omega,U _⟩
   .rw[QB I];exact next ⟨b,dn,by omega,U _⟩
  |false=>refine⟨b.lt (by omega),b.lt (by omega),?_⟩;cases hd:g (p.getD (x-1) 0) (p.getD x 0)with
   |true=>exact⟨xS _,by show x<=x+(f+1);omega,b,d,hq,he⟩
   |false=>
    have eq:Eqv g (at0 p x) (at0 p (x-1)):=⟨hd,hc⟩;refine next ⟨b,d.snoc o (by omega) hd,by omega,λ i h1 h2=>?_⟩;by_cases hi:i=x;. subst hi;exact .rf o _
    .exact(he i (by omega) (by omega)).trans o eq.symm
noncomputable def CR(g:Nat->Nat->Bool)(n:Nat)(r:Nat×Array Nat):Prop:=1<=r.1/\r.1<=n/\Bs n r.2/\Up g r.2 r.1
theorem vJ(o:OrdG g){p:Array Nat}{x:Nat}(b:Bs n p)(I:1<=x)(hx:x<=n)(d:Dn g p x):WpT g n (kas_tail3 x n p) (CR g n):=by
 have sz:x<=p.size:=by rw[b.size];omega
 have C:Bs n (kas_rev p 0 x):=b.mir _ _ _;refine WpT.bind (WpT.mono (λ m hm=>?_) (y8 o C (n-x) x (by omega) I λ i j J U=>?_));. exact⟨by omega,by omega,C,hm.2.2.1⟩
 .show wt g (at0 (mirror p 0 x ((x-0)/2)) i) (at0 (mirror p 0 x ((x-0)/2)) j);rw[qv sz,qv sz,fD (by omega),fD (by omega)];exact d _ _ (by omega) (by omega)
theorem lu(o:OrdG g){p:Array Nat}{x:Nat}(b:Bs n p)(hx:x+1<=n)(d:Dn g p (x+1)):WpT g n (kas_descPart x n p) (CR g n):=by
 refine WpT.bind (WpT.mono (λ r J=>?_) (AB o (n-(x+1)) p (x+1) 0 (by omega) ⟨b,d,by omega,λ i U h2=>?_⟩))
 .obtain⟨U,h2,I,d',hq,he⟩:=J;have sz:r.2.1<=r.1.size:=by rw[I.size];omega
  by_cases C:r.2.2>0;. rw[fD C];exact vJ o (I.mir _ _ _) (by omega) (by omega) (d'.eqv o (qi o sz he))
  .rw[QB C];exact vJ o I (by omega) (by omega) d'
 .have:i=x+1-1:=by omega
  rw[this];exact .rf o _
theorem w_count(o:OrdG g){p:Array Nat}(b:Bs n p)(h1:1<=n):WpT g n (kas_count n p) (CR g n):=by
 refine WpT.bind (WpT.mono (λ m hm=>?_) (y8 o b (n-1) 1 (by omega) (xS _) (.one o p)));obtain⟨a1,a2,I,a4⟩:=hm;by_cases e:(m==n)=true;. rw[fD e];exact⟨a1,by omega,b,I⟩
 .rw[QB e];have ne:m≠n:= λ z=>e (by rw[z];exact beq_self_eq_true _);have C:g (at0 p m) (at0 p (m-1))=true:=a4.resolve_left (by omega);by_cases J:m>1;. rw[fD J];refine⟨b.lt (by omega),b.lt (by omega),?_⟩;cases hc:g (p.getD 0 0) (p.getD (m-1) 0)with
   |true=>exact⟨a1,by omega,b,I⟩
   |false=>
    have all:∀k,0<=k->k<m->Eqv g (at0 p k) (at0 p (m-1)):= λ k _ hk=>⟨I k (m-1) (by omega) (by omega),o.tr _ _ _ hc (I 0 k (by omega) hk)⟩;have sz:m<=p.size:=by rw[b.size];omega
    refine lu o (b.mir _ _ _) (by omega) ?_;refine Dn.eqv o (p:=p) (λ i j U hj=>?_) (qi o sz all);by_cases aa:j<m;. exact((all j (by omega) aa).trans o (all i (by omega) (by omega)).symm).1
    .have:j=m:=by omega
     subst this;by_cases hi:i=j;. subst hi;exact o.rf _
     .exact o.tr _ _ _ (o.as _ _ C) (all i (by omega) (by omega)).2
  .have:m=1:=by omega
   subst this;refine lu o b (by omega) λ i j U hj=>?_;by_cases hi:i=j;. subst hi;exact o.rf _
   .have e1:i=0:=by omega
    have e2:j=1:=by omega
    subst e1 e2;exact o.as _ _ C
theorem pj (o:OrdG g) {p:Array Nat} {k:Nat} (b:Bs n p) (hk:k < n) (u:Up g p k):∀(f l r:Nat),l ≤ r->r ≤ k->r - l ≤ f->(∀i,i < l->wt g (at0 p i) (at0 p k))->(∀i,r ≤ i->i < k->g (at0 p k) (at0 p i)=true) ->
  WpT g n (kas_place p k f l r) (fun l'=>l' ≤ k∧(∀i,i < l' -> wt g (at0 p i) (at0 p k))∧∀i,l' ≤ i->i < k->g (at0 p k) (at0 p i)=true)
 | 0,l,r,h1,h2,h3,hl,hr=>by
  have:l=r:=by omega
  subst this
  exact ⟨h2,hl,hr⟩
 | f + 1,l,r,h1,h2,h3,hl,hr=>by
  unfold kas_place
  by_cases hge:l ≥ r
  .rw [fD hge]
   have:l=r:=by omega
   subst this
   exact ⟨h2,hl,hr⟩
  .rw [QB hge]
   refine ⟨b.lt hk,b.lt (by omega),?_⟩
   cases hc:g (p.getD k 0) (p.getD ((l + r) / 2) 0) with
   | true=>
    refine pj o b hk u f l ((l + r) / 2) (by omega) (by omega) (by omega) hl fun i h4 h5=>?_
    cases hz:g (at0 p k) (at0 p i) with
    | true=>rfl
    | false=>
     have:=o.tr _ _ _ (u _ _ h4 h5) hz
     simp_all
   | false=>
    refine pj o b hk u f ((l + r) / 2 + 1) r (by omega) (by omega) (by omega) (fun i h4=>?_) hr
    exact o.tr _ _ _ (u i ((l + r) / 2) (by omega) (by omega)) hc
theorem GN (o:OrdG g):∀(f:Nat) (p:Array Nat) (k:Nat),Bs n p->k + f ≤ n->Up g p k->WpT g n (kas_bin f p k) (fun q=>Bs n q∧Up g q (k + f))
 | 0,p,k,b,_,u=>⟨b,u⟩
 | f + 1,p,k,b,hk,u=>by
  refine WpT.bind (WpT.mono (fun l hl=>?_) (pj o b (by omega) u k 0 k (by omega) (xS _) (by omega) (fun i h=>by omega) fun i h1 h2=>by omega))
  obtain ⟨hlk,hlo,hhi⟩:=hl
  have ks:k < p.size:=by rw [b.size];omega
  refine WpT.mono (fun q hq=>⟨hq.1,by grind⟩) (GN o f _ (k + 1) (b.bub _ _) (by omega) fun i j hij hj=>?_)
  rw [uZ ks (by omega),uZ ks (by omega),show k - (k - l)=l by omega]
  generalize at0 p k=c at hlo hhi ⊢
  repeat' split
  all_goals first
   | (exfalso;omega)
   | exact o.rf _
   | exact hlo _ (by omega)
   | exact o.as _ _ (hhi _ (by omega) (by omega))
   | exact u _ _ (by omega) (by omega)
theorem w_sort(o:OrdG g)(C:1<=n):WpT g n (kas_sort n) (λ p=>Bs n p/\Up g p n):=by
 refine WpT.bind (WpT.mono (λ r I=>?_) (w_count o (Array.Perm.refl _) C));obtain⟨a1,a2,b,u⟩:=I;by_cases h:r.1<n;. rw[fD h];refine WpT.mono (λ q J=>⟨J.1,?_⟩) (GN o (n-max r.1 1) r.2 (max r.1 1) b (by omega) (by rw[show max r.1 1=r.1 by omega];exact u));simp_all
 .rw[QB h];exact⟨b,by rw[show n=r.1 by omega];exact u⟩
end
end Jt.So
namespace Jt
open PySem
variable{M:Nat}
noncomputable def av(M:Nat)(p:SetTable.Probe):SetTable.Probe:=if p.more>0 then{ p with j:=p.j+1,more:=p.more-1 }else
 { p with j:=(SetTable.leap M p.i p.perturb).1,more:=SetTable.runEnd M (SetTable.leap M p.i p.perturb).1-(SetTable.leap M p.i p.perturb).1,i:=(SetTable.leap M p.i p.perturb).1,perturb:=(SetTable.leap M p.i p.perturb).2 }
noncomputable def rn(M i q:Nat):SetTable.Probe:=⟨i,SetTable.runEnd M i-i,i,q,none⟩
noncomputable def wy(M b:Nat):Nat->SetTable.Probe
 |0=>rn M (b%(M+1)) b
 |n+1=>av M (wy M b n)
noncomputable def rl(M i:Nat):Nat:=SetTable.runEnd M i-i
theorem AF(M i:Nat):rl M i<=9/\(i<=M->i+rl M i<=M):=by unfold rl SetTable.runEnd;grind
theorem qa(h:wy M b n=rn M i q):∀k,k<=rl M i->wy M b (n+k)=⟨i+k,rl M i-k,i,q,none⟩
 |0,_=>h
 |k+1,hk=>by show av M (wy M b (n+k))=_;rw[qa h k (by omega)];unfold av;grind
theorem vQ(h:wy M b n=rn M i q):wy M b (n+rl M i+1)=rn M (SetTable.leap M i q).1 (SetTable.leap M i q).2:=by show av M (wy M b (n+rl M i))=_;rw[qa h _ (xS _)];unfold av;rw[QB (by simp)];rfl
noncomputable def lp(M:Nat):Nat->Nat×Nat->Nat×Nat
 |0,s=>s
 |n+1,s=>SetTable.leap M (lp M n s).1 (lp M n s).2
theorem KA(M:Nat)(s:Nat×Nat):∀n,(lp M n s).2=s.2/32^n
 |0=>by simp[lp]
 |n+1=>by show(lp M n s).2/32=_;rw[KA M s n,Nat.div_div_eq_div_mul,Nat.pow_succ]
theorem FX(M:Nat)(s:Nat×Nat)(h:s.1<=M):∀n,(lp M n s).1<=M
 |0=>h
 |n+1=>WA.mp (W0 _ (by omega))
theorem Gf(M b:Nat):∀L,∃n,n<=10*L/\wy M b n=rn M (lp M L (b%(M+1),b)).1 (lp M L (b%(M+1),b)).2
 |0=>⟨0,by omega,rfl⟩
 |L+1=>by obtain⟨n,hn,e⟩:=Gf M b L;have:=AF M (lp M L (b%(M+1),b)).1;exact⟨_,by omega,vQ e⟩
theorem GG(M b:Nat):∀n,(wy M b n).j+(wy M b n).more<=M
 |0=>(AF M _).2 (WA.mp (W0 _ (by omega)))
 |n+1=>by
  have o:=GG M b n;show(av M (wy M b n)).j+(av M (wy M b n)).more<=M;unfold av;split;. grind
  .exact(AF M _).2 (WA.mp (W0 _ (by omega)))
theorem Bq(M b:Nat):∀n,(wy M b n).dummy=none
 |0=>rfl
 |n+1=>by have o:=Bq M b n;show(av M (wy M b n)).dummy=none;unfold av;split <;> exact o
theorem v9(h:Int):SetTable.bits h<2^64:=by unfold SetTable.bits;omega
noncomputable def fM(M:Nat):Nat->Nat->Nat
 |0,i=>i
 |k+1,i=>(fM M k i*5+1)%(M+1)
theorem Jr(M:Nat)(s:Nat×Nat)(o:s.2<2^64):∀k,(lp M (13+k) s).1=fM M k (lp M 13 s).1
 |0=>rfl
 |k+1=>by
  show((lp M (13+k) s).1*5+1+(lp M (13+k) s).2/32)%(M+1)=_;rw[Jr M s o k,KA];have C:s.2/32^(13+k)=0:=by apply Nat.div_eq_of_lt;grind
  rw[C];rfl
noncomputable def FF(M:Nat):Prop:=∀i,i<M+1->∀j,j<M+1->∃k,k<M+1/\fM M k i=j
theorem MV:FF 7:=by unfold FF;decide+kernel
theorem L9:FF 31:=by unfold FF;decide+kernel
theorem JU(C:FF M){b:Nat}(o:b<2^64){j:Nat}(I:j<M+1):∃m,m<=10*(M+13)/\(wy M b m).j=j:=by obtain⟨k,hk,e⟩:=C _ (Nat.lt_succ_of_le (FX M (b%(M+1),b) (WA.mp (W0 _ (by omega))) 13)) j I;obtain⟨n,hn,J⟩:=Gf M b (13+k);exact⟨n,by omega,by rw[J,<- e];exact Jr M _ o k⟩
theorem kQ[DecidablePred p]:∀{n:Nat},p n->∃m,m<=n/\p m/\∀k,k<m-> ¬p k
 |0,h=>⟨0,xS _,h,λ k hk=>absurd hk (ZM _)⟩
 |n+1,h=>by
  by_cases q:∃k,k<=n/\p k;. obtain⟨k,hk,o⟩:=q;obtain⟨m,a,b,c⟩:=kQ o;grind
  .exact⟨n+1,xS _,h,λ k hk z=>q ⟨k,by omega,z⟩⟩
theorem miss{l:List Nat}(h:l.length<n):∃j,j<n/\j∉l:=by
 apply Z3;intro z;have all:∀j,j<n->j∈l:= λ j C=>Z3 λ q=>z ⟨j,C,q⟩;have gen:∀(a b:List Nat),a.Nodup->(∀x∈a,x∈b)->a.length<=b.length:=by intro a;induction a with
  |nil=>intro b _ _;exact QY _
  |cons x r I=>intro b nd hs;have n:=ZF.mp nd;have hx:=hs x uL;have:=I (b.erase x) n.2 λ y o=>(List.mem_erase_of_ne (show y≠x from λ z=>n.1 (z▸o))).mpr (hs y (uN _ o));rw[List.length_erase_of_mem hx]at this;have p:=List.length_pos_of_mem hx;rw[QT];omega
 have:=gen (List.range n) l List.nodup_range λ x hx=>all x (QL.mp hx);grind
theorem El(C:FF M)(h:Int){l:List Nat}(o:l.length<M+1):∃N,N<=10*(M+13)/\(wy M (SetTable.bits h) N).j∉l/\∀m,m<N->(wy M (SetTable.bits h) m).j∈l:=by obtain⟨j,I,hn⟩:=miss o;obtain⟨m,hm,e⟩:=JU C (v9 h) I;obtain⟨N,a,b,c⟩:=kQ (p:= λ m=>(wy M (SetTable.bits h) m).j∉l) (n:=m) (by simp_all);grind
structure T7 (M:Nat) (t:SetTable):Prop where
 mask:t.mask=M
 odd:M % 2=1
 cyc:FF M
 dum:t.dummies = #[]
 up:Up t.place
section
variable {M:Nat} {t:SetTable}
theorem T7.start(T:T7 M t)(h:Int):t.probeStart h=wy M (SetTable.bits h) 0:=by unfold SetTable.probeStart;rw[T.mask];rfl
theorem T7.adv(T:T7 M t)(b m:Nat):t.advance (wy M b m)=wy M b (m+1):=by unfold SetTable.advance;rw[T.mask];rfl
theorem jZ(u:Up xs){j:Nat}(h:j∈xs.toList):xs[SetTable.below xs j]?=some j:=
 Z3 λ z=>nH u z h
theorem T7.free(T:T7 M t){j:Nat}(h:j∉t.place.toList):t.slot j= .empty:=by
 unfold SetTable.slot;have e:(t.place[SetTable.below t.place j]?==some j)=false:=by rw[XB];intro z;exact h (by rw[W6];exact WZ z)
 have o:SetTable.has t.dummies j=false:=by rw[T.dum];rfl
 simp_all
theorem T7.live(T:T7 M t){j:Nat}(h:j∈t.place.toList):t.slot j= .live (SetTable.below t.place j):=by unfold SetTable.slot;dsimp only;rw[jZ T.up h];simp
theorem T7.at(T:T7 M t){i j:Nat}(h:t.place[i]?=some j):SetTable.below t.place j=i:=by
 have hm:j∈t.place.toList:=by rw[W6];exact WZ h
 have e:=jZ T.up hm;rcases Nat.lt_trichotomy (SetTable.below t.place j) i with z|z|z
 .exact absurd (T.up.lt z e h) (QX _)
 .exact z
 .exact absurd (T.up.lt z h e) (QX _)
theorem T7.go(T:T7 M t){f:Nat->Int}{h:Int}{b:Nat}:∀(k m fuel:Nat),k<fuel->(∀o,m<=o->o<m+k->(wy M b o).j∈t.place.toList/\f (SetTable.below t.place (wy M b o).j)≠h)->
  (((wy M b (m+k)).j∉t.place.toList->SetTable.probe.go t f h fuel (wy M b m)=some (.empty (wy M b (m+k)).j none))/\
  ((wy M b (m+k)).j∈t.place.toList->f (SetTable.below t.place (wy M b (m+k)).j)=h->SetTable.probe.go t f h fuel (wy M b m)=some (.candidate (wy M b (m+k)).j (SetTable.below t.place (wy M b (m+k)).j) (wy M b (m+k+1)))))
 |0,m,fuel+1,_,_=>by
  rw[Nat.add_zero];refine⟨λ hn=>?_,λ hm hf=>?_⟩;. unfold SetTable.probe.go;rw[T.free hn,Bq]
  .unfold SetTable.probe.go;rw[T.live hm];dsimp only;rw[fD (by simpa using hf),T.adv]
 |k+1,m,fuel+1,hk,hs=>by
  have h0:=hs m (xS _) (by omega);have C:=T7.go T (f:=f) (h:=h) (b:=b) k (m+1) fuel (by omega) λ o I J=>hs o (by omega) (by omega);have e:SetTable.probe.go t f h (fuel+1) (wy M b m)=SetTable.probe.go t f h fuel (wy M b (m+1)):=by conv=>lhs;unfold SetTable.probe.go;rw[T.live h0.1];dsimp only;rw[QB (by simpa using h0.2),T.adv]
  rw[e,show m+(k+1)=m+1+k by omega];omega
theorem T7.probe(T:T7 M t){f:Nat->Int}{h:Int}{b:Nat}{k m:Nat}(hk:k<=10*(M+13))(hs:∀o,m<=o->o<m+k->(wy M b o).j∈t.place.toList/\f (SetTable.below t.place (wy M b o).j)≠h):
  (((wy M b (m+k)).j∉t.place.toList->t.probe f h (wy M b m)=some (.empty (wy M b (m+k)).j none))/\
  ((wy M b (m+k)).j∈t.place.toList->f (SetTable.below t.place (wy M b (m+k)).j)=h->t.probe f h (wy M b m)=some (.candidate (wy M b (m+k)).j (SetTable.below t.place (wy M b (m+k)).j) (wy M b (m+k+1))))):=by unfold SetTable.probe;rw[T.mask];exact T.go k m _ (by unfold SetTable.turns;omega) hs
theorem o4(M:Nat)(t:SetTable)(f:Nat->Int)(h:Int)(b N:Nat):∀(d m:Nat),m+d=N->∃k,m+k<=N/\(∀o,m<=o->o<m+k->f (SetTable.below t.place (wy M b o).j)≠h)/\(m+k=N\/f (SetTable.below t.place (wy M b (m+k)).j)=h)
 |0,m,e=>⟨0,by omega,λ o C I=>by omega,.inl (by omega)⟩
 |d+1,m,e=>by
  by_cases q:f (SetTable.below t.place (wy M b m).j)=h;. exact⟨0,by omega,λ o C I=>by omega,.inr q⟩
  .obtain⟨k,C,I,J⟩:=o4 M t f h b N d (m+1) (by omega);refine⟨k+1,by omega,λ o a1 a2=>?_,?_⟩;. grind
   grind
end
theorem l4(xs:Array α){p:Nat}(x:α)(o:p<=xs.size)(i:Nat):(SetTable.insertAt xs p x)[i]?=if i<p then xs[i]? else if i=p then some x else xs[i-1]?:=by unfold SetTable.insertAt;grind
theorem j9(xs:Array α)(p:Nat)(x:α)(o:p<=xs.size):(SetTable.insertAt xs p x).toList.Perm (x::xs.toList):=by
 unfold SetTable.insertAt;rw[Array.toList_append,Array.toList_push,WI];have e:xs.toList=(xs.extract 0 p).toList++(xs.extract p xs.size).toList:=by
  rw[<- Array.toList_append];simp_all
 conv=>rhs;rw[e]
 exact List.perm_middle
end Jt
namespace Jt.Tu
open PySem Jt
structure bG (w:World) (h:Heap) (a:Addr) (l:List (Int × Value)) (ep:Nat) (t:SetTable):Prop where
 obj:∃o,h.get? a=some o∧o.ExactSet∧o.data=.set l.toArray ep t
 few:l.length < scanBound
 fits:t.fits l.length=true
 led:t.led = !w.params.followText "set-order"
 tb:Tb t
theorem bG.at (x:bG w h a l ep t) (k:∀o,h.get? a=some o->h'.get? a=some o):bG w h' a l ep t:= by
 obtain ⟨o,ho,hr⟩:=x.obj
 exact ⟨⟨o,k o ho,hr⟩,x.few,x.fits,x.led,x.tb⟩
section
variable {prog:Program} {w:World} {A:Around} {E:Value->Shared->Prop} {s:Shared} {I S:Addr} {l:List (Int × Value)} {ep:Nat} {t:SetTable} {i:Nat} {f0:Value}
theorem bG.state(x:bG w s.heap S l ep t)(h:Q (l.toArray,ep,t) s):wpAny (model prog w) A (setState S) Q E s:=by obtain⟨o,C,_,hd⟩:=x.obj;exact ZV C hd (by simpa using x.fits) h
theorem bG.ty(x:bG w s.heap S l ep t):s.TypeIs (.ref S) "set":=by obtain⟨o,C,hx,_⟩:=x.obj;exact⟨o,C,hx.1⟩
theorem eZ{Q:Option Value->Shared->Prop}(C:iP s.heap I S f0 i l.length ep)(x:bG w s.heap S l ep t)
  (h:wpAny (model prog w) A.in1 (if let .int slot _:=f0 then(do
    match<- setNext S slot.toNat i ep with
    |some (x,next)=>
     setField (.ref I) 0 (rawInt next)
     setField (.ref I) 1 (rawInt (i+1))
     ret x
    |none=>setField (.ref I) 2 .none;raiseNew (<- newExc (.type "StopIteration") []))
   else(do
    let some places<- seqItems? f0|unsupported "internal:set_iterator"
    match places[i]? with
    |some (.int place _)=>
     let x<- setNextDrawn S place.toNat ep
     setField (.ref I) 1 (rawInt (i+1))
     ret x
    |some _=>unsupported "internal:set_iterator"
    |none=>setField (.ref I) 0 (rawInt 0);setField (.ref I) 2 .none;raiseNew (<- newExc (.type "StopIteration") [])))
   (λ fin s'=>∃v,fin= .done (.ret v)/\Q (some v) s') (λ e s'=>(∃a o,e= .ref a/\s'.heap.get? a=some o/\o.cls= .type "StopIteration")/\Q none s') s):
  wpAny (model prog w) A (pyNext (.ref I)) Q E s:=by
 have J:s.TypeIs (.ref I) "set_iterator":=⟨_,C,rfl⟩;refine zN (V0 (QW (name:=Str.ofString "__next__") J cP (QO cP J lY ?_ (mj _))));refine zN (m:=slotArgs "__next__" 0 ⟨[.ref I],[]⟩) (zS ?_);refine zN (wpAny_fieldsOf C rfl ?_);refine zN ?_;refine zN (x.state (zS ?_));rw[QB (by simp)];refine gA h (λ fin s' h'=>?_) λ e s' h'=>?_;. obtain⟨v,rfl,q⟩:=h';exact⟨v,rfl,zS q⟩
 .obtain⟨⟨a,o,rfl,U,hc⟩,q⟩:=h';exact zN (VM (T:="StopIteration") (b:=true) ⟨o,U,hc⟩ isSubtype_stop (zS q))
end
section
variable {prog:Program} {w:World} {A:Around} {E:Value->Shared->Prop} {s:Shared} {I S:Addr} {l:List (Int × Value)} {ep:Nat} {t:SetTable} {i:Nat} {f0:Value}
theorem jh{slot nx:Nat}{v:Value}(C:I≠S)(hI:iP s.heap I S (.int slot 0) i l.length ep)(x:bG w s.heap S l ep t)
  (hn:∀(Q':Option (Value×Nat)->Shared->Prop)(E':Value->Shared->Prop),Q' (some (v,nx)) s->wpAny (model prog w) A.in1 (setNext S slot i ep) Q' E' s)
  (hQ:∀h',iP h' I S (.int nx 0) (i+1) l.length ep->bG w h' S l ep t->(∀b o,b≠I->s.heap.get? b=some o->h'.get? b=some o)->Q (some v) { s with heap:=h' }):
  wpAny (model prog w) A (pyNext (.ref I)) Q E s:=by
 refine eZ hI x ?_;refine zN (hn _ _ ?_);refine zN (QU hI (by simp) λ h1 aa J=>?_);refine zN (QU aa (by simp) λ h2 ab U=>zS ⟨v,rfl,?_⟩);refine hQ h2 (by simpa[iP,rawInt]using ab) (x.at λ o e=>?_) λ b o hb e=>?_;. rw[U.2 S C.symm,J.2 S C.symm];exact e
 .rw[U.2 b hb,J.2 b hb];exact e
theorem eI{slot:Nat}(hh:A.handled=none)(J:iP s.heap I S (.int slot 0) i l.length ep)(x:bG w s.heap S l ep t)
  (hn:∀(U:Option (Value×Nat)->Shared->Prop)(E':Value->Shared->Prop),U none s->wpAny (model prog w) A.in1 (setNext S slot i ep) U E' s)
  (hQ:∀h',(∀b o,b≠I->s.heap.get? b=some o->h'.get? b=some o)->Q none { s with heap:=h' }):
  wpAny (model prog w) A (pyNext (.ref I)) Q E s:=by refine eZ J x ?_;refine zN (hn _ _ ?_);refine zN (QU J (by simp) λ h1 aa C=>?_);refine ic (s:={ s with heap:=h1 }) hh λ h' e kp he=>?_;obtain⟨o,ho,hc⟩:=he;refine⟨⟨e,o,rfl,ho,hc⟩,hQ h' λ b o hb e=>kp b o ?_⟩;rw[C.2 b hb];exact e
theorem pJ{T:Addr}{places:Array Value}{p:Nat}{v:Int×Value}(J:I≠S)(aa:I≠T)(hI:iP s.heap I S (.ref T) i l.length ep)(x:bG w s.heap S l ep t)
  (hT:s.heap.get? T=some { cls:= .type "tuple",data:= .seq places })(hp:places[i]?=some (.int p 0))(hv:l[p]?=some v)
  (hQ:∀h',iP h' I S (.ref T) (i+1) l.length ep->bG w h' S l ep t->(∀b o,b≠I->s.heap.get? b=some o->h'.get? b=some o)->Q (some (v.2)) { s with heap:=h' }):
  wpAny (model prog w) A (pyNext (.ref I)) Q E s:=by
 refine eZ hI x ?_;refine zN (ZH hT rfl ?_);dsimp only;rw[hp];refine zN ?_;refine zN (x.state ?_);dsimp only;rw[QB (by simp)];have:l.toArray[(p:Int).toNat]?=some v:=by simp[hv]
 rw[this];refine zS ?_;refine zN (QU hI (by simp) λ h1 U C=>zS ⟨_,rfl,?_⟩);refine hQ h1 (by simpa[iP,rawInt]using U) (x.at λ o e=>?_) λ b o hb e=>?_;. rw[C.2 S J.symm];exact e
 .rw[C.2 b hb];exact e
theorem gV{T:Addr}{places:Array Value}(hh:A.handled=none)(hI:iP s.heap I S (.ref T) i l.length ep)(x:bG w s.heap S l ep t)
  (hT:s.heap.get? T=some { cls:= .type "tuple",data:= .seq places })(hp:places[i]?=none)
  (hQ:∀h',(∀b o,b≠I->s.heap.get? b=some o->h'.get? b=some o)->Q none { s with heap:=h' }):
  wpAny (model prog w) A (pyNext (.ref I)) Q E s:=by refine eZ hI x ?_;refine zN (ZH hT rfl ?_);dsimp only;rw[hp];refine zN (QU hI (by simp) λ h1 C J=>?_);refine zN (QU C (by simp) λ h2 aa U=>?_);refine ic (s:={ s with heap:=h2 }) hh λ h' e kp he=>?_;obtain⟨o,ho,hc⟩:=he;refine⟨⟨e,o,rfl,ho,hc⟩,hQ h' λ b o hb e=>kp b o ?_⟩;rw[U.2 b hb,J.2 b hb];exact e
theorem f_{n:Nat}(C:iP s.heap I S f0 i n ep)(h:Q (.ref I) s):wpAny (model prog w) A (pyIter (.ref I)) Q E s:=by have o:s.TypeIs (.ref I) "set_iterator":=⟨_,C,rfl⟩;refine YO o gB (QO gB o lU ?_ (kY _));exact zS ⟨_,rfl,"set_iterator",_,o,cP.lookup,h⟩
end
section
variable {prog:Program} {w:World} {A:Around} {E:Value->Shared->Prop} {s:Shared} {I S:Addr} {l:List (Int × Value)} {ep:Nat} {t:SetTable} {i:Nat}
theorem jD(x:bG w s.heap S l ep t)(h:Q (!w.params.followText "set-order"&&(!t.plain&&decide (l.length>1))) s):wpAny (model prog w) A (setDrawn S) Q E s:=by refine zN (x.state ?_);refine zN (fH ?_);exact zS h
theorem fU(hw:w.params.followText "set-order"=true)(x:bG w s.heap S l ep t)(h:Q (((pickOrder (w.params.setOrder S ep) l.toArray)[i]?).map λ e=>(e.2,slot)) s):
  wpAny (model prog w) A (setNext S slot i ep) Q E s:=by refine zN (x.state ?_);refine zN (fH ?_);rw[hw,fD rfl,QB (by simp)];refine zN ?_;refine zN (x.state ?_);refine zN (fH ?_);rw[hw];exact zN (VL (zS (zS h)))
theorem fm(hw:w.params.followText "set-order"=false)(hd:(!t.plain&&decide (l.length>1))=false)(x:bG w s.heap S l ep t)
  (h:Q (match l.toArray[SetTable.below t.place slot]?,t.place[SetTable.below t.place slot]? with
   |some (_,x),some j=>some (x,j+1)
   |_,_=>none) s):wpAny (model prog w) A (setNext S slot i ep) Q E s:=by
 refine zN (x.state ?_);refine zN (fH ?_);rw[hw,QB uS];refine(show∀{b:Bool}{m k:Sem (Option (Value×Nat))},b=false->wpAny (model prog w) A k Q E s->wpAny (model prog w) A (if b=true then m else k) Q E s from λ o C=>by simp_all) hd ?_;refine zN ?_;have U:t.led=true:=by rw[x.led,hw];rfl
 refine(show∀{b:Bool}{m k:Sem PUnit}{J:PUnit->Shared->Prop},b=false->wpAny (model prog w) A k J E s->wpAny (model prog w) A (if b=true then m else k) J E s from λ o C=>by rw[o];exact C) (show(!t.led&& !l.toArray.isEmpty)=false by rw[U];rfl) ?_;exact zS (zS h)
noncomputable def gf(prog:Program)(w:World)(I S:Addr)(l:List (Int×Value))(h':Heap)(top:Addr):Prop:=
 ∃(ord:List (Int×Value)) (fp:List Addr) (St:Nat->Heap->Prop),ord.Perm l/\(∀A:Around,A.handled=none->Walks prog w A I fp [I] l.length (λ i v=>∃p,ord[i]?=some p/\v=p.2) St)/\St 0 h'/\
  (∀i h,St i h->∃o,h.get? I=some o/\o.cls= .type "set_iterator")/\I∈fp/\∀b∈fp,b<h'.objs.size/\(b=S\/top<=b)
theorem ia {h':Heap} {top:Addr} (hw:w.params.followText "set-order" = true) (hIS:I ≠ S) (ht:top ≤ I) (hI:iP h' I S (.int 0 0) 0 l.length ep) (x:bG w h' S l ep t):gf prog w I S l h' top:= by
 have p0:=oU (w.params.setOrder S ep) l.toArray
 obtain ⟨ord,eord⟩:∃ord,ord=(pickOrder (w.params.setOrder S ep) l.toArray).toList:=⟨_,rfl⟩
 have pord:ord.Perm l:=by rw [eord];simpa using p0
 have eg:∀i:Nat,(pickOrder (w.params.setOrder S ep) l.toArray)[i]? = ord[i]?:=fun i=>by
  rw [<- QA,eord]
 have hlen:ord.length=l.length:=pord.length_eq
 refine ⟨ord,[I,S],fun i h=>iP h I S (.int 0 0) i l.length ep∧bG w h S l ep t,pord,fun A hh=>⟨?_,?_,?_,?_,?_⟩,⟨hI,x⟩,fun i h st=>⟨_,st.1,rfl⟩,by simp,fun b hb=>?_⟩
 .intro b hb
  rw [wW.mp hb];simp
 .intro i h h2 st k
  exact ⟨k I (by simp) _ st.1,st.2.at fun o e=>k S (by simp) o e⟩
 .intro i s Q E hi st hQ
  have hx:ord[i]? = some ord[i]:=kW (by omega)
  refine jh (v:=ord[i].2) (nx:=0) hIS st.1 st.2 (fun Q' E' q=>fU hw st.2 ?_) fun h2 a1 a2 a3=>hQ _ h2 s.toks ⟨_,hx,rfl⟩ ⟨a1,a2⟩ fun b o hb e=>a3 b o (fun z=>hb (by rw [z];simp)) e
  grind
 .intro s Q E st hQ
  refine eI hh st.1 st.2 (fun Q' E' q=>fU hw st.2 ?_) fun h2 a3=>hQ h2 s.toks fun b o hb e=>a3 b o (fun z=>hb (by rw [z];simp)) e
  rw [eg,YK (by omega)];exact q
 .intro i s Q E st hQ
  exact f_ st.1 hQ
 .rcases wR.mp hb with e | hb
  .rw [e];exact ⟨wV hI,.inr ht⟩
  .rw [wW.mp hb]
   obtain ⟨o,ho,_⟩:=x.obj
   exact ⟨wV ho,.inl rfl⟩
theorem gx {h':Heap} {top:Addr} (hw:w.params.followText "set-order" = false) (hd:(!t.plain && decide (l.length > 1))=false) (hIS:I ≠ S) (ht:top ≤ I) (hI:iP h' I S (.int 0 0) 0 l.length ep) (x:bG w h' S l ep t):gf prog w I S l h' top:= by
 have hsz:t.place.size=l.length:= by
  have:=x.fits
  simp only [SetTable.fits,Q1,XI] at this
  exact this.1
 have u:Up t.place:= by
  cases hp:t.plain with
  | true=>exact x.tb hp
  | false=>
   rw [hp] at hd
   have hl:¬ l.length > 1:=by simpa using hd
   unfold Up
   have hlt:t.place.toList.length ≤ 1:=by rw [VF];omega
   generalize t.place.toList=q at hlt
   match q,hlt with
   | [],_=>exact List.Pairwise.nil
   | [_],_=>exact ZL _ _
   | _ :: _ :: _,h=>simp at h
 refine ⟨l,[I,S],fun i h=>∃slot:Nat,iP h I S (.int slot 0) i l.length ep∧bG w h S l ep t∧SetTable.below t.place slot=i,ZW _,fun A hh=>⟨?_,?_,?_,?_,?_⟩,⟨0,hI,x,lQ u⟩,fun i h ⟨_,st,_⟩=>⟨_,st,rfl⟩,by simp,fun b hb=>?_⟩
 .intro b hb
  rw [wW.mp hb];simp
 .rintro i h h2 ⟨slot,st1,st2,st3⟩ k
  exact ⟨slot,k I (by simp) _ st1,st2.at fun o e=>k S (by simp) o e,st3⟩
 .rintro i s Q E hi ⟨slot,st1,st2,st3⟩ hQ
  have hx:l[i]? = some l[i]:=kW hi
  have hp:t.place[i]? = some t.place[i]:=by simp [hsz,hi]
  refine jh (v:=l[i].2) (nx:=t.place[i] + 1) hIS st1 st2 (fun Q' E' q=>fm hw hd st2 ?_) fun h2 a1 a2 a3=>hQ _ h2 s.toks ⟨_,hx,rfl⟩ ⟨_,a1,a2,lK u hp⟩ fun b o hb e=>a3 b o (fun z=>hb (by rw [z];simp)) e
  simp_all
 .rintro s Q E ⟨slot,st1,st2,st3⟩ hQ
  refine eI hh st1 st2 (fun Q' E' q=>fm hw hd st2 ?_) fun h2 a3=>hQ h2 s.toks fun b o hb e=>a3 b o (fun z=>hb (by rw [z];simp)) e
  have e1:l.toArray[l.length]? = none:=by simp
  rw [st3,e1];exact q
 .rintro i s Q E ⟨slot,st1,st2,st3⟩ hQ
  exact f_ st1 hQ
 .rcases wR.mp hb with e | hb
  .rw [e];exact ⟨wV hI,.inr ht⟩
  .rw [wW.mp hb]
   obtain ⟨o,ho,_⟩:=x.obj
   exact ⟨wV ho,.inl rfl⟩
theorem gZ {h':Heap} {top T:Addr} {ys:List Nat} (hp:ys.Perm (List.range l.length)) (hIS:I ≠ S) (hIT:I ≠ T) (ht:top ≤ I) (htT:top ≤ T) (hI:iP h' I S (.ref T) 0 l.length ep) (x:bG w h' S l ep t)
  (hT:h'.get? T=some { cls:=.type "tuple",data:=.seq (ys.map fun (i:Nat)=>rawInt i).toArray }):gf prog w I S l h' top:= by
 have hyl:ys.length=l.length:=by rw [hp.length_eq,VY]
 have hin:∀y ∈ ys,y < l.length:=fun y hy=>QL.mp (hp.mem_iff.mp hy)
 have hpo:(ys.filterMap fun i=>l[i]?).Perm l:=(hp.filterMap _).trans (by rw [List.filterMap_getElem?_range_length])
 have eg:∀i (h:i < ys.length),(ys.filterMap fun i=>l[i]?)[i]? = l[ys[i]]?:= by
  have gen:∀(zs:List Nat),(∀y ∈ zs,y < l.length)->∀i (h:i < zs.length),(zs.filterMap fun i=>l[i]?)[i]? = l[zs[i]]?:= by
   intro zs
   induction zs with
   | nil=>intro _ i h;exact absurd h (ZM _)
   | cons z zs ih=>
    intro hz i h
    have hzl:z < l.length:=hz z uL
    have e1:l[z]? = some l[z]:=kW hzl
    rw [ZD e1]
    cases i with
    | zero=>simp [e1]
    | succ i=>simpa using ih (fun y hy=>hz y (uN _ hy)) i (by simpa using h)
  grind
 refine ⟨ys.filterMap fun i=>l[i]?,[I,S,T],fun i h=>iP h I S (.ref T) i l.length ep∧bG w h S l ep t∧h.get? T=some { cls:=.type "tuple",data:=.seq (ys.map fun (i:Nat)=>rawInt i).toArray },hpo,fun A hh=>⟨?_,?_,?_,?_,?_⟩,⟨hI,x,hT⟩,fun i h st=>⟨_,st.1,rfl⟩,by simp,fun b hb=>?_⟩
 .intro b hb
  rw [wW.mp hb];simp
 .rintro i h h2 ⟨st1,st2,st3⟩ k
  exact ⟨k I (by simp) _ st1,st2.at fun o e=>k S (by simp) o e,k T (by simp) _ st3⟩
 .rintro i s Q E hi ⟨st1,st2,st3⟩ hQ
  have hi':i < ys.length:=by omega
  have hyi:ys[i] < l.length:=hin _ (QN hi')
  have hx:l[ys[i]]? = some l[ys[i]]:=kW hyi
  refine pJ hIS hIT st1 st2 st3 (p:=ys[i]) (by simp [hi',rawInt]) hx fun h2 a1 a2 a3=>hQ _ h2 s.toks ⟨_,(eg i hi').trans hx,rfl⟩ ⟨a1,a2,a3 T _ (fun z=>hIT z.symm) st3⟩ fun b o hb e=>a3 b o (fun z=>hb (by rw [z];simp)) e
 .rintro s Q E ⟨st1,st2,st3⟩ hQ
  exact gV hh st1 st2 st3 (by simp [hyl]) fun h2 a3=>hQ h2 s.toks fun b o hb e=>a3 b o (fun z=>hb (by rw [z];simp)) e
 .rintro i s Q E ⟨st1,st2,st3⟩ hQ
  exact f_ st1 hQ
 .rcases wR.mp hb with e | hb
  .rw [e];exact ⟨wV hI,.inr ht⟩
  .rcases wR.mp hb with e | hb
   .rw [e]
    obtain ⟨o,ho,_⟩:=x.obj
    exact ⟨wV ho,.inl rfl⟩
   .rw [wW.mp hb]
    exact ⟨wV hT,.inr htT⟩
theorem jQ(x:bG w s.heap S l ep t)
  (h:∀(I:Addr)(h':Heap)(d:Drawn),(∀b o,s.heap.get? b=some o->h'.get? b=some o)->s.heap.objs.size<=I->gf prog w I S l h' s.heap.objs.size->Q (.ref I) { s with heap:=h',drawn:=d }):
  wpAny (model prog w) A (pyIter (.ref S)) Q E s:=by
 have U:S<s.heap.objs.size:=by obtain⟨o,ho,_⟩:=x.obj;exact wV ho
 refine YO x.ty W7 (QO W7 x.ty kh ?_ (F.args_set_iter_1 _));refine zN (m:=Builtin.Frozenset.slot0 "__iter__" ⟨[.ref S],[]⟩) (zS ?_);refine zN ?_;refine zN (zN (x.state (zS (zS ?_))));refine zN (jD x ?_);by_cases hb:(!w.params.followText "set-order"&&(!t.plain&&decide (l.length>1)))=true
 .rw[fD hb];refine zN (lX l.length (List.range l.length) s (by simp) λ ys d py=>?_);have aa:ys.length=l.length:=by rw[py.length_eq,VY]
  refine zN (wpAny_newTuple ?_ (by rw[wF,aa];exact YM x.few));have C:bG w (s.heap.push { cls:= .type "tuple",data:= .seq (ys.map λ(i:Nat)=>rawInt i).toArray }) S l ep t:=x.at λ o e=>kT _ e;refine zN ?_;refine zN (bG.state (s:={ s with drawn:=d,heap:=s.heap.push { cls:= .type "tuple",data:= .seq (ys.map λ(i:Nat)=>rawInt i).toArray } }) C (zS ?_));refine zN (QK (zS ⟨_,rfl,"set_iterator",_,⟨_,wN _ rfl,rfl⟩,cP.lookup,?_⟩));refine h _ _ d (λ b o e=>kT _ (kT _ e)) (by rw[gO];exact XH _) ?_;refine gZ (t:=t) py (λ z=>?_) (λ z=>?_) ?_ (xS _) (wN _ rfl) (C.at λ o e=>kT _ e) (kT _ (wN _ rfl));. rw[<- z]at U;have J:(s.heap.push { cls:= .type "tuple",data:= .seq (ys.map λ(i:Nat)=>rawInt i).toArray }).objs.size<s.heap.objs.size:=U;rw[gO]at J;exact absurd J (YB.mpr (XH _))
  .have z':(s.heap.push { cls:= .type "tuple",data:= .seq (ys.map λ(i:Nat)=>rawInt i).toArray }).objs.size=s.heap.objs.size:=z;rw[gO]at z';exact Nat.succ_ne_self _ z'
  simp
 .rw[QB hb];refine zN (zS ?_);refine zN ?_;refine zN (x.state (zS ?_));refine zN (QK (zS ⟨_,rfl,"set_iterator",_,⟨_,wN _ rfl,rfl⟩,cP.lookup,?_⟩));refine h _ _ s.drawn (λ b o e=>kT _ e) (xS _) ?_;have C:bG w (s.heap.push { cls:= .type "set_iterator",data:= .fields [rawInt 0,rawInt 0,.ref S,rawInt l.length,rawInt ep].toArray }) S l ep t:=x.at λ o e=>kT _ e;cases hw:w.params.followText "set-order" with
  |true=>exact ia hw (λ z=>QX _ (z▸U)) (xS _) (wN _ rfl) C
  |false=>rw[hw]at hb;exact gx hw (by simpa using hb) (λ z=>QX _ (z▸U)) (xS _) (wN _ rfl) C
end
section
variable {prog:Program} {w:World} {A:Around} {E:Value->Shared->Prop} {s:Shared} {I S:Addr} {l:List (Int × Value)} {ep:Nat} {t:SetTable}
theorem mw(x:bG w s.heap S l ep t)(h:Q false s):wpAny (model prog w) A (Builtin.List.listLengthHint (.ref S)) Q E s:=by refine zN (wpAny_specialOf x.ty F.slot_set_len.lookup ?_);generalize Av:("set.__len__":String)=o;wp_delta;subst Av;refine zN (VM (T:="set") (b:=true) x.ty (by kernel_rfl) ?_);exact zN (VZ x.ty (zS h))
theorem Di{ord:List (Int×Value)}{acc:Array Value}(h:ItemsOf (λ i v=>∃p,ord[i]?=some p/\v=p.2) acc ord.length):acc.toList=ord.map λ p=>p.2:=by
 refine WJ λ i=>?_;rw[QH];by_cases o:i<acc.size
 .have e:acc[i]?=some acc[i]:=by simp
  obtain⟨p,C,J⟩:=h.2 i _ e;simp_all
 .rw[QA,VG (by omega),YK (by have:=h.1;omega)];rfl
theorem gC(hh:A.handled=none)(x:bG w s.heap S l ep t)
  (h:∀(ord:List (Int×Value))(h':Heap)(tk:Nat)(d:Drawn),ord.Perm l->(∀b o,s.heap.get? b=some o->h'.get? b=some o)->Q (ord.map λ p=>p.2) { s with heap:=h',toks:=tk,drawn:=d }):
  wpAny (model prog w) A (collect (.ref S)) Q E s:=by
 have C:S<s.heap.objs.size:=by obtain⟨o,ho,_⟩:=x.obj;exact wV ho
 refine zN (WH (ZK F.entry_proto_collect ?_));refine zN (QK (zS ⟨YJ WK _,ZK F.entry_list_iadd ?_⟩));rw[ZT WK _];have g1:(s.heap.push { cls:= .type "list",data:= .seq ([]:List Value).toArray }).get? s.heap.objs.size=some { cls:= .type "list",data:= .seq ([]:List Value).toArray }:=wN _ rfl;have x1:bG w (s.heap.push { cls:= .type "list",data:= .seq ([]:List Value).toArray }) S l ep t:=x.at λ o e=>kT _ e;have af:Builtin.List.listSameRef (.ref s.heap.objs.size) (.ref S)=false:=by show(s.heap.objs.size==S)=false;simp;exact VX C
 show wpAny (model prog w) A.in1 (Builtin.List.listExtendWith (.ref s.heap.objs.size) (.ref S) (.ref s.heap.objs.size)) _ _ _;refine zN (VZ (bG.ty (s:={ s with heap:=s.heap.push { cls:= .type "list",data:= .seq ([]:List Value).toArray } }) x1) ?_);have h2:(Value.type "set"==Value.type "list")=false:=by decide
 have h3:(Value.type "set"==Value.type "tuple")=false:=by decide
 simp only[af,h2,h3];refine zN (jQ (s:={ s with heap:=s.heap.push { cls:= .type "list",data:= .seq ([]:List Value).toArray } }) x1 λ I U d kp hI Y=>?_);have x2:bG w U S l ep t:=x1.at λ o e=>kp S o e;refine zN (QP (mw (s:={ s with heap:=U,drawn:=d }) x2 ?_));refine zN (VE (zN ?_));have g2:=kp _ _ g1;show wpAny (model prog w) A.in1 (updateSeq s.heap.objs.size (·.push .none) >>=λ _=>updateSeq s.heap.objs.size (·.pop)) _ _ { s with heap:=U,drawn:=d };refine zN (W8 (s:={ s with heap:=U,drawn:=d }) g2 rfl ?_);have g3:=QQ (Obj.mapSeq (·.push Value.none)) g2 rfl;refine W8 (s:={ s with heap:=U.update s.heap.objs.size (Obj.mapSeq (·.push Value.none)),drawn:=d }) g3 rfl ?_ (hz:=by seq_fits);have g4:=QQ (Obj.mapSeq (·.pop)) g3 rfl;obtain⟨ord,fp,St,po,W,ag,hT,ao,ah⟩:=Y;have ab:s.heap.objs.size∉fp:= λ hm=>by
  obtain⟨_,h6⟩:=ah _ hm;rcases h6 with e|e
  .rw[e]at C;exact QX _ C
  .have e':(s.heap.push { cls:= .type "list",data:= .seq ([]:List Value).toArray }).objs.size<=s.heap.objs.size:=e;rw[gO]at e';exact Nat.not_succ_le_self _ e'
 have oth:∀b o,b≠s.heap.objs.size->U.get? b=some o->((U.update s.heap.objs.size (Obj.mapSeq (·.push Value.none))).update s.heap.objs.size (Obj.mapSeq (·.pop))).get? b=some o:=fun b o hb e=>by rw[QS _ _ (Ne.symm hb),QS _ _ (Ne.symm hb)];exact e
 have hlen:ord.length=l.length:=po.length_eq;have ai:St 0 ((U.update s.heap.objs.size (Obj.mapSeq (·.push Value.none))).update s.heap.objs.size (Obj.mapSeq (·.pop))):=(W A.in1 hh).frame 0 U _ ag fun b hb o e=>oth b o (fun z=>ab (z▸hb)) e;refine zS ⟨YJ F.plain_extend_loop _,codeAny_extend_loopS (W A.in1 hh).toS (YM x.few) _ ab _ l.length 0 { s with heap:=(U.update s.heap.objs.size (Obj.mapSeq (·.push Value.none))).update s.heap.objs.size (Obj.mapSeq (·.pop)),drawn:=d } #[] _ rfl (QY _) ai g4 (ItemsOf.nil _) fun s' ak c' hm aj aa=>?_⟩;show wpAny (model prog w) A (load s.heap.objs.size >>= _) _ _ s';refine zN (wpAny_load aj (zS ?_));rw[<-hlen]at aa;rw[Di aa,Moved.eq_with hm];refine h ord s'.heap s'.toks d po fun b o e=>?_;have hb:=wV e;refine hm.heap b o (fun J=>?_) (oth b o (uT hb) (kp b o (kT _ e)));rcases wR.mp J with e'|J
 .rw[e']at hb;exact QX _ hb
 .have e':=wW.mp J;have ae:(s.heap.push { cls:= .type "list",data:= .seq ([]:List Value).toArray }).objs.size≤I:=hI;rw[gO]at ae;exact absurd hb (YB.mpr (VC (e'▸ae)))
end
variable{M:Nat}
section
variable {prog:Program} {w:World} {A:Around} {E:Value->Shared->Prop} {s:Shared}
noncomputable abbrev eO(prog:Program)(w:World)(h:Heap)(ks:List Int)(a:Addr):Prop:=IsTupleKey (intKind prog w) h ks a
noncomputable abbrev th(prog:Program)(w:World)(ks:List Int):Int:=tupleKeyHash (intKind prog w) ks
theorem kf(hk:eO prog w s.heap ks a)(h:Q false s):wpAny (model prog w) A (ofAClassStatement 8 (.ref a)) Q E s:=by
 have hT:=hk.typeIs;obtain⟨o,items,n,ho,_,hd,hi⟩:=hk;unfold ofAClassStatement;refine zN (VZ hT ?_);refine zN (zS ?_);refine zN (ZH ho hd ?_);refine zN ?_;rw[<- Array.forIn_toList];refine YX _ (λ rest r I=>r.1=none/\I=s/\∀v∈rest,carriedByValue v=true) _ ?_ ?_ _ _ ⟨rfl,rfl,hi.byValue⟩
 .rintro v rest r I ⟨U,rfl,C⟩;have hv:=C v uL;have e:ofAClassStatement 7 v=pure false:=by cases v <;> first|rfl|(cases hv)
  rw[e];exact zS ⟨rfl,rfl,λ u J=>C u (uN _ J)⟩
 .rintro⟨r1,r2⟩ I ⟨U,rfl,_⟩;subst U;exact zS h
theorem Br(hk:eO prog w s.heap ks a)(hy:∀y∈ys,∃k b,y= .ref b/\eO prog w s.heap k b)(h:Q false s):wpAny (model prog w) A (searchCouldBeSeen (.ref a) ys) Q E s:=by
 refine zN ?_;refine YX _ (λ rest r I=>r.1=none/\I=s/\∀y∈rest,∃k b,y= .ref b/\eO prog w s.heap k b) _ ?_ ?_ _ _ ⟨rfl,rfl,hy⟩
 .rintro v rest r I ⟨U,rfl,o⟩;obtain⟨k,b,rfl,hb⟩:=o v uL;have tl:∀y∈rest,∃k b,y= .ref b/\eO prog w I.heap k b:= λ u J=>o u (uN _ J);dsimp only;by_cases C:(a==b)=true
  .rw[fD (by rw[C];rfl)];exact zS ⟨rfl,rfl,tl⟩
  .rw[QB (by rw[VD.mpr C];simp[carriedByValue])];refine zN (wpAny_eqIsQuiet_tuple hk ?_);refine zN (wpAny_eqIsQuiet_tuple hb ?_);refine zN (kf hk ?_);refine zN (kf hb ?_);exact zS ⟨rfl,rfl,tl⟩
 .rintro⟨r1,r2⟩ I ⟨U,rfl,_⟩;subst U;exact zS h
end
noncomputable def ek(prog:Program)(w:World)(p:List Int×Addr):Int×Value:=(th prog w p.1,.ref p.2)
structure TS (prog:Program) (w:World) (M:Nat) (h:Heap) (S:Addr) (l:List (List Int × Addr)) (ep:Nat) (t:SetTable):Prop where
 x:bG w h S (l.map (ek prog w)) ep t
 keys:∀p ∈ l,eO prog w h p.1 p.2
 t7:T7 M t
 way:∀(i:Nat) (p:List Int × Addr),l[i]? = some p->∃m,t.place[i]? = some (wy M (SetTable.bits (th prog w p.1)) m).j∧∀m',m' < m->(wy M (SetTable.bits (th prog w p.1)) m').j ∈ t.place.toList
section
variable {prog:Program} {w:World} {M:Nat} {A:Around} {E:Value->Shared->Prop} {s:Shared} {S:Addr} {l:List (List Int × Addr)} {ep:Nat} {t:SetTable}
theorem TS.size(T:TS prog w M s.heap S l ep t):t.place.size=l.length:=by have:=T.x.fits;simp[SetTable.fits]at this;simp_all
theorem TS.search(T:TS prog w M s.heap S l ep t){k:List Int}{a:Addr}{Q:SetFound->Shared->Prop}(hu:A.units<cLine)(hk:eO prog w s.heap k a){N:Nat}(hN:N<=10*(M+13))
  (af:(wy M (SetTable.bits (th prog w k)) N).j∉t.place.toList)(C:∀m,m<N->(wy M (SetTable.bits (th prog w k)) m).j∈t.place.toList)(h1:k∈l.map (·.1)->Q (.there none) s)(h2:k∉l.map (·.1)->Q (.free (wy M (SetTable.bits (th prog w k)) N).j false) s):
  ∀(d m fuel:Nat)(st:Option SetTable.Probe),m+d=N->d<fuel->st.getD (t.probeStart (th prog w k))=wy M (SetTable.bits (th prog w k)) m->
   (k∈l.map (·.1)->∃(m1 i:Nat) (p:List Int×Addr),m<=m1/\m1<N/\l[i]?=some p/\p.1=k/\t.place[i]?=some (wy M (SetTable.bits (th prog w k)) m1).j)->wpAny (model prog w) A (setSearchFrom S (.ref a) (th prog w k) true fuel st) Q E s:=by have hsz:=T.size;obtain⟨o,ho,_,hd⟩:=T.x.obj;intro d;induction d using Nat.strongRecOn with
 |ind d ih=>intro m fuel st hm hf aj ai;cases fuel with
  |zero=>omega
  |succ fuel=>
  have ab:t.fits (l.map (ek prog w)).toArray.size=true:=by have:=T.x.fits;simpa using this
  unfold setSearchFrom;refine zN (ZV ho hd ab ?_);dsimp only;rw[QB (by unfold SetTable.gaveWay;rw[T.t7.mask,T.t7.odd];decide),aj];obtain⟨I,aw,ag,ak⟩:=o4 M t (λ i=>((l.map (ek prog w)).toArray[i]?.map (·.1)).getD 0) (th prog w k) (SetTable.bits (th prog w k)) N d m hm;have live:∀m',m'<N->∃p,l[SetTable.below t.place (wy M (SetTable.bits (th prog w k)) m').j]?=some p/\t.place[SetTable.below t.place (wy M (SetTable.bits (th prog w k)) m').j]?=some (wy M (SetTable.bits (th prog w k)) m').j:= λ m' ao=>by
   have e:=jZ T.t7.up (C m' ao);have J:SetTable.below t.place (wy M (SetTable.bits (th prog w k)) m').j<l.length:=by rw[<- hsz];exact(ZZ.mp e).1
   exact⟨_,kW J,e⟩
  have pb:=fun(f:Nat->Int) (hf:∀i,f i=((l.map (ek prog w)).toArray[i]?.map (·.1)).getD 0)=>T.t7.probe (f:=f) (h:=th prog w k) (b:=SetTable.bits (th prog w k)) (k:=I) (m:=m) (by omega) fun m' a1 a2=>⟨C m' (by omega),by rw[hf];exact ag m' a1 a2⟩;by_cases U:m+I=N;·
   have e0:=fun f hf=>(pb f hf).1 (by rw[U];exact af);rw[e0];case hf=>intro i;rfl
   rw[U];refine zS ?_;refine h2 fun aa=>?_;obtain⟨m1,i,p,a1,a2,a3,a4,a5⟩:=ai aa;refine ag m1 a1 (by omega) ?_;have hb:=T.t7.at a5;rw[hb];simp[a3,ek,a4]
  .have J:m+I<N:=by omega
   have hh:=ak.resolve_left U;have e0:=fun f (hf:∀i,f i=((l.map (ek prog w)).toArray[i]?.map (·.1)).getD 0)=>(pb f hf).2 (C _ J) (by rw[hf];exact hh);rw[e0];case hf=>intro i;rfl
   obtain⟨p,hp,ax⟩:=live _ J;have aq:=T.keys p (VA hp)
   have rest:wpAny (model prog w) A (do
     let some (_,y):=(l.map (ek prog w)).toArray[SetTable.below t.place (wy M (SetTable.bits (th prog w k)) (m+I)).j]?|unsupported "internal:set-entry"
     let equal<-holding [y] (eqBool y (.ref a))
     let(ar,_,t')<-setState S
     if true&&equal then return .there none
     let some same:=t'.sameMemory t.moves t.mask|unsupported "set.changed-during-lookup:is-the-new-block-at-the-old-address"
     let ah<-match(if same then t'.slot (wy M (SetTable.bits (th prog w k)) (m+I)).j else .empty)with
      | .live i'=>match ar[i']? with
       |some (_,y')=>do pure (if<-isSame y' y then some i' else none)
       |none=>pure none
      |_=>pure none
     match ah with
     |none=>rule "set.search.anew";setSearchFrom S (.ref a) (th prog w k) true fuel none
     |some i'=>if equal then return .there (some i')else setSearchFrom S (.ref a) (th prog w k) true fuel (some (wy M (SetTable.bits (th prog w k)) (m+I+1)))) Q E s:=by
    have he:(l.map (ek prog w)).toArray[SetTable.below t.place (wy M (SetTable.bits (th prog w k)) (m+I)).j]?=some (th prog w p.1,.ref p.2):=by simp[hp,ek]
    rw[he];dsimp only;refine zN (QP (wpAny_eqBool_tuple hu aq hk ?_));refine zN (ZV ho hd ab ?_);by_cases hq:p.1=k;· rw[fN hq];exact zS (h1 (hq▸QJ.mpr ⟨p,VA hp,rfl⟩))
    .rw[gL hq];have sm:t.sameMemory t.moves t.mask=some true:=by unfold SetTable.sameMemory;simp
     rw[sm];dsimp only;rw[fD rfl,T.t7.live (C _ J)];dsimp only;rw[he];refine zN (wpAny_isSame_ref_self (zN (zS ?_)));refine ih (d-(I+1)) (by omega) (m+I+1) fuel _ (by omega) (by omega) rfl fun aa=>?_;obtain⟨m1,i,p',a1,a2,a3,a4,a5⟩:=ai aa;refine⟨m1,i,p',?_,a2,a3,a4,a5⟩;rcases Nat.lt_or_ge m1 (m+I)with z|z
     .exfalso;refine ag m1 a1 z ?_;rw[T.t7.at a5];simp[a3,ek,a4]
     .by_cases z2:m1=m+I;· exfalso;subst z2;have:=T.t7.at a5;rw[this,a3]at hp;cases hp;exact hq a4
      .omega
   by_cases ae:t.led=true;· rw[ae];exact rest
   .rw[VD.mpr ae];refine zN (Br hk (fun y hy=>?_) ?_);· obtain⟨e,he,rfl⟩:=QJ.mp hy;rw[Array.toList_filter,VS]at he;have au:e∈l.map (ek prog w):=he.1;obtain⟨q,hq,rfl⟩:=QJ.mp au;exact⟨q.1,q.2,rfl,T.keys q hq⟩
    .exact rest
end
variable{M:Nat}
theorem sE(M:Nat):∀(n:Nat)(s:Nat×Nat),lp M (n+1) s=lp M n (SetTable.leap M s.1 s.2)
 |0,s=>rfl
 |n+1,s=>by show SetTable.leap M (lp M (n+1) s).1 (lp M (n+1) s).2=_;rw[sE M n s];rfl
noncomputable abbrev emp(owner:Array (Option Nat))(j:Nat):Prop:=(owner.getD j (some 0)).isNone=true
theorem oA(owner:Array (Option Nat)):∀(fuel:Nat)(s:Nat×Nat),(∃n,n<fuel/\emp owner (lp M n s).1)->∃j,SetTable.layClean.free M owner fuel s.1 s.2=some j
 |0,s,⟨n,h,_⟩=>absurd h (ZM _)
 |fuel+1,s,⟨n,hn,h⟩=>by
  unfold SetTable.layClean.free;split;. exact⟨_,rfl⟩
  .rename_i o;cases n with
   |zero=>
    exfalso;rw[List.find?_eq_none]at o;have C:1<=SetTable.runEnd M s.1+1-s.1:=by unfold SetTable.runEnd;grind
    have:=o 0 (QL.mpr C);exact this (by simpa[lp]using h)
   |succ n=>exact oA owner fuel (SetTable.leap M s.1 s.2) ⟨n,by omega,by rw[<- sE];exact h⟩
theorem tQ{n k:Nat}(h:(List.range n).find? p=some k):k<n/\p k=true/\∀i,i<k->p i=false:=by rw[List.find?_range_eq_some]at h;obtain⟨o,C,I⟩:=h;exact⟨QL.mp C,o,λ i hi=>by simpa using I i hi⟩
theorem qV(owner:Array (Option Nat)):∀(fuel n i q j:Nat),wy M b n=rn M i q->(∀m,m<n-> ¬emp owner (wy M b m).j)->SetTable.layClean.free M owner fuel i q=some j->∃m,(wy M b m).j=j/\emp owner j/\∀C,C<m-> ¬emp owner (wy M b C).j
 |0,n,i,q,j,_,_,h=>by cases h
 |fuel+1,n,i,q,j,hn,I,h=>by
  have J:SetTable.runEnd M i+1-i=rl M i+1:=by unfold rl SetTable.runEnd;split <;> omega
  unfold SetTable.layClean.free at h;rw[J]at h;split at h
  .rename_i k hk;cases h;obtain⟨k1,k2,k3⟩:=tQ hk;have ws:= λ z hz=>qa hn z hz;refine⟨n+k,by rw[ws k (by omega)],k2,λ C U=>?_⟩;by_cases c:C<n;. exact I C c
   .obtain⟨z,rfl⟩:∃z,C=n+z:=⟨C-n,by omega⟩;rw[ws z (by omega)];have:=k3 z (by omega);intro e;rw[e]at this;cases this
  .rename_i o;refine qV owner fuel _ _ _ j (vQ hn) (λ m hm=>?_) h;by_cases c:m<n;. exact I m c
   .obtain⟨z,rfl⟩:∃z,m=n+z:=⟨m-n,by omega⟩;rw[qa hn z (by omega)];rw[List.find?_eq_none]at o;exact o z (QL.mpr (by omega))
theorem vH{β:Type}{g g':Nat->Option β}:∀{L:List Nat},(∀i∈L,g' i=g i)->L.filterMap g'=L.filterMap g
 |[],_=>rfl
 |x::r,h=>by have o:=vH (L:=r) λ i hi=>h i (uN _ hi);have hx:=h x uL;cases q:g x with
  |none=>simp_all
  |some y=>simp_all
theorem vI{β:Type}{g g':Nat->Option β}{j:Nat}{v:β}(hg:g j=none)(o:g' j=some v)(C:∀i,i≠j->g' i=g i):∀{L:List Nat},L.Nodup->j∈L->(L.filterMap g').Perm (v::L.filterMap g)
 |[],_,h=>nomatch h
 |x::r,nd,h=>by
  have n:=ZF.mp nd;by_cases e:x=j;. subst e;have same:r.filterMap g'=r.filterMap g:=vH λ i hi=>C i λ z=>n.1 (z▸hi);rw[ZD o,Y7 hg,same]
  .have I:=vI hg o C n.2 ((wR.mp h).resolve_left λ z=>e z.symm);have hx:=C x e;cases q:g x with
   |none=>rw[Y7 (hx.trans q),Y7 q];omega
   |some y=>rw[ZD (hx.trans q),ZD q];exact(I.cons y).trans (List.Perm.swap _ _ _)
noncomputable def lv(M:Nat)(owner:Array (Option Nat)):List (Nat×Nat):=(List.range (M+1)).filterMap λ j=>(owner.getD j none).map (j,.)
theorem ju{j:Nat}(h:j<owner.size):emp owner j↔owner.getD j none=none:=by simp_all
theorem zt(h:emp owner j):j<owner.size:=by apply Z3;intro z;simp[Array.getD,z]at h
structure Ow (M:Nat) (hs:List Int) (owner:Array (Option Nat)) (k:Nat):Prop where
 size:owner.size=M + 1
 perm:((lv M owner).map (·.2)).Perm (List.range k)
 way:∀j i,owner.getD j none=some i->∃h,hs[i]? = some h∧∃m,(wy M (SetTable.bits h) m).j=j∧∀m',m' < m->¬ emp owner (wy M (SetTable.bits h) m').j
section
variable {M:Nat} {hs:List Int} {owner:Array (Option Nat)} {k:Nat}
theorem Ow.room(h:Ow M hs owner k)(hk:k<M+1):∃j,j<M+1/\emp owner j:=by
 apply Z3;intro z;have all:∀j,j<M+1->∃v,owner.getD j none=some v:= λ j o=>by cases q:owner.getD j none with
  |some v=>exact⟨v,rfl⟩
  |none=>exact absurd ⟨j,o,(ju (by rw[h.size];exact o)).mpr q⟩ z
 have U:(lv M owner).length=M+1:=by
  unfold lv;have gen:∀L:List Nat,(∀j∈L,j<M+1)->(L.filterMap λ j=>(owner.getD j none).map (j,.)).length=L.length:=by intro L;induction L with
   |nil=>intro _;rfl
   |cons x r I=>
    intro C;obtain⟨v,e⟩:=all x (C x uL);have J:(λ j=>(owner.getD j none).map λ y=>(j,y)) x=some (x,v):=by show(owner.getD x none).map (λ y=>(x,y))=_;rw[e];rfl
    rw[ZD (f:= λ j=>(owner.getD j none).map λ y=>(j,y)) J,QT,QT,I λ j o=>C j (uN _ o)]
  rw[gen _ λ j o=>QL.mp o,VY]
 have:=h.perm.length_eq;simp_all
theorem yJ(C:FF M):∀(ts:List Int)(owner:Array (Option Nat))(k:Nat),hs.drop k=ts->Ow M hs owner k->k+ts.length<M+1->∃I,ts.foldl (λ acc h=>do
  let(owner,k)<- acc
  let j<- SetTable.layClean.free M owner (SetTable.turns M) (SetTable.bits h%(M+1)) (SetTable.bits h)
  pure (owner.setIfInBounds j (some k),k+1)) (some (owner,k))=some (I,k+ts.length)/\Ow M hs I (k+ts.length)
 |[],owner,k,_,h,_=>⟨owner,rfl,h⟩
 |a::ts,owner,k,hd,h,hk=>by
  rw[QT]at hk;have ae:hs[k]?=some a:=by have:=Q9 (λ l=>l[0]?) hd;simpa using this
  obtain⟨j0,af,hf⟩:=h.room (by omega);obtain⟨kk,ai,ag⟩:=C _ (Nat.lt_succ_of_le (FX M (SetTable.bits a%(M+1),SetTable.bits a) (WA.mp (W0 _ (by omega))) 13)) j0 af;have em:=(Jr M (SetTable.bits a%(M+1),SetTable.bits a) (v9 a) kk).trans ag;obtain⟨j,ej⟩:=oA owner (SetTable.turns M) (SetTable.bits a%(M+1),SetTable.bits a) ⟨13+kk,by unfold SetTable.turns;omega,by rw[em];exact hf⟩;obtain⟨m,wm,wf,wo⟩:=qV (b:=SetTable.bits a) owner _ 0 _ _ j rfl (λ m hm=>absurd hm (ZM _)) ej;have J:=zt wf;have hn:=(ju J).mp wf;have o:(owner.setIfInBounds j (some k)).getD j none=some k:=by simp[J]
  have U:∀i,i≠j->(owner.setIfInBounds j (some k)).getD i none=owner.getD i none:= λ i hi=>by simp;rw[Array.getElem?_setIfInBounds_ne (Ne.symm hi)]
  have oc:∀i,¬emp owner i-> ¬emp (owner.setIfInBounds j (some k)) i:= λ i hi he=>by
   have ab:=zt he;have ah:i<owner.size:=by simpa using ab
   have e:=(ju ab).mp he;by_cases c:i=j;. rw[c,o]at e;cases e
   .rw[U i c]at e;exact hi ((ju ah).mpr e)
  have h':Ow M hs (owner.setIfInBounds j (some k)) (k+1):=by
   refine⟨by simp[h.size],?_,λ i v e=>?_⟩;. have p:=vI (g:= λ i=>(owner.getD i none).map (i,.)) (g':= λ i=>((owner.setIfInBounds j (some k)).getD i none).map (i,.)) (j:=j) (v:=(j,k)) (by rw[hn];rfl) (by rw[o];rfl) (λ i hi=>by rw[U i hi]) (L:=List.range (M+1)) List.nodup_range (QL.mpr (by rw[<- h.size];exact J));have p2:=p.map (·.2);refine p2.trans ?_;rw[show List.range (k+1)=List.range k++[k]from List.range_succ];exact((h.perm).cons k).trans (List.perm_append_singleton _ _).symm
   .by_cases c:i=j;. rw[c,o]at e;cases e;exact⟨a,ae,m,wm.trans c.symm,λ m' aa=>oc _ (wo m' aa)⟩
    .rw[U i c]at e;obtain⟨z,hz,m2,e1,e2⟩:=h.way i v e;exact⟨z,hz,m2,e1,λ m' aa=>oc _ (e2 m' aa)⟩
  have hd2:hs.drop (k+1)=ts:=by rw[<- List.drop_drop,hd];rfl
  obtain⟨ow,e1,e2⟩:=yJ C ts _ (k+1) hd2 h' (by omega);refine⟨ow,?_,by rw[QT,show k+(ts.length+1)=k+1+ts.length by omega];exact e2⟩;rw[QT,show k+(ts.length+1)=k+1+ts.length by omega];simp_all
end
theorem I0(M:Nat):lv M (Array.replicate (M+1) none)=[]:=by unfold lv;simp_all
theorem D_(C:FF M)(od:M%2=1)(hs:Array Int)(hn:hs.size<M+1):∃t o,SetTable.laid M fg mv ld pl hs=some (t,o)/\o.toList.Perm (List.range hs.size)/\t.fits hs.size=true/\t.plain=pl/\T7 M t/\
  ∀(i v:Nat),o[i]?=some v->∃h,hs[v]?=some h/\∃m,t.place[i]?=some (wy M (SetTable.bits h) m).j/\∀I,I<m->(wy M (SetTable.bits h) I).j∈t.place.toList:=by
 have h0:Ow M hs.toList (Array.replicate (M+1) none) 0:=⟨by simp,by rw[I0];exact ZW _,λ j i e=>by simp[Array.getD]at e⟩;obtain⟨ow,e1,U⟩:=yJ C hs.toList _ 0 (by simp) h0 (by simpa using hn);rw[Nat.zero_add]at U;have el:SetTable.laid M fg mv ld pl hs=some (⟨M,((lv M ow).map (·.1)).toArray,#[],fg,ld,mv,pl⟩,((lv M ow).map (·.2)).toArray):=by unfold SetTable.laid SetTable.layClean;rw[<- Array.foldl_toList,e1];rfl
 refine⟨_,_,el,by simpa using U.perm,?_,rfl,⟨rfl,od,C,rfl,(pA el).1⟩,λ i v J=>?_⟩
 .have hl:(lv M ow).length=hs.size:=by have:=U.perm.length_eq;rwa [wF,VY]at this
  unfold SetTable.fits SetTable.fill;grind
 .have J:((lv M ow).map (·.2))[i]?=some v:=by simpa using J
  rw[QH]at J;cases q:(lv M ow)[i]? with
  |none=>rw[q]at J;cases J
  |some p=>
   rw[q]at J;have hm:=VA q;obtain⟨j,_,hj⟩:=YC.mp hm;cases g:ow.getD j none with
   |none=>rw[g]at hj;cases hj
   |some u=>
    rw[g]at hj;cases hj;cases J;obtain⟨h,hh,m,w1,w2⟩:=U.way j _ g;refine⟨h,by simpa using hh,m,?_,λ I ab=>?_⟩;. rw[w1];simp[q]
    .have hle:=GG M (SetTable.bits h) I;have aa:(wy M (SetTable.bits h) I).j<M+1:=by omega
     have ne:=w2 I ab;rw[ju (by rw[U.size];exact aa)]at ne;cases g2:ow.getD (wy M (SetTable.bits h) I).j none with
     |none=>exact absurd g2 ne
     |some u=>exact QJ.mpr ⟨(_,u),YC.mpr ⟨_,QL.mpr aa,by rw[g2];rfl⟩,rfl⟩
section
variable {prog:Program} {w:World} {M:Nat} {A:Around} {E:Value->Shared->Prop} {s:Shared} {S:Addr} {l:List (List Int × Addr)} {ep:Nat} {t:SetTable}
theorem eO.keeps (x:eO prog w h ks a) (k:∀o,h.get? a=some o->h'.get? a=some o):eO prog w h' ks a:= by
 obtain ⟨o,items,n,ho,r⟩:=x
 exact ⟨o,items,n,k o ho,r⟩
theorem eO.notSet (x:eO prog w h ks a) (ho:h.get? S=some o) (hd:o.data=.set es ep t):a ≠ S:=fun z=>by
 obtain ⟨o2,items,n,ho2,_,hd2,_⟩:=x
 simp_all
theorem mF(hk:eO prog w s.heap ks a)(h:Q true s):wpAny (model prog w) A (hashByValue 8 (.ref a)) Q E s:=by
 have hT:=hk.typeIs;obtain⟨o,items,n,ho,_,hd,hi⟩:=hk;refine zN (wpAny_specialOf hT F.slot_tuple_hash.lookup ?_);refine zN (ZH ho hd ?_);refine zN ?_;rw[<- Array.forIn_toList];have J:∀v∈items.toList,∃i u,v=Value.int i u:=by generalize items.toList=vs at hi;induction hi with
  |nil=>intro v I;cases I
  |@cons k v' ks vs h1 _ ih=>
   intro v I;rcases wR.mp I with rfl|I
   .obtain⟨u,e⟩:=ZU (show Value.isInt k v=true from h1);exact⟨k,u,e⟩
   .exact ih v I
 refine YX _ (λ rest r U=>r.1=none/\U=s/\∀v∈rest,∃i u,v=Value.int i u) _ ?_ ?_ _ _ ⟨rfl,rfl,J⟩;. rintro v rest r U ⟨hr,rfl,C⟩;obtain⟨i,u,rfl⟩:=C v uL;exact zS ⟨rfl,rfl,λ u aa=>C u (uN _ aa)⟩
 .rintro⟨r1,r2⟩ U ⟨hr,rfl,_⟩;subst hr;exact zS h
theorem uB(f:α->β)(xs:Array α)(p:Nat)(x:α):SetTable.insertAt (xs.map f) p (f x)=(SetTable.insertAt xs p x).map f:=by unfold SetTable.insertAt;simp
theorem bG.store{l C:List (Int×Value)}{t':SetTable}{es:Array (Int×Value)}(x:bG w h S l ep t)(he:es=C.toArray)(hn:C.length<scanBound)(hf:t'.fits C.length=true)(I:t'.led=t.led)(J:Tb t'):
  bG w (h.update S (Obj.putSet es t')) S C (ep+1) t':=by obtain⟨o,U,hx,hd⟩:=x.obj;subst he;refine⟨⟨{ o with data:= .set C.toArray (ep+1) t' },?_,hx,rfl⟩,hn,hf,I.trans x.led,J⟩;have:=QQ (Obj.putSet C.toArray t') U (by rw[putSet_of C.toArray t' hd];rfl);rwa [putSet_of C.toArray t' hd]at this
theorem vw{α:Type}:∀l:List α,(List.range l.length).filterMap (λ i=>l[i]?)=l
 |[]=>rfl
 |x::r=>by rw[QT,WO,ZD (f:= λ i=>(x::r)[i]?) (show(x::r)[0]?=some x from rfl),List.filterMap_map];congr 1;exact vw r
inductive TZ (prog:Program) (w:World) (h:Heap) (S:Addr) (l:List (List Int × Addr)) (ep:Nat) (t:SetTable):Prop
 | mk (M:Nat) (T:TS prog w M h S l ep t) (b:M=7∧l.length ≤ 4 ∨ M=31∧l.length ≤ 18)
theorem TS.add(Z:TZ prog w s.heap S l ep t)(hu:A.units<cLine)(aW:l.length<=17){k:List Int}{a:Addr}(hk:eO prog w s.heap k a){Q:Bool->Shared->Prop}
  (h:∀h' l' ae t' b,Heap.SameBut S s.heap h'->TZ prog w h' S l' ae t'->(if k∈l.map (·.1)then l'=l else l'.Perm ((k,a)::l))->Q b { s with heap:=h' }):
  wpAny (model prog w) A (setAddHashed S (.ref a) (th prog w k)) Q E s:=by
 obtain⟨M,T,hB⟩:=Z;obtain⟨o,ho,hx,hd⟩:=T.x.obj;have hsz:=T.size;have aX:l.length+1<=M:=by omega
 have ar:t.fits (l.map (ek prog w)).toArray.size=true:=by have:=T.x.fits;simpa using this
 obtain⟨N,hN,J,au⟩:=El T.t7.cyc (th prog w k) (l:=t.place.toList) (by rw[VF,hsz];omega);unfold setAddHashed setAddHashedIn;refine QP ?_;refine zN (ZV ho hd ar ?_);dsimp only;have nb:byScan (.ref a) (l.map (ek prog w)).toArray=false:=rfl;rw[nb];simp only[ZS,Y4];refine zN ?_;unfold setSearch;refine T.search hu hk hN J au (λ hm=>?_) (λ hm=>?_) N 0 100000 none (by omega) (by omega) ?_ (λ hm=>?_);. exact zS (h s.heap l ep t false (Heap.SameBut.refl S s.heap) ⟨M,T,hB⟩ (by rw[fD hm]))
 .dsimp only;refine zN (ZV ho hd ar ?_);dsimp only;generalize hj:(wy M (SetTable.bits (th prog w k)) N).j=j at J;have hp:SetTable.below t.place j<=t.place.size:=(gR T.t7.up j).1;obtain⟨t1,af⟩:∃t1:SetTable,t1={ t with place:=SetTable.insertAt t.place (SetTable.below t.place j) j,dummies:=if SetTable.has t.dummies j then SetTable.eraseAt t.dummies (SetTable.below t.dummies j)else t.dummies }:=⟨_,rfl⟩;have aD:t.put j=(t1,SetTable.below t.place j):=by rw[af];rfl
  rw[aD];dsimp only;have ax:t1.dummies=#[]:=by
   rw[af];have:SetTable.has t.dummies j=false:=by rw[T.t7.dum];rfl
   show(if SetTable.has t.dummies j=true then _ else _)=_;rw[this,T.t7.dum];rfl
  have ag:t1.place=SetTable.insertAt t.place (SetTable.below t.place j) j:=by rw[af]
  have ay:t1.mask=M:=by rw[af];exact T.t7.mask
  have az:t1.led=t.led:=by rw[af]
  have U:=j9 t.place (SetTable.below t.place j) j hp;rw[<- ag]at U;have aE:t1.place.size=l.length+1:=by have:=U.length_eq;rw[VF,QT,VF,hsz]at this;exact this
  have aw:Up t1.place:=by rw[ag];exact oj T.t7.up J
  have aR:∀{K:Bool->Sem Bool}{Q':Bool->Shared->Prop},wpAny (model prog w) A (K true) Q' E s->wpAny (model prog w) A (if t1.plain=true then hashByValue 8 (.ref a) >>= K else pure true >>= K) Q' E s:= λ q=>by
   split;. exact zN (mF hk q)
   .exact zN (zS q)
  refine aR ?_;simp only[if_true]
  obtain⟨I,aA⟩:∃I,I=(SetTable.insertAt l.toArray (SetTable.below t.place j) (k,a)).toList:=⟨_,rfl⟩;have aF:SetTable.below t.place j<=l.toArray.size:=by simpa[hsz]using hp
  have aG:SetTable.insertAt (l.map (ek prog w)).toArray (SetTable.below t.place j) (th prog w k,.ref a)=(I.map (ek prog w)).toArray:=by
   have e:=uB (ek prog w) l.toArray (SetTable.below t.place j) (k,a);rw[aA];have e2:l.toArray.map (ek prog w)=(l.map (ek prog w)).toArray:=by simp
   rw[e2]at e;rw[show(th prog w k,Value.ref a)=ek prog w (k,a)from rfl,e];apply Array.toList_inj.mp;simp
  have ab:I.Perm ((k,a)::l):=by rw[aA];simpa using j9 l.toArray (SetTable.below t.place j) (k,a) aF
  have ah:I.length=l.length+1:=by rw[ab.length_eq];rfl
  have ai:t1.fits (I.map (ek prog w)).length=true:=by
   unfold SetTable.fits SetTable.fill;rw[aE,ax,ay,wF,ah];simp;omega
  have x1:bG w (s.heap.update S (Obj.putSet (SetTable.insertAt (l.map (ek prog w)).toArray (SetTable.below t.place j) (th prog w k,.ref a)) t1)) S (I.map (ek prog w)) (ep+1) t1:=
   T.x.store aG (by rw[wF,ah];have:scanBound=4096:=rfl;omega) ai az (λ _=>aw);have ao:=Q5 s.heap S (Obj.putSet (SetTable.insertAt (l.map (ek prog w)).toArray (SetTable.below t.place j) (th prog w k,.ref a)) t1);have aY:18<=sizeLine:=by rw[VI];decide
  refine zN (wpAny_storeSet_of ho hd ?_ (by rw[aG];simp[ah];omega));generalize s.heap.update S (Obj.putSet (SetTable.insertAt (l.map (ek prog w)).toArray (SetTable.below t.place j) (th prog w k,.ref a)) t1)=h1 at x1 ao|-;have fin:∀h' l' ae t',Heap.SameBut S s.heap h'->TZ prog w h' S l' ae t'->l'.Perm ((k,a)::l)->Q true { s with heap:=h' }:= λ h' l' ae t' c1 c2 c4=>h h' l' ae t' true c1 c2 (by rw[QB hm];exact c4);have aH:∀i:Nat,I[i]?=if i<SetTable.below t.place j then l[i]? else if i=SetTable.below t.place j then some (k,a)else l[i-1]?:= λ i=>by
   have:=l4 l.toArray (k,a) aF i;rw[aA,QA,this];simp
  have aa:∀p∈I,eO prog w s.heap p.1 p.2:= λ p C=>by
   rcases wR.mp (ab.mem_iff.mp C)with e|e
   .rw[e];exact hk
   .exact T.keys p e
  have T1:TS prog w M h1 S I (ep+1) t1:=by
   refine⟨x1,λ p C=>(aa p C).keeps λ o' e=>(ao.2 p.2 ((aa p C).notSet ho hd)).trans e,⟨ay,T.t7.odd,T.t7.cyc,ax,aw⟩,λ i p C=>?_⟩;have up:∀q,q∈t.place.toList->q∈t1.place.toList:= λ q hq=>U.mem_iff.mpr (uN _ hq);have gp:∀i:Nat,t1.place[i]?=if i<SetTable.below t.place j then t.place[i]? else if i=SetTable.below t.place j then some j else t.place[i-1]?:= λ i=>by rw[ag];exact l4 t.place j hp i
   rw[aH i]at C;rw[gp i];by_cases c1:i<SetTable.below t.place j
   .rw[fD c1]at C|-;obtain⟨m,e1,e2⟩:=T.way i p C;exact⟨m,e1,λ m' aj=>up _ (e2 m' aj)⟩
   .rw[QB c1]at C|-;by_cases c2:i=SetTable.below t.place j
    .rw[fD c2]at C|-
     cases C
     exact⟨N,by rw[hj],λ m' aj=>up _ (au m' aj)⟩
    .rw[QB c2]at C|-
     obtain⟨m,e1,e2⟩:=T.way (i-1) p C
     exact⟨m,e1,λ m' aj=>up _ (e2 m' aj)⟩
  have aI:t1.tooFull=decide (M=7/\l.length=4):=by
   unfold SetTable.tooFull SetTable.fill
   rw[aE,ax,ay]
   refine decide_eq_decide.mpr ?_
   rw[show(#[]:Array Nat).size=0 from rfl]
   constructor <;> intro z <;> omega
  by_cases h5:M=7/\l.length=4
  .rw[aI,fN h5]
   simp only[Bool.not_false,Bool.and_self,if_true]
   refine zN ?_
   obtain⟨o1,aJ,aZ,hd2⟩:=x1.obj
   have aB:t1.fits (I.map (ek prog w)).toArray.size=true:=by simpa using ai
   have aS:SetTable.grown ((l.map (ek prog w)).toArray.size+1)=20:=by
    have:(l.map (ek prog w)).toArray.size+1=5:=by simp;omega
    rw[this];rfl
   rw[aS]
   unfold setRelay
   refine zN (ZV (s:={ s with heap:=h1 }) aJ hd2 aB ?_)
   dsimp only
   have aK:SetTable.sizeAbove 20=32:=by decide+kernel
   rw[QB (by rw[aK,VI];decide)]
   have aL:((I.map (ek prog w)).toArray.map (·.1)).size=I.length:=by simp
   obtain⟨t2,od,el,po,ft,pl,aT,aU⟩:=D_ (fg:=t1.finger) (mv:=t1.movedTo 31) (ld:=t1.led) (pl:=t1.plain) L9 rfl ((I.map (ek prog w)).toArray.map (·.1)) (by rw[aL];omega)
   have er:t1.relaid ((I.map (ek prog w)).toArray.map (·.1)) 20=some (t2,od):=by
    unfold SetTable.relaid
    rw[aK]
    exact el
   rw[er]
   obtain⟨u2,u3⟩:=pA el
   rw[aL]at po ft
   refine zN ?_
   obtain⟨l2,aC⟩:∃l2,l2=od.toList.filterMap λ i=>I[i]?:=⟨_,rfl⟩
   have ak:l2.Perm I:=by
    rw[aC]
    refine(po.filterMap _).trans ?_
    rw[vw]
   have aM:od.filterMap (λ i=>(I.map (ek prog w)).toArray[i]?)=(l2.map (ek prog w)).toArray:=by
    apply Array.toList_inj.mp
    rw[Array.toList_filterMap,aC,List.map_filterMap]
    congr 1
    funext i
    simp
   have aq:l2.length=I.length:=ak.length_eq
   have rd:∀{Q':(Array (Int×Value)×SetTable)->Shared->Prop}{s':Shared},Q' ((l2.map (ek prog w)).toArray,t2) s'->wpAny (model prog w) A (do
     let some (t,order):=some (t2,od)|unsupported "internal:set-table-without-room"
     let aN:=order.filterMap ((I.map (ek prog w)).toArray[.]?)
     if aN.size !=(I.map (ek prog w)).toArray.size then unsupported "internal:set-table-lost-an-element"
     pure (aN,t)) Q' E s':= λ q=>by
    dsimp only
    rw[aM,QB (by simp[aq])]
    exact zS q
   refine rd ?_
   dsimp only
   refine wpAny_storeSet_of (s:={ s with heap:=h1 }) aJ hd2 (zS ?_) (by simp[aq,ah];omega)
   have x2:bG w (h1.update S (Obj.putSet (l2.map (ek prog w)).toArray t2)) S (l2.map (ek prog w)) (ep+1+1) t2:=x1.store rfl (by rw[wF,aq,ah];have:scanBound=4096:=rfl;omega) (by rw[wF,aq];exact ft) u3 (λ _=>u2)
   have aO:=ao.trans (Q5 h1 S (Obj.putSet (l2.map (ek prog w)).toArray t2))
   refine fin _ l2 _ t2 aO ⟨31,⟨x2,λ p C=>?_,aT,λ i p C=>?_⟩,by omega⟩ (ak.trans ab)
   .have:=aa p (ak.mem_iff.mp C)
    exact this.keeps λ o' e=>(aO.2 p.2 (this.notSet ho hd)).trans e
   .obtain⟨v,hv,aV⟩:∃v,od[i]?=some v/\I[v]?=some p:=by
     have aP:∀v∈od.toList,∃q,I[v]?=some q:= λ v hv=>⟨_,kW (QL.mp (po.mem_iff.mp hv))⟩
     have gen:∀(L:List Nat)(i:Nat),(∀v∈L,∃q,I[v]?=some q)->(L.filterMap λ i=>I[i]?)[i]?=some p->∃v,L[i]?=some v/\I[v]?=some p:=by
      intro L
      induction L with
      |nil=>intro i _ e;simp at e
      |cons x r ih=>
       intro i hL e
       obtain⟨q,hq⟩:=hL x uL
       rw[ZD (f:= λ i=>I[i]?) hq]at e
       cases i with
       |zero=>exact⟨x,rfl,by simpa[hq]using e⟩
       |succ i=>exact ih i (λ v hv=>hL v (uN _ hv)) (by simpa using e)
     rw[aC]at C
     obtain⟨v,a1,a2⟩:=gen od.toList i aP C
     exact⟨v,by simpa using a1,a2⟩
    obtain⟨z,hz,m,w1,w2⟩:=aU i v hv
    have:z=th prog w p.1:=by
     simp[aV,ek]at hz
     exact hz.symm
    rw[this]at w1 w2
    exact⟨m,w1,w2⟩
  .rw[aI,gL h5]
   simp only[Bool.and_false,ZS,Y4]
   exact zS (fin h1 I _ t1 ao ⟨M,T1,by omega⟩ ab)
 .show t.probeStart _=_
  exact T.t7.start _
 .obtain⟨p,hp,e⟩:=QJ.mp hm
  obtain⟨i,hi,ei⟩:=ZE hp
  have aQ:l[i]?=some p:=by rw[kW hi,ei]
  obtain⟨m,e1,e2⟩:=T.way i p aQ
  have e:p.1=k:=e
  rw[e]at e1 e2
  refine⟨m,i,p,QY _,?_,aQ,e,e1⟩
  rcases Nat.lt_trichotomy m N with z|z|z
  .exact z
  .exfalso
   rw[z]at e1
   exact J (by rw[W6];exact WZ e1)
  .exact absurd (e2 N z) J
end
section
variable {prog:Program} {w:World} {A:Around} {s:Shared} {R:Result->Shared->Prop} {I:Addr} {fp wr:List Addr} {n:Nat} {P:Nat->Value->Prop} {St:Nat->Heap->Prop}
theorem setP_fresh {h:Heap} {S:Addr} (e:h.get? S=some { cls:=.type "set",dict:=none,data:=.set #[] 0 (.fresh 0 0 (!w.params.followText "set-order")) }):TZ prog w h S [] 0 (.fresh 0 0 (!w.params.followText "set-order")):=⟨7,
 ⟨⟨⟨_,e,⟨rfl,rfl,rfl⟩,rfl⟩,(by decide:(0:Nat) < scanBound),by rfl,rfl,fun _=>List.Pairwise.nil⟩,fun p hp=>(nomatch hp),⟨rfl,rfl,MV,rfl,List.Pairwise.nil⟩,fun i p hp=>by simp at hp⟩,.inl ⟨rfl,QY _⟩⟩
theorem xW (W:Walks prog w A.in1 I fp wr n P St) (S:Addr) (hSf:S ∉ fp) (val:Nat->List Int) (ad:Nat->Addr) (hval:∀i v,P i v->v=.ref (ad i)) (hb:n ≤ 18) (hu:A.in1.units < cLine) (hap:∀j,j < n->ad j ≠ S∧ad j ∉ wr) :
  ∀(k i:Nat) (h:Heap) (tk:Nat) (l:List (List Int × Addr)) (ep:Nat) (t:SetTable),n - i=k->i ≤ n->St i h->(∀j,j < n->eO prog w h (val j) (ad j))->TZ prog w h S l ep t->l.length ≤ i->(l.map (·.1)).Nodup->(∀z,z ∈ l.map (·.1) ↔ ∃j,j < i∧val j=z)->(∀p ∈ l,∃j,j < i∧ad j=p.2∧val j=p.1) ->
   (∀h' tk' (l':List (List Int × Addr)) ep' t',(∀b o,b ∉ S :: wr->h.get? b=some o->h'.get? b=some o)->bG w h' S (l'.map (ek prog w)) ep' t' -> (l'.map (·.1)).Nodup->(∀z,z ∈ l'.map (·.1) ↔ ∃j,j < n∧val j=z)->(∀p ∈ l',∃j,j < n∧ad j=p.2∧val j=p.1)->R (.ok (.ret .none)) { s with heap:=h',toks:=tk' }) ->
   codeAny (model prog w) A (.builtin "set.update.loop" ⟨[.ref S,.ref I],[]⟩) R { s with heap:=h,toks:=tk }:= by
 have hSw:S ∉ wr:=fun z=>hSf (W.sub _ z)
 intro k
 induction k with
 | zero=>
  intro i h tk l ep t hk hi st key ⟨_,⟨x,_,_,_⟩,_⟩ hl nd mem src fin
  have ei:i=n:=by omega
  subst ei
  refine ZK ZO ?_
  rw [ZT Q6 _]
  show wpAny (model prog w) A.in1 (pyNext (.ref I) >>= _) _ _ _
  refine zN (W.done { s with heap:=h,toks:=tk } _ _ st fun h' tk' kp=>?_)
  exact zS (fin h' tk' l ep t (fun b o hb' e=>kp b o (fun z=>hb' (uN _ z)) e) (x.at fun o e=>kp S o hSw e) nd mem src)
 | succ k ih=>
  intro i h tk l ep t hk hi st key T hl nd mem src fin
  have hlt:i < n:=by omega
  refine ZK ZO ?_
  rw [ZT Q6 _]
  show wpAny (model prog w) A.in1 (pyNext (.ref I) >>= _) _ _ _
  refine zN (W.item i { s with heap:=h,toks:=tk } _ _ hlt st fun v h1 tk1 hP st1 kp=>?_)
  obtain rfl:=hval i v hP
  obtain ⟨MM,T0,bb⟩:=T
  have T1:TZ prog w h1 S l ep t:=⟨MM,⟨T0.x.at fun o e=>kp S o hSw e,fun p hp=>(T0.keys p hp).keeps fun o e=>by
   obtain ⟨j,hj,e2,_⟩:=src p hp
   rw [<- e2] at e ⊢
   exact kp _ o (hap j (by omega)).2 e,T0.t7,T0.way⟩,bb⟩
  have key1:∀j,j < n->eO prog w h1 (val j) (ad j):=fun j hj=>(key j hj).keeps fun o e=>kp _ o (hap j hj).2 e
  show wpAny (model prog w) A.in1 (holding [Value.ref (ad i)] (setAdd S (.ref (ad i))) >>= _) _ _ _
  refine zN (QP ?_)
  unfold setAdd
  refine QP ?_
  refine zN (wpAny_pyHash_tuple (s:={ s with heap:=h1,toks:=tk1 }) hu (key1 i hlt) ?_)
  refine TS.add (s:={ s with heap:=h1,toks:=tk1 + ((val i).length + 1) }) T1 hu (by omega) (key1 i hlt) fun h2 l2 ep2 t2 b sb TT hif=>?_
  have hm2:(∀z,z ∈ l2.map (·.1) ↔ ∃j,j < i + 1∧val j=z)∧(l2.map (·.1)).Nodup∧l2.length ≤ i + 1∧∀p ∈ l2,∃j,j < i + 1∧ad j=p.2∧val j=p.1:= by
   have up:∀p ∈ l,∃j,j < i + 1∧ad j=p.2∧val j=p.1:=fun p hp=>by
    obtain ⟨j,a,b⟩:=src p hp
    exact ⟨j,by omega,b⟩
   by_cases hm:val i ∈ l.map (·.1)
   .rw [fD hm] at hif
    subst hif
    refine ⟨fun z=>(mem z).trans ⟨fun ⟨j,h1,h2⟩=>⟨j,by omega,h2⟩,fun ⟨j,h1,h2⟩=>?_⟩,nd,by omega,up⟩
    by_cases hj:j < i
    .exact ⟨j,hj,h2⟩
    .have:j=i:=by omega
     subst this
     exact (mem z).mp (h2 ▸ hm)
   .rw [QB hm] at hif
    have pm:(l2.map (·.1)).Perm (val i :: l.map (·.1)):=by simpa using hif.map (·.1)
    refine ⟨fun z=>?_,?_,?_,fun p hp=>?_⟩
    .rw [pm.mem_iff,wR,mem z]
     constructor
     .rintro (e | ⟨j,h1,h2⟩)
      .exact ⟨i,by omega,e.symm⟩
      .exact ⟨j,by omega,h2⟩
     .rintro ⟨j,h1,h2⟩
      by_cases hj:j < i
      .exact .inr ⟨j,hj,h2⟩
      .have:j=i:=by omega
       subst this
       exact .inl h2.symm
    .rw [pm.nodup_iff,ZF]
     exact ⟨hm,nd⟩
    .rw [hif.length_eq];simp;omega
    .rcases wR.mp (hif.mem_iff.mp hp) with e | e
     .rw [e];exact ⟨i,by omega,rfl,rfl⟩
     .exact up p e
  refine zS ⟨YJ Q6 _,ih (i + 1) h2 _ l2 ep2 t2 (by omega) hlt (W.frame _ h1 h2 st1 fun b hb' o e=>?_) (fun j hj=>(key1 j hj).keeps fun o e=>?_) TT hm2.2.2.1 hm2.2.1 hm2.1 hm2.2.2.2 fun h' tk' l' ep' t' c1 c2 c3 c4 c5=>fin h' tk' l' ep' t' (fun b o hb' e=>?_) c2 c3 c4 c5⟩
  .rw [sb.2 b fun z=>hSf (z ▸ hb')];exact e
  .rw [sb.2 _ (hap j hj).1];exact e
  .refine c1 b o hb' ?_
   rw [sb.2 b fun z=>hb' (z ▸ uL)]
   exact kp b o (fun z=>hb' (uN _ z)) e
set_option maxHeartbeats 8000000 in
end
end Jt.Tu
namespace Jt.Tu
open PySem Jt PyProof.Rows PySem.W
noncomputable def cq:List Int->List Int->Bool
 |[],[]=>false
 |[],_::_=>true
 |_::_,[]=>false
 |x::xs,y::ys=>if x=y then cq xs ys else decide (x<y)
theorem uf:∀{a b c:List Int},cq b a=false->cq c b=false->cq c a=false
 |[],_,[],_,_=>rfl
 |[],_,_::_,_,_=>rfl
 |x::xs,[],c,h,_=>by cases h
 |x::xs,y::ys,[],_,h=>by cases h
 |x::xs,y::ys,z::zs,o,C=>by
  unfold cq at o C|-;by_cases I:y=x
  .subst I;rw[fD rfl]at o;by_cases J:z=y;. subst J;rw[fD rfl]at C|-;exact uf o C
   simp_all
  grind
theorem kJ:∀{a b:List Int},cq a b=true->cq b a=false
 |[],[],h=>by cases h
 |[],_::_,_=>rfl
 |_::_,[],h=>by cases h
 |x::xs,y::ys,h=>by
  unfold cq at h|-;by_cases e:x=y;. subst e;rw[fD rfl]at h|-;exact kJ h
  .rw[QB e]at h;grind
theorem qo:∀{a b:List Int},cq a b=false->cq b a=false->a=b
 |[],[],_,_=>rfl
 |[],_::_,h,_=>by cases h
 |_::_,[],_,h=>by cases h
 |x::xs,y::ys,o,C=>by
  unfold cq at o C;by_cases e:x=y;. subst e;rw[fD rfl]at o C;rw[qo o C]
  grind
noncomputable def gT(ks:List (List Int))(i j:Nat):Bool:=cq (ks.getD i []) (ks.getD j [])
theorem zW(ks:List (List Int)):So.OrdG (gT ks) where
 tr:= λ a b c h k=>uf h k
 as:= λ a b h=>kJ h
noncomputable def md(ks:List (List Int)):Array Nat:=Mm (gT ks) (kas_sort ks.length)
theorem pH(h:1<=ks.length):So.Bs ks.length (md ks)/\So.Up (gT ks) (md ks) ks.length:=(So.w_sort (zW ks) h).ev
noncomputable def bZ{α:Type}(ks:List (List Int))(z:α)(vs:List α):List α:=if ks.length<2 then vs else(md ks).toList.map λ i=>vs.getD i z
theorem gh(ks:List (List Int))(z:α)(vs:List α)(o:vs.length=ks.length):(bZ ks z vs).Perm vs:=by
 unfold bZ;split;. exact .refl _
 .have b:=(pH (ks:=ks) (by omega)).1;have p:(md ks).toList.Perm (List.range ks.length):=by simpa using YU.mp b
  have e:(List.range ks.length).map (λ i=>vs.getD i z)=vs:=by apply WJ;intro i;rw[QH];grind
  exact(p.map _).trans (by rw[e])
theorem i4(ks:List (List Int)):(bZ ks [] ks).Pairwise (λ a b=>cq b a=false):=by
 unfold bZ;split;. rename_i h;match ks,h with
  |[],_=>exact .nil
  |[a],_=>exact ZL _ _
  |_::_::_,h=>exact absurd h (by simp)
 .obtain⟨b,u⟩:=pH (ks:=ks) (by omega);rw[List.pairwise_map,List.pairwise_iff_getElem];intro i j hi I J;have o:j<ks.length:=by rw[<- b.size];simpa using I
  have:=u i j (by omega) o;have e:∀k(hk:k<(md ks).toList.length),So.at0 (md ks) k=(md ks).toList[k]:= λ k hk=>by
   have C:k<(md ks).size:=by simpa using hk
   simp[C]
  rw[e i hi,e j I]at this;exact this
theorem jE(ks:List (List Int))(f:α->β)(z:α)(vs:List α):(bZ ks z vs).map f=bZ ks (f z) (vs.map f):=by
 unfold bZ;split;. rfl
 .rw[VU];refine YZ λ i _=>?_;simp
theorem nt(h:vs.length=ks.length)(z o:α):bZ ks z vs=bZ ks o vs:=by
 unfold bZ;split;. rfl
 .have b:=(pH (ks:=ks) (by omega)).1;have p:(md ks).toList.Perm (List.range ks.length):=by simpa using YU.mp b
  refine YZ λ i hi=>?_;have:=QL.mp (p.mem_iff.mp hi);simp_all
section
variable {prog:Program} {w:World} {A:Around} {E:Value->Shared->Prop} {s:Shared}
theorem Jo{b fin:Bool}{Q:Bool->Shared->Prop}{ks:List Int}:∀{o:List Int}{vs us:List Value}{i:Nat},ItemsAre (intKind prog w) ks vs->ItemsAre (intKind prog w) o us->(fin=decide (i+vs.length<i+us.length))->Q (cq ks o) s->KatLex prog w A b fin Q (vs.zip us) i s:=by
 induction ks with
 |nil=>
  intro o vs us i a c hf h;cases a;refine kat_nil ?_;cases c with
  |nil=>
   have:fin=false:=by simpa using hf
   subst this;exact h
  |cons _ _=>
   have:fin=true:=by simpa using hf
   subst this;exact h
 |cons x xs ih=>
  intro o vs us i a c hf h;cases a with |cons C J=>cases c with
  |nil=>
   have:fin=false:=by rw[hf,decide_eq_false_iff_not];simp
   subst this;exact kat_nil h
  |@cons y ys u us I U=>
   refine kat_cons ((intKind prog w).eqBool C I ?_);unfold cq at h;by_cases e:x=y;. rw[fN e];rw[fD e]at h;refine kat_yes (ih J U ?_ h);rw[hf];simp only[QT];congr 1;rw[eq_iff_iff];omega
   rw[gL e];rw[QB e]at h;obtain⟨t1,rfl⟩:=ZU (show Value.isInt x _=true from C);obtain⟨t2,rfl⟩:=ZU (show Value.isInt y _=true from I);refine kat_no ?_;cases hb:(b&&i==0)with
   |true=>exact oneLt_int h
   |false=>exact kat_one _ _ (PyProof.Rows.lt_int h)
theorem Jl{a c:Addr}{b:Bool}{Q:Bool->Shared->Prop}(J:eO prog w s.heap ks a)(U:eO prog w s.heap js c)(h:Q (cq ks js) s):wpAny (model prog w) A (keyLt' (tuples' b) (.ref a) (.ref c)) Q E s:=by obtain⟨o,xs,n,ho,_,hd,hi⟩:=J;obtain⟨o2,ys,n2,C,_,hd2,I⟩:=U;refine kat_lt ho hd C hd2 (Jo hi I ?_ h);simp
noncomputable def pL(prog:Program)(w:World)(h:Heap)(ks:List (List Int))(vs:List Value):Prop:=vs.length=ks.length/\∀(i:Nat)(k:List Int),ks[i]?=some k->∃b:Addr,vs[i]?=some (Value.ref b)/\eO prog w h k b
theorem pL.keeps{ks:List (List Int)}{vs:List Value}(x:pL prog w h ks vs)(k:∀b o,h.get? b=some o->o.cls= .type "tuple"->h'.get? b=some o):pL prog w h' ks vs:=⟨x.1,λ i q e=>by obtain⟨b,C,o,its,n,I,hc,r⟩:=x.2 i q e;exact⟨b,C,o,its,n,k b o I hc,hc,r⟩⟩
theorem sH:∀{ks:List (List Int)}{vs:List Value},pL prog w h ks vs->(∀k∈ks,k≠[])->∃fs,KatTups h vs fs/\fs.length=vs.length/\∀v∈fs,∃i u,v=Value.int i u
 |[],[],_,_=>⟨[],trivial,rfl,λ v J=>nomatch J⟩
 |[],_::_,h,_=>by have:=h.1;simp at this
 |_::_,[],h,_=>by have:=h.1;simp at this
 |k::ks,v::vs,h,hn=>by obtain⟨fs,a,b,c⟩:=sH (ks:=ks) (vs:=vs) ⟨by simpa using h.1,λ i q e=>h.2 (i+1) q (by simpa using e)⟩ λ k hk=>hn k (uN _ hk);obtain⟨ad,U,o,its,n,ho,hc,hd,hi⟩:=h.2 0 k rfl;cases U;cases k with
  |nil=>exact absurd rfl (hn [] uL)
  |cons x xs=>
   have hl:its.toList[0]?≠none:=by generalize its.toList=q at hi;cases hi;simp
   cases C:its[0]? with
   |none=>rw[<- QA]at C;exact absurd C hl
   |some f=>
    refine⟨f::fs,KatTups.cons ho hc hd C a,by simp[b],λ u I=>?_⟩;rcases wR.mp I with rfl|I
    .rw[<- QA]at C;generalize its.toList=q at hi C;cases hi with
     |cons h1 r1=>cases C;obtain⟨t,e⟩:=ZU (show Value.isInt x _=true from h1);exact⟨x,t,e⟩
    simp_all
theorem mR{ks:List (List Int)}{n:Nat}{P:PySem.Fin->Shared->Prop}(ho:s.heap.get? a=some (seqObj "list" vs.toArray n))(hT:pL prog w s.heap ks vs)(ae:2<=vs.length->∀k∈ks,k≠[])(af:vs.length<64)
  (h:P (.done (.ret .none)) { s with heap:=sortedHeap s.heap a vs (bZ ks Value.none vs).toArray }):wpAny (model prog w) A (Builtin.«list.sort» ⟨[.ref a],[]⟩) P E s:=by
 rw[list_sort_plain];have ha:a<s.heap.objs.size:=wV ho;refine zN (listItems_at ho rfl ?_);refine zN (listUpdate_at ho rfl ?_);obtain⟨e1,aa⟩:∃e1,(s.heap.update a (Obj.mapSeq λ _=>#[])).get? a=some (seqObj "list" #[] e1):=⟨_,get?_update_seq ho (λ _=>#[])⟩;refine zN (seqEpoch_at aa rfl ?_);refine zN (wpAny_newTuple ?_);refine zN (wpAny_newList ?_);refine QP ?_;have J:(((s.heap.update a (Obj.mapSeq λ _=>#[])).push (seqObj "tuple" vs.toArray 0)).push (seqObj "list" #[] 0)).get? a=some (seqObj "list" #[] e1):=by rw[Heap.get?_push_ne _ _ _ (by rw[size_push',Heap.size_update];exact uT (ZX ha)),Heap.get?_push_ne _ _ _ (by rw[Heap.size_update];exact uT ha)];exact aa
 show wpAny (model prog w) A _ P E { s with heap:=((s.heap.update a (Obj.mapSeq λ _=>#[])).push (seqObj "tuple" vs.toArray 0)).push (seqObj "list" #[] 0) };dsimp only;have hsz:vs.toArray.size=vs.length:=by simp
 have hl:=hT.1;have pl:(bZ ks Value.none vs).length=vs.length:=(gh ks Value.none vs hl).length_eq;have U:pL prog w (((s.heap.update a (Obj.mapSeq λ _=>#[])).push (seqObj "tuple" vs.toArray 0)).push (seqObj "list" #[] 0)) ks vs:=hT.keeps λ b o e hc=>by
  have hb:b≠a:= λ z=>by
   rw[z,ho]at e;rw[<- ZG e]at hc;exact absurd (show(Value.type "list")=Value.type "tuple" from hc) (by decide)
  exact kT _ (kT _ ((QS _ _ (Ne.symm hb)).trans e))
 by_cases h2:vs.toArray.size<2
 .rw[fD h2,fD h2];refine zN (zS ?_);rw[StateT.run_pure];refine zN (zS ?_);dsimp only;refine zN (seqEpoch_at J rfl ?_);have ep:(arrOf (SortSt.mk' general' (vs.toArray.zip vs.toArray) #[] 7 none)).map (·.2)=(bZ ks Value.none vs).toArray:=by
   have:bZ ks Value.none vs=vs:=by unfold bZ;rw[fD (by omega)]
   rw[this];show((vs.toArray.zip vs.toArray).map (·.2))=vs.toArray;apply Array.toList_inj.mp;simp[List.map_snd_zip]
  rw[ep];refine zN (listUpdate_at J rfl ?_ (hsz2:=by show(bZ ks Value.none vs).length<=_;rw[pl,VI];omega));simp only[bne_self_eq_false,ZS,Y4];exact zS h
 .rw[QB h2,QB h2];rw[hsz]at h2;obtain⟨fs,kt,fl,fi⟩:=sH U (ae (by omega));refine zN (kat_kind (T:= .type "int") kt (by omega) (λ v hv=>?_) (by decide) ?_);. obtain⟨i,u,rfl⟩:=fi v hv;exact Looks.now
  refine zN (gA (kat_run (E:=E) (ks:=vs) (vs:=vs) (κ:=tuples' ((Value.type "int")!=Value.type "tuple")) (Q:= λ st I=>(arrOf st).map (·.2)=(bZ ks Value.none vs).toArray/\failedOf st=none/\I={ s with heap:=((s.heap.update a (Obj.mapSeq λ _=>#[])).push (seqObj "tuple" vs.toArray 0)).push (seqObj "list" #[] 0) })
   (G:= λ p I=>p=md ks/\I={ s with heap:=((s.heap.update a (Obj.mapSeq λ _=>#[])).push (seqObj "tuple" vs.toArray 0)).push (seqObj "list" #[] 0) }) rfl (by omega) af (λ p st I hp ha hf hg=>⟨?_,hf,hg.2⟩) ?_) ?_ λ _ _ x=>x);. rw[kat_snds rfl ha,hg.1];unfold bZ;rw[QB (by omega)]
  .have ws:=So.w_sort (zW ks) (n:=vs.length) (by omega);refine So.WpT.kas (g:=gT ks) (n:=vs.length) (λ i j C hi hj hC=>?_) ws ⟨by unfold md;rw[hl],rfl⟩;unfold kas_ask;obtain⟨b1,ag,k1⟩:=U.2 i (ks[i]'(by omega)) (kW _);obtain⟨b2,ah,k2⟩:=U.2 j (ks[j]'(by omega)) (kW _);have d1:vs.getD i Value.none= .ref b1:=by rw[QI,ag];rfl
   have d2:vs.getD j Value.none= .ref b2:=by rw[QI,ah];rfl
   rw[d1,d2];refine Jl k1 k2 ?_;have:gT ks i j=cq (ks[i]'(by omega)) (ks[j]'(by omega)):=by unfold gT;rw[QI,QI,kW (by omega),kW (by omega)];rfl
   rw[<- this];exact hC
  .rintro⟨⟨⟩,st⟩ I ⟨ab,hf,rfl⟩;dsimp only;refine zN (seqEpoch_at J rfl ?_);rw[ab];refine zN (listUpdate_at J rfl ?_ (hsz2:=by show(bZ ks Value.none vs).length<=_;rw[pl,VI];omega));rw[hf];simp only[bne_self_eq_false,ZS,Y4];exact zS h
theorem l8{Ok:List (List Int)->List Value->Prop}
  (hc:∀(A':Around)(Q':List Value->Shared->Prop)(E':Value->Shared->Prop),(A'.handled=A.handled)->(∀(vs:List Value)(ks:List (List Int))(h':Heap)(tk:Nat)(d:Drawn),Ok ks vs->vs.length<64->(2<=vs.length->∀k∈ks,k≠[])->pL prog w h' ks vs->(∀b o,s.heap.get? b=some o->h'.get? b=some o)->Q' vs { s with heap:=h',toks:=tk,drawn:=d })->
   wpAny (model prog w) A' (collect v) Q' E' s)
  (h:∀(C h':Heap)(tk:Nat)(d:Drawn)(ks:List (List Int))(vs:List Value)(e:Nat),Ok ks vs->vs.length=ks.length->(∀b o,s.heap.get? b=some o->C.get? b=some o)->(∀b o,C.get? b=some o->h'.get? b=some o)->h'.get? C.objs.size=some { cls:= .type "list",data:= .seq (bZ ks Value.none vs).toArray e }->
   Q (.ref C.objs.size) { s with heap:=h',toks:=tk,drawn:=d }):
  wpAny (model prog w) A (call (.builtin "sorted") [v]) Q E s:=by refine Calls.call_function_entry PyProof.Rows.kind_sorted PyProof.Rows.plain_sorted PyProof.Rows.entry_sorted (PyProof.Rows.args_sorted1 _) ?_;refine zN (m:=checkCount "sorted" 1 1 _) (zS ?_);refine zN (hc _ _ _ (by simp) λ vs ks C tk d hok I J hT kp=>?_);refine zN (wpAny_newList ?_ (by rw[VI];omega));have g1:(C.push (PyProof.Rows.seqObj "list" vs.toArray 0)).get? C.objs.size=some (PyProof.Rows.seqObj "list" vs.toArray 0):=wN _ rfl;have U:pL prog w (C.push (PyProof.Rows.seqObj "list" vs.toArray 0)) ks vs:=hT.keeps λ b o e _=>kT _ e;refine zN (QP (QO PyProof.Rows.slot_list_sort ⟨_,g1,rfl⟩ PyProof.Rows.entry_list_sort (mR (s:={ s with heap:=C.push (PyProof.Rows.seqObj "list" vs.toArray 0),toks:=tk,drawn:=d }) g1 U J I ⟨_,rfl,?_⟩) (PyProof.Rows.args_list_sort _)));obtain⟨e,he⟩:=PyProof.Rows.sortedHeap_at (out:=(bZ ks Value.none vs).toArray) g1;refine zS ⟨_,rfl,h C _ tk d ks vs e hok hT.1 kp (λ b o eb=>?_) (by omega)⟩;have hb:=wV eb;rw[PyProof.Rows.sortedHeap_old (uT hb) (by rw[gO];exact ZX hb)];exact kT _ eb
end
end Jt.Tu
namespace Jt.Tu
open PySem Jt L2 PyProof.Rows
noncomputable def insL(x:List Int):List (List Int)->List (List Int)
 |[]=>[x]
 |y::r=>if x=y then y::r else if cq x y=true then x::y::r else y::insL x r
noncomputable def fj(o:List (List Int)):List (List Int):=o.foldr insL []
theorem lh:∀{l:List (List Int)},z∈insL x l↔z=x\/z∈l
 |[]=>by simp[insL]
 |y::r=>by
  unfold insL;split;. simp_all
  .split;. simp
   .rw[wR,lh,wR];exact⟨λ h=>h.elim (λ e=> .inr (.inl e)) λ h=>h.elim .inl λ e=> .inr (.inr e),λ h=>h.elim (λ e=> .inr (.inl e)) λ h=>h.elim .inl λ e=> .inr (.inr e)⟩
theorem eK:∀{l:List (List Int)},z∈fj l↔z∈l
 |[]=>by rfl
 |x::r=>by show z∈insL x (fj r)↔_;rw[lh,eK,wR]
noncomputable abbrev vD(l:List (List Int)):Prop:=l.Pairwise λ a b=>cq a b=true
theorem lex_trans(o:cq a b=true)(C:cq b c=true):cq a c=true:=by cases q:cq a c with
 |true=>rfl
 |false=>have e:=uf (a:=c) (b:=a) (c:=b) q (kJ o);simp_all
theorem qH:∀{l:List (List Int)},vD l->vD (insL x l)
 |[],_=>ZL _ _
 |y::r,h=>by
  have h':=QE.mp h;unfold insL;split;. exact h
  .rename_i ne;split
   .rename_i lt;refine QE.mpr ⟨λ z hz=>?_,h⟩;rcases wR.mp hz with rfl|hz
    .exact lt
    .exact lex_trans lt (h'.1 z hz)
   .rename_i o;refine QE.mpr ⟨λ z hz=>?_,qH h'.2⟩;rcases lh.mp hz with rfl|hz
    .cases q:cq y z with
     |true=>rfl
     |false=>exact absurd (qo (VD.mpr o) q) ne
    .exact h'.1 z hz
theorem eJ:∀l:List (List Int),vD (fj l)
 |[]=> .nil
 |x::r=>qH (eJ r)
theorem v3(a:List Int):cq a a=false:=by cases q:cq a a with
 |false=>rfl
 |true=>have:=kJ q;simp_all
theorem ig:∀{a b:List (List Int)},vD a->vD b->(∀z,z∈a↔z∈b)->a=b
 |[],[],_,_,_=>rfl
 |[],y::r,_,_,h=>by have:=(h y).mpr uL;cases this
 |x::r,[],_,_,h=>by have:=(h x).mp uL;cases this
 |x::r,y::q,U,hb,h=>by
  have o:=QE.mp U;have C:=QE.mp hb;have I:x=y:=by
   rcases wR.mp ((h x).mp uL)with e|e
   .exact e
   .rcases wR.mp ((h y).mpr uL)with J|J
    .exact J.symm
    .have l1:=C.1 x e;have l2:=o.1 y J;have:=kJ l1;rw[l2]at this;cases this
  subst I;have:r=q:=ig o.2 C.2 λ z=>by
   have hz:=h z;rw[wR,wR]at hz;constructor
   .intro m;rcases hz.mp (.inr m)with e|e
    .subst e;have:=o.1 z m;rw[v3]at this;cases this
    .exact e
   .intro m;rcases hz.mpr (.inr m)with e|e
    .subst e;have:=C.1 z m;rw[v3]at this;cases this
    omega
  rw[this]
theorem tL{α β:Type}{f:α->β}{a b:List β}(p:a.Perm b):∀l:List α,b=l.map f->∃o:List α,o.Perm l/\a=o.map f:=by induction p with
 |nil=>intro l e;exact⟨l,.refl _,e⟩
 |cons x _ ih=>intro l e;cases l with
  |nil=>cases e
  |cons y r=>injection e with I C;obtain⟨o,J,U⟩:=ih r C;exact⟨y::o,J.cons y,by rw[QM,U,I]⟩
 |swap x y t=>intro l e;match l,e with
  |p::q::r,e=>injection e with I C;injection C with C e3;exact⟨q::p::r,.swap _ _ _,by rw[QM,QM,I,C,e3]⟩
  |[],e=>cases e
  |[_],e=>cases e
 |trans _ _ J U=>intro l e;obtain⟨o,a1,a2⟩:=U l e;obtain⟨l2,b1,b2⟩:=J o a2;exact⟨l2,b1.trans a1,b2⟩
section
variable {X:Cx}
noncomputable def gm:V->Addr
 | .ref p=>p
 |_=>0
theorem r8:∀{ns:List Int}{us:List Value},IntsAre us ns->ItemsAre (intKind prog w) ns us
 |_,_,.nil=> .nil
 |_,_,.cons n t r=> .cons (by simp[intKind,Value.isInt]) (r8 r)
theorem gy{σ:L2.St}{H:Hp}{s:Shared}(I:Inv X pins σ H s){p:Addr}{ns:List Int}(C:fv X.K H p (ns.map V.int)):eO X.prog X.w s.heap ns p:=by obtain⟨its,J,⟨o,U,hc,n,hd⟩,hz⟩:=I.tuple C;exact⟨o,its.toArray,n,U,hc,hd,by simpa using r8 (intsAre_of J)⟩
theorem jO{K:PySem.W.Frag}{H:Hp}:∀{vs:List V}{o:List (List Int)},AX K H vs o->vs.length=o.length/\∀i,i<vs.length->vs.getD i .non= .ref (gm (vs.getD i .non))/\fv K H (gm (vs.getD i .non)) ((o.getD i []).map V.int)
 |[],o,h=>by have h':o=[]:=h;subst h';exact⟨rfl,λ i hi=>absurd hi (ZM _)⟩
 |v::vs,o,h=>by obtain⟨p,ns,r,rfl,C,rfl,h⟩:=h;obtain⟨a,b⟩:=jO h;refine⟨by simp[a],λ i hi=>?_⟩;cases i with
  |zero=>exact⟨rfl,C⟩
  |succ i=>simpa using b i (by simp_all)
theorem oG:∀ps:List (List Int×Addr),Vals (ps.map λ pr=>V.ref pr.2) (ps.map λ pr=>Value.ref pr.2)
 |[]=> .nil
 |p::r=> .cons rfl (oG r)
noncomputable def oy(prog:Program)(w:World)(S:Addr)(o:List (List Int×Addr))(C:List (List Int)):HO:= .ext λ h=>∃(l:List (List Int×Addr)) (I:Nat) (t:SetTable),bG w h S (l.map (ek prog w)) I t/\(l.map (·.1)).Nodup/\(∀z,z∈l.map (·.1)↔z∈C)/\(∀p∈l,p∈o)/\l.length<=18
theorem gb(hc:X.calm=true):dw X (.builtin "sorted") (λ xs H Q=>∃(p:Addr) (Φ:Heap->Prop) (ab:List (List Int×Addr)) (J:List (List Int)),xs=[.ref p]/\H p=some (.ext Φ)/\(∀h,Φ h->∃(l:List (List Int×Addr)) (ep:Nat) (t:SetTable),bG X.w h p (l.map (ek X.prog X.w)) ep t/\(l.map (·.1)).Nodup/\(∀z,z∈l.map (·.1)↔z∈J)/\(∀p∈l,p∈ab)/\l.length<=18)/\(∀pr∈ab,fv X.K H pr.2 (pr.1.map V.int))/\((∀k∈J,k≠[])\/ ∀k∈J,k=[])/\
  ∀l(ps:List (List Int×Addr)),H l=none->ps.map (·.1)=fj J->(∀pr∈ps,pr∈ab)->Q (.ref l) (upd H l (.lst (ps.map λ pr=>V.ref pr.2)))):=by
 intro pins s σ H xs us Q I r h;obtain⟨p,Φ,ab,J,rfl,hq,ae,af,U,q⟩:=h;obtain⟨u,rfl,ru⟩:=r.one;cases ru;obtain⟨hp,_⟩:=I.hok p _ hq;obtain⟨l,ep,t,x,nd,mem,src,h5⟩:=ae _ hp;refine l8 (Ok:= λ ks vs=>∃C:List (List Int×Addr),C.Perm l/\ks=C.map (·.1)/\vs=C.map fun p=>Value.ref p.2) (fun A' Q' E' hA ag=>?_) fun h1 h' tk d ks vs e hok hlen k k2 hg=>?_
 .refine gC (hA.trans (I.ok.hd hc)) x fun ord h' tk d po k=>?_;obtain⟨C,pl,el⟩:=tL po l rfl;have ev:ord.map (fun p=>p.2)=C.map fun p=>Value.ref p.2:=by
   rw[el,VU];rfl
  rw[ev];refine ag _ (C.map (·.1)) h' tk d ⟨C,pl,rfl,rfl⟩ (by rw[wF,pl.length_eq];omega) (fun h2 k hk=>?_) ⟨by simp,fun i kk e=>?_⟩ k
  .rcases U with U|U
   .exact U k ((mem k).mp ((pl.map _).mem_iff.mp hk))
   .have all:∀z∈C.map (·.1),z=[]:=fun z hz=>U z ((mem z).mp ((pl.map _).mem_iff.mp hz));have aa:(C.map (·.1)).Nodup:=(pl.map _).nodup_iff.mpr nd;have h2:2≤(C.map (·.1)).length:=by rw[wF]at h2⊢;exact h2
    generalize C.map (·.1)=L at all aa h2;match L,all,aa,h2 with
    |a::b::r,all,aa,_=>have e1:=all a (by simp);have e2:=all b (by simp);rw[e1,e2]at aa;exact absurd uL (ZF.mp aa).1
  rw[QH]at e;cases q2:C[i]? with
  |none=>rw[q2]at e;cases e
  |some pr=>rw[q2]at e;cases e;have hm:=pl.mem_iff.mp (VA q2);exact⟨pr.2,by rw[QH,q2];rfl,(gy I (af pr (src pr hm))).keeps fun o e=>k _ o e⟩
 .obtain⟨C,pl,rfl,rfl⟩:=hok;have e0:bZ (C.map (·.1)) Value.none (C.map fun p=>Value.ref p.2)=(bZ (C.map (·.1)) ([],0) C).map fun p=>Value.ref p.2:=by rw[jE];exact nt (by simp) _ _
  have e1:(bZ (C.map (·.1)) ([],0) C).map (·.1)=bZ (C.map (·.1)) [] (C.map (·.1)):=by rw[jE]
  have pp:=gh (C.map (·.1)) (([],0):List Int×Addr) C (by simp);rw[e0]at hg;generalize bZ (C.map (·.1)) (([],0):List Int×Addr) C=ps at*;have so:=i4 (C.map (·.1));rw[<-e1]at so;have ah:(ps.map (·.1)).Nodup:=((pp.trans pl).map _).nodup_iff.mpr nd;have es:ps.map (·.1)=fj J:=ig ((so.and ah).imp fun{a b} z=>by cases q3:cq a b with
    |true=>rfl
    |false=>exact absurd (qo q3 z.1) z.2) (eJ J) fun z=>by rw[eK,<-mem z];exact((pp.trans pl).map _).mem_iff
  have I1:Inv X pins σ H { s with heap:=h1,toks:=tk,drawn:=d }:=Inv.kd I k;refine⟨.ref h1.objs.size,_,I1.laid (t':=tk) (o:= .lst (ps.map fun pr=>V.ref pr.2)) k2 (xS _) ⟨?_,ps.map fun p=>Value.ref p.2,e,?_,hg⟩,rfl,q _ ps (I1.hok.fresh (xS _)) es fun pr ai=>src pr ((pp.trans pl).mem_iff.mp ai)⟩;· rw[wF,(pp.trans pl).length_eq,VI];omega
  .exact oG ps
theorem qx(hc:X.calm=true):dw X (.builtin "sorted") (λ xs H Q=>∃p o C,xs=[.ref p]/\H p=some (oy X.prog X.w p o C)/\(∀pr∈o,fv X.K H pr.2 (pr.1.map V.int))/\(∀k∈C,k≠[])/\
  ∀l(ps:List (List Int×Addr)),H l=none->ps.map (·.1)=fj C->(∀pr∈ps,pr∈o)->Q (.ref l) (upd H l (.lst (ps.map λ pr=>V.ref pr.2)))):= λ pins s σ H xs us Q I r ⟨p,o,C,e,J,U,h2,h3⟩=>
 gb hc pins s σ H xs us Q I r ⟨p,_,o,C,e,J,λ _ h=>h,U,.inl h2,h3⟩
end
noncomputable def tD(ns:List Int):D:= .tup (ns.map .int)
theorem sv:∀{ds:List D}{ns:List Int},cz ds=some ns->ds=ns.map .int
 |[],ns,h=>by cases h;rfl
 |d::r,ns,h=>by cases d with
  |int i=>unfold cz at h;cases q:cz r with
   |none=>simp_all
   |some m=>rw[q]at h;cases h;rw[sv q];rfl
  |_=>cases h
theorem h9:∀{ds:List D}{o:List (List Int)},dF ds=some o->ds=o.map tD
 |[],o,h=>by cases h;rfl
 |d::r,o,h=>by cases d with
  |tup xs=>unfold dF at h;cases C:cz xs with
   |none=>rw[C]at h;cases h
   |some ns=>cases I:dF r with
    |none=>simp_all
    |some J=>rw[C,I]at h;cases h;rw[h9 I,sv C];rfl
  |_=>cases h
theorem kr:∀{o:List (List Int)}{vs:List V},Rs H (o.map tD) vs->∀pr∈o.zip (vs.map gm),R H (tD pr.1) (.ref pr.2)
 |[],vs,h,pr,I=>by simp_all
 |ns::r,vs,h,pr,I=>by
  obtain⟨v,q,ev,J,U⟩:=h.inv;subst ev;rcases wR.mp I with e|e
  .rw[e];have C:R H (.tup (ns.map .int)) v:=J;obtain⟨p,us,eu,_,_⟩:=C.tup;subst eu;exact J
  .exact kr U pr e
theorem vZ:∀{ps:List (List Int×Addr)},(∀pr∈ps,R H (tD pr.1) (.ref pr.2))->Rs H ((ps.map (·.1)).map tD) (ps.map λ pr=>V.ref pr.2)
 |[],_=> .nil
 |p::r,h=> .cons (h p uL) (vZ λ pr o=>h pr (uN _ o))
theorem qr{K:PySem.W.Frag}{H:Hp}{vs:List V}{o:List (List Int)}(h:AX K H vs o):∀pr∈o.zip (vs.map gm),fv K H pr.2 (pr.1.map V.int):= λ pr hp=>by obtain⟨hl,C⟩:=jO h;obtain⟨j,U⟩:=WY.mp hp;rw[YY]at U;obtain⟨e1,I⟩:=U;rw[QH]at I;cases q:vs[j]? with
 |none=>rw[q]at I;cases I
 |some v=>have J:j<vs.length:=(xZ.mp q).1;have:=(C j J).2;rw[QI,q,QI,e1]at this;simp_all
section
variable {prog:Program} {w:World} {A:Around} {E:Value->Shared->Prop} {s:Shared}
theorem mU{a b:Addr}{P:PySem.Fin->Shared->Prop}(hx:eO prog w s.heap x a)(hy:eO prog w s.heap y b)(h:P (.done (.ret (.bool (cq x y)))) s):
  wpAny (model prog w) A (Builtin.«tuple.__lt__» ⟨[.ref a,.ref b],[]⟩) P E s:=by
 have ah:=hy.typeIs;obtain⟨oa,xs,na,ai,_,aj,ak⟩:=hx;obtain⟨ob,ys,nb,ao,_,aq,ar⟩:=hy;show wpAny _ _ (isInstance (.ref b) (.type "tuple") >>= _) _ _ s;refine zN (VM ah isSubtype_tuple_tuple ?_);simp only[Bool.not_true,ZS,Y4];refine zN (wpAny_tupleItemsOf ai aj ?_);refine zN (wpAny_tupleItemsOf ao aq ?_);refine zN ?_;refine YX _
  (λ rest r s'=>r.1=none/\s'=s/\∃(x' y':List Int) (C I:List Value),rest=List.zip C I/\ItemsAre (intKind prog w) x' C/\ItemsAre (intKind prog w) y' I/\cq x' y'=cq x y/\decide (C.length<I.length)=decide (xs.size<ys.size))
  _ ?_ ?_ _ _ ⟨rfl,rfl,x,y,xs.toList,ys.toList,rfl,ak,ar,rfl,by simp⟩;. rintro⟨u,v⟩ rest r s' ⟨hr,rfl,x',y',C,I,hz,U,J,o,hlen⟩;cases U with
  |nil=>simp at hz
  |@cons k1 u' au aa h1 ab=>cases J with
   |nil=>simp at hz
   |@cons k2 v' av ae h2 af=>
    simp only[WD,List.cons.injEq,Prod.mk.injEq]at hz;obtain⟨⟨rfl,rfl⟩,rfl⟩:=hz;refine zN ((intKind prog w).eqBool (a:=k1) (b:=k2) h1 h2 ?_);by_cases hk:k1=k2;. subst hk;rw[fN rfl];refine zS ⟨rfl,rfl,au,av,aa,ae,rfl,ab,af,?_,by simpa using hlen⟩;rw[<- o];conv=>rhs;unfold cq;rw[fD rfl]
    .rw[gL hk];have hf:cq x y=decide (k1<k2):=by rw[<- o];conv=>lhs;unfold cq;rw[QB hk]
     rw[hf]at h;obtain⟨t1,rfl⟩:=ZU (show Value.isInt k1 u=true from h1);obtain⟨t2,rfl⟩:=ZU (show Value.isInt k2 v=true from h2);refine zN (VE ?_);refine zN (PyProof.Rows.lt_int (a:=k1) (b:=k2) ?_);exact zN (zS (zS (zS h)))
 .rintro⟨r1,r2⟩ s' ⟨hr,rfl,x',y',C,I,hz,U,J,o,hlen⟩;subst hr;refine zS ?_;have ag:decide (xs.size<ys.size)=cq x y:=by rw[<- o,<- hlen];cases U with
   |nil=>cases J with
    |nil=>rfl
    |cons _ _=>simp[cq]
   |cons _ _=>cases J with
    |nil=>simp[cq]
    |cons _ _=>simp at hz
  show P (.done (.ret (.bool (decide (xs.size<ys.size))))) s';rw[ag];exact h
theorem yq{a b:Addr}{Q:Value->Shared->Prop}(C:A.units<cLine)(hx:eO prog w s.heap x a)(o:eO prog w s.heap y b)(h:Q (.bool (cq x y)) s):wpAny (model prog w) A (compareOp .Lt (.ref a) (.ref b)) Q E s:=
 wpAny_richCompare_same_room (op:= .Lt) hx.typeIs o.typeIs F.slot_tuple_lt (QO F.slot_tuple_lt hx.typeIs F.entry_tuple_lt (mU hx o ⟨_,rfl,(λ e=>nomatch e),h⟩) (F.args_tuple_lt_2 _ _)) C
end
section
variable {X:Cx} {a b:Expr} {fa fb:M D} {pos:Pos} {k:Nat}
noncomputable def Lu(K:PySem.W.Frag):R2:= λ v u H Q=>uk (λ i j=> .bl (decide (i<j))) v u H Q\/ ∃p q ns ms,v= .ref p/\u= .ref q/\fv K H p (ns.map V.int)/\fv K H q (ms.map V.int)/\Q (.bl (cq ns ms)) H
theorem Iy(J:X.A.units<cLine):gG X (compareOp .Lt) (Lu X.K):=by
 intro pins s σ H v w u z Q I o C h;rcases h with h|⟨p,q,ns,ms,rfl,rfl,U,h2,q⟩
 .exact we pins s σ H v w u z Q I o C h
 .cases o;cases C;exact yq J (gy I U) (gy I h2) ⟨.bl _,H,I,rfl,q⟩
noncomputable def rq(x y:D):Option D:=match x,y with
 | .tup xs,.tup ys=>match cz xs,cz ys with
  |some ns,some ms=>some (.bl (cq ns ms))
  |_,_=>none
 |_,_=>yo x y
theorem Du{K:PySem.W.Frag}:qQ (Lu K) rq:= λ c o S σ T H x y v u d Q s e k=>by
 unfold rq at e;split at e
 .split at e
  .rename_i ns ms C I;cases e;obtain⟨p,vs,rfl,g1,g2⟩:=s.st.tail.head.tup;obtain⟨q,us,rfl,g3,J⟩:=s.st.head.tup;have U:=eY g2 C;have h2:=eY J I;subst U h2;exact .inr ⟨p,q,ns,ms,rfl,rfl,.of (bK _ _ g1),.of (bK _ _ g3),k _ _ (s.stk (.cons .mkB s.st.tail.tail))⟩
  grind
 .exact .inl (jT (λ _ _ _=> .mkB) c o S σ T H x y v u d Q s e k)
theorem de_ltU(o:cu k X.A)(C:DE X a fa)(I:DE X b fb):DE X (.Compare a [.Lt] [b] pos) (m2 rq fa fb):=jC (Iy (by have:=gY o;omega)) Du C I
end
theorem jS (h:vs.length=ks.length):(bZ ks z vs).length=vs.length:=(gh ks z vs h).length_eq
theorem xq (r:Vals vs us):Vals (bZ ks V.non vs) (bZ ks Value.none us):= by
 unfold bZ
 split
 .exact r
 .exact qN (fun i=>ip r i) _
theorem DM (r:Rs H ds vs):Rs H (bZ ks D.non ds) (bZ ks V.non vs):= by
 unfold bZ
 split
 .exact r
 .exact yN (fun i=>vW r i) _
section
variable {X:Cx}
theorem p9:dw X (.builtin "sorted") (λ xs H Q=>∃p vs C,xs=[.ref p]/\(gK X.K H p vs\/fv X.K H p vs)/\AX X.K H vs C/\(∀ns∈C,ns≠[])/\C.length<64/\∀l,H l=none->Q (.ref l) (upd H l (.lst (bZ C V.non vs)))):=by
 intro pins s σ H xs us Q I r h;obtain⟨p,vs,C,rfl,hq,ht,ae,ah,q⟩:=h;obtain⟨u,rfl,ru⟩:=r.one;cases ru;obtain⟨hl,aa⟩:=jO ht;have fin:∀{its:List Value},Vals vs its->(∀(A':Around)(Q':List Value->Shared->Prop)(E':Value->Shared->Prop),(∀h':Heap,(∀b o,s.heap.get? b=some o->h'.get? b=some o)->Q' its { s with heap:=h' })->wpAny (model X.prog X.w) A' (collect (.ref p)) Q' E' s)->
   wpAny (model X.prog X.w) X.A (call (.builtin "sorted") [.ref p]) (EP X pins σ Q) X.xe s:= λ{its} U hc=>by
  have af:its.length=C.length:=by rw[<- U.length,hl]
  have tu:pL X.prog X.w s.heap C its:=⟨af,λ i k e=>by
   have hi:i<vs.length:=by rw[hl];exact(xZ.mp e).1
   have rr:=ip U i;rw[(aa i hi).1]at rr;have ab:i<its.length:=by omega
   refine⟨gm (vs.getD i .non),?_,?_⟩
   .rw[kW ab];have:its.getD i Value.none=its[i]:=by simp[ab]
    rw[this]at rr;exact Q9 some rr
   .have:=gy I (aa i hi).2;grind⟩;refine l8 (Ok:= λ ks ws=>ks=C/\ws=its) (λ A' Q' E' _ J=>hc A' Q' E' λ h' k=>J its C h' s.toks s.drawn ⟨rfl,rfl⟩ (by omega) (λ _=>ae) (tu.keeps λ b o e _=>k b o e) k) λ h1 h' tk d ks ws e ag hlen k k2 hg=>?_;obtain⟨rfl,rfl⟩:=ag;have I1:Inv X pins σ H { s with heap:=h1,toks:=tk,drawn:=d }:=Inv.kd I k;refine⟨.ref h1.objs.size,_,I1.laid (t':=tk) (o:= .lst (bZ ks V.non vs)) k2 (xS _) ⟨?_,bZ ks Value.none ws,e,xq U,hg⟩,rfl,q _ (I1.hok.fresh (xS _))⟩;rw[jS hl,VI];omega
 rcases hq with hq|hq
 .obtain⟨its,U,pl,hz⟩:=I.list hq;obtain⟨o,ho,hc,n,hd⟩:=pl.isList;exact fin U λ A' Q' E' J=>WQ p (.inl rfl) ho hc hd (λ h' k=>J h' k) (by rw[uP,<- U.length];exact hz)
 .obtain⟨its,U,⟨o,ho,hc,n,hd⟩,hz⟩:=I.tuple hq;exact fin U λ A' Q' E' J=>WQ p (.inr rfl) ho hc hd (λ h' k=>J h' k) (by rw[uP,<- U.length];exact hz)
end
noncomputable def sortU(xs:List D):Option (List D):=match dF xs with
 |some o=>if o.length<64/\o.all (λ ns=> !ns.isEmpty)=true then some (bZ o D.non xs)else none
 |none=>none
section
variable {X:Cx} {e:Expr} {fq:M (List D)} {p pos:Pos}
theorem df_sortedU(hm:X.mg "sorted"=none)(h:DQ X e fq)(hg:Gl X "sorted":=by rfl)(he:starEach [e] X.env=[(false,eval e X.env)]:=by rfl):DF X (.Call (.Name "sorted" p) [e] [] pos) (mQ sortU fq):=
 cM (dA p9 hg hm ZP (bA h cy he) (by decide) (by decide) he rfl) λ σ H Q ⟨c,δ,S,T,xs,ab,s,e,k⟩=>by
  obtain⟨ds,J,e1,e⟩:=bind_some e;obtain⟨I,rfl⟩:=bt e;refine⟨c,δ,S,T,ds,J,s,e1,λ q vs H1 l hq s1=>?_⟩;unfold sortU at I;split at I
  .rename_i C en;split at I
   .rename_i hn;cases I;have tv:=jI (K:=X.K) (s1.st.left l) en;have U:=(jO tv).1;refine⟨q,vs,C,rfl,hq,tv,λ ns aa e0=>?_,hn.1,λ m hm=>?_⟩;. have:=fR.mp hn.2 ns aa;rw[e0]at this;cases this
    obtain⟨f1,f2,f3⟩:=s1.fresh hm;have s2:=s1.hide (o:= .lst (bZ C V.non vs)) hm;have hd:ds.length=C.length:=by rw[<- U];exact l.symm
    exact k m _ _ (by rw[jS U,jS hd,U,hd]) (s2.stk ((DM (s2.st.left l)).append (s2.st.right l))) f1 f2 f3
   .cases I
  grind
end
end Jt.Tu
namespace Jt
open PySem PySem.Spec PyProof.Rows
noncomputable def xX (h:Heap) (d:Addr) (es:Array DictEntry):Prop:=∃o,h.get? d=some o∧o.cls=.type "dict" ∧ o.data=.dict es es.size
section
variable {prog:Program} {w:World} {A:Around} {E:Value->Shared->Prop} {s:Shared} {d:Addr} {es:Array DictEntry}
theorem xX.at {h h':Heap} (x:xX h d es) (k:∀o,h.get? d=some o->h'.get? d=some o):xX h' d es:=let ⟨o,h1,h2⟩:=x;⟨o,k o h1,h2⟩
theorem wQ (hh:A.handled=none) (I:Addr) (hne:d ≠ I) (es:Array DictEntry) :
  Walks prog w A I [I,d] [I] es.size (fun i v=>∃e,es[i]? = some e∧v=e.key) (fun i h=>h.IsKeyIter I d i es.size es.size∧xX h d es) where
 sub:=fun b hb=>by simp at hb;simp [hb]
 frame:=fun _ _ _ st hk=>⟨st.1.at fun o e=>hk I (by simp) o e,st.2.at fun o e=>hk d (by simp) o e⟩
 item:=fun i s Q E hi st hQ=>by
  obtain ⟨st,o,h1,h2,h3⟩:=st
  refine A7 st h1 h3 hi fun h' it' sb=>?_
  exact hQ _ h' s.toks ⟨_,ZI hi,rfl⟩ ⟨it',o,(sb.2 d hne).trans h1,h2,h3⟩ fun b o hb e=>(sb.2 b (fun z=>hb (by simp [z]))).trans e
 done:=fun s Q E st hQ=>by
  obtain ⟨st,o,h1,h2,h3⟩:=st
  exact CN hh st h1 h3 (xS _) fun h' eb=>hQ h' s.toks fun b o hb e=>eb b o (fun z=>hb (by simp [z])) e
 self:=fun _ _ _ _ st hQ=>wpAny_pyIter_keyiter st.1 hQ
theorem Ew (lo:(d == sysModules)=false) (es:Array DictEntry):PySem.W.KdlSrc prog w "dict" d d es.size (fun i v=>∃e,es[i]? = some e∧v=e.key) (fun h=>xX h d es) where
 type:=fun s ⟨o,h1,h2,_⟩=>⟨o,h1,h2⟩
 there:=fun h ⟨o,h1,_⟩=>⟨wV h1,wV h1⟩
 keep:=fun h h' x hk=>x.at (hk d (.inl rfl))
 notList:=by decide
 notTuple:=by decide
 hint:=fun _ _ _ _ ⟨o,h1,h2,_⟩ hq=>PySem.W.kdl_hint_dict ⟨o,h1,h2⟩ hq
 iter:=fun A s hh x=>⟨_,fun i h=>h.IsKeyIter s.heap.objs.size d i es.size es.size∧xX h d es,fun E Q hq=>by
   obtain ⟨o,h1,h2,h3⟩:=x
   exact zX lo h1 ⟨o,h1,h2⟩ h3 hq,
  wQ hh _ (by obtain ⟨o,h1,_⟩:=x;exact uT (wV h1)) es,⟨⟨_,wN _ rfl,rfl,rfl⟩,x.at fun o e=>kT _ e⟩⟩
theorem E3 {acc:Array Value} (h:ItemsOf (fun i v=>∃e,es[i]? = some e∧v=e.key) acc es.size):acc.toList=es.toList.map (·.key):= by
 refine WJ fun i=>?_
 rw [QH,QA,QA]
 by_cases hi:i < acc.size
 .obtain ⟨e,h1,h2⟩:=h.2 i _ (ZI hi)
  rw [ZI hi,h1,h2];rfl
 .rw [VG (by omega),VG (by have:=h.1;omega)];rfl
end
end Jt
namespace L2
open PySem PySem.Spec PyProof.Rows Jt
theorem xT {H:Hp} {es:Array DictEntry} {kvs:List (List Key × V)} (sz:es.size=kvs.length) (h:∀(i:Nat) (p:List Key × V),kvs[i]? = some p->∃(hlt:i < es.size) (b:Addr),es[i].key=.ref b∧H b=some (.tup (p.1.map kV))) :
  ∃bs:List Addr,bs.length=kvs.length∧es.toList.map (·.key)=bs.map Value.ref∧∀(i:Nat) (p:List Key × V),kvs[i]? = some p->∃b,bs[i]? = some b∧H b=some (.tup (p.1.map kV)):= by
 have hk:∀i (hi:i < es.size),∃b,es[i].key=.ref b:=fun i hi=>by
  obtain ⟨_,b,e,_⟩:=h i kvs[i] (kW (by omega))
  exact ⟨b,e⟩
 have e0:es.toList.map (·.key)=(es.toList.map fun e=>match e.key with | .ref b=>b | _=>0).map Value.ref:= by
  rw [VU]
  refine YZ fun e he=>?_
  obtain ⟨i,hi,rfl⟩:=ZE he
  obtain ⟨b,eb⟩:=hk i (by simpa using hi)
  have eb':es.toList[i].key=.ref b:=by simpa using eb
  simp only [Function.comp,eb']
 refine ⟨_,by simp [sz],e0,fun i p hp=>?_⟩
 obtain ⟨hlt,b,eb,hb⟩:=h i p hp
 refine ⟨b,?_,hb⟩
 rw [QH,QA,ZI hlt]
 simp only [Option.map_some,eb]
end L2
namespace Jt
open PySem L2 PyProof.Rows
section
variable {X:Cx} {p:Pos}
theorem qE(hc:X.calm=true):dw X (.type "list") (λ xs H Q=>∃d kvs,xs=[.ref d]/\Rd H d (.dT kvs)/\kvs.length<=sizeLine/\∀(bs:List Addr)(l:Addr),bs.length=kvs.length->(∀(i:Nat)(p:List Key×V),kvs[i]?=some p->∃b,bs[i]?=some b/\H b=some (.tup (p.1.map kV)))->H l=none->Q (.ref l) (upd H l (.lst (bs.map V.ref)))):=by
 intro pins s σ H xs us Q I r h;obtain⟨d,kvs,rfl,hd,hz,q⟩:=h;obtain⟨u,rfl,ru⟩:=r.one;cases ru;obtain⟨lo,o,es,h1,h2,h3,h4,h5⟩:=Jg I.hok hd;obtain⟨bs,C,U,aa⟩:=xT h4 h5;refine PySem.W.kdl_call (Ew lo es) (I.ok.hd hc) ⟨o,h1,h2,h3⟩ (by rw[h4];exact hz) λ h' tk acc c kp hS J=>?_;have ea:=(E3 J).trans U;have e2:acc=(bs.map Value.ref).toArray:=by rw[<- ea]
 have hn:=I.hok.fresh (xS s.heap.objs.size);refine⟨.ref s.heap.objs.size,_,I.laid (t':=tk) (o:= .lst (bs.map V.ref)) kp (xS _) ⟨by rw[wF,C];exact hz,bs.map Value.ref,c,?_,by rw[<- e2];exact hS⟩,rfl,q bs _ C aa hn⟩;have base:∀l:List Addr,Vals (l.map V.ref) (l.map Value.ref):= λ l=>by induction l with
  |nil=>exact .nil
  |cons b r ih=>exact .cons rfl ih
 simp_all
end
section
variable {c:Ct} {δ:DS} {S:List D} {σ:L2.St} {T:List V} {H:Hp}
theorem Sl.setOd(s:Sl { c with Z:=upd c.Z p (B4 ks) } δ S σ T H)(hp:c.Z p=none)(hB:p∉c.B)(h0:c.H0 p=none)(hi:i<δ.length):
  Sl c (δ.set i (.od ks)) S (σ.set i (some (.ref p))) T H:=by
 have ab:H p=some (B4 ks):=s.zz p _ bB;have zc:∀a u,c.Z a=some u->upd c.Z p (B4 ks) a=some u:= λ a u h=>by rw[br λ q=>by rw[q,hp]at h;cases h];exact h
 have I:i<σ.length:=by rw[<- s.len];exact hi
 have m:∀b u,eU { c with Z:=upd c.Z p (B4 ks) } δ σ H b=some u->eU c (δ.set i (.od ks)) (σ.set i (some (.ref p))) H b=some u:=bH (λ a u e z=>by
  rcases z with⟨w,z⟩|⟨j,b,ys,o,C⟩|⟨j,ls,o,C⟩
  .exact .inl ⟨w,zc a w z⟩
  .by_cases e:i=j;. subst e;rw[jP hi]at o;cases o
   .rw[wL e]at o C;exact .inr (.inl ⟨j,b,ys,o,C⟩)
  .by_cases e:i=j
   .subst e;rw[jP I]at C;cases C;exact .inl ⟨_,bB⟩
   .rw[wL e]at o C;exact .inr (.inr ⟨j,ls,o,C⟩)) λ a u _ e=>e;refine⟨by simpa using s.len,λ j d' h=>?_,λ j b ys h=>?_,λ j k b b' ys zs a o C U J=>?_,s.st.mono m,s.keep,s.bb,λ a u hz=>s.zk a u (zc a u hz),λ j ls h=>?_,λ j k ls ms a o C U J=>?_⟩
 .by_cases e:i=j;. subst e;rw[jP hi]at h;cases h
  .rw[wL e]at h|-;obtain⟨v',e',r⟩:=s.pu j d' h;exact⟨v',e',r.mono m⟩
 .by_cases e:i=j;. subst e;rw[jP hi]at h;cases h
  .rw[wL e]at h|-;have hx:=h;obtain⟨a,ws,e,o,C,U,J,h5⟩:=s.ow j b ys h;refine⟨a,ws,e,o,C.mono m,U,J,?_⟩;have aa:upd c.Z p (B4 ks) a=none:=h5;rwa [br λ q=>s.noOw (.inl ⟨j,b,ys,hx,by rw[e,q]⟩)]at aa
 .by_cases e:i=j;. subst e;rw[jP hi]at o;cases o
  .by_cases e':i=k;. subst e';rw[jP hi]at C;cases C
   .rw[wL e]at o U;rw[wL e']at C J;exact s.ne j k b b' ys zs a o C U J
 .by_cases e:i=j;. subst e;rw[jP hi]at h;cases h;exact⟨p,by rw[jP I],ab,hB,h0,hp⟩
  .rw[wL e]at h|-;have hx:=h;obtain⟨a,e,o,U,J,h5⟩:=s.od j ls h;refine⟨a,e,o,U,J,?_⟩;have aa:upd c.Z p (B4 ks) a=none:=h5;rwa [br λ q=>s.noOw (.inr ⟨j,ls,hx,by rw[e,q]⟩)]at aa
 .have np:∀(j:Nat) ls,δ[j]?=some (.od ls)->σ[j]?≠some (some (.ref p)):= λ j ls o C=>s.noOw (.inr ⟨j,ls,o,C⟩);by_cases e:i=j
  .subst e;rw[jP I]at U;cases U;by_cases e':i=k;. exact e'
   .rw[wL e']at C J;exact absurd J (np k ms C)
  .rw[wL e]at o U;by_cases e':i=k;. subst e';rw[jP I]at J;cases J;exact absurd U (np j ls o)
   .rw[wL e']at C J;exact s.nd j k ls ms a o C U J
theorem Sl.mutOd{ks:List (List Int)}(I:List (List Int)){i:Nat}(s:Sl c δ S σ T H)(hi:δ[i]?=some (.od ks))(ha:σ[i]?=some (some (.ref a))):
  Sl c (δ.set i (.od I)) S σ T (upd H a (B4 I)):=by
 have J:i<δ.length:=(xZ.mp hi).1;obtain⟨a',e,hH,hB,h0,hZ⟩:=s.od i ks hi;rw[ha]at e;cases e;have gw:∀(j:Nat) b ys,(δ.set i (.od I))[j]?=some (.ow b ys)->δ[j]?=some (.ow b ys):= λ j b ys h=>by
  have e:i≠j:= λ e=>by subst e;rw[jP J]at h;cases h
  simp_all
 have gd:∀(j:Nat) ls,(δ.set i (.od I))[j]?=some (.od ls)->∃ls,δ[j]?=some (.od ls):= λ j ls h=>by
  by_cases e:i=j;. subst e;exact⟨ks,hi⟩
  .rw[wL e]at h;exact⟨ls,h⟩
 have na:∀(j:Nat) b ys x,δ[j]?=some (.ow b ys)->σ[j]?=some (some (.ref x))->x≠a:= λ j b ys x o C q=>by
  obtain⟨x',ws,e,U,_⟩:=s.ow j b ys o;rw[C]at e;cases e;rw[q,hH]at U;cases U
 have ab:∀b,Oa (δ.set i (.od I)) σ b->Oa δ σ b:= λ b z=>by
  rcases z with⟨j,bb,ys,o,C⟩|⟨j,ls,o,C⟩
  .exact .inl ⟨j,bb,ys,gw j bb ys o,C⟩
  .obtain⟨aa,ae⟩:=gd j ls o;exact .inr ⟨j,aa,ae,C⟩
 have m:∀b u,eU c δ σ H b=some u->eU c (δ.set i (.od I)) σ (upd H a (B4 I)) b=some u:=bH (λ b u e z=>z.elim .inl λ z=> .inr (ab b z)) λ b u hb e=>by
  have:b≠a:= λ z=>hb (.inr (.inr ⟨i,ks,hi,by rw[z];exact ha⟩));rw[br this];exact e
 refine⟨by simpa using s.len,λ j d' h=>?_,λ j b ys h=>?_,λ j k b b' ys zs x o C U h4=>s.ne j k b b' ys zs x (gw _ _ _ o) (gw _ _ _ C) U h4,s.st.mono m,λ b u o C=>?_,λ b hb=>?_,λ x u hz=>?_,λ j ls h=>?_,λ j k ls ms x o C U h4=>?_⟩
 .have e:i≠j:= λ e=>by subst e;rw[jP J]at h;cases h
  rw[wL e]at h;obtain⟨v',e',r⟩:=s.pu j d' h;exact⟨v',e',r.mono m⟩
 .have h:=gw j b ys h;obtain⟨b1,ws,e',o,C,U⟩:=s.ow j b ys h;exact⟨b1,ws,e',by rw[br (na j b ys b1 h e')];exact o,C.mono m,U⟩
 .have:b≠a:= λ z=>by subst z;rw[h0]at C;cases C
  rw[br this];exact s.keep b u o C
 .have:b≠a:= λ z=>hB (z▸hb);rw[br this];exact s.bb b hb
 .have:x≠a:= λ e=>by rw[e,hZ]at hz;cases hz
  rw[br this];exact s.zk x u hz
 .by_cases e:i=j;. subst e;rw[jP J]at h;cases h;exact⟨a,ha,bB,hB,h0,hZ⟩
  .rw[wL e]at h;obtain⟨x,e',o,U⟩:=s.od j ls h;have:x≠a:= λ z=>e (s.nd i j _ _ a hi h ha (by rw[e',z]));exact⟨x,e',by rw[br this];exact o,U⟩
 .obtain⟨aa,o⟩:=gd j ls o;obtain⟨af,C⟩:=gd k ms C;exact s.nd j k aa af x o C U h4
end
section
variable {X:Cx} {e:Expr} {pos pos' p q:Pos} {fk:M D}
noncomputable def Nt(i:Nat):M Fl:= λ δ=>if i<δ.length then some (.nx,δ.set i (.od []))else none
theorem B1(i:Nat){x:Str}{pos':Pos}(o:X.N.Nodup)(C:X.N[i]?=some x:=by rfl)(hx:Loc X.env.scope x:=by first|exact Or.inl rfl|exact Or.inr rfl)(hs:swapsWith (.Dict [] [] p) (some (.Name x pos')) pos.line X.env=pure false:=by rfl)
  (hf:X.fn x=true\/X.env.scope.names.lookup x=some .local:=by first|exact .inl rfl|exact .inr rfl|assumption):ku X (.Assign [.Name x pos'] (.Dict [] [] p) pos) (Nt i):=
 iE (g7 o C hx pe_dnewT hs hf) λ E σ H ⟨c,δ,S,T,fl,J,s,e,k⟩=>by
  unfold Nt at e;split at e;. rename_i hi;cases e;intro p I;obtain⟨f1,f2,U⟩:=s.fresh I;exact k _ _ (Sl.setOd (ks:=[]) (s.hide (o:=B4 []) I) f1 f2 U hi)
  .cases e
noncomputable def wH(ks:List (List Int))(k:List Int):List (List Int):=if k∈ks then ks else ks++[k]
theorem qI:∀{a b:List Int},a.map (Sum.inl:Int->Key)=b.map .inl->a=b
 |[],[],_=>rfl
 |[],_::_,h=>by cases h
 |_::_,[],h=>by cases h
 |x::r,y::q,h=>by rw[QM,QM,List.cons.injEq]at h;rw[qI h.2];simp_all
theorem IG(ks:List (List Int))(k:List Int):putK (ks.map λ k=>((k.map .inl,.bl true):List Key×V)) (k.map .inl) (.bl true)=(wH ks k).map λ k=>(k.map .inl,.bl true):=by
 have an:((ks.map λ k=>((k.map .inl,.bl true):List Key×V)).any λ o=>decide (o.1=k.map .inl))=decide (k∈ks):=by
  rw[VR,List.any_eq_true,decide_eq_true_eq];constructor;. rintro⟨o,C,I⟩;obtain⟨a,J,rfl⟩:=QJ.mp C;rw[<- qI (ZC I)];exact J
  .intro h;exact⟨_,QJ.mpr ⟨k,h,rfl⟩,fN rfl⟩
 unfold putK wH;rw[an];by_cases h:k∈ks;. rw[fD (fN h),fD h];simp
 .rw[QB (by simpa using h),QB h,ZN];rfl
noncomputable def peekD(i:Nat):M (List (List Int)):= λ δ=>match δ[i]? with
 |some (.od ks)=>some (ks,δ)
 |_=>none
theorem iU{ks:List (List Int)}(h:peekD i δ=some (ks,o)):δ[i]?=some (.od ks)/\δ=o:=by unfold peekD at h;grind
noncomputable def HL(i:Nat)(ks:List (List Int)):M Unit:= λ δ=>match δ[i]? with
 |some (.od _)=>some ((),δ.set i (.od ks))
 |_=>none
noncomputable def rowOf:D->Option (List Int)
 | .tup xs=>cz xs
 |_=>none
noncomputable def Gz(i:Nat)(fk:M D):M Fl:=do
 let _<- peekD i
 let d<- fk
 let ns<- lift (rowOf d)
 let ks<- peekD i
 let _<- lift (few ks.length)
 HL i (wH ks ns)
 pure .nx
theorem qp:∀(ns:List Int),(ns.map Sum.inl).map kV=ns.map .int
 |[]=>rfl
 |_::r=>by rw[QM,QM,qp r];rfl
theorem Ar(hr:cu k X.A)(i:Nat){x:Str}{px:Pos}{j:Nat}{pb:Pos}(hk:DE X e fk)(C:X.N[i]?=some x:=by rfl)(hv:oW X.env.scope x:=by first|exact Or.inl rfl|exact Or.inr (Or.inl rfl)|exact Or.inr (Or.inr rfl))(hd:(x==("__debug__":Str))=false:=by decide)
  (J:(x==("__classdict__":Str))=false:=by decide)(hs:swapsWith (.Constant (.bool true) j pb) (some (.Subscript (.Name x px) e pos')) pos.line X.env=pure false:=by rfl):
  ku X (.Assign [.Subscript (.Name x px) e pos'] (.Constant (.bool true) j pb) pos) (Gz i fk):=
 iE (ps_dput (by have:=gY hr;omega) (cY C hv hd J) hk vV hs) λ E σ H ⟨c,δ,S,T,fl,ae,s,e,q⟩=>by obtain⟨U,af,e0,e⟩:=bind_some e;obtain⟨h0,rfl⟩:=iU e0;obtain⟨d,aa,e1,e⟩:=bind_some e;obtain⟨ns,ag,e2,e⟩:=bind_some e;obtain⟨e3,rfl⟩:=bt e2;obtain⟨ks,ah,e4,e⟩:=bind_some e;obtain⟨h1,rfl⟩:=iU e4;obtain⟨u,ai,e5,e⟩:=bind_some e;obtain⟨e6,rfl⟩:=bt e5;obtain⟨u',aj,e7,e⟩:=bind_some e;obtain⟨rfl,rfl⟩:=bg e;obtain⟨a,ea,_⟩:=s.od i U h0;refine⟨_,ea,c,δ,S,T,d,aa,s,e1,λ y H3 s1=>?_⟩;unfold HL at e7;rw[h1]at e7;cases e7;obtain⟨a',o,hH,_⟩:=s1.od i ks h1;rw[ea]at o;cases o;cases d with
  |tup xs=>obtain⟨p,vs,rfl,I,ab⟩:=s1.st.head.tup;have I:=bK _ _ I;rw[eY ab e3,<- qp]at I;have pt:=DPut.t (v:= .bl true) hH I (by rw[wF];exact(gX e6).2);rw[IG]at pt;exact⟨a,_,rfl,pt,q _ _ (s1.pop.mutOd (wH ks ns) h1 ea)⟩
  |_=>cases e3
theorem yR:∀(ns:List Int),Rs o (ns.map .int) (ns.map .int)
 |[]=> .nil
 |_::r=> .cons .mkI (yR r)
theorem wq:∀{ks:List (List Int)}{bs:List Addr},bs.length=ks.length->(∀(i:Nat)(k:List Int),ks[i]?=some k->∃b,bs[i]?=some b/\C b=some (.tup ((k.map Sum.inl).map kV)))->Rs C (ks.map λ k=>D.tup (k.map .int)) (bs.map V.ref)
 |[],[],_,_=> .nil
 |k::ks,b::bs,l,h=>by obtain⟨J,e,o⟩:=h 0 k rfl;cases e;rw[qp]at o;exact .cons (.mkT o (yR k)) (wq (by simp_all) λ i p I=>h (i+1) p I)
 |[],_::_,l,_=>by cases l
 |_::_,[],l,_=>by cases l
noncomputable def y9(i:Nat):M (List D):=do
 let ks<- peekD i
 if ks.length<=1000 then pure (ks.map λ k=> .tup (k.map .int))else lift none
theorem xh(i:Nat){x:Str}{J:Pos}(hm:X.mg "list"=none)(C:X.N[i]?=some x:=by rfl)(hv:oW X.env.scope x:=by first|exact Or.inl rfl|exact Or.inr (Or.inl rfl)|exact Or.inr (Or.inr rfl))(hd:(x==("__debug__":Str))=false:=by decide)
  (U:(x==("__classdict__":Str))=false:=by decide)(hc:X.calm=true:=by rfl)(hg:Gl X "list":=by rfl)(he:starEach [.Name x J] X.env=[(false,eval (.Name x J) X.env)]:=by rfl):DF X (.Call (.Name "list" p) [.Name x J] [] pos) (y9 i):=
 cM (eA (qE hc) hg hm (by decide+kernel) (bA (cY C hv hd U) cy he) (by decide) (by decide) he rfl) λ σ H Q ⟨c,δ,S,T,xs,ab,s,e,k⟩=>by
  obtain⟨ks,ae,e0,e⟩:=bind_some e;obtain⟨h0,rfl⟩:=iU e0;split at e
  .obtain⟨rfl,rfl⟩:=bg e;obtain⟨a,ea,hH,_⟩:=s.od i ks h0;refine⟨_,ea,a,_,rfl,.inl hH,by rw[wF,VI];omega,λ bs q o aa hq=>?_⟩;rw[wF]at o;obtain⟨f1,f2,f3⟩:=s.fresh hq;have I:Rs (eU c δ σ H) (ks.map λ k=>D.tup (k.map .int)) (bs.map V.ref):=wq o λ i p hp=>by obtain⟨b,eb,hb⟩:=aa i (p.map .inl,.bl true) (by rw[QH,hp];rfl);exact⟨b,eb,s.seeT hb⟩
   exact k q _ _ I.length ((s.stk (I.append s.st)).hide hq) f1 f2 f3
  .cases e
end
end Jt
namespace Jt.Tu
open PySem Jt
section
variable {prog:Program} {w:World} {A:Around} {E:Value->Shared->Prop} {s:Shared} {R:Result->Shared->Prop}
theorem qS:isSubtype (.type "list") (.type "set")=pure false:=by rw [isSubtype_type];rfl
theorem r6:isSubtype (.type "list") (.type "frozenset")=pure false:=by rw [isSubtype_type];rfl
set_option maxHeartbeats 8000000 in
theorem tF {l:Addr} {items:Array Value} {val:Nat->List Int} {ad:Nat->Addr} {Q:Value->Shared->Prop} (hh:A.handled=none) (hu:A.units + 10 < cLine) (hl:s.heap.IsList l items) (hi:∀(i:Nat) (v:Value),items[i]? = some v->v=.ref (ad i)) (hk:∀i,i < items.size->eO prog w s.heap (val i) (ad i)) (hb:items.size ≤ 18)
  (h:∀(h':Heap) (tk:Nat) (ls:List (List Int × Addr)) (ep:Nat) (t:SetTable),bG w h' s.heap.objs.size (ls.map (ek prog w)) ep t->(ls.map (·.1)).Nodup->(∀z,z ∈ ls.map (·.1) ↔ ∃j,j < items.size∧val j=z)->(∀p ∈ ls,∃j,j < items.size∧ad j=p.2∧val j=p.1) ->
   (∀b o,s.heap.get? b=some o->h'.get? b=some o)->Q (.ref s.heap.objs.size) { s with heap:=h',toks:=tk }) :
  wpAny (model prog w) A (call (.type "set") [.ref l]) Q E s:= by
 obtain ⟨c,tl,hmro⟩:=F.called_set.mro
 have hmade:=F.called_set.made
 have hsub:=F.called_set.sub
 refine WB (YG (?_:wpAny _ _ (callAny (.type "set") _) _ _ _))
 refine zS ⟨Code.quiet_builtin _ (by decide +kernel),ZK F.entry_type_call ?_⟩
 rw [Around.under_plain (WW "set" [.ref l] []) rfl]
 have h1:=F.called_set.notType
 have h2:=F.called_set.canCreate
 have hct:=F.typeCall_set_1 (.ref l)
 repeat (any_goals (first | assumption | wp_step))
 refine ZQ (hX (.ref l) (E:=E) (Q:=fun obj s₁=>obj=.ref s.heap.objs.size∧s₁={ s with heap:=s.heap.push { cls:=.type "set",dict:=none,data:=.set #[] 0 (.fresh 0 0 (!w.params.followText "set-order")) } }) ⟨rfl,rfl⟩) fun r s₁ hr=>?_
 cases r with
 | error e=>exact hr
 | ok fl=>
  cases fl with
  | ret obj=>
   obtain ⟨rfl,rfl⟩:=hr
   have hS:(s.heap.push ({ cls:=.type "set",dict:=none,data:=.set #[] 0 (.fresh 0 0 (!w.params.followText "set-order")) }:Obj)).get? s.heap.objs.size=some ({ cls:=.type "set",dict:=none,data:=.set #[] 0 (.fresh 0 0 (!w.params.followText "set-order")) }:Obj):=wN _ rfl
   have hT:Shared.TypeIs { s with heap:=s.heap.push ({ cls:=.type "set",dict:=none,data:=.set #[] 0 (.fresh 0 0 (!w.params.followText "set-order")) }:Obj) } (.ref s.heap.objs.size) "set":=⟨_,hS,rfl⟩
   have hli:=F.called_set.init.lookup
   have hbi:=F.called_set.init.bind (.ref s.heap.objs.size)
   repeat (any_goals (first | assumption | wp_step))
   refine ZQ (YQ (R:=wants (fun r s₂=>r=.none∧∃(h':Heap) (tk:Nat) (ls:List (List Int × Addr)) (ep:Nat) (t:SetTable),s₂={ s with heap:=h',toks:=tk }∧bG w h' s.heap.objs.size (ls.map (ek prog w)) ep t∧(ls.map (·.1)).Nodup∧(∀z,z ∈ ls.map (·.1) ↔ ∃j,j < items.size∧val j=z)∧(∀p ∈ ls,∃j,j < items.size∧ad j=p.2∧val j=p.1) ∧
     (∀b o,s.heap.get? b=some o->h'.get? b=some o)) E) F.called_set.init.plain F.entry_set_init (check_set_init_1 hT ?_)) fun r₂ s₂ hr₂=>?_
   .obtain ⟨⟨ocls,odict,odata,oslots⟩,hol,hcl,nl,hdl⟩:=hl
    simp only at hcl hdl
    subst hcl;subst hdl
    have hol':=kT ({ cls:=.type "set",dict:=none,data:=.set #[] 0 (.fresh 0 0 (!w.params.followText "set-order")) }:Obj) hol
    have hsls:=qS
    have hslf:=r6
    have hne:(Value.type "list" == Value.type "dict")=false:=by decide
    have hl1:(s.heap.push ({ cls:=.type "set",dict:=none,data:=.set #[] 0 (.fresh 0 0 (!w.params.followText "set-order")) }:Obj)).IsList l items:=⟨_,hol',rfl,nl,rfl⟩
    unfold Builtin.«set.__init__» noKeywords Builtin.Frozenset.updateFrom
    generalize hPI:pyIter=PI
    wp_walk
    subst hPI
    refine VW (s:={ s with heap:=s.heap.push ({ cls:=.type "set",dict:=none,data:=.set #[] 0 (.fresh 0 0 (!w.params.followText "set-order")) }:Obj) }) hl1 ?_
    refine zN (WH ?_)
    have hlS:l < s.heap.objs.size:=wV hol
    have hh3:A.in1.in1.in1.handled=none:=by simp [hh]
    have hneI:l ≠ (s.heap.push ({ cls:=.type "set",dict:=none,data:=.set #[] 0 (.fresh 0 0 (!w.params.followText "set-order")) }:Obj)).objs.size:=by rw [gO];exact uT (ZX hlS)
    have hSf:s.heap.objs.size ∉ [(s.heap.push ({ cls:=.type "set",dict:=none,data:=.set #[] 0 (.fresh 0 0 (!w.params.followText "set-order")) }:Obj)).objs.size,l]:= by
     rw [gO]
     intro hm
     rcases wR.mp hm with e | hm
     .exact uT (V5 _) e
     .exact VX hlS (wW.mp hm)
    have hadlt:∀j,j < items.size->ad j < s.heap.objs.size:=fun j hj=>by
     obtain ⟨o,_,_,ho,_⟩:=hk j hj
     exact wV ho
    refine xW (Walks.list hh3 _ l hneI items) s.heap.objs.size hSf val ad (fun i v hv=>hi i v hv) hb (by simp;omega) (fun j hj=>⟨uT (hadlt j hj),fun hm=>?_⟩) (items.size - 0) 0 _ s.toks [] 0 (.fresh 0 0 (!w.params.followText "set-order")) (by omega) (QY _) ⟨⟨_,wN _ rfl,rfl,rfl⟩,hl1.push _⟩
     (fun j hj=>(hk j hj).keeps fun o e=>kT _ (kT _ e)) (setP_fresh (kT _ hS)) (QY _) V6 (fun z=>⟨fun hz=>(by cases hz),fun ⟨j,hj,_⟩=>absurd hj (ZM _)⟩) (fun p hp=>nomatch hp) fun h' tk' l' ep' t' kp x' nd' mem' src'=>?_
    .have e':=wW.mp hm
     have:=hadlt j hj
     rw [e',gO] at this
     exact absurd this (YB.mpr (XH _))
    refine zS (?_:wpAny _ _ (ret Value.none) _ _ _)
    refine zS ⟨rfl,h',tk',l',ep',t',rfl,x',nd',mem',src',fun b o e=>?_⟩
    .have hb':=wV e
     refine kp b o (fun hm=>?_) (kT _ (kT _ e))
     rcases wR.mp hm with e' | hm
     .exact uT hb' e'
     .have:=wW.mp hm
      rw [gO] at this
      exact uT (ZX hb') this
   .cases r₂ with
    | error e=>exact hr₂
    | ok fl₂=>
     cases fl₂ with
     | ret r=>
      obtain ⟨rfl,h',tk,ls,ep,t,rfl,x',nd',mem',src',kp⟩:=hr₂
      repeat (any_goals (first | assumption | wp_step))
      exact h _ _ ls ep t x' nd' mem' src' kp
     | _=>exact hr₂.elim
  | _=>exact hr.elim
end
section
open L2 PyProof.Rows
variable {X:Cx}
theorem uo (hc:X.calm=true) (hu:X.A.units + 20 < cLine):dw X (.type "set") (fun xs H Q=>∃p vs nss,xs=[.ref p]∧gK X.K H p vs∧AX X.K H vs nss∧nss.length ≤ 18∧∀l,H l=none->Q (.ref l) (upd H l (oy X.prog X.w l (nss.zip (vs.map gm)) nss))):= by
 intro pins s σ H xs us Q I r h
 obtain ⟨p,vs,nss,rfl,hq,ht,h5,q⟩:=h
 obtain ⟨u,rfl,ru⟩:=r.one
 cases ru
 obtain ⟨its,rv,pl,hz⟩:=I.list hq
 obtain ⟨hl,hat⟩:=jO ht
 have hn:its.toArray.size=vs.length:=by rw [uP,<- rv.length]
 refine tF (val:=fun i=>nss.getD i []) (ad:=fun i=>gm (vs.getD i .non)) (I.ok.hd hc) (by omega) pl.isList (fun i v hv=>?_) (fun i hi=>gy I (hat i (by omega)).2) (by omega) fun h' tk ls ep t x nd mem src k=>?_
 .have hi:i < vs.length:= by
   have:=(ZZ.mp hv).1
   omega
  have e:its[i]? = some v:=by simpa using hv
  have rr:=ip rv i
  rw [QI (l:=its),e] at rr
  rw [(hat i hi).1] at rr
  exact rr
 .have e5:ls.length ≤ 18:= by
   have:(ls.map (·.1)).length ≤ nss.length:= by
    have gen:∀(a b:List (List Int)),a.Nodup->(∀x ∈ a,x ∈ b)->a.length ≤ b.length:= by
     intro a
     induction a with
     | nil=>intro b _ _;exact QY _
     | cons x r ih=>
      intro b nd hs
      have n:=ZF.mp nd
      have hx:=hs x uL
      have:=ih (b.erase x) n.2 fun y hy=>(List.mem_erase_of_ne (show y ≠ x from fun z=>n.1 (z ▸ hy))).mpr (hs y (uN _ hy))
      rw [List.length_erase_of_mem hx] at this
      have p:=List.length_pos_of_mem hx
      rw [QT]
      omega
    refine gen _ _ nd fun z hz=>?_
    obtain ⟨j,hj,e⟩:=(mem z).mp hz
    rw [<- e]
    have hj':j < nss.length:=by omega
    simp only [QI,kW hj',Option.getD_some]
    exact QN hj'
   rw [wF] at this
   omega
  refine ⟨.ref s.heap.objs.size,_,I.laid (t':=tk) (o:=oy X.prog X.w s.heap.objs.size (nss.zip (vs.map gm)) nss) k (xS _) ⟨⟨ls,ep,t,x,nd,fun z=>(mem z).trans ⟨fun ⟨j,hj,e⟩=>?_,fun hz=>?_⟩,fun p hp=>?_,e5⟩,?_,fun h1 h2 ⟨l,ep,t,x,r⟩ k=>⟨l,ep,t,x.at k,r⟩⟩,rfl,q _ I.fresh⟩
  .rw [<- e]
   have hj':j < nss.length:=by omega
   simp only [QI,kW hj',Option.getD_some]
   exact QN hj'
  .obtain ⟨j,hj,e⟩:=ZE hz
   exact ⟨j,by omega,by simp [hj,e]⟩
  .obtain ⟨j,hj,e1,e2⟩:=src p hp
   have hj':j < nss.length:=by omega
   have hj2:j < vs.length:=by omega
   refine WY.mpr ⟨j,?_⟩
   rw [YY]
   refine ⟨?_,?_⟩
   .rw [<- e2]
    simp [hj']
   .rw [<- e1,QH]
    simp [hj2]
  .obtain ⟨o,ho,_⟩:=x.obj
   exact ⟨o,ho⟩
end
section
open L2 PyProof.Rows
variable {X:Cx} {p pos:Pos} {k:Nat}
noncomputable def IX (X:Cx) (te:TE):TE:=fun σ H Q=>te σ H fun x H1=>∃p vs nss,[x]=[V.ref p]∧gK X.K H1 p vs∧AX X.K H1 vs nss∧nss.length ≤ 18∧∀l,H1 l=none->Q (.ref l) (upd H1 l (oy X.prog X.w l (nss.zip (vs.map gm)) nss))
theorem su {e:Expr} {te:TE} (hr:cu k X.A) (hm:X.mg "set" = none) (h:PE X e te) (hg:Gl X "set":=by rfl) (hc:X.calm=true:=by rfl) (he:starEach [e] X.env=[(false,eval e X.env)]:=by rfl):PE X (.Call (.Name "set" p) [e] [] pos) (IX X te) :=
 cM (eA (uo hc (gY hr)) hg hm (by decide +kernel) (bA h cy he) (by decide) (by decide) he rfl) fun σ H Q h=>h
noncomputable def sortSetL (ds:List D):Option (List D):=match dF ds with
 | some nss=>if nss.length ≤ 18∧nss.all (fun ns=>!ns.isEmpty)=true then some ((fj nss).map tD) else none
 | none=>none
theorem df_sortedSetO (i:Nat) {x:Str} {p2 pos2 px:Pos} (hr:cu k X.A) (hm:X.mg "sorted" = none) (hm2:X.mg "set" = none) (C:X.N[i]? = some x:=by rfl) (hv:oW X.env.scope x:=by first | exact Or.inl rfl | exact Or.inr (Or.inl rfl) | exact Or.inr (Or.inr rfl)) (hd:(x == ("__debug__":Str))=false:=by decide)
  (hcd:(x == ("__classdict__":Str))=false:=by decide) (hg:Gl X "sorted":=by rfl) (hg2:Gl X "set":=by rfl) (hc:X.calm=true:=by rfl) (he:starEach [.Name x px] X.env=[(false,eval (.Name x px) X.env)]:=by rfl) :
  DF X (.Call (.Name "sorted" p) [.Call (.Name "set" p2) [.Name x px] [] pos2] [] pos) (do let xs <- dH i;lift (sortSetL xs)) :=
 cM (dA (qx hc) hg hm ZP (bA (su hr hm2 (cY C hv hd hcd) hg2 hc he) cy rfl) (by decide) (by decide) rfl rfl) fun σ H Q ⟨c,δ,S,T,xs,δ',s,e,k⟩=>by
  obtain ⟨ds,δ1,e1,e⟩:=bind_some e
  obtain ⟨⟨b,hi⟩,rfl⟩:=cf e1
  obtain ⟨e2,rfl⟩:=bt e
  obtain ⟨q,vs,ea,g1,g2,_⟩:=s.ow i b ds hi
  refine ⟨_,ea,?_⟩
  unfold sortSetL at e2
  split at e2
  .rename_i nss en
   split at e2
   .rename_i hn
    cases e2
    have hds:=h9 en
    have tv:AX X.K H vs nss:=jI g2 en
    have l:=g2.length
    have s1e:Sl c δ (ds ++ S) σ (vs ++ T) H:=s.stk (g2.append s.st)
    refine ⟨q,vs,nss,rfl,.inl (.inl g1),tv,hn.1,fun m hm=>⟨m,_,nss,rfl,bB,fun pr hpr=>?_,fun kk hkk e0=>?_,fun m2 ps hm2 es src=>?_⟩⟩
    .rcases qr tv pr hpr with z | z
     .exact .inl (Rd.mono (dZ hm _) z)
     .exact .inr z
    .have:=fR.mp hn.2 kk hkk
     rw [e0] at this
     cases this
    .have s2:=s1e.grow (dZ hm (oy X.prog X.w m (nss.zip (vs.map gm)) nss))
     obtain ⟨f1,f2,f3⟩:=s2.fresh hm2
     have s3:=s2.hide (o:=.lst (ps.map fun pr=>V.ref pr.2)) hm2
     have rs:=s3.st.left l
     rw [hds] at rs
     have rr:=vZ fun pr hpr=>kr rs pr (src pr hpr)
     rw [es] at rr
     exact k m2 _ _ (by rw [wF,wF,<- es,wF]) (s3.stk (rr.append (s3.st.right l))) f1 f2 f3
   .cases e2
  .cases e2
end
end Jt.Tu
namespace Jt.Tu
open PySem Jt L2 PyProof.Rows
noncomputable def gI(prog:Program)(w:World)(S:Addr)(C:List (List Int×Addr))(o:List (List Int)):HO:= .ext λ h=>∃(l:List (List Int×Addr)) (J:Nat) (t:SetTable) (M:Nat),bG w h S (l.map (ek prog w)) J t/\T7 M t/\
 (∀(i:Nat)(p:List Int×Addr),l[i]?=some p->∃m,t.place[i]?=some (wy M (SetTable.bits (th prog w p.1)) m).j/\∀I,I<m->(wy M (SetTable.bits (th prog w p.1)) I).j∈t.place.toList)/\
 (M=7/\l.length<=4\/M=31/\l.length<=18)/\(l.map (·.1)).Nodup/\(∀z,z∈l.map (·.1)↔z∈o)/\(∀p∈l,p∈C)/\l.length<=o.length
section
variable {prog:Program} {w:World} {A:Around} {E:Value->Shared->Prop} {s:Shared}
theorem uX{h:Heap}{S:Addr}{I:List (List Int×Addr)}{C:List (List Int)}{l:List (List Int×Addr)}{J:Nat}{t:SetTable}(Z:TZ prog w h S l J t)(nd:(l.map (·.1)).Nodup)(mem:∀z,z∈l.map (·.1)↔z∈C)(src:∀p∈l,p∈I)(len:l.length<=C.length):cN prog w H h S (gI prog w S I C):=by
 obtain⟨M,T,b⟩:=Z;refine⟨⟨l,J,t,M,T.x,T.t7,T.way,b,nd,mem,src,len⟩,?_,?_⟩;. obtain⟨o,U,_⟩:=T.x.obj;simp_all
 .rintro h1 h2 ⟨l,J,t,M,x,r⟩ k;exact⟨l,J,t,M,x.at k,r⟩
noncomputable abbrev Lx(w:World):Obj:={ cls:= .type "set",dict:=none,data:= .set #[] 0 (.fresh 0 0 (!w.params.followText "set-order")) }
theorem oB(h:Q (.ref s.heap.objs.size) { s with heap:=s.heap.push (Lx w) }):wpAny (model prog w) A (newSet (.type "set")) Q E s:=by refine zN (zN (VL (zS ?_)));exact zN (wpAny_alloc (zS h))
end
section
variable {X:Cx} {pins:List (Addr × Obj)} {σ:L2.St} {H:Hp} {s:Shared} {A:Around} {E:Value->Shared->Prop}
theorem vt{J:List (List Int×Addr)}{U:List (List Int)}{Q:Value->Shared->Prop}(I:Inv X pins σ H s)(hu:A.units+10<cLine)(hS:H S=some (gI X.prog X.w S J U))(aa:∀pr∈J,fv X.K H pr.2 (pr.1.map V.int))(ab:U.length<=17)(hk:fv X.K H a (k.map V.int))
  (h:∀s',Inv X pins σ (upd H S (gI X.prog X.w S (J++[(k,a)]) (U++[k]))) s'->Q .none s'):wpAny (model X.prog X.w) A (call (.builtin "set.add") [.ref S,.ref a]) Q E s:=by
 obtain⟨⟨l,ep,t,M,x,t7,way,b,nd,mem,src,len⟩,_⟩:=I.hok S _ hS;have hT:s.TypeIs (.ref S) "set":=by obtain⟨o,ho,hx,_⟩:=x.obj;exact⟨o,ho,hx.1⟩
 have tk:=gy I hk;refine QO PySem.F.slot_set_add hT PySem.F.entry_set_add ?_ (PySem.F.args_set_add_2 _ _);unfold Builtin.«set.add» Builtin.Frozenset.oneOther Builtin.Frozenset.addrOf setAdd;simp only[List.isEmpty_nil,bind_assoc];refine zN (zS ?_);refine zN (zS ?_);refine zN (QP ?_);refine zN (wpAny_pyHash_tuple (by simp;omega) tk ?_);refine TS.add (s:={ s with toks:=s.toks+(k.length+1) }) ⟨M,⟨x,λ p hp=>gy I (aa p (src p hp)),t7,way⟩,b⟩ (by simp;omega) (by omega) tk λ h' l' ae t' bb sb TT C=>?_;refine zS ⟨_,rfl,h _ ?_⟩;refine d_write (I.tok (s.toks+(k.length+1))) (by rw[hS];exact True.intro) sb ?_ ?_;. obtain⟨_,T,_⟩:=TT;obtain⟨o,ho,_⟩:=T.x.obj;exact⟨o,ho⟩
 .by_cases hm:k∈l.map (·.1);. rw[fD hm]at C;subst C;refine uX TT nd (λ z=>?_) (λ p hp=>Z9 _ (src p hp)) (by rw[QC];omega);rw[mem z,QD,wW];exact⟨.inl,λ h=>h.elim id λ e=>by rw[e];exact(mem k).mp hm⟩
  .rw[QB hm]at C;have pm:(l'.map (·.1)).Perm (k::l.map (·.1)):=by simpa using C.map (·.1)
   refine uX TT (pm.nodup_iff.mpr (ZF.mpr ⟨hm,nd⟩)) (λ z=>?_) (λ p hp=>?_) (by rw[C.length_eq,QC,QT,List.length_singleton];omega);. rw[pm.mem_iff,wR,mem z,QD,wW];exact or_comm
   .rcases wR.mp (C.mem_iff.mp hp)with e|e
    .rw[e];exact QR _ uL
    .exact Z9 _ (src p e)
end
end Jt.Tu
namespace L2
open PySem PySem.Spec PyProof.Rows
open Jt.Tu (gI Lx oB vt uX)
theorem pw(elt tg iter:Expr)(ifs:List Expr)(scope:Scope)(pos:Pos)(it acc:Value)(env:Env):compTurn (.SetComp elt [⟨tg,iter,ifs,0⟩] scope pos) 0 it acc env=(do
   standAt iter.pos;match<- pyNext it with
   |none=>pure (.done .next)
   |some v=>do
    letOwnedTupleGo tg it v;assign tg env v;let ok<- forIn ifs true λ c r=>if r=true then do let ok<- isTrue c env (eval c env);pure (ForInStep.yield ok)else pure (ForInStep.yield r)
    if ok=true then(do (do let v<- eval elt env;standAt elt.pos;let _<- call (.builtin "set.add") [acc,v];pure ());again (.compLoop (.SetComp elt [⟨tg,iter,ifs,0⟩] scope pos) 0 it acc env))else again (.compLoop (.SetComp elt [⟨tg,iter,ifs,0⟩] scope pos) 0 it acc env)):=by rfl
section
variable {prog:Program} {w:World} {A:Around} {R:Result->Shared->Prop} {s:Shared} {elt tg iter:Expr} {ifs:List Expr} {scope:Scope} {pos:Pos} {it acc:Value} {env:Env}
theorem mI(I:Nat->Shared->Prop)
  (turn:∀n s,I n s->wpAny (model prog w) A (pyNext it) (λ r s1=>match r with
   |none=>R (.ok .next) s1
   |some v=>wpAny (model prog w) A (letOwnedTupleGo tg it v) (λ _ s2=>wpAny (model prog w) A (assign tg env v) (λ _ s3=>
     wpAny (model prog w) A (forIn ifs true λ c r=>if r=true then do let ok<- isTrue c env (eval c env);pure (ForInStep.yield ok)else pure (ForInStep.yield r)) (λ ok s4=>
      if ok=true then wpAny (model prog w) A (eval elt env) (λ y s5=>wpAny (model prog w) A (call (.builtin "set.add") [acc,y]) (λ _ s7=>∃m,m<n/\I m s7) (λ _ _=>False) s5) (λ _ _=>False) s4
      else∃m,m<n/\I m s4) (λ _ _=>False) s3) (λ _ _=>False) s2) (λ _ _=>False) s1) (λ _ _=>False) s)
  (n:Nat)(h:I n s):codeAny (model prog w) A (.compLoop (.SetComp elt [⟨tg,iter,ifs,0⟩] scope pos) 0 it acc env) R s:=by refine codeAny_loop rfl I (λ n s hI=>?_) n h;refine wpAny_noted ?_;rw[pw];refine zN (Z5 (zN (gA (turn n s hI) (λ r ae o=>?_) λ _ _ h'=>h'.elim)));cases r with
 |none=>exact zS o
 |some v=>refine zN (gA o (λ _ af J=>?_) λ _ _ h'=>h'.elim);refine zN (gA J (λ _ ag U=>zN (gA U (λ ok ah C=>?_) λ _ _ h'=>h'.elim)) λ _ _ h'=>h'.elim);cases ok with
  |false=>exact zS ⟨rfl,C⟩
  |true=>exact zN (zN (gA C (λ y ai aa=>zN (Z5 (zN (gA aa (λ _ aj ab=>zS (zS ⟨rfl,ab⟩)) λ _ _ h'=>h'.elim)))) λ _ _ h'=>h'.elim))
theorem mM(h0:codeAny (model prog w) A (.compLoop (.SetComp elt [⟨tg,iter,ifs,0⟩] scope pos) 0 it acc env) R s)
  (h:∀E,wpAny (model prog w) A (pyIter it) (λ o C=>codeAny (model prog w) A (.compLoop (.SetComp elt [⟨tg,iter,ifs,0⟩] scope pos) 0 o acc env) R C) E s):
  codeAny (model prog w) A (.compStart (.SetComp elt [⟨tg,iter,ifs,0⟩] scope pos) 0 it acc env) R s:=by
 refine YG ?_;refine wpAny_notedAt ?_;refine zN (VL (wpAny_ite ?_));split;. first
  |rfl
  |exact zS ⟨rfl,h0⟩
 .refine zN (VE ?_);exact zN (Z5 (zN (gA (h _) (λ o C h'=>zS ⟨rfl,h'⟩) λ _ _ x=>x)))
end
noncomputable def s_(X:Cx)(wi:TI)(own:Nat)(g:TG)(tt:TT)(te:TE):TE:= λ σ H Q=>wi σ H λ J H1=>∀l,H1 l=none->∃W:Nat->Nat->Hp->Prop,(∃m,W 0 m (upd H1 l (gI X.prog X.w l [] [])))/\∀i m H,W i m H->
 ((J.stop i H/\Q (.ref l) H)\/(J.go i H/\∀x H',J.yld i H x H'->g x (σ++List.replicate own none) H' λ o H2=>o.take σ.length=σ/\tt o H2 λ b H3=>
  if b=true then te o H3 λ v H4=>∃a k C I,v= .ref a/\fv X.K H4 a (k.map V.int)/\H4 l=some (gI X.prog X.w l C I)/\(∀pr∈C,fv X.K H4 pr.2 (pr.1.map V.int))/\I.length<=17/\∃U,U<m/\W (i+1) U (upd H4 l (gI X.prog X.w l (C++[(k,a)]) (I++[k])))
  else∃U,U<m/\W (i+1) U H3))
section
variable {X:Cx} {elt tg iter:Expr} {ifs:List Expr} {scope:Scope} {pos pos':Pos} {N' own:List Str} {wi:TI} {g:TG} {tt:TT} {te:TE}
theorem zC(hc:∀s H fp pins,cal (blk X N' own scope s H fp pins))(hi:Mh cal X tg iter wi)(hk:scope.kind= .function)(hS:dv N' own X.env.scope scope=true)(hM:du X.N N' scope=true)
  (hg:∀s H fp pins,PG (blk X N' own scope s H fp pins) tg g)(ht:∀s H fp pins,oi (blk X N' own scope s H fp pins) ifs tt)(he:∀s H fp pins,PE (blk X N' own scope s H fp pins) elt te)(hu:X.A.units+10<cLine)
  (hs:∀x,foldedSetIterable iter X.env x=pure x){use:Option (Value->Sem Unit)}{Q0:Value->Shared->Prop}{pins:List (Addr×Obj)}{s:Shared}{σ:St}{H:Hp}{Q:VK}
  (I:Inv X pins σ H s)(h:s_ X wi own.length g tt te σ H Q)
  (fin:∀(l:Addr)(H':Hp)(s':Shared)(C:Addr)(m:Str->Option Value),Inv X pins σ H' s'->Q (.ref l) H'->s'.heap.Ns C m->H' C=none->C≠X.env.locals->X.s₀.heap.objs.size<=C->(∀x c,X.env.cells.lookup x=some c->c≠C)->(∀p∈X.pn++pins,p.1≠C)->
   compPost (model X.prog X.w) X.A X.xe use Q0 (.ref l) C (.ok .next) s'):
  wpAny (model X.prog X.w) X.A (comprehension (.SetComp elt [⟨tg,iter,ifs,0⟩] scope pos) scope X.env pos' (newSet (.type "set")) false (eval iter X.env) use) Q0 X.xe s:=by
 refine jF (Q:=Q) (ob:= λ l=>gI X.prog X.w l [] []) hc hi hk hS hM hs (N7 X.prog X.w X.A tg ifs elt "set.add") rfl I h oB (λ {H s} I=>I.laid (t':=s.toks) (λ _ _ q=>kT _ q) (xS _) (uX (Jt.Tu.setP_fresh (wN _ rfl)) V6 (λ z=>Iff.rfl) (λ p hp=>nomatch hp) (xS _))) (λ I h=>mI I h) mM (λ J H1 l q hn=>?_) fin
 obtain⟨W,w,turn⟩:=q l hn;refine⟨W,w,λ i m H w=>(turn i m H w).imp_right λ⟨go,step⟩=>⟨go,λ x H' y s3 H3 fp ps s u K I r ag=>?_⟩⟩
 refine cC (hg s3 H3 fp pins _ s _ H' x u _ I r (step x H' y)) λ _ s8 ⟨o,H8,I8,e8,q8⟩=>cC (ht s3 H3 fp pins _ s8 o H8 _ I8 q8) λ b s9 ⟨H9,I9,q9⟩=>?_;cases b with
 |false=>obtain⟨m',hm,wa⟩:=q9;exact ag I9 e8 hm wa
 |true=>refine cC (he s3 H3 fp pins _ s9 o H9 _ I9 q9) λ y aO ⟨v,aP,aH,rv,a,k,aQ,aR,ev,aI,aJ,aK,aL,m',hm,wa⟩=>?_;subst ev;cases rv;exact vt (X:=blk X N' own scope s3 H3 fp pins) aH hu aJ aK aL aI λ aS aM=>ag aM e8 hm wa
theorem Bo(hi:PI X tg iter wi)(hg:∀s H fp pins,PG (blk X N' own scope s H fp pins) tg g)(ht:∀s H fp pins,oi (blk X N' own scope s H fp pins) ifs tt)(he:∀s H fp pins,PE (blk X N' own scope s H fp pins) elt te)(J:X.A.units+10<cLine)
  (hS:dv N' own X.env.scope scope=true:=by rfl)(hM:du X.N N' scope=true:=by rfl)(hk:scope.kind= .function:=by rfl)(hc:X.calm=true:=by rfl)(hs:∀x,foldedSetIterable iter X.env x=pure x:=by intro _;rfl):
  PE X (.SetComp elt [⟨tg,iter,ifs,0⟩] scope pos) (s_ X wi own.length g tt te):=by intro pins s σ H Q I h;refine zC (use:=none) (cal:= λ X=>X.calm=true) (λ _ _ _ _=>hc) hi.g hk hS hM hg ht he J hs I h λ l H' U C m I' q hn h1 h2 h3 h4 h5=>?_;refine⟨m,hn,λ h' sb=>⟨.ref l,H',?_,rfl,q⟩⟩;exact I'.turned (t':=U.toks) (λ b o hb e=>(sb.2 b hb).trans e) h1 h2 (.inr h3) h4 h5
end
end L2
namespace Jt
open PySem L2
theorem Sl.forget(s:Sl { c with Z:=upd c.Z p o } C S σ T H)(hp:c.Z p=none):Sl c C S σ T H:=by
 have zc:∀a u,c.Z a=some u->upd c.Z p o a=some u:= λ a u h=>by rw[br λ q=>by rw[q,hp]at h;cases h];exact h
 have m:∀b u,eU { c with Z:=upd c.Z p o } C σ H b=some u->eU c C σ H b=some u:=bH (λ a u e z=>by
  rcases z with⟨w,z⟩|z
  .exact .inl ⟨w,zc a w z⟩
  .exact .inr z) λ a u ha e=>e;have up:∀{a:Addr},upd c.Z p o a=none->c.Z a=none:= λ{a} h=>by
  by_cases q:a=p;. rw[q];exact hp
  .rwa [br q]at h
 refine⟨s.len,λ i d e=>?_,λ i b xs e=>?_,s.ne,s.st.mono m,s.keep,s.bb,λ a u hz=>s.zk a u (zc a u hz),λ i ks e=>?_,s.nd⟩;. obtain⟨v,e,r⟩:=s.pu i d e;exact⟨v,e,r.mono m⟩
 .obtain⟨a,I,e,J,h2,U,h4,h5⟩:=s.ow i b xs e;exact⟨a,I,e,J,h2.mono m,U,h4,up h5⟩
 .obtain⟨a,e,J,U,h4,h5⟩:=s.od i ks e;exact⟨a,e,J,U,h4,up h5⟩
end Jt
namespace Jt.Tu
open PySem Jt L2 PyProof.Rows
noncomputable def j8(o:List (List Int)):Bool:=o.all (λ ns=> !ns.isEmpty)||o.all (·.isEmpty)
theorem vi(h:j8 o=true):(∀k∈o,k≠[])\/ ∀k∈o,k=[]:=by
 rcases Bool.or_eq_true_iff.mp h with h|h
 .exact .inl λ k hk e=>by have:=fR.mp h k hk;simp_all
 .exact .inr λ k hk=>List.isEmpty_iff.mp (fR.mp h k hk)
noncomputable def gU(ds:List D):Option (List D):=match dF ds with
 |some o=>if o.length<=18/\j8 o=true then some ((fj o).map tD)else none
 |none=>none
theorem mh(h:gU ds=some ys):∃o,dF ds=some o/\o.length<=18/\j8 o=true/\ys=(fj o).map tD:=by
 unfold gU at h;split at h;. simp_all
 .cases h
theorem iZ:∀z:List Int,cz (z.map .int)=some z
 |[]=>rfl
 |i::z=>by rw[QM];unfold cz;rw[iZ z];rfl
theorem dP:∀L:List (List Int),dF (L.map tD)=some L
 |[]=>rfl
 |x::L=>by show(match cz (x.map .int),dF (L.map tD)with|some x,some y=>some (x::y)|_,_=>none)=_;rw[dP L,iZ x]
theorem tJ:∀{a:List D}{y:D}{b:List D}{o:List (List Int)},dF (a++y::b)=some o->∃n1 k,dF a=some n1/\y=tD k/\dF (a++[y])=some (n1++[k])/\n1.length<o.length
 |a,y,b,o,h=>by
  have e:=h9 h;have J:=Q9 List.length e;rw[QC,QT,wF]at J;have I:a=(o.take a.length).map tD:=by
   have:=Q9 (List.take a.length) e;rw[JP,<- List.map_take]at this;. exact this
   rfl
  have C:y::b=(o.drop a.length).map tD:=by
   have:=Q9 (List.drop a.length) e;rw[List.drop_left',<- List.map_drop]at this;. exact this
   .rfl
  cases q:o.drop a.length with
  |nil=>rw[q]at C;cases C
  |cons k r=>
   rw[q]at C;injection C with U e4;subst U;refine⟨o.take a.length,k,?_,rfl,?_,by rw[VJ];omega⟩;. have:=dP (o.take a.length);rwa [<- I]at this
   .have:=dP (o.take a.length++[k]);rw[ZN,<- I]at this;exact this
section
variable {X:Cx} {e elt tg iter:Expr} {fa te:M D} {fi:M jy} {gt:D->M Unit} {tt:M Bool} {p pos:Pos} {k:Nat} {N' own:List Str} {scope:Scope} {ifs:List Expr} {lo:Nat}
noncomputable abbrev Hx(X:Cx)(xs:List V)(H:Hp)(Q:VK):Prop:=∃(p:Addr) (I:Heap->Prop) (C:List (List Int×Addr)) (o:List (List Int)),xs=[.ref p]/\H p=some (.ext I)/\(∀h,I h->∃(l:List (List Int×Addr)) (J:Nat) (t:SetTable),bG X.w h p (l.map (ek X.prog X.w)) J t/\(l.map (·.1)).Nodup/\(∀z,z∈l.map (·.1)↔z∈o)/\(∀p∈l,p∈C)/\l.length<=18)/\(∀pr∈C,fv X.K H pr.2 (pr.1.map V.int))/\((∀k∈o,k≠[])\/ ∀k∈o,k=[])/\
  ∀l(ps:List (List Int×Addr)),H l=none->ps.map (·.1)=fj o->(∀pr∈ps,pr∈C)->Q (.ref l) (upd H l (.lst (ps.map λ pr=>V.ref pr.2)))
theorem w6{own:Nat}:∀σ H Q,GP (do let xs<- dG lo own fi (cp gt tt te);lift (gU xs)) σ H Q->s_ X (J9 fi) own (JB lo gt) (pX tt) (tM te) σ H (λ v H1=>Hx X [v] H1 Q):= λ σ H Q ⟨c,ak,S,T,ys,aL,s0,e,k⟩=>by
 obtain⟨xs,ay,az,e⟩:=bind_some e;obtain⟨es,rfl⟩:=bt e;obtain⟨ab,en,aM,aA,rfl⟩:=mh es;obtain⟨u,aB,e0,e⟩:=bind_some az;have ag:σ.length=lo/\ak=aB:=by
  unfold gF at e0;split at e0;. cases e0;exact⟨by rw[<- s0.len];assumption,rfl⟩
  .cases e0
 obtain⟨ag,rfl⟩:=ag;obtain⟨it,ao,e1,e⟩:=bind_some e;obtain⟨u',aC,e2,e⟩:=bind_some e;obtain⟨e3,rfl⟩:=bt e2;refine⟨c,ak,S,T,it,ao,s0,e1,λ J Sx Tx H1 l hJ s1 q hq=>?_⟩;obtain⟨items,fin⟩:=it;dsimp only at e;obtain⟨f1,f2,f3⟩:=s1.fresh hq;refine⟨λ i m H=>∃U C acc I ah,m=items.length-i/\i<=items.length/\acc.length=C.length/\dF C=some I/\Sl { c with Z:=upd c.Z q (gI X.prog X.w q (I.zip (acc.map gm)) I) } U (C++(Sx++S)) σ (acc++(Tx++T)) H/\
  d7 own (cp gt tt te) fin (items.drop i) U=some (ah,ay)/\C++ah=xs,⟨_,ao,[],[],[],xs,rfl,QY _,rfl,rfl,s1.hide hq,e,rfl⟩,?_⟩;rintro i m H ⟨U,C,acc,I,ah,rfl,hi,la,aa,s,em,ex⟩;have aq:H q=some (gI X.prog X.w q (I.zip (acc.map gm)) I):=s.zz q _ bB;have sr:=s.rot la l;by_cases ae:i<items.length;. rw[Q4 ae]at em;unfold d7 at em;cases ea:items[i] U with
  |none=>rw[ea]at em;cases em
  |some d=>rw[ea]at em;dsimp only at em;cases et:cp gt tt te d (U++List.replicate own .un)with
   |none=>rw[et]at em;cases em
   |some p=>obtain⟨o,aD⟩:=p;rw[et]at em;dsimp only at em;cases ec:d7 own (cp gt tt te) fin (items.drop (i+1)) (aD.take U.length)with
    |none=>rw[ec]at em;cases em
    |some p=>
     obtain⟨ai,aC⟩:=p;rw[ec]at em;cases em;obtain⟨u1,ar,aE,et⟩:=bind_some et;obtain⟨b,aj,aF,et⟩:=bind_some et;obtain⟨go,yld⟩:=(hJ { c with Z:=upd c.Z q (gI X.prog X.w q (I.zip (acc.map gm)) I) } U (C++S) (acc++T) H i sr).1 items[i] d (kW ae) ea;refine .inr ⟨go,λ x H' y=>?_⟩;refine⟨_,U++List.replicate own .un,Sx++(C++S),Tx++(acc++T),d,ar,(yld x H' y).ext own,aE,λ aG H2 hn s2=>?_⟩;have ht:aG.take σ.length=σ:=by rw[hn _ (WN ag)];exact JP rfl
     refine⟨ht,_,ar,Sx++(C++S),Tx++(acc++T),b,aj,s2,aF,λ H3 s3=>?_⟩;have af:U.length=σ.length:=s.len;cases b with
     |true=>
      rw[fD rfl]at et;refine Kx ?_;obtain⟨y1,au,ey,et⟩:=bind_some et;obtain⟨rfl,rfl⟩:=bg et;have aw:C++y1::ai=xs:=ex;rw[<- aw]at en;obtain⟨n1,kk,t1,aH,t2,aN⟩:=tJ en;rw[aa]at t1;cases t1;refine⟨_,aj,Sx++(C++S),Tx++(acc++T),y1,au,s3,ey,λ v H4 s4=>?_⟩;have h4:=(s4.st.tail.right l).left la;have tv:AX X.K H4 acc I:=jI h4 aa;have aI:R _ (.tup (kk.map .int)) v:=aH▸s4.st.head;obtain⟨a,us,rfl,g1,g2⟩:=aI.tup;have ev:=eY g2 (iZ kk);subst ev;refine⟨a,kk,_,_,rfl,.of (bK _ _ g1),s4.zz q _ bB,qr tv,by omega,items.length-(i+1),by omega,au.take U.length,C++[y1],acc++[.ref a],I++[kk],ai,rfl,ae,by simp[la],t2,?_,ec,by rw[<- aw];simp⟩;have s5:=s4.cut σ.length;rw[ht,<- af]at s5;have nl:I.length=(acc.map gm).length:=by rw[wF];exact(jO tv).1.symm
      have ez:(I++[kk]).zip ((acc++[V.ref a]).map gm)=I.zip (acc.map gm)++[(kk,a)]:=by rw[ZN,List.zip_append nl];rfl
      have s6:=Sl.hideSet (gI X.prog X.w q (I.zip (acc.map gm)++[(kk,a)]) (I++[kk])) s5 f2 f3;rw[ez];refine s6.stk ?_;have j1:=s6.st.head;have j2:=s6.st.tail.left l;have j3:=s6.st.tail.right l;have j4:=j3.left la;have j5:=j3.right la;exact(j4.append (.cons j1 .nil)).append (j2.append j5)
     |false=>
      obtain⟨rfl,rfl⟩:=bg et;refine⟨items.length-(i+1),by omega,aj.take U.length,C,acc,I,ai,rfl,ae,la,aa,?_,ec,ex⟩;have s5:=s3.cut σ.length;rw[ht,<- af]at s5;exact s5.rot l la
 .have ei:i=items.length:=by omega
  subst ei;rw[Z4]at em;unfold d7 at em;by_cases hf:fin U=true
  .rw[fD hf]at em;cases em;rw[Z1]at ex;subst ex;rw[aa]at en;cases en;have aJ:=(hJ _ _ (C++S) (acc++T) H _ sr).2 rfl hf;have g2:=s.st.left la;have tv:AX X.K H acc ab:=jI g2 aa;refine .inl ⟨aJ,q,_,ab.zip (acc.map gm),ab,rfl,aq,λ h hh=>?_,qr tv,vi aA,λ m2 ps ax es src=>?_⟩;. obtain⟨l,ep,t,M,x,_,_,b,nd,mem,src,len⟩:=hh;exact⟨l,ep,t,x,nd,mem,src,by omega⟩
   .have s':Sl c _ (C++S) σ (acc++T) H:=(s.stk ((s.st.left la).append ((s.st.right la).right l))).forget f1;obtain⟨h1,h2,h3⟩:=s'.fresh ax;have s3:=s'.hide (o:= .lst (ps.map λ pr=>V.ref pr.2)) ax;have rs:=s3.st.left la;rw[h9 aa]at rs;have rr:=vZ λ pr aK=>kr rs pr (src pr aK);rw[es]at rr;exact k m2 _ _ (by rw[wF,wF,<- es,wF]) (s3.stk (rr.append (s3.st.right la))) h1 h2 h3
  .rw[QB hf]at em;cases em
theorem df_sortedComp{o:Pos}(I:cu k X.A)(hm:X.mg "sorted"=none)(hi:DC X tg iter fi)(hg:∀s H fp pins,DG (blk X N' own scope s H fp pins) lo tg gt)(ht:∀s H fp pins,oi (blk X N' own scope s H fp pins) ifs (pX tt))(he:∀s H fp pins,DE (blk X N' own scope s H fp pins) elt te)
  (hS:dv N' own X.env.scope scope=true:=by rfl)(hM:du X.N N' scope=true:=by rfl)(hk:scope.kind= .function:=by rfl)(hc:X.calm=true:=by rfl)(hs:∀x,foldedSetIterable iter X.env x=pure x:=by intro _;rfl)(J:Gl X "sorted":=by rfl)
  (C:starEach [.SetComp elt [⟨tg,iter,ifs,0⟩] scope o] X.env=[(false,eval (.SetComp elt [⟨tg,iter,ifs,0⟩] scope o) X.env)]:=by rfl):
  DF X (.Call (.Name "sorted" p) [.SetComp elt [⟨tg,iter,ifs,0⟩] scope o] [] pos) (do let xs<- dG lo own.length fi (cp gt tt te);lift (gU xs)):=
 cM (dA (gb hc) J hm ZP (bA (Bo hi hg ht he (by have:=gY I;omega) hS hM hk hc hs) cy C) (by decide) (by rfl) C rfl) w6
noncomputable def sf:D->Option (List D)
 | .lst ds=>gU ds
 |_=>none
theorem df_sortedSetA{p2 U:Pos}(hr:cu k X.A)(hm:X.mg "sorted"=none)(I:X.mg "set"=none)(h:DE X e fa)(hg:Gl X "sorted":=by rfl)(ab:Gl X "set":=by rfl)(hc:X.calm=true:=by rfl)(he:starEach [e] X.env=[(false,eval e X.env)]:=by rfl):
  DF X (.Call (.Name "sorted" p) [.Call (.Name "set" p2) [e] [] U] [] pos) (do let x<- fa;lift (sf x)):=
 cM (dA (gb hc) hg hm ZP (bA (su hr I h ab hc he) cy rfl) (by decide) (by decide) rfl rfl) λ σ H Q ⟨c,δ,S,T,xs,ai,s,e,k⟩=>by obtain⟨x,aa,e1,e⟩:=bind_some e;obtain⟨e2,rfl⟩:=bt e;refine⟨c,δ,S,T,x,aa,s,e1,λ v H1 s1=>?_⟩;cases x with
  |lst ds=>
   obtain⟨C,en,ae,af,rfl⟩:=mh (show gU ds=_ from e2);obtain⟨q,vs,rfl,g1,g2⟩:=s1.st.head.lst;have ag:=h9 en;have tv:AX X.K H1 vs C:=jI g2 en;have l:=g2.length;have ah:Sl c aa (ds++S) σ (vs++T) H1:=s1.stk (g2.append s1.st.tail);refine⟨q,vs,C,rfl,.inl (Rd.mono bK g1),tv,ae,λ m hm=>⟨m,_,_,C,rfl,bB,λ _ h=>h,λ pr J=>?_,vi af,λ m2 ps I es src=>?_⟩⟩
   .rcases qr tv pr J with z|z
    .exact .inl (Rd.mono (dZ hm _) z)
    .exact .inr z
   .have s2:=ah.grow (dZ hm (oy X.prog X.w m (C.zip (vs.map gm)) C));obtain⟨f1,f2,f3⟩:=s2.fresh I;have s3:=s2.hide (o:= .lst (ps.map λ pr=>V.ref pr.2)) I;have rs:=s3.st.left l;rw[ag]at rs;have rr:=vZ λ pr J=>kr rs pr (src pr J);rw[es]at rr;exact k m2 _ _ (by rw[wF,wF,<- es,wF]) (s3.stk (rr.append (s3.st.right l))) f1 f2 f3
  |_=>cases e2
end
section
variable {X:Cx} {a b:Expr} {fa fb:M D} {pos:Pos}
theorem Hl:gG X (compareOp .Is) (λ x y H Q=>∃p q,x= .bl p/\y= .bl q/\Q (.bl (p==q)) H):=by intro pins s σ H x y v u Q I C J h;obtain⟨p,q,rfl,rfl,k⟩:=h;cases C;cases J;refine wpAny_is_plain (a:= .bool p) (b:= .bool q) (by rfl) ⟨.bl (p==q),H,I,?_,k⟩;cases p <;> cases q <;> rfl
noncomputable def JK:D->D->Option D
 | .bl p,.bl q=>some (.bl (p==q))
 |_,_=>none
theorem EG:qQ (λ x y H Q=>∃p q,x= .bl p/\y= .bl q/\Q (.bl (p==q)) H) JK:= λ c C S σ T H x y v u d Q s e k=>by
 unfold JK at e;split at e;. cases e;exact⟨_,_,s.st.tail.head.bl,s.st.head.bl,k _ _ (s.stk (.cons .mkB s.st.tail.tail))⟩
 .cases e
theorem de_isB(o:DE X a fa)(C:DE X b fb):DE X (.Compare a [.Is] [b] pos) (m2 JK fa fb):=jC Hl EG o C
end
end Jt.Tu
namespace Jt
open PySem L2
section
variable {δ:DS}
theorem Nr(h:Nat.blt i δ.length=true)(k:Ok g (δ.set i (.od [])) Q):Ok (eC (Nt i) g) δ Q:=
 cc.mpr ⟨.nx,_,fD (VQ h),k⟩
inductive N8 (i:Nat) (Q:Fl->DS->Prop):D->DS->Prop
 | mk (h1:cz xs=some ns) (h2:o[i]? = some (.od ks)) (h3:ks.length ≤ 100000) (q:Q .nx (o.set i (.od (wH ks ns)))):N8 i Q (.tup xs) o
theorem NK (h0:δ[i]? = some (.od ks)) (h:Ok fk δ (N8 i Q)):Ok (Gz i fk) δ Q:= by
 obtain ⟨d,o,e,q⟩:=h
 cases q with
 | mk h1 h2 h3 q=>
  refine oBind (oV (by unfold peekD;rw [h0]) (oBind (oV e (oBind (oLift h1 (oBind (oV (by unfold peekD;rw [h2]) (oBind ?_))))))))
  exact gz.mpr ⟨h3,oBind (oV (by unfold HL;rw [h2]) (oPure q))⟩
theorem KP (h:δ[i]? = some (.od ks)) (hl:ks.length ≤ 1000) (q:Q (ks.map fun k=>.tup (k.map .int)) δ):Ok (y9 i) δ Q:= by
 refine oBind (oV (by unfold peekD;rw [h]) ?_)
 simp_all
theorem AI(ds:List D)(I:Nat->DS->Prop)(U:Ok fi δ λ it C=>it=bL ds/\I 0 C)
  (ht:∀k(hk:k<ds.length) δ,I k δ->Ok (gt ds[k]) δ λ _ J=>Ok body J λ fl o=>match fl with
   | .nx=>I (k+1) o
   | .ct=>I (k+1) o
   | .bk=>Ok g o Q
   | .rt d=>Q (.rt d) o
   | .rf d=>Q (.rf d) o)(hQ:∀δ,I ds.length δ->Ok g δ Q):Ok (eC (do let it<- fi;Jt.forM gt body it.2 it.1) g) δ Q:=by refine cc.mpr (oBind (U.mono λ it C ⟨e,h0⟩=>?_));subst e;exact jW ds I h0 (λ k hk δ h=>(ht k hk δ h).mono λ _ _ h=>h.mono λ fl _ h=>by omega) hQ
end
end Jt
namespace Jt.Tu
open PySem Jt
theorem lZ:∀(h:List Int),cz (h.map .int)=some h
 |[]=>rfl
 |a::r=>by rw[QM];unfold cz;rw[lZ r];rfl
theorem tupsD_mapT:∀(ks:List (List Int)),dF (ks.map tD)=some ks
 |[]=>rfl
 |a::r=>by show(match cz (a.map .int),dF (r.map tD)with|some x,some y=>some (x::y)|_,_=>none)=_;rw[lZ,tupsD_mapT r]
theorem sortU_rows(nd:ks.Nodup)(h:∀k∈ks,k≠[])(o:ks.length<64):∃s,sortU (ks.map tD)=some (s.map tD)/\s.Perm ks/\vD s:=by
 have pp:=gh ks [] ks rfl;refine⟨bZ ks [] ks,?_,pp,?_⟩;. unfold sortU;rw[tupsD_mapT];dsimp only;rw[fD ⟨o,fR.mpr λ k hk=>by simpa using h k hk⟩,jE,nt (by simp) _ (tD [])]
 .have n2:(bZ ks [] ks).Nodup:=pp.nodup_iff.mpr nd;refine((i4 ks).and n2).imp λ{a b} q=>?_;cases z:cq a b with
  |true=>rfl
  |false=>exact absurd (qo z q.1) q.2
end Jt.Tu
namespace K62
open PySem L2 Jt
noncomputable def top (i:Nat):Stmt:=PySem.Challenge.pw_jointrees_k62_columns_of_tables_and_agre.main.body.getD i (.Pass ⟨0,0,0,0⟩)
structure Bi (mg:Str->Option Value):Prop where
 all:mg "all" = none
 bool:mg "bool" = none
 divmod:mg "divmod" = none
 int:mg "int" = none
 isinstance:mg "isinstance" = none
 len:mg "len" = none
 list:mg "list" = none
 max:mg "max" = none
 min:mg "min" = none
 range:mg "range" = none
 set:mg "set" = none
 sorted:mg "sorted" = none
 tuple:mg "tuple" = none
 zip:mg "zip" = none
 g_FIGURES:∃t,mg "FIGURES" = some (.int 10 t)
 g_MOST_ROWS:∃t,mg "MOST_ROWS" = some (.int 625 t)
section
variable {mg:Str->Option Value}
abbrev GW:List Str:=["_law_script","_law_k"]
noncomputable def ke:Pk HP 2 "_law_cell" GW (top 37) fun c k o=>Bi c.mg->o :=
 ⟨_,fun E m=>
  kP E fun nd hr=>
  (bh (dN (Ky (ba 1) (cX m.len (a_ (ba 0) bc))) (bp (bF (bx (ba 0) (ba 1)))) cm)
  (bp (bF (dR (pQ bf (ba 1)) bf))))⟩
noncomputable abbrev qL:=ke.m
abbrev yv:List Str:=["_law_cell_here","_law_k","_law_number"]
noncomputable def oM:Pk HP 2 "_law_mix" yv (top 38) fun c k o=>o :=
 ⟨_,fun E  =>
  kP E fun nd hr=>
  (bh (bP 2 nd (dR (pQ (dR (ba 0) bf) bf) (pQ bf (ba 1))))
  (bh (bP 2 nd (dR (qk (wb (ba 2) (ba 2)) bf) (ba 1)))
  (bp (bF (qk (wb (ba 2) (dR (ba 2) bf)) bf)))))⟩
noncomputable abbrev vp:=oM.m
abbrev BA:List Str:=["_law_script","_law_k","_law_here","_law_number","_law_j"]
noncomputable def oH:Pk HF 2 "_law_box" BA (top 39) fun c k o=>Bi c.mg->ke.H c k->oM.H c k->o :=
 ⟨_,fun E m i3m i3n=>
  kF E fun nd hr=>
  (bh (bP 2 nd (bC i3m hr (a_ (ba 0) (a_ (ba 1) bc))))
  (bh (dN (fL (qk (ba 2) bf) bf) (bp (qu (cG (a_ (Il (ba 2) bf) bc)))) cm)
  (bh (bP 3 nd bf)
  (bh (fw (bO rfl m.range (a_ bf bc)) (cg 4 nd) (bp (bP 3 nd (dR (pQ (ba 3) bf) (bC i3n hr (a_ (ba 2) (a_ (ba 4) bc)))))))
  (bp (qu (cG (a_ (ba 3) bc))))))))⟩
noncomputable abbrev uI:=oH.m
abbrev nR:List Str:=["_law_box_here","_law_many","_law_left","_law_digit"]
noncomputable def fI:Pk HB 2 "_law_take" nR (top 40) fun c k o=>Bi c.mg->o :=
 ⟨_,fun E m=>
  kB E fun nd hr=>
  (bh (Ih (wI m.divmod (a_ (AO 0 bf) (a_ (ba 1) bc))) (uq (n:=2) (fT (cg 2 nd) (fT (cg 3 nd) pe))))
  (bh (Bx 0 (ba 2))
  (bp (bF (ba 3)))))⟩
noncomputable abbrev kH:=fI.m
abbrev zd:List Str:=["_law_box_here","_law_many","_law_size"]
noncomputable def xn:Pk HB 2 "_law_barred" zd (top 43) fun c k o=>Bi c.mg->fI.H c k->o :=
 ⟨_,fun E m i03=>
  kB E fun nd hr=>
  (bh (dN (mx (jd (fL (ba 1) bf) (gi (fL (bu 0 i03 hr (a_ bf bc)) bf)))) (bh (bP 2 nd (dR bf (bu 0 i03 hr (a_ (kN (tK m.min (a_ bf (a_ (ba 1) bc))) bf) bc))))
  (bp (bF (bz (cW (mG zd "_law_lack" 3 (cw (bO rfl m.range (a_ (ba 2) bc))) fun _=>(cn m.tuple (a_ (bz (cW (B5 (zd ++ (["_law_lack"]:List Str)) "_law_column" 4 (cw (bO rfl m.range (a_ (ba 2) bc))) (fun _=>(mr hr (ba 4) (ba 3))) fun _=>(ba 4)))) bc)))))))) cm)
  (bh (bP 2 nd (dR bf (bu 0 i03 hr (a_ (kN (tK m.min (a_ bf (a_ (ba 1) bc))) bf) bc))))
  (bp (bF (bz (cW (mG zd "_law_column" 3 (cw (bO rfl m.range (a_ (ba 2) bc))) fun _=>(cn m.tuple (a_ (bz (jK m.sorted (sg (bz (cG (a_ (ba 3) (a_ (qk (dR (ba 3) bf) (ba 2)) bc))))))) bc)))))))))⟩
noncomputable abbrev Jk:=xn.m
abbrev oo:List Str:=["_law_box_here","_law_many","_law_heads","_law_left","_law_names","_law_rows_here","_law_found"]
noncomputable def nU:Pk HB 3 "_law_named" oo (top 44) fun c k o=>Bi c.mg->fI.H c k->o :=
 ⟨_,fun E m i03=>
  kB E fun nd hr=>
  (bh (ir 3 nd (zU m.list m.range (a_ (ba 1) bc)))
  (bh (bP 4 nd (bz (cW (mG oo "_law_turn" 7 (cw (bO rfl m.range (a_ (ba 1) bc))) fun _=>(yA 3 (a_ (bu 0 i03 hr (a_ (kE 3 m.len) bc)) bc))))))
  (bh (G5 5 nd (mG oo "_law_head_here" 7 (cw (cF (ba 2))) fun _=>(cn m.tuple (a_ (bz (jK m.sorted (sg (bz (cW (mG (oo ++ (["_law_head_here"]:List Str)) "_law_column" 8 (cw (cF (ba 7))) fun _=>(bx (ba 4) (ba 8)))))))) bc))))
  (bh (ir 6 nd (cG bc))
  (bh (AQ 7 (Ja hr (Jf 5) (mq (bz (cG bc)))) (bp (fX 6 (a_ (yA 5 (a_ (bu 0 i03 hr (a_ (kE 5 m.len) bc)) bc)) bc))))
  (bp (bF (nK 6 m.tuple))))))))⟩
noncomputable abbrev vS:=nU.m
abbrev vz:List Str:=["_law_box_here","_law_many","_law_some"]
noncomputable def mn:Pk HB 2 "_law_head" vz (top 41) fun c k o=>Bi c.mg->fI.H c k->o :=
 ⟨_,fun E m i03=>
  kB E fun nd hr=>
  (bh (l0 2 nd (B5 vz "_law_column" 3 (cw (bO rfl m.range (a_ (ba 1) bc))) (fun _=>(fL (bu 0 i03 hr (a_ bf bc)) bf)) fun _=>(ba 3)))
  (bh (dN (G0 hr (ba 2) (bz (cG bc))) (bp (bP 2 nd (bz (cG (a_ (bu 0 i03 hr (a_ (ba 1) bc)) bc))))) cm)
  (bp (bF (cn m.tuple (a_ (ba 2) bc))))))⟩
noncomputable abbrev uK:=mn.m
abbrev Ak:List Str:=["_law_box_here","_law_many","_law_heads","_law_found","_law_turn","_law_way","_law_base","_law_kept","_law_met","_law_fresh","_law_head_here"]
noncomputable def xo:Pk HB 3 "_law_grown" Ak (top 42) fun c k o=>Bi c.mg->mn.H c k->fI.H c k->o :=
 ⟨_,fun E m i0s i03=>
  kB E fun nd hr=>
  (bh (ir 3 nd (cG (a_ (bu 0 i0s hr (a_ (ba 1) bc)) bc)))
  (bh (fw (bO rfl m.range (a_ (kN (ba 2) bf) bc)) (cg 4 nd) (bh (bP 5 nd (bu 0 i03 hr (a_ bf bc)))
  (bh (bP 6 nd (AO 3 (bx (bz (cG (a_ (kN (kE 3 m.len) bf) (a_ (bu 0 i03 hr (a_ (kE 3 m.len) bc)) bc)))) (Et m.int (a_ (Kc (ba 5) bf) bc)))))
  (bh (l0 7 nd (B5 Ak "_law_column" 11 (cw (cF (ba 6))) (fun _=>(zj (bu 0 i03 hr (a_ bf bc)) bf)) fun _=>(ba 11)))
  (bh (bP 8 nd (bz (cW (B5 Ak "_law_column" 11 (cw (bO rfl m.range (a_ (ba 1) bc))) (fun _=>(mr hr (bz (cW (B5 (["_law_box_here","_law_many","_law_heads","_law_found","_law_turn","_law_way","_law_base","_law_kept","_law_met","_law_fresh","?10","_law_column"]:List Str) "_law_head_here" 12 (zF 3) (fun _=>(y0 (ba 11) (ba 12))) fun _=>(ba 12)))) (bz (cG bc)))) fun _=>(ba 11)))))
  (bh (l0 9 nd (B5 Ak "_law_column" 11 (cw (bO rfl m.range (a_ (ba 1) bc))) (fun _=>(mx (Bc (sJ (ba 11) (ba 8)) (uH (fL (bu 0 i03 hr (a_ bf bc)) bf))))) fun _=>(ba 11)))
  (bh (bP 10 nd (bz (jK m.sorted (sg (bz (tS (mq (ba 7)) (mq (ba 9))))))))
  (bh (dN (G0 hr (ba 10) (bz (cG bc))) (bp (bP 10 nd (bz (cG (a_ (bx (ba 6) (bu 0 i03 hr (a_ (cX m.len (a_ (ba 6) bc)) bc))) bc))))) cm)
  (bp (fX 3 (a_ (cn m.tuple (a_ (ba 10) bc)) bc)))))))))))
  (bp (bF (bz (Iu 3))))))⟩
noncomputable abbrev Jd:=xo.m
abbrev zP:List Str:=["_law_box_here","_law_most","_law_heads","_law_many","_law_number","_law_way","_law_some","_law_extra"]
noncomputable def yb:Pk HB 3 "_law_layout" zP (top 45) fun c k o=>Bi c.mg->xn.H c k->xo.H c k->mn.H c k->nU.H c k->fI.H c k->o :=
 ⟨_,fun E m G_q2 G_q8 i0s i25 i03=>
  kB E fun nd hr=>
  (bh (bP 3 nd (dR bf (bu 0 i03 hr (a_ (ba 1) bc))))
  (bh (bP 4 nd (dR bf (bu 0 i03 hr (a_ (ba 2) bc))))
  (bh (bP 5 nd (bu 0 i03 hr (a_ bf bc)))
  (bh (dN (mx (Bc (fL (ba 5) bf) (uH (zj (ba 3) bf)))) (bh (bP 6 nd (bu 0 G_q2 hr (a_ (ba 3) bc)))
  (bh (l0 7 nd (mG zP "_law_turn" 8 (cw (bO rfl m.range (a_ (bu 0 i03 hr (a_ (dR bf (zp m.max (a_ bf (a_ (kN (ba 2) (cX m.len (a_ (ba 6) bc))) bc)))) bc)) bc))) fun _=>(bu 0 i0s hr (a_ (ba 3) bc))))
  (bp (bF (bJ (a_ (ba 3) (a_ (bu 0 i25 hr (a_ (ba 3) (a_ (l9 (bz (tS (mq (ba 6)) (mq (ba 7)))) qB (qe bf)) bc))) bc))))))) cm)
  (bh (dN (fL (ba 5) bf) (bp (bF (bJ (a_ (ba 3) (a_ (bu 0 i25 hr (a_ (ba 3) (a_ (bz (cW (mG zP "_law_turn" 8 (cw (bO rfl m.range (a_ (ba 4) bc))) fun _=>(bu 0 i0s hr (a_ (ba 3) bc))))) bc))) bc))))) cm)
  (bp (bF (bJ (a_ (ba 3) (a_ (bu 0 i25 hr (a_ (ba 3) (a_ (bu 0 G_q8 hr (a_ (ba 3) (a_ (ba 4) bc))) bc))) bc))))))))))⟩
noncomputable abbrev Cm:=yb.m
abbrev AV:List Str:=["_law_box_here","_law_wide","_law_most","_law_found","_law_small","_law_turn"]
noncomputable def nQ:Pk HB 3 "_law_rows" AV (top 48) fun c k o=>Bi c.mg->fI.H c k->o :=
 ⟨_,fun E m i03=>
  kB E fun nd hr=>
  (bh (B1 3 nd)
  (bh (bP 4 nd (bx (bz (cG (a_ bf (a_ bf (a_ bf bc))))) (bu 0 i03 hr (a_ bf bc))))
  (bh (fw (bO rfl m.range (a_ (bu 0 i03 hr (a_ (dR (ba 2) bf) bc)) bc)) (cg 5 nd) (bp (Ar hr 3 (cn m.tuple (a_ (bz (cW (mG AV "_law_column" 6 (cw (bO rfl m.range (a_ (ba 1) bc))) fun _=>(bu 0 i03 hr (a_ (ba 4) bc))))) bc)))))
  (bp (bF (cn m.tuple (a_ (bz (Jt.Tu.df_sortedU m.sorted (sg (bz (xh 3 m.list))))) bc)))))))⟩
noncomputable abbrev BX:=nQ.m
abbrev xB:List Str:=["_law_box_here","_law_layout_here","_law_most","_law_way","_law_small","_law_whole_here","_law_turn","_law_found","_law_head_here","_law_rows_here"]
noncomputable def xD:Pk HB 3 "_law_tables" xB (top 49) fun c k o=>Bi c.mg->nQ.H c k->fI.H c k->o :=
 ⟨_,fun E m i3o i03=>
  kB E fun nd hr=>
  (bh (bP 3 nd (bu 0 i03 hr (a_ bf bc)))
  (bh (dN (fL (ba 3) bf) (bp (bF (cn m.tuple (a_ (bz (cW (mG (["_law_box_here","_law_layout_here","_law_most","_law_way","_law_small","_law_whole_here","_law_turn","_law_found","?8","_law_rows_here"]:List Str) "_law_head_here" 10 (cw (cF (bx (ba 1) bf))) fun _=>(bu 0 i3o hr (a_ (cX m.len (a_ (ba 10) bc)) (a_ (ba 2) bc)))))) bc)))) cm)
  (bh (bP 4 nd (dR bf (bu 0 i03 hr (a_ bf bc))))
  (bh (ir 5 nd (cG bc))
  (bh (fw (bO rfl m.range (a_ (dR bf (bu 0 i03 hr (a_ (ba 2) bc))) bc)) (cg 6 nd) (bp (fX 5 (a_ (bz (cW (mG xB "_law_column" 10 (cw (bO rfl m.range (a_ (bx (ba 1) bf) bc))) fun _=>(bu 0 i03 hr (a_ (ba 4) bc))))) bc))))
  (bh (ir 7 nd (cG bc))
  (bh (fw (cF (bx (ba 1) bf)) (cg 8 nd) (bh (G5 9 nd (mG xB "_law_row" 10 (zF 5) fun _=>(cn m.tuple (a_ (bz (cW (mG (xB ++ (["_law_row"]:List Str)) "_law_column" 11 (cw (cF (ba 8))) fun _=>(bx (ba 10) (ba 11))))) bc))))
  (bh (dN (fL (ba 3) bf) (bp (fX 9 (a_ (cn m.tuple (a_ (bz (cW (mG xB "_law_column" 10 (cw (cF (ba 8))) fun _=>(bu 0 i03 hr (a_ (ba 4) bc))))) bc)) bc))) cm)
  (bp (fX 7 (a_ (cn m.tuple (a_ (bz (Jt.Tu.df_sortedSetO 9 hr m.sorted m.set)) bc)) bc))))))
  (bp (bF (nK 7 m.tuple))))))))))⟩
noncomputable abbrev HU:=xD.m
abbrev vd:List Str:=["things"]
noncomputable def je:Pk HP 1 "is_rising" vd (top 18) fun c k o=>Bi c.mg->o :=
 ⟨_,fun E m=>
  kP E fun nd hr=>
  (bp (bF (iR m.all (a_ (bz (cW (NR (n:=2) vd ["one","other"] 1 (cw (zg m.zip (a_ (ba 0) (a_ (l9 (ba 0) (qe bf) qB) bc)))) (fun nd _=>(uq (n:=2) (fT (cg 1 nd) (fT (cg 2 nd) pe)))) (fun _=>ik) fun _=>(Jt.Tu.de_ltU hr (ba 1) (ba 2))))) bc))))⟩
noncomputable abbrev vT:=je.m
abbrev yV:List Str:=["thing"]
noncomputable def kG:Pk HP 1 "is_whole" yV (top 15) fun c k o=>Bi c.mg->o :=
 ⟨_,fun E m=>
  kP E fun nd hr=>
  (bp (bF (gN (fK .int m.isinstance m.int (ba 0)) (g_ (yT (fK .bool m.isinstance m.bool (ba 0)))))))⟩
noncomputable abbrev vo:=kG.m
abbrev Gm:List Str:=["thing","many"]
noncomputable def kb:Pk HP 2 "is_below" Gm (top 16) fun c k o=>kG.H c k->o :=
 ⟨_,fun E i1c=>
  kP E fun nd hr=>
  (bp (bF (gN (bC i1c hr (a_ (ba 0) bc)) (g_ (Fj bf (ba 0) (ba 1))))))⟩
noncomputable abbrev AR:=kb.m
abbrev zR:List Str:=["thing","many"]
noncomputable def nD:Pk HP 2 "are_below" zR (top 17) fun c k o=>Bi c.mg->kb.H c k->o :=
 ⟨_,fun E m i0n=>
  kP E fun nd hr=>
  (bp (bF (gN (fK .tup m.isinstance m.tuple (ba 0)) (g_ (iR m.all (a_ (bz (cW (mG zR "part" 2 (cw (cF (ba 0))) fun _=>(bC i0n hr (a_ (ba 2) (a_ (ba 1) bc)))))) bc))))))⟩
noncomputable abbrev Aq:=nD.m
abbrev y6:List Str:=["thing","head"]
noncomputable def oz:Pk HP 2 "is_table" y6 (top 28) fun c k o=>Bi c.mg->nD.H c k->je.H c k->o :=
 ⟨_,fun E m i3p i1d=>
  kP E fun nd hr=>
  (bh (dN (mx (jd (d6 (cU (fK .tup m.isinstance m.tuple (ba 0)))) (gi (zj (cX m.len (a_ (ba 0) bc)) (qG m.g_MOST_ROWS))))) (bp (bF fV)) cm)
  (bp (bF (gN (iR m.all (a_ (bz (cW (mG y6 "row" 2 (cw (cF (ba 0))) fun _=>(gN (bC i3p hr (a_ (ba 2) (a_ (qG m.g_FIGURES) bc))) (g_ (IL (cX m.len (a_ (ba 2) bc)) (cX m.len (a_ (ba 1) bc)))))))) bc)) (g_ (bC i1d hr (a_ (ba 0) bc)))))))⟩
noncomputable abbrev Ai:=oz.m
abbrev iK:List Str:=["layout","thing","heads"]
noncomputable def qJ:Pk HP 2 "are_tables" iK (top 29) fun c k o=>Bi c.mg->oz.H c k->o :=
 ⟨_,fun E m i3q=>
  kP E fun nd hr=>
  (bh (bP 2 nd (bx (ba 0) bf))
  (bh (dN (mx (jd (d6 (cU (fK .tup m.isinstance m.tuple (ba 1)))) (gi (tI (cX m.len (a_ (ba 1) bc)) (cX m.len (a_ (ba 2) bc)))))) (bp (bF fV)) cm)
  (bp (bF (iR m.all (a_ (bz (cW (NR (n:=2) iK ["table","head"] 3 (cw (zg m.zip (a_ (ba 1) (a_ (ba 2) bc)))) (fun nd _=>(uq (n:=2) (fT (cg 3 nd) (fT (cg 4 nd) pe)))) (fun _=>ik) fun _=>(bC i3q hr (a_ (ba 3) (a_ (ba 4) bc)))))) bc))))))⟩
noncomputable abbrev kg:=qJ.m
abbrev KI:List Str:=["layout","thing"]
noncomputable def wD:Pk HP 2 "need_tables" KI (top 30) fun c k o=>qJ.H c k->o :=
 ⟨_,fun E i1e=>
  kP E fun nd hr=>
  (bp (dN (d6 (cU (bC i1e hr (a_ (ba 0) (a_ (ba 1) bc))))) (bp sd) cm))⟩
noncomputable abbrev La:=wD.m
abbrev L5:List Str:=["layout","thing"]
noncomputable def xU:Pk HP 2 "need_head" L5 (top 23) fun c k o=>Bi c.mg->kb.H c k->o :=
 ⟨_,fun E m i0n=>
  kP E fun nd hr=>
  (bp (dN (d6 (cU (bC i0n hr (a_ (ba 1) (a_ (cX m.len (a_ (bx (ba 0) bf) bc)) bc))))) (bp sd) cm))⟩
noncomputable abbrev L4:=xU.m
abbrev yr:List Str:=["layout","one","other","heads"]
noncomputable def vg:Pk HP 3 "common" yr (top 24) fun c k o=>Bi c.mg->xU.H c k->o :=
 ⟨_,fun E m G_q5=>
  kP E fun nd hr=>
  (bh (pq (bC G_q5 hr (a_ (ba 0) (a_ (ba 1) bc))))
  (bh (pq (bC G_q5 hr (a_ (ba 0) (a_ (ba 2) bc))))
  (bh (bP 3 nd (bx (ba 0) bf))
  (bp (bF (cn m.tuple (a_ (bz (cW (B5 yr "column" 4 (cw (cF (bx (ba 3) (ba 1)))) (fun _=>(y0 (ba 4) (bx (ba 3) (ba 2)))) fun _=>(ba 4)))) bc)))))))⟩
noncomputable abbrev Kk:=vg.m
abbrev zr:List Str:=["columns","wanted"]
noncomputable def oJ:Pk HF 2 "places_in" zr (top 20) fun c k o=>o :=
 ⟨_,fun E  =>
  kF E fun nd hr=>
  (bp (qu (cW (mG zr "column" 2 (cw (cF (ba 1))) fun _=>(sD (ba 0) (a_ (ba 2) bc))))))⟩
noncomputable abbrev Gq:=oJ.m
abbrev yW:List Str:=["row","places"]
noncomputable def og:Pk HP 2 "at_places" yW (top 21) fun c k o=>Bi c.mg->o :=
 ⟨_,fun E m=>
  kP E fun nd hr=>
  (bp (bF (cn m.tuple (a_ (bz (cW (mG yW "place" 2 (cw (cF (ba 1))) fun _=>(bx (ba 0) (ba 2))))) bc))))⟩
noncomputable abbrev GH:=og.m
abbrev wx:List Str:=["head","table","columns","places"]
noncomputable def lH:Pk HP 3 "part_of" wx (top 31) fun c k o=>Bi c.mg->og.H c k->oJ.H c k->o :=
 ⟨_,fun E m i3r i3s=>
  kP E fun nd hr=>
  (bh (bP 3 nd (bz (qO i3s hr (a_ (ba 0) (a_ (ba 2) bc)))))
  (bp (bF (cn m.tuple (a_ (bz (Jt.Tu.df_sortedComp hr m.sorted (N':=wx) (own:=["row"]) (lo:=4) (cw (cF (ba 1))) (fun _ _ _ _=>(cg 4 (show (wx ++ (["row"]:List Str):List Str).Nodup by decide +kernel))) (fun _ _ _ _=>ik) (fun _ _ _ _=>(bC i3r hr (a_ (ba 4) (a_ (ba 3) bc)))))) bc)))))⟩
noncomputable abbrev Gg:=lH.m
abbrev G6:List Str:=["layout","tables","one","other","heads","shared"]
noncomputable def oZ:Pk HP 4 "two_agree" G6 (top 33) fun c k o=>vg.H c k->lH.H c k->o :=
 ⟨_,fun E i3t i0t=>
  kP E fun nd hr=>
  (bh (bP 4 nd (bx (ba 0) bf))
  (bh (bP 5 nd (bC i3t hr (a_ (ba 0) (a_ (ba 2) (a_ (ba 3) bc)))))
  (bp (bF (L0 hr (bC i0t hr (a_ (bx (ba 4) (ba 2)) (a_ (bx (ba 1) (ba 2)) (a_ (ba 5) bc)))) (bC i0t hr (a_ (bx (ba 4) (ba 3)) (a_ (bx (ba 1) (ba 3)) (a_ (ba 5) bc)))))))))⟩
noncomputable abbrev GZ:=oZ.m
abbrev rJ:List Str:=["layout","tables"]
noncomputable def kO:Pk HP 2 "all_agree" rJ (top 34) fun c k o=>Bi c.mg->oZ.H c k->o :=
 ⟨_,fun E m i3u=>
  kP E fun nd hr=>
  (bp (bF (iR m.all (a_ (bz (z3 (N':=rJ) (own:=["other","one"]) (lo:=2) (cw (bO rfl m.range (a_ (cX m.len (a_ (ba 1) bc)) bc))) (fun _ _ _ _=>(cg 2 (show (rJ ++ (["other","one"]:List Str):List Str).Nodup by decide +kernel))) (fun _ _ _ _=>ik) (fun _ _ _ _=>(bO rfl m.range (a_ (ba 2) bc))) (fun _ _ _ _=>(cg 3 (show (rJ ++ (["other","one"]:List Str):List Str).Nodup by decide +kernel))) (fun _ _ _ _=>ik) (fun _ _ _ _=>(bC i3u hr (a_ (ba 0) (a_ (ba 1) (a_ (ba 3) (a_ (ba 2) bc)))))))) bc))))⟩
noncomputable abbrev FQ:=kO.m
abbrev vh:List Str:=["layout","tables"]
noncomputable def vy:Pk HP 2 "agree" vh (top 35) fun c k o=>kO.H c k->wD.H c k->o :=
 ⟨_,fun E i1f G_q1=>
  kP E fun nd hr=>
  (bh (pq (bC G_q1 hr (a_ (ba 0) (a_ (ba 1) bc))))
  (bp (bF (bC i1f hr (a_ (ba 0) (a_ (ba 1) bc))))))⟩
noncomputable abbrev Aj:=vy.m
abbrev GQ:List Str:=["_law_box_here","_law_some"]
noncomputable def ou:Pk HB 1 "_law_odd" GQ (top 47) fun c k o=>Bi c.mg->fI.H c k->o :=
 ⟨(eC (uU 1 (do let xs <- (qf (bw (pure .non) (bw (pure (.bl true)) (bw (pure (.bl false)) (bw (m1 Jh (pure (.int 1))) (bw (pure (.int 0)) (bw (pure (.int 1)) (bw (pure (.int 7)) (bw (pure (.int 10)) (bw (pure (.str "")) (bw (pure (.str "0")) (bw (pure (.str "none")) (bw (eS (pure [])) (bw (eS (bw (pure (.int 0)) (pure []))) (bw (eS (bw (pure (.int 0)) (bw (pure (.int 1)) (pure [])))) (bw (eS (bw (pure (.int 1)) (bw (pure (.int 0)) (pure [])))) (bw (eS (bw (pure (.int 0)) (bw (pure (.int 0)) (pure [])))) (bw (eS (bw (pure (.int 0)) (bw (pure (.bl true)) (pure [])))) (bw (do let xs <- (qf (bw (pure (.int 0)) (pure [])));pure (D.lst xs)) (bw (pure .dct) (pure [])))))))))))))))))))));pure (D.lst xs)))
  (eC (uU 1 (do let xs <- (DR Eb (do let x <- (di 1);pure (Hn.th x)) (do let x <- (do let xs <- (qf (bw (eS (bw (eS (bw (pure (.int 0)) (pure []))) (pure []))) (bw (eS (bw (eS (bw (pure (.int 0)) (bw (pure (.int 1)) (pure [])))) (pure []))) (bw (do let xs <- (qf (bw (eS (bw (pure (.int 0)) (bw (pure (.int 1)) (pure [])))) (pure [])));pure (D.lst xs)) (bw (m2 zY (pure (.int 10)) (pure (.int 39))) (bw (eS (bw (pure (.int 0)) (bw (pure (.int 10)) (pure [])))) (bw (eS (bw (pure (.int 0)) (bw (m1 Jh (pure (.int 1))) (pure [])))) (bw (eS (bw (eS (pure [])) (bw (eS (pure [])) (pure [])))) (bw (eS (bw (eS (bw (pure (.int 0)) (bw (pure (.int 1)) (pure [])))) (bw (eS (bw (pure (.int 0)) (bw (pure (.int 1)) (pure [])))) (pure [])))) (bw (eS (bw (eS (bw (pure (.int 0)) (bw (pure (.int 1)) (pure [])))) (bw (pure .non) (pure [])))) (pure [])))))))))));pure (D.lst xs));pure (Hn.th x)));pure (D.lst xs)))
  (do let d <- (m2 i3 (di 1) (do let _ <- dH 0;mJ 0 2 (fz nR kH) (bw (mC i7 (bw (di 1) (pure []))) (pure []))));pure (Fl.rt d)))),fun E m i03=>
  kB E fun nd hr=>
  (by
  refine bh ?_ ?_;(focus exact (by show ku _ (Stmt.Assign [Expr.Name _ _] (Expr.List _ _) _) (uU 1 _);refine vC 1 _ _ _ _ _ ?_ ?_ ?_ ?_ ?_ ?_;(focus exact nd);(focus exact rfl);(focus first | exact Or.inl rfl | exact Or.inr rfl);(focus first | exact .inl rfl | exact .inr rfl);(focus exact DD);show DE _ (Expr.List _ _) _;refine bz ?_;refine cG ?_;exact (by refine nj ?_ ?_;(focus exact qd);refine nj ?_ ?_;(focus exact fV);refine nj ?_ ?_;(focus exact fV);refine M4 ?_ ?_;(focus exact (Bt bf));refine nj ?_ ?_;(focus exact bf);refine nj ?_ ?_;(focus exact bf);refine nj ?_ ?_;(focus exact bf);refine nj ?_ ?_;(focus exact bf);refine nj ?_ ?_;(focus exact eR);refine nj ?_ ?_;(focus exact eR);refine nj ?_ ?_;(focus exact eR);refine iY ?_ ?_;(focus exact (bJ bc));refine iY ?_ ?_;(focus exact (bJ (a_ bf bc)));refine iY ?_ ?_;(focus exact (bJ (a_ bf (a_ bf bc))));refine iY ?_ ?_;(focus exact (bJ (a_ bf (a_ bf bc))));refine iY ?_ ?_;(focus exact (bJ (a_ bf (a_ bf bc))));refine iY ?_ ?_;(focus exact (bJ (a_ bf (a_ fV bc))));refine Ki ?_ ?_;(focus exact (bz (cG (a_ bf bc))));refine Ny ?_ ?_;(focus exact Az);exact bc)));exact (by
  refine bh ?_ ?_;(focus exact (by refine vC 1 _ _ _ _ _ ?_ ?_ ?_ ?_ ?_ ?_;(focus exact nd);(focus exact rfl);(focus first | exact Or.inl rfl | exact Or.inr rfl);(focus first | exact .inl rfl | exact .inr rfl);(focus exact rfl);refine bz ?_;refine tS ?_ ?_;(focus exact (mq (ba 1)));refine mq ?_;refine bz ?_;refine cG ?_;refine iY ?_ ?_;(focus exact (bJ (a_ (bJ (a_ bf bc)) bc)));refine iY ?_ ?_;(focus exact (bJ (a_ (bJ (a_ bf (a_ bf bc))) bc)));refine Ki ?_ ?_;(focus exact (bz (cG (a_ (bJ (a_ bf (a_ bf bc))) bc))));refine a_ ?_ ?_;(focus exact (HZ bf bf));refine iY ?_ ?_;(focus exact (bJ (a_ bf (a_ bf bc))));refine iY ?_ ?_;(focus exact (bJ (a_ bf (a_ (Bt bf) bc))));refine iY ?_ ?_;(focus exact (bJ (a_ (bJ bc) (a_ (bJ bc) bc))));refine iY ?_ ?_;(focus exact (bJ (a_ (bJ (a_ bf (a_ bf bc))) (a_ (bJ (a_ bf (a_ bf bc))) bc))));refine iY ?_ ?_;(focus exact (bJ (a_ (bJ (a_ bf (a_ bf bc))) (a_ qd bc))));exact bc));exact (bp (bF (bx (ba 1) (bu 0 i03 hr (a_ (cX m.len (a_ (ba 1) bc)) bc)))))))⟩
noncomputable abbrev yO:=ou.m
abbrev oI:List Str:=["_law_head_here","_law_table","_law_columns"]
noncomputable def lB:Pk HP 3 "_law_has" oI (top 51) fun c k o=>Bi c.mg->o :=
 ⟨_,fun E m=>
  kP E fun nd hr=>
  (bp (bF (cn m.tuple (a_ (bz (Jt.Tu.df_sortedSetA hr m.sorted m.set (bz (cW (mG oI "_law_row" 3 (cw (cF (ba 1))) fun _=>(cn m.tuple (a_ (bz (cW (mG (oI ++ (["_law_row"]:List Str)) "_law_column" 4 (cw (cF (ba 2))) fun _=>(bx (ba 3) (sD (ba 0) (a_ (ba 4) bc)))))) bc))))))) bc))))⟩
noncomputable abbrev wj:=lB.m
abbrev yM:List Str:=["_law_layout_here","_law_tables_here","_law_one","_law_other","_law_some"]
noncomputable def nY:Pk HP 2 "_law_agree" yM (top 54) fun c k o=>Bi c.mg->lB.H c k->o :=
 ⟨_,fun E m i0u=>
  kP E fun nd hr=>
  (bh (fw (bO rfl m.range (a_ (cX m.len (a_ (ba 1) bc)) bc)) (cg 2 nd) (bp (fw (bO rfl m.range (a_ (ba 2) bc)) (cg 3 nd) (bh (l0 4 nd (B5 yM "_law_column" 5 (cw (cF (bx (bx (ba 0) bf) (ba 2)))) (fun _=>(y0 (ba 5) (bx (bx (ba 0) bf) (ba 3)))) fun _=>(ba 5)))
  (bp (dN (mr hr (bC i0u hr (a_ (bx (bx (ba 0) bf) (ba 2)) (a_ (bx (ba 1) (ba 2)) (a_ (ba 4) bc)))) (bC i0u hr (a_ (bx (bx (ba 0) bf) (ba 3)) (a_ (bx (ba 1) (ba 3)) (a_ (ba 4) bc))))) (bp (bF fV)) cm))))))
  (bp (bF fV)))⟩
noncomputable abbrev zJ:=nY.m
abbrev Km:List Str:=["layout","thing"]
noncomputable def zK (i00:Addr):Pk HX 2 "need_tables" Km (top 30) fun c k o=>Ex c "NoTables" i00->qJ.H c k->o :=
 ⟨_,fun E i05 i1e=>
  kX E fun nd hr=>
  (d5 (uw (d6 (cU (bC i1e hr (a_ (ba 0) (a_ (ba 1) bc))))) (d5 (jN YV i05.1 i05.2 (a_ eR bc))) i_))⟩
noncomputable abbrev HG (i00:Addr):=(zK i00).m
abbrev FT:List Str:=["layout","thing"]
noncomputable def vR (i02:Addr):Pk HX 2 "need_head" FT (top 23) fun c k o=>Bi c.mg->Ex c "NoHead" i02->kb.H c k->o :=
 ⟨_,fun E m i0g i0n=>
  kX E fun nd hr=>
  (d5 (uw (d6 (cU (bC i0n hr (a_ (ba 1) (a_ (cX m.len (a_ (bx (ba 0) bf) bc)) bc))))) (d5 (jN YV i0g.1 i0g.2 (a_ eR bc))) i_))⟩
noncomputable abbrev Bw (i02:Addr):=(vR i02).m
abbrev Iw:List Str:=["thing","numbers"]
noncomputable def xN:Pk HP 2 "are_some_of" Iw (top 19) fun c k o=>Bi c.mg->je.H c k->kG.H c k->o :=
 ⟨_,fun E m i1d i1c=>
  kP E fun nd hr=>
  (bh (dN (mx (jd (d6 (cU (fK .tup m.isinstance m.tuple (ba 0)))) (gi (d6 (cU (iR m.all (a_ (bz (cW (mG Iw "part" 2 (cw (cF (ba 0))) fun _=>(gN (bC i1c hr (a_ (ba 2) bc)) (g_ (K4 (ba 2) (ba 1))))))) bc))))))) (bp (bF fV)) cm)
  (bp (bF (bC i1d hr (a_ (ba 0) bc)))))⟩
noncomputable abbrev Jj:=xN.m
abbrev uz:List Str:=["layout","tables","head","columns"]
noncomputable def FJ (i01:Addr) (i02:Addr) (i00:Addr):Pk HX 4 "columns_of" uz (top 32) fun c k o=>Ex c "NoColumn" i01->xN.H c k->(vR i02).H c k->(zK i00).H c k->lH.H c k->o :=
 ⟨_,fun E i06 G_q6 i3v G_q7 i0t=>
  kX E fun nd hr=>
  (fZ (jq (f7 G_q7 hr (dj (eP (ba 0)) (dj (eP (ba 1)) jt))))
  (fZ (jq (f7 i3v hr (dj (eP (ba 0)) (dj (eP (ba 2)) jt))))
  (fZ (uw (d6 (cU (bC G_q6 hr (a_ (ba 3) (a_ (bx (bx (ba 0) bf) (ba 2)) bc))))) (d5 (jN YV i06.1 i06.2 (a_ eR bc))) i_)
  (d5 (Ay (bF (bC i0t hr (a_ (bx (bx (ba 0) bf) (ba 2)) (a_ (bx (ba 1) (ba 2)) (a_ (ba 3) bc))))))))))⟩
noncomputable abbrev yc (i01:Addr) (i02:Addr) (i00:Addr):=(FJ i01 i02 i00).m
abbrev qW:List Str:=["_law_layout_here","_law_tables_here","_law_head_here","_law_columns","_law_found","_law_e"]
noncomputable def j7 (i01:Addr) (i02:Addr) (i00:Addr) (kn:Addr->Option Str):Pk HP 4 "_law_told" qW (top 52) fun c k o=>∀i0f i04 i0p,Kd c k i0f i04 i0p kn->(FJ i01 i02 i00).H c k->o :=
 ⟨_,fun E _ _ _ W G_q9=>
  kP E fun nd hr=>
  (bh (bP 4 nd qd)
  (bh (v8 5 4 W.1 nd rfl rfl (d5 (Fw 4 nd (f7 G_q9 hr (dj (eP (ba 0)) (dj (eP (ba 1)) (dj (eP (ba 2)) (dj (eP (ba 3)) jt))))))) hr W.2.1 W.2.2.1 W.2.2.2.1 W.2.2.2.2)
  (bp (bF (ba 4)))))⟩
noncomputable abbrev my (i01:Addr) (i02:Addr) (i00:Addr) (kn:Addr->Option Str):=(j7 i01 i02 i00 kn).m
abbrev uY:List Str:=["_law_found"]
noncomputable def nJ:Pk HP 1 "_law_whole" uY (top 46) fun c k o=>Bi c.mg->o :=
 ⟨_,fun E m=>
  kP E fun nd hr=>
  (bp (bF (gN (fK .int m.isinstance m.int (ba 0)) (g_ (yT (fK .bool m.isinstance m.bool (ba 0)))))))⟩
noncomputable abbrev sx:=nJ.m
abbrev iQ:List Str:=["_law_layout_here","_law_tables_here","_law_head_here","_law_columns"]
noncomputable def iG:Pk HP 4 "_law_due" iQ (top 53) fun c k o=>Bi c.mg->lB.H c k->nJ.H c k->o :=
 ⟨_,fun E m i0u i2j=>
  kP E fun nd hr=>
  (bh (dN (mx (jd (d6 (cU (bC i2j hr (a_ (ba 2) bc)))) (gi (d6 (Dt bf (ba 2) (cX m.len (a_ (bx (ba 0) bf) bc))))))) (bp (bF eR)) cm)
  (bh (dN (mx (jd (d6 (cU (fK .tup m.isinstance m.tuple (ba 3)))) (gi (d6 (cU (iR m.all (a_ (bz (cW (mG iQ "_law_one" 4 (cw (cF (ba 3))) fun _=>(bC i2j hr (a_ (ba 4) bc))))) bc))))))) (bp (bF eR)) cm)
  (bh (dN (mx (jd (mr hr (bz (pF m.list (a_ (ba 3) bc))) (bz (ph m.sorted m.set (sg (ba 3))))) (gi (mr hr (bz (cW (B5 iQ "_law_one" 4 (cw (cF (ba 3))) (fun _=>(sJ (ba 4) (bx (bx (ba 0) bf) (ba 2)))) fun _=>(ba 4)))) (bz (cG bc)))))) (bp (bF eR)) cm)
  (bp (bF (bC i0u hr (a_ (bx (bx (ba 0) bf) (ba 2)) (a_ (bx (ba 1) (ba 2)) (a_ (ba 3) bc)))))))))⟩
noncomputable abbrev g8:=iG.m
abbrev Gd:List Str:=["layout","tables"]
noncomputable def v_ (i00:Addr):Pk HX 2 "agree" Gd (top 35) fun c k o=>kO.H c k->(zK i00).H c k->o :=
 ⟨_,fun E i1f G_q7=>
  kX E fun nd hr=>
  (fZ (jq (f7 G_q7 hr (dj (eP (ba 0)) (dj (eP (ba 1)) jt))))
  (d5 (Ay (bF (bC i1f hr (a_ (ba 0) (a_ (ba 1) bc)))))))⟩
noncomputable abbrev Ka (i00:Addr):=(v_ i00).m
abbrev Je:List Str:=["_law_layout_here","_law_tables_here","_law_word","_law_e"]
noncomputable def ye (i00:Addr) (kn:Addr->Option Str):Pk HP 2 "_law_agreeing" Je (top 55) fun c k o=>∀i0f i04 i0p,Kd c k i0f i04 i0p kn->(v_ i00).H c k->o :=
 ⟨_,fun E _ _ _ W i3w=>
  kP E fun nd hr=>
  (bh (bP 2 nd eR)
  (bh (v8 3 2 W.1 nd rfl rfl (d5 (jq (f7 i3w hr (dj (eP (ba 0)) (dj (eP (ba 1)) jt))))) hr W.2.1 W.2.2.1 W.2.2.2.1 W.2.2.2.2)
  (bp (bF (ba 2)))))⟩
noncomputable abbrev Cu (i00:Addr) (kn:Addr->Option Str):=(ye i00 kn).m
abbrev u7:List Str:=["_law_script","_law_k","_law_box_here","_law_layout_here","_law_tables_here","_law_found","_law_odd_here","_law_number","_law_head_here","_law_some","_law_columns","_law_bad"]
theorem eT:cx u7 ["_law_script"] (bj (top 56)):=⟨rfl,rfl,rfl,by decide +kernel,rfl,by decide +kernel,by decide +kernel⟩
noncomputable def vf (i01:Addr) (i02:Addr) (i00:Addr) (kn:Addr->Option Str):N9 u7 (top 56) fun c k o=>Bi c.mg->nY.H c k->(ye i00 kn).H c k->oH.H c k->iG.H c k->yb.H c k->ou.H c k->xD.H c k->fI.H c k->(j7 i01 i02 i00 kn).H c k->vy.H c k->o :=
 ⟨_,fun hr m i3x G_q0 i3y i3z G_q4 i40 G_q3 i03 i2k i26=>
  (by
  apply bh;(focus exact (fw (bO rfl m.range (a_ (zp m.max (a_ bf (a_ (tK m.min (a_ (cX m.len (a_ (ba 0) bc)) (a_ bf bc))) bc))) bc)) (cg 1 eT.nd) (by
  apply bh;(focus exact (ir 2 eT.nd (qO i3y hr (a_ (ba 0) (a_ (ba 1) bc)))));exact (by
  apply bh;(focus exact (bP 3 eT.nd (bu 2 G_q4 hr (a_ bf (a_ bf bc)))));exact (by
  apply bh;(focus exact (bP 4 eT.nd (bu 2 G_q3 hr (a_ (ba 3) (a_ bf bc)))));exact (by
  apply bh;(focus exact (bP 5 eT.nd (bC i26 hr (a_ (ba 3) (a_ (ba 4) bc)))));exact (by
  apply bh;(focus exact (dN (mx (jd (d6 (cU (fK .bool m.isinstance m.bool (ba 5)))) (gi (mr hr (ba 5) (bC i3x hr (a_ (ba 3) (a_ (ba 4) bc))))))) (bp (bF fV)) cm));exact (by
  apply bh;(focus exact (bP 6 eT.nd (bu 2 i40 hr bc)));exact (bp (fw (cF (bz (cG (a_ (bu 2 i03 hr (a_ (cX m.len (a_ (bx (ba 3) bf) bc)) bc)) (a_ (cX m.len (a_ (bx (ba 3) bf) bc)) (a_ (ba 6) bc)))))) (cg 7 eT.nd) (by
  apply bh;(focus exact (bP 8 eT.nd (bx (bx (ba 3) bf) (bu 2 i03 hr (a_ (cX m.len (a_ (bx (ba 3) bf) bc)) bc)))));exact (by
  apply bh;(focus exact (bP 9 eT.nd (cn m.tuple (a_ (bz (cW (B5 u7 "_law_column" 12 (cw (cF (ba 8))) (fun _=>(fL (bu 2 i03 hr (a_ bf bc)) bf)) fun _=>(ba 12)))) bc))));exact (by
  apply bh;(focus exact (fw (cF (bz (cG (by apply a_;(focus exact (ba 9));apply a_;(focus exact (ba 8));apply iY;(focus exact (bJ bc));apply a_;(focus exact (Hz (ba 9)));apply a_;(focus exact (bz (pF m.list (a_ (ba 9) bc))));apply a_;(focus exact (uG (ba 9) (bJ (a_ (bx (ba 3) bf) bc))));apply iY;(focus exact (bJ (a_ (bu 2 i03 hr (a_ bf bc)) bc)));apply a_;(focus exact (ba 6));exact bc;all_goals rfl)))) (cg 10 eT.nd) (bp (dN (mr hr (bC i2k hr (a_ (ba 3) (a_ (ba 4) (a_ (ba 7) (a_ (ba 10) bc))))) (bC i3z hr (a_ (ba 3) (a_ (ba 4) (a_ (ba 7) (a_ (ba 10) bc)))))) (bp (bF fV)) cm))));exact (bp (fw (cF (bz (cG (a_ (l9 (ba 4) (qe bf) qB) (a_ (bz (pF m.list (a_ (ba 4) bc))) (a_ qd (a_ (uG (ba 4) (bJ (a_ (bJ bc) bc))) bc))))))) (cg 11 eT.nd) (bp (dN (mx (jd (tI (bC i2k hr (a_ (ba 3) (a_ (ba 11) (a_ (ba 7) (a_ (ba 6) bc))))) eR) (gi (tI (bC G_q0 hr (a_ (ba 3) (a_ (ba 11) bc))) eR)))) (bp (bF fV)) cm)))))))))))))))));exact (bp (bF (gN (Jt.Tu.de_isB (bC i26 hr (a_ (bJ (a_ bf (a_ (bJ (a_ (bJ (a_ bf bc)) (a_ (bJ (a_ bf bc)) bc))) bc))) (a_ (bJ (a_ (bJ (a_ (bJ (a_ bf bc)) bc)) (a_ (bJ bc) bc))) bc))) fV) (g_ (Jt.Tu.de_isB (bC i26 hr (a_ (bJ (a_ bf (a_ (bJ (a_ (bJ (a_ bf bc)) (a_ (bJ (a_ bf bc)) bc))) bc))) (a_ (bJ (a_ (bJ bc) (a_ (bJ bc) bc))) bc))) fV))))))⟩
noncomputable abbrev A5 (i01:Addr) (i02:Addr) (i00:Addr) (kn:Addr->Option Str):=(vf i01 i02 i00 kn).m
end
noncomputable def hD(h:List Int):D:= .tup (h.map .int)
noncomputable def dg(m:Int)(hs:List (List Int)):D:= .tup [.int m,.tup (hs.map hD)]
noncomputable def lD(ls:List Nat):List D:=ls.map λ(i:Nat)=> .int (i:Int)
noncomputable def G(hs:List (List Int))(i:Nat):List Int:=hs.getD i []
theorem xi(h:List Int):l6 (h.map .int)=some (h.map V.int):=by induction h with
 |nil=>rfl
 |cons a r o=>simp[l6,flat,o]
theorem Fy(c:Int)(h:List Int):JW (.int c) (h.map V.int)=decide (c∈h):=by induction h with
 |nil=>rfl
 |cons a r o=>
  show(a==c||JW (.int c) (r.map V.int))=_;rw[o];by_cases e:c=a;. subst e;simp
  .simp[e,Ne.symm e]
theorem ot(neg:Bool)(c:Int)(h:List Int):sU neg (.int c) (hD h)=some (.bl (if neg then !decide (c∈h)else decide (c∈h))):=by simp[sU,hD,um,flat,xi,Fy]
theorem rR(bs:List Bool):boolsOf (bs.map .bl)=some bs:=by induction bs with
 |nil=>rfl
 |cons a r o=>simp[boolsOf,o]
theorem df{α:Type}(f:α->Bool)(as:List α):boolsOf (as.map λ a=> .bl (f a))=some (as.map f):=by induction as with
 |nil=>rfl
 |cons a r o=>simp[boolsOf,o]
theorem atI_nat(xs:List α)(i:Nat)(h:i<xs.length):jb xs i=some xs[i]:=by
 have o:i<xs.length:=by omega
 simp[jb,ym,o]
theorem gc{i:Nat}(h:i<hs.length):i3 (.tup (hs.map hD)) (.int i)=some (hD (G hs i)):=by show jb _ _=_;rw[atI_nat _ _ (by simpa using h)];simp[G,h]
theorem mz(m:Int)(hs:List (List Int)):i3 (dg m hs) (.int 1)=some (.tup (hs.map hD)):=rfl
theorem BB(m:Int)(hs:List (List Int)):i3 (dg m hs) (.int 0)=some (.int m):=rfl
theorem Ee(neg:Bool)(a b:Int):jx neg (.int a) (.int b)=some (.bl (if neg then !decide (a=b)else decide (a=b))):=Ir neg a b
theorem CG(neg:Bool)(a b:Nat):jx neg (.int a) (.int b)=some (.bl (if neg then !decide (a=b)else decide (a=b))):=by rw[Ee];simp[Int.natCast_inj]
theorem il(neg:Bool)(xs:List D):jx neg (.lst xs) (.lst [])=some (.bl (if neg then !xs.isEmpty else xs.isEmpty)):=by cases xs <;> simp[jx,jU,dE,dE.go]
theorem uj(n:Nat):b_ 0 n=lD (List.range n):=by simp[b_,lD]
theorem eG(n i:Nat)(h:i<(b_ 0 n).length):(b_ 0 n)[i]= .int i:=by simp[b_]
variable {hs:List (List Int)} {ls:List Nat} {x:D}
theorem tN (h:-(2 ^ 64) < j) (h2:j < 2 ^ 64):ya (.int i) (.int j)=some (.int (i * j)):= by
 show (if ((decide (-(2 ^ 64) < i) && decide (i < 2 ^ 64)) || (decide (-(2 ^ 64) < j) && decide (j < 2 ^ 64)))=true then _ else _)=_
 rw [fD (by rw [fN h,fN h2];simp)]
noncomputable def fP(m:Int)(h:List Int):Prop:=h≠[]/\h.Pairwise (. < .)/\∀c∈h,0<=c/\c<m
theorem qy:∀(l:List Int)(lo o:Int),l.Pairwise (. < .)->(∀y∈l,lo<=y/\y<o)->lo<=o->l.length<=o-lo
 |[],lo,o,_,_,h=>by simp;omega
 |z::t,lo,o,C,I,h=>by rw[QE]at C;have hz:=I z uL;have:=qy t (z+1) o C.2 (λ y J=>⟨by have:=C.1 y J;omega,(I y (uN _ J)).2⟩) (by omega);rw[QT];omega
theorem fP.len(H:fP m h)(o:1<=m)(hm:m<=7):h.length<=7:=by have:=qy h 0 m H.2.1 H.2.2 (by omega);omega
theorem eW(a:Int):∀l:List Int,a∈jM l↔a∈l
 |[]=>by simp[jM]
 |x::r=>by
  unfold jM;split
  .rename_i h;rw[eW a r,wR];constructor;. exact .inr
   .rintro(rfl|h');. exact(eW a r).mp h
    .exact h'
  .rw[wR,wR,eW a r]
theorem dU:∀l:List Int,(jM l).Nodup
 |[]=>by simp[jM]
 |x::r=>by
  unfold jM;split;. exact dU r
  .rename_i h;exact ZF.mpr ⟨h,dU r⟩
theorem g9(h:l.Nodup):(cT l).Pairwise (. < .):=by refine((l5 l).and ((fu l).nodup_iff.mpr h)).imp λ{a b} h=>?_;omega
theorem ix{l:List Int}:a∈cT l↔a∈l:=(fu l).mem_iff
noncomputable def LQ(d:D)(xs:List D):Prop:=∃(m:Int) (hs:List (List Int)) (n:Int),d=dg m hs/\xs=[.int n]/\1<=hs.length/\hs.length<=6/\(1<=m/\m<=7)/\∀h∈hs,fP m h
theorem dk(h:List Int):cz (h.map .int)=some h:=by induction h with
 |nil=>rfl
 |cons a r o=>simp[cz,o]
theorem oX(h:List Int):(cT h).length=h.length:=(fu h).length_eq
theorem FH(neg:Bool)(xs:List D):MF neg (.lst xs) (.lst [])=some (.bl (if neg then !xs.isEmpty else xs.isEmpty)):=il neg xs
theorem Ba(hs:List (List Int))(n:Int)(I:0<hs.length):∃h∈hs,i3 (.lst (hs.map hD)) (.int (n%hs.length))=some (hD h):=by
 have J:=Q3 n (show(hs.length:Int)≠0 by omega);have U:=QV n (show(0:Int)<hs.length by omega);obtain⟨j,C⟩:∃j:Nat,n%hs.length=j:=⟨(n%hs.length).toNat,by omega⟩;have o:j<hs.length:=by omega
 refine⟨hs[j],QN o,?_⟩;rw[C];show jb _ _=_;rw[atI_nat _ _ (by simpa using o)];simp
theorem jB{α β:Type}(f:α->β):∀(l:List α)(j:Nat),(l.map f).eraseIdx j=(l.eraseIdx j).map f
 |[],_=>rfl
 |_::_,0=>rfl
 |a::r,j+1=>by show f a::(r.map f).eraseIdx j=f a::(r.eraseIdx j).map f;rw[jB f r j]
theorem lr(xs:List D):i0 [.lst xs]=some (.tup xs):=rfl
noncomputable def isInt:D->Bool
 | .int _=>true
 |_=>false
noncomputable def cQ(n:Int):D->Bool
 | .int i=>decide (0<=i)&&decide (i<n)
 |_=>false
theorem vb(x:D):bU yV vo [x]=some (.bl (isInt x)):=by apply bT;show Ok vo [.pu x] _;dsimp only[vo,kG,kG];cases x <;> simp[cj,qZ,isInt]
theorem gP (x:D):bU uY sx [x]=some (.bl (isInt x)):= by
 apply bT
 show Ok sx [.pu x] _
 dsimp only[sx,nJ,nJ]
 cases x <;> simp [cj,qZ,isInt]
theorem A8(x:D)(n:Int):bU Gm AR [x,.int n]=some (.bl (cQ n x)):=by apply bT;show Ok AR [.pu x,.pu (.int n)] _;dsimp only[AR,kb,kb];cases x with
 |int i=>
  by_cases h:0<=i;. simp[iJ,vb,isInt,cQ,Gu,yo,cZ,h]
  .simp[iJ,vb,isInt,cQ,Gu,yo,cZ,h]
 |_=>simp[iJ,vb,isInt,cQ]
noncomputable def pE(n:Int):D->Bool
 | .tup xs=>xs.all (cQ n)
 |_=>false
noncomputable def Short(x:D):Prop:=∀xs,x= .tup xs->xs.length<=60
theorem LX(n:Int)(h:Short x):bU zR Aq [x,.int n]=some (.bl (pE n x)):=by apply bT;show Ok Aq [.pu x,.pu (.int n)] _;dsimp only[Aq,nD,nD];cases x with
 |tup xs=>
  have o:=h xs rfl;simp[cj,qZ];refine bQ xs id (λ x=>some (.bl (cQ n x))) rfl ?_ (by omega) (λ x hx=>?_) ?_;. simp[me]
  .simp[iJ,A8]
  .simp[kl,df,List.filterMap_eq_map,pE,Function.comp_def]
 |_=>simp[qZ,pE]
theorem kK(ls:List Nat):(lD ls).length=ls.length:=by simp[lD]
variable {hs:List (List Int)} {ls:List Nat}
variable {hs:List (List Int)} {ls:List Nat}
theorem iX:∀{xs:List D},xs.all isInt=true->∃ns:List Int,xs=ns.map .int
 |[],_=>⟨[],rfl⟩
 |x::xs,h=>by simp only[Z7,Q1]at h;obtain⟨ns,rfl⟩:=iX h.2;cases x with
  |int i=>exact⟨i::ns,rfl⟩
  |_=>cases h.1
theorem qX(n:Nat):∀(a b:List Int),dE.go (n+1) (a.map D.int) (b.map D.int)=some (decide (a.take b.length=b.take a.length)):=by intro a;induction a with
 |nil=>intro b;cases b <;> simp[dE.go]
 |cons x r o=>intro b;cases b with
  |nil=>simp[dE.go]
  |cons y t=>
   by_cases e:x=y;. subst e;simp[dE.go,dE,flat,x9,o]
   .simp[dE.go,dE,flat,x9,e,o]
theorem x3(neg:Bool)(a b:List Int):jx neg (.lst (a.map .int)) (.lst (b.map .int))=some (.bl (if neg then !decide (a=b)else decide (a=b))):=by
 by_cases e:a.length=b.length;. have:=qX 7 a b;rw[WU (WN e)]at this;simp[jx,jU,dE,e,this]
 .have:a≠b:= λ q=>e (q▸rfl);simp[jx,jU,dE,e,this]
theorem Jb(neg:Bool)(k:Nat)(ls:List Nat):sU neg (.int k) (.tup (lD ls))=some (.bl (if neg then !decide (k∈ls)else decide (k∈ls))):=by
 have:lD ls=(ls.map λ(i:Nat)=>(i:Int)).map .int:=by simp[lD]
 have e:=ot neg k (ls.map λ(i:Nat)=>i);unfold hD at e;rw[this,e];have:((k:Int)∈ls.map λ(i:Nat)=>(i:Int))=(k∈ls):=by refine propext ⟨λ h=>?_,λ h=>QJ.mpr ⟨k,h,rfl⟩⟩;obtain⟨i,o,e⟩:=QJ.mp h;rw[<- Int.ofNat_inj.mp e];exact o
 simp[this]
variable {hs:List (List Int)} {ls:List Nat}
theorem EE(xs:List D)(n:Int)(h:0<xs.length):∃d∈xs,i3 (.lst xs) (.int (n%xs.length))=some d:=by
 have I:=Q3 n (show(xs.length:Int)≠0 by omega);have J:=QV n (show(0:Int)<xs.length by omega);obtain⟨j,C⟩:∃j:Nat,n%xs.length=j:=⟨(n%xs.length).toNat,by omega⟩;have o:j<xs.length:=by omega
 refine⟨xs[j],QN o,?_⟩;rw[C];show jb _ _=_;rw[atI_nat _ _ o]
theorem LP(xs ys:List D)(o:xs.length<=100)(C:ys.length<=100):v7 (.tup xs) (.tup ys)=some (.tup (xs++ys)):=by show(if xs.length+ys.length<=100000 then _ else _)=_;rw[fD (by omega)]
theorem ee(h:xs.length<=60):Short (.tup xs):= λ ys e=>by cases e;exact h
end K62
namespace K62
open PySem L2 Jt
open Builtin.Int (intBits)
theorem t6(ns:List Int)(o:∀i∈ns,intBits i<=2^20)(k:Nat)(C:k<100):∃c:Int,bU GW qL [.lst (ns.map .int),.int k]=some (.int c)/\intBits c<=2^20:=by
 by_cases h:k<ns.length
 .refine⟨ns[k],bT ?_,o _ (QN h)⟩;show Ok qL [.pu (.lst (ns.map .int)),.pu (.int k)] _;dsimp only[qL,ke,ke];have e:i3 (.lst (ns.map .int)) (.int (k:Int))=some (.int ns[k]):=by
   show jb _ _=_;rw[atI_nat _ _ (by simpa using h)];simp
  simp[i7,yo,cZ,h,e]
 .refine⟨6151*(k:Int)+29,bT ?_,?_⟩;. show Ok qL [.pu (.lst (ns.map .int)),.pu (.int k)] _;dsimp only[qL,ke,ke];simp[i7,yo,cZ,h,ya,ng]
  .exact ZJ (intBits_le_64 (by omega) (by omega)) (by decide)
theorem q_(h:intBits i+intBits j<=134217728):vF (.int i) (.int j)=some (.int (i*j)):=by show(if decide (intBits i+intBits j<=134217728)=true then _ else _)=_;rw[fN h];rfl
theorem xy(C:intBits c<=2^20)(k:Nat)(hk:k<100):∃n:Int,bU yv vp [.int c,.int k]=some (.int n):=by
 have key:∃d,bU yv vp [.int c,.int k]=some d/\∃n,d= .int n:=by apply DY;show Ok vp [.pu (.int c),.pu (.int k),.un] _;dsimp only[vp,oM,oM];have s1:∀z:Int,-(2^63)<z->z<2^63->intBits z<=64:= λ z h1 h2=>intBits_le_64 (by omega) (by omega);have I:ya (.int (c+1)) (.int 40692)=some (.int ((c+1)*40692)):=tN (by omega) (by omega);have J:ya (.int 104729) (.int (k:Int))=some (.int (104729*(k:Int))):=tN (by omega) (by omega);have b1:=PyProof.Rows.bits_add C (s1 1 (by omega) (by omega));have U:=PyProof.Rows.bits_mul b1 (s1 40692 (by omega) (by omega));have o:=PyProof.Rows.bits_add U (s1 (104729*(k:Int)) (by omega) (by omega));have e3:vF (.int ((c+1)*40692+104729*(k:Int))) (.int ((c+1)*40692+104729*(k:Int)))=some (.int (((c+1)*40692+104729*(k:Int))*((c+1)*40692+104729*k))):=q_ (ZJ (Nat.add_le_add o o) (by decide));have g1:=Q3 (((c+1)*40692+104729*k)*((c+1)*40692+104729*k)) (show 2147483399≠0 by omega);have g2:=QV (((c+1)*40692+104729*k)*((c+1)*40692+104729*k)) (show 0<2147483399 by omega);simp[cc,tU,uQ,kA,e_,WG,KW,Option.some.injEq,Jt.Slot.pu.injEq,exists_eq_left',ng,cZ,if_true,qh,I,J];simp[List.set_cons_succ,List.set_cons_zero,WG,KW,Option.some.injEq,Jt.Slot.pu.injEq,exists_eq_left',uQ,kA,e3,qh,e_,EU,cZ];generalize(((c+1)*40692+104729*k)*((c+1)*40692+104729*k))%2147483399=z at g1 g2|-;have e4:vF (.int (z+k)) (.int (z+k+31))=some (.int ((z+k)*(z+k+31))):=q_ (ZJ (Nat.add_le_add (s1 (z+k) (by omega) (by omega)) (s1 (z+k+31) (by omega) (by omega))) (by decide));simp[e4,ng,cZ]
 obtain⟨d,e,n,rfl⟩:=key;exact⟨n,e⟩
theorem wG(ns:List Int)(J:∀i∈ns,intBits i<=2^20)(k:Nat)(o:k<100):∃n:Int,ki BA uI [.lst (ns.map .int),.int k]=some [.int n]:=by
 obtain⟨c,ec,U⟩:=t6 ns J k o;have:∃d,ki BA uI [.lst (ns.map .int),.int k]=some d/\∃c,d=[.int c]:=by
  apply DV;show Ok uI [.pu (.lst (ns.map .int)),.pu (.int k),.un,.un,.un] _;dsimp only[uI,oH,oH];simp[iJ,ec,EU,KC,cZ,dz];by_cases h:c%2=0;. simp[h]
  .simp[h,mH,iV];refine jW (b_ 0 24) (λ _ C=>∃a x,C=[.pu (.lst (ns.map .int)),.pu (.int k),.pu (.int c),.pu (.int a),x]) ?_ (λ i o C I=>?_) (λ C I=>?_);. exact⟨_,_,rfl⟩
   .obtain⟨a,x,rfl⟩:=I;have aa:i<24:=by simpa[b_]using o
    have e4:∀z:Int,ya (.int z) (.int 2147483647)=some (.int (z*2147483647)):= λ z=>tN (by omega) (by omega);obtain⟨m,em⟩:=xy U i (by omega);rw[eG];simp[e4,iJ,em,ng,cZ]
   .obtain⟨a,x,rfl⟩:=I;simp
 obtain⟨d,e,c,rfl⟩:=this;exact⟨c,e⟩
theorem m_law_take(n j:Int)(h:0<j)(C:j<1073741824):fz nR kH [.int n] [.int j]=some (.int (n%j),[.int (n/j)]):=by
 have:∃d o,fz nR kH [.int n] [.int j]=some (d,o)/\(d= .int (n%j)/\o=[.int (n/j)]):=by apply e9;show Ok kH [.ow true [.int n],.pu (.int j),.un,.un] _;dsimp only[kH,fI,fI];simp[kD,i3,jb,ym,h,C]
 obtain⟨d,o,e,rfl,rfl⟩:=this;exact e
noncomputable def Up(M k:Nat)(cs:List Int):Prop:=cs.Pairwise (. < .)/\∀c∈cs,0<=c/\c<(k:Int)/\c<(M:Int)
theorem Up.snoc{M k:Nat}{cs:List Int}(h:Up M k cs)(J:k<M):Up M (k+1) (cs++[(k:Int)]):=by
 refine⟨List.pairwise_append.mpr ⟨h.1,by simp,λ a o b C=>?_⟩,λ c I=>?_⟩;. rw[wW.mp C];exact(h.2 a o).2.1
 .rcases QD.mp I with q|q
  .have:=h.2 c q;omega
  .rw[wW.mp q];omega
theorem Up.more{M k:Nat}{cs:List Int}(h:Up M k cs):Up M (k+1) cs:=⟨h.1,λ c o=>by have:=h.2 c o;omega⟩
theorem kM(n0:Int){M:Nat}(aa:1<=M)(ab:M<=7):∃d C,fz vz uK [.int n0] [.int M]=some (d,C)/\(∃h,d=hD h/\fP M h)/\∃n:Int,C=[.int n]:=by
 apply e9;show Ok uK [.ow true [.int n0],.pu (.int M),.un] _;dsimp only[uK,mn,mn];have sM:iV M=true:=by simp[iV];omega
 refine vq (λ I=>∃(n:Int) (cs:List Int),I=[.ow true [.int n],.pu (.int M),.pu (.lst (cs.map .int))]/\Up M M cs) ?_ ?_
 .simp only[tU,cb,e_];refine cB (b_ 0 M) (λ k acc I=>∃(n:Int) (cs:List Int),acc=cs.map .int/\I=[.ow true [.int n],.pu (.int M),.un]/\Up M k cs) rfl ?_ (by simp[b_];omega) ⟨n0,[],rfl,rfl,List.Pairwise.nil,by simp⟩ ?_ ?_;. simp[mH,sM]
  .rintro j hj acc _ ha hl ⟨n,cs,rfl,rfl,o⟩;have J:j<M:=by simpa[b_]using hj
   rw[eG];by_cases q:n%3=0;. simp[-Prod.exists,m_law_take,dz,q];exact⟨_,cs++[(j:Int)],by simp,rfl,o.snoc J⟩
   .simp[-Prod.exists,m_law_take,dz,q];exact⟨_,cs,rfl,rfl,o.more⟩
  .rintro xs _ hx hl ⟨n,cs,rfl,rfl,o⟩;have:(b_ 0 M).length=M:=by simp[b_]
   rw[this]at o;exact⟨by simp,trivial,n,cs,rfl,o⟩
 rintro _ ⟨n,cs,rfl,o⟩;have et:=m_law_take n M (by omega) (by omega);by_cases q:cs=[];. subst q;simp[-Prod.exists,il,et,lr];refine⟨[n%(M:Int)],rfl,by simp,by simp,λ c U=>?_⟩;rw[wW.mp U];exact⟨Q3 n (by omega),QV n (by omega)⟩
 .have q':(cs.map D.int).isEmpty=false:=by cases cs with
   |nil=>exact absurd rfl q
   |cons a r=>rfl
  simp only[cc,tX,cb,uQ,kA,uW,e_,gz,WG,KW,Option.some.injEq,Jt.Slot.pu.injEq,exists_eq_left',List.length_nil,QY,true_and,il,q',qh,z_,ZS,Y4,D.bl.injEq,GF,sQ,lr];exact⟨_,_,rfl,rfl,⟨cs,rfl,q,o.1,λ c U=>by have:=o.2 c U;omega⟩,n,rfl⟩
end K62
local macro_rules | `(tactic| rfl')=>`(tactic| repeat (first
 | with_reducible first | apply Jt.oBind | apply Jt.oPure | apply Jt.oM2 | apply Jt.oMC | apply Jt.oCons | apply Jt.oM1 | apply Jt.oMQ | apply Jt.oTup | apply Jt.oLst | apply Jt.oSq | apply Jt.oSqO | apply Jt.oStP | apply Jt.oStO | apply Jt.oIf | apply Jt.oAnd | apply Jt.oOr | apply Jt.oNot | apply Jt.oAsB | apply Jt.oAsI | apply Jt.oBox | apply Jt.oTurn | apply Jt.oIsi | apply Jt.oH2 | apply Jt.oRd | apply Jt.oConH | apply Jt.oSl | apply Jt.oTc | apply Jt.oTn | apply Jt.oSqSP | apply Jt.oChn | apply Jt.ChE.t | apply Jt.ChE.f | apply Jt.oSqN | apply Jt.oSqR
 | ((with_reducible first | apply Jt.oGet | apply Jt.oPeek | apply Jt.oLen | apply Jt.oSet | apply Jt.oTake | apply Jt.oIxO | apply Jt.oRdL | apply Jt.oOwn | apply Jt.oTg | apply Jt.oApp | apply Jt.oSqA | apply Jt.oPop);exact rfl)
 | ((with_reducible first | apply Jt.oCall | apply Jt.oCallF);exact rfl;with_reducible assumption)
 | ((with_reducible apply Jt.oLift);first | with_reducible assumption | exact rfl)
 | ((with_reducible apply Jt.BxE.mk);exact rfl;exact rfl;first | with_reducible assumption | exact K62.m_law_take _ _ (by omega) (by omega))
 | ((with_reducible apply Jt.ApE.mk);exact rfl;first | assumption | (simp only [wF,QC,QT,List.length_nil];omega))
 | ((with_reducible apply Jt.PpE.mk);exact rfl;omega;with_reducible assumption)
 | ((with_reducible apply Jt.IxE.mk);exact rfl;first | with_reducible assumption | exact rfl)
 | ((with_reducible show _=_);exact rfl) | refine And.intro rfl ?_ | refine Jt.oL rfl ?_ | ((with_reducible apply Jt.oT);exact rfl) | ((with_reducible apply Jt.oF);exact rfl) | ((with_reducible apply Jt.oT);first | assumption | exact fN (by assumption)) | ((with_reducible apply Jt.oF);first | assumption | exact gL (by assumption))))
namespace K62
open PySem L2 Jt
open Builtin.Int (intBits)
theorem Nd(hs:List (List Int))(c:Int):((hs.filter λ h=>decide (c∈h)).map hD).isEmpty= !(hs.any λ h=>decide (c∈h)):=by rw[W3,VR,List.isEmpty_iff,WV,Bool.not_eq_true',List.any_eq_false]
theorem yf{a b:List Int}(o:a.Pairwise (. < .))(C:b.Pairwise (. < .))(h:∀x∈a,x∉b):(a++b).Nodup:=
 YN.mpr ⟨o.imp λ{x y} q=>Int.ne_of_lt q,C.imp λ{x y} q=>Int.ne_of_lt q,λ x hx y I e=>h x hx (e▸I)⟩
noncomputable def EZ(M:Nat)(hs:List (List Int)):List Nat:=(List.range M).filter λ c=>hs.any λ h=>decide ((c:Int)∈h)
theorem Ea(neg:Bool)(k:Nat)(ls:List Nat):sU neg (.int k) (.lst (lD ls))=some (.bl (if neg then !decide (k∈ls)else decide (k∈ls))):=Jb neg k ls
inductive GS(M Z k:Nat):DS->Prop
 |mk(n:Int)(hs:List (List Int))(a b c d e f g:Jt.Slot)(hl:hs.length=k+1)(hq:∀h∈hs,fP M h):GS M Z k [.ow true [.int n],.pu (.int M),.pu (.int Z),.ow false (hs.map hD),a,b,c,d,e,f,g]
theorem dQ{M:Nat}(h:M<=1000):mH [.int (M:Int)]=some (bL (b_ 0 M)):=by
 have sM:iV M=true:=by simp[iV];omega
 simp[mH,sM]
theorem rB(n0:Int){M Z:Nat}(ah:1<=M)(ai:M<=7)(aw:1<=Z)(ax:Z<=6):∃d af,fz Ak Jd [.int n0] [.int M,.int Z]=some (d,af)/\(∃hs:List (List Int),d= .lst (hs.map hD)/\hs.length=Z/\∀h∈hs,fP M h)/\∃n:Int,af=[.int n]:=by
 apply e9;show Ok Jd [.ow true [.int n0],.pu (.int M),.pu (.int Z),.un,.un,.un,.un,.un,.un,.un,.un] _;dsimp only[Jd,xo,xo];have rM:=dQ (M:=M) (by omega)
 obtain⟨d,af,eh,⟨h0,rfl,aj⟩,n1,rfl⟩:=kM n0 ah ai;rfl'
 have rZ:mH [.int ((Z:Int) -1)]=some (bL (b_ 0 (Z-1))):=by rw[<- dQ (M:=Z-1) (by omega),show((Z:Int) -1)=((Z-1:Nat):Int)by omega]
 refine C8 (b_ 0 (Z-1)) (GS M Z) (by rfl') (.mk n1 [h0] _ _ _ _ _ _ _ rfl (by simpa using aj)) ?_ ?_
 .rintro k hk _ ⟨n,hs,a4,a5,a6,a7,a8,I,o,hlen,hq⟩;have ay:k<Z-1:=by simpa[b_]using hk
  rw[eG];have ag:0<hs.length:=by omega
  have L:=wF (as:=hs) hD;have et:=m_law_take (n/4) (hs.map hD).length (by omega) (by omega)
  obtain⟨bb,t,h,hh,g1,g2,g3⟩:∃(bb:Bool) (t:D) (h:List Int),h∈hs/\uJ (.int (n%4)) (.int 1)=some (.bl bb)/\i3 (.lst [.int (((hs.map hD).length:Int) -1),.int (n/4%((hs.map hD).length:Int))]) (.int (if bb then 1 else 0))=some t/\i3 (.lst (hs.map hD)) t=some (hD h):=by
   by_cases q:1<n%4
   .obtain⟨h,hh,eh⟩:=Ba hs (n/4) ag;exact⟨true,_,h,hh,by simp[uJ,cZ,q],rfl,by rw[L];exact eh⟩
   .refine⟨false,_,_,QN (show hs.length-1<hs.length by omega),by simp[uJ,cZ,q],rfl,?_⟩;rw[show((hs.map hD).length:Int) -1=((hs.length-1:Nat):Int)by omega];show jb _ _=_;rw[atI_nat _ _ (by omega)];simp
  rfl';have U:=hq h hh;have h7:=U.len (by omega) (by omega);refine cB (h.map .int) (λ j acc C=>∃(n':Int) (cs:List Int),acc=cs.map .int/\C=[.ow true [.int n'],.pu (.int M),.pu (.int Z),.ow false (hs.map hD),.pu (.int k),.pu (.int (n%4)),.pu (hD h),a7,a8,I,o]/\cs.Sublist (h.take j)) rfl (by rfl') (by simp;omega) ⟨_,[],rfl,rfl,by simp⟩ ?_ ?_
  .rintro j hj acc _ ha hl ⟨n,cs,rfl,rfl,J⟩;have aa:j<h.length:=by simpa using hj
   rw[YW];have tk:h.take (j+1)=h.take j++[h[j]]:=List.take_succ_eq_append_getElem aa;by_cases q:0<n%3
   .have e:uJ (.int (n%3)) (.int 0)=some (.bl true):=by simp[uJ,cZ,q]
    rfl';exact⟨_,cs++[h[j]],by simp,rfl,by rw[tk];exact J.append (List.Sublist.refl _)⟩
   .have e:uJ (.int (n%3)) (.int 0)=some (.bl false):=by simp[uJ,cZ,q]
    rfl';exact⟨_,cs,by simp,rfl,by rw[tk];exact J.trans (List.sublist_append_left _ _)⟩
  rintro _ _ - - ⟨n2,cs,rfl,rfl,ab⟩;rw[wF,List.take_length]at ab;rfl'
  refine bQ (List.range M) (λ(i:Nat)=> .int (i:Int)) (λ c=>if(hs.any λ h=>decide ((c:Int)∈h))=true then some (.int (c:Int))else none) rfl (by rfl';simp[b_]) (by simp;omega) (λ c hc=>?_) ?_
  .rfl';refine rF (i:=3) (b:=false) hs hD (λ h=>if decide ((c:Int)∈h)=true then some (hD h)else none) rfl rfl (by rfl';simp) (by omega) (λ h hh=>?_) ?_
   .have e:=ot false c h
    cases q:decide ((c:Int)∈h) <;> rw[q]at e <;> rfl'
   .rw[dr];have e:=il true ((hs.filter λ h=>decide ((c:Int)∈h)).map hD);rw[Nd hs (c:Int)]at e;cases q:(hs.any λ h=>decide ((c:Int)∈h)) <;> rw[q]at e <;> rfl'
  rw[dr,show(((List.range M).filter λ c:Nat=>hs.any λ h=>decide ((c:Int)∈h)).map λ c:Nat=>D.int (c:Int))=lD (EZ M hs)from rfl];rfl'
  refine cB (b_ 0 M) (λ j acc C=>∃(n':Int) (fs:List Int),acc=fs.map .int/\C=[.ow true [.int n'],.pu (.int M),.pu (.int Z),.ow false (hs.map hD),.pu (.int k),.pu (.int (n%4)),.pu (hD h),.pu (.lst (cs.map .int)),.pu (.lst (lD (EZ M hs))),I,o]/\Up M j fs/\∀c∈fs,c∉h) rfl (by rfl') (by simp[b_];omega) ⟨_,[],rfl,rfl,⟨List.Pairwise.nil,by simp⟩,by simp⟩ ?_ ?_
  .rintro j hj acc _ ha hl ⟨n,fs,rfl,rfl,J,hn⟩;have aa:j<M:=by simpa[b_]using hj
   rw[eG];have e1:=Ea true j (EZ M hs);by_cases q:j∈EZ M hs
   .rw[fN q]at e1;rfl';exact⟨_,fs,by simp,rfl,J.more,hn⟩
   .rw[gL q]at e1;have nh:(j:Int)∉h:= λ z=>q (VS.mpr ⟨QL.mpr aa,List.any_eq_true.mpr ⟨h,hh,fN z⟩⟩)
    have e2:=dz false (n%2) 0
    by_cases q2:n%2=0
    .rw[fN q2]at e2;rfl';refine⟨_,fs++[(j:Int)],by simp,rfl,J.snoc aa,λ c hc=>?_⟩
     rcases QD.mp hc with z|z
     .exact hn c z
     .rw[wW.mp z];exact nh
    .rw[gL q2]at e2;rfl';exact⟨_,fs,by simp,rfl,J.more,hn⟩
  rintro _ _ - - ⟨n3,fs,rfl,rfl,ae,ao⟩;have az:=ab.length_le;rw[show(b_ 0 M).length=M by simp[b_]]at ae;have aA:fs.length<=7:=by
   have:=qy fs 0 M ae.1 (λ c hc=>by have:=ae.2 c hc;omega) (by omega)
   omega
  have l2:(cs++fs).length<64:=by rw[QC];omega
  have ec:Eb (.lst (cs.map .int)) (.lst (fs.map .int))=some ((cs++fs).map .int):=by rw[ZN];exact fD (by simp;omega)
  have es:sortI ((cs++fs).map D.int)=some ((cT (cs++fs)).map D.int):=by unfold sortI;rw[dk];exact fD l2
  have aq:(cs++fs).Nodup:=yf (U.2.1.sublist ab) ae.1 λ x hx hy=>ao x hy (ab.subset hx)
  have en:=il false ((cT (cs++fs)).map D.int)
  have fin:∀{n:Int}{g:List Int}{a b c d e f g':Jt.Slot},fP M g->GS M Z (k+1) [.ow true [.int n],.pu (.int M),.pu (.int Z),.ow false (hs.map hD++[hD g]),a,b,c,d,e,f,g']:= λ{n g a b c d e f g'} hg=>by
   have:=GS.mk (Z:=Z) (k:=k+1) n (hs++[g]) a b c d e f g' (by simp[hlen]) (λ h' av=>(QD.mp av).elim (hq h') λ z=>by rw[wW.mp z];exact hg)
   rwa [ZN]at this
  by_cases q:cT (cs++fs)=[]
  .rw[q]at en es;have ar:0<h.length:=V3.mpr U.1
   have e7:=m_law_take n3 h.length (by omega) (by omega);obtain⟨j,hj,ej⟩:∃j,∃hj:j<h.length,n3%(h.length:Int)=(j:Int):=by
    have g1:=Q3 n3 (show(h.length:Int)≠0 by omega)
    have g2:=QV n3 (show(0:Int)<h.length by omega)
    exact⟨(n3%(h.length:Int)).toNat,by omega,by omega⟩
   rw[ej]at e7;have ei:i3 (hD h) (.int (j:Int))=some (.int h[j]):=by show jb _ _=_;rw[atI_nat _ _ (by simpa using hj)];simp
   have el:i7 [hD h]=some (.int h.length):=by simp[hD,i7]
   rfl';refine eL ?_;rfl';exact fin (g:=[h[j]]) ⟨by simp,by simp,λ c hc=>by rw[wW.mp hc];exact U.2.2 _ (QN hj)⟩
  .have:((cT (cs++fs)).map D.int).isEmpty=false:=by rw[W3];exact List.isEmpty_eq_false_iff.mpr q
   rw[this]at en;rfl';refine eL ?_;rfl';exact fin ⟨q,g9 aq,λ c hc=>by rw[ix]at hc;exact(QD.mp hc).elim (λ z=>U.2.2 c (ab.subset z)) λ z=>by have:=ae.2 c z;omega⟩
 rintro _ ⟨n,hs,a4,a5,a6,a7,a8,I,o,hlen,hq⟩;rfl'
 refine⟨_,_,rfl,rfl,?_⟩
 exact⟨⟨hs,rfl,by rw[hlen];simp[b_];omega,hq⟩,n,rfl⟩
theorem Es{M S k:Nat}(I:3<=S)(C:S<=M)(J:k<S):fP M (cT [k,(k+1)%S]):=by
 have a1:=Q3 (k+1) (show(S:Int)≠0 by omega);have a2:=QV (k+1) (show(0:Int)<S by omega);have ne:(k:Int)≠(k+1)%S:=by
  by_cases q:k+1<S;. rw[Int.emod_eq_of_lt (by omega) (by omega)];omega
  .rw[show(k:Int)+1=S by omega,Int.emod_self];omega
 refine⟨?_,g9 (by simpa using ne),?_⟩;. intro e;have:=Q9 List.length e;rw[oX]at this;simp at this
 .intro c o;rw[ix]at o;rcases wR.mp o with rfl|o
  .omega
  .rw[wW.mp o];omega
theorem Dy{M S k:Nat}(U:3<=S)(C:S<=M):fP M (((List.range S).filter λ i=>decide (i≠k)).map λ(i:Nat)=>i):=by
 refine⟨?_,?_,?_⟩
 .intro e;have:(if k=0 then 1 else 0)∈(List.range S).filter λ i=>decide (i≠k):=by split <;> simp <;> omega
  rw[List.map_eq_nil_iff]at e;rw[e]at this;cases this
 .refine List.Pairwise.map _ (λ a b o=>?_) (List.Pairwise.filter _ List.pairwise_lt_range);exact Int.ofNat_lt.mpr o
 .intro c I;obtain⟨i,J,rfl⟩:=QJ.mp I;have:=QL.mp (VS.mp J).1;omega
noncomputable def BQ(M:Nat)(d:D)(o:List D):Prop:=(∃hs:List (List Int),d= .lst (hs.map hD)/\3<=hs.length/\hs.length<=6/\∀h∈hs,fP M h)/\∃n:Int,o=[.int n]
theorem o8(n0:Int){M:Nat}(af:3<=M)(ag:M<=7):∃d o,fz zd Jk [.int n0] [.int M]=some (d,o)/\BQ M d o:=by
 apply e9;show Ok Jk [.ow true [.int n0],.pu (.int M),.un] _;dsimp only[Jk,xn,xn];obtain⟨N,hN,ah⟩:∃N:Nat,tj [.int 6,.int M]=some (.int N)/\N=min 6 M:=⟨min 6 M,by show some (D.int _)=_;refine Q9 (λ z:Int=>some (D.int z)) ?_;split <;> omega,rfl⟩
 have pick:∀(a b n:Int),3<=a->a=b+1->0<N-b->∃S:Nat,fz nR kH [.int n] [.int (N-b)]=some (.int (n%(N-b)),[.int (n/(N-b))])/\ng (.int a) (.int (n%(N-b)))=some (.int S)/\3<=S/\S<=N/\mH [.int S]=some (bL ((List.range S).map λ(k:Nat)=>D.int (k:Int))):= λ a b n ha e hp=>by
  have h1:=Q3 n (show(N:Int)-b≠0 by omega);have h2:=QV n hp;refine⟨(a+n%(N-b)).toNat,m_law_take n _ hp (by omega),?_,by omega,by omega,?_⟩;. show some (D.int _)=_;rw[V4 (by omega)]
  .rw[dQ (by omega)];simp[b_]
 have fin:∀(f:Nat->List Int){S:Nat}{n:Int},3<=S->S<=N->(∀k<S,fP M (f k))->BQ M (.lst ((List.range S).filterMap λ k=>some (hD (f k)))) [.int n]:= λ f S n h1 h2 h3=>⟨⟨(List.range S).map f,by simp[QF],by simp;omega,by simp;omega,λ h hh=>by obtain⟨k,hk,rfl⟩:=QJ.mp hh;exact h3 k (QL.mp hk)⟩,_,rfl⟩
 have U:∀n:Int,Ok (eC (uU 2 (m2 ng (pure (.int 3)) (do let _<- dH 0;mJ 0 2 (fz nR kH) (bw (m2 Kh (mC tj (bw (pure (.int 6)) (bw (di 1) (pure [])))) (pure (.int 2))) (pure [])))))
  (do let d<- (do let xs<- (dG 3 1 (mC mH (bw (di 2) (pure []))) (cp (jk 3) (pure true) (mC i0 (bw (do let xs<- (dG 4 1 (mC mH (bw (di 2) (pure []))) (cp (jk 4) ((m2 (jx true) (di 4) (di 3)) >>= mE) (di 4)));pure (D.lst xs)) (pure [])))));pure (D.lst xs));pure (Fl.rt d))) [.ow true [.int n],.pu (.int M),.un] (λ fl C=>∃d,fl= .rt d/\∃d' o,fl= .rt d'/\C[0]?=some (.ow true o)/\BQ M d' o):= λ n=>by
  obtain⟨S,t,a,h3,h4,r⟩:=pick 3 2 n (by omega) rfl (by omega);rfl';refine bQ (List.range S) (λ(k:Nat)=> .int (k:Int)) (λ k=>some (hD (((List.range S).filter λ i=>decide (i≠k)).map λ(i:Nat)=>(i:Int)))) rfl (by rfl') (by simp;omega) (λ k _=>?_) ?_
  .rfl';refine bQ (List.range S) (λ(k:Nat)=> .int (k:Int)) (λ i=>if decide (i≠k)=true then some (.int (i:Int))else none) rfl (by rfl') (by simp;omega) (λ i _=>?_) ?_
   .have e:=CG true i k;rw[show decide (i≠k)= !decide (i=k)from decide_not]
    cases q:decide (i=k) <;> rw[q]at e <;> rfl'
   .rw[dr,show(((List.range S).filter λ i:Nat=>decide (i≠k)).map λ i:Nat=>D.int (i:Int))=(((List.range S).filter λ i=>decide (i≠k)).map λ(i:Nat)=>(i:Int)).map .int by simp];rfl'
  .rfl';exact⟨_,rfl,_,_,rfl,rfl,fin _ h3 h4 λ k _=>Dy h3 (by omega)⟩
 have e3:=dz false M 3;by_cases h3:(M:Int)=3
 .rw[fN h3]at e3;refine pW true (by rfl') (λ _=>(U n0).mono λ _ _ h=>by obtain⟨d,rfl,h⟩:=h;exact⟨d,rfl,h⟩) (λ h=>by cases h)
 rw[gL h3]at e3;have e4:=dz false (n0%2) 0;refine eL ?_;rfl';by_cases q:n0%2=0
 .rw[fN q];refine oT rfl (cc.mpr ((U _).mono λ _ _ h=>?_));obtain⟨d,rfl,h⟩:=h;exact h
 rw[gL q];refine oF rfl (oSqN ?_);obtain⟨S,t,a,h3,h4,r⟩:=pick 4 3 (n0/2) (by omega) rfl (by omega);rfl';refine bQ (List.range S) (λ(k:Nat)=> .int (k:Int)) (λ k=>some (hD (cT [(k:Int),((k:Int)+1)%(S:Int)]))) rfl (by rfl') (by simp;omega) (λ k _=>?_) ?_
 .have e:EU (.int ((k:Int)+1)) (.int S)=some (.int (((k:Int)+1)%(S:Int))):=fD (fN (by omega))
  have e5:sortI [.int (k:Int),.int (((k:Int)+1)%(S:Int))]=some ((cT [(k:Int),((k:Int)+1)%(S:Int)]).map .int):=rfl
  rfl'
 .rfl';exact⟨_,_,rfl,rfl,fin _ h3 h4 λ k hk=>Es h3 (by omega) hk⟩
theorem zT{ls:List Nat}(h:ls.Nodup)(j:Nat):(ls.eraseIdx j).Nodup:=h.sublist (List.eraseIdx_sublist ls j)
theorem jL{ls:List Nat}(h:ls.Nodup){j:Nat}(C:j<ls.length):ls[j]∉ls.eraseIdx j:= λ hm=>by obtain⟨i,I,e⟩:=List.mem_eraseIdx_iff_getElem.mp hm;obtain⟨o,e⟩:=e;have:=(List.getElem_inj h).mp e;exact o this
inductive NS(M:Nat)(a:D)(hs:List (List Int)):Nat->DS->Prop
 |mk(n:Int)(l b:Jt.Slot)(rs I:List (List Int))(r1:rs.length=k)(r2:I.length+k=hs.length)(r3:∀g∈I,fP M g)(r4:∀g∈rs,fP M g):NS M a hs k [.ow true [.int n],.pu (.int M),.pu a,l,b,.ow false (rs.map hD),.ow false (I.map hD)]
inductive NC(M:Nat)(a:D)(k:Nat):List D->DS->Prop
 |mk(n:Int)(ls os:List Nat)(h1:os.length=k)(h2:ls.length+k=M)(h3:os.Nodup)(h4:ls.Nodup)(h5:∀o∈os,o<M/\o∉ls)(h6:∀o∈ls,o<M):NC M a k (lD os) [.ow true [.int n],.pu (.int M),.pu a,.ow false (lD ls),.un,.un,.un]
theorem q0(n0:Int){M:Nat}{hs:List (List Int)}(ah:1<=M)(ai:M<=7)(h1:1<=hs.length)(h6:hs.length<=6)(hq:∀h∈hs,fP M h):∃d ab,fz oo vS [.int n0] [.int M,.lst (hs.map hD)]=some (d,ab)/\(∃I:List (List Int),d= .tup (I.map hD)/\I.length=hs.length/\∀g∈I,fP M g)/\∃n:Int,ab=[.int n]:=by
 apply e9;show Ok vS [.ow true [.int n0],.pu (.int M),.pu (.lst (hs.map hD)),.un,.un,.un,.un] _;dsimp only[vS,nU,nU];have rM:=dQ (M:=M) (by omega);have dM:Ej [.int M]=some (lD (List.range M)):=by simp[Ej,show(M:Int)<100000 by omega,uj]
 rfl';refine cB (b_ 0 M) (NC M (.lst (hs.map hD))) rfl (by rfl') (by simp[b_];omega) (.mk n0 (List.range M) [] rfl (by simp) (by simp) List.nodup_range (by simp) (by simp)) ?_ ?_
 .rintro k hk _ _ ha hl ⟨n,ls,os,h1,h2,h3,h4,h5,h6⟩;have aj:k<M:=by simpa[b_]using hk
  have et:=m_law_take n (lD ls).length (by rw[kK];omega) (by rw[kK];omega);have g1:=Q3 n (show(ls.length:Int)≠0 by omega);have g2:=QV n (show(0:Int)<ls.length by omega);obtain⟨j,hj⟩:∃j:Nat,n%((lD ls).length:Int)=(j:Int):=⟨(n%(ls.length:Int)).toNat,by rw[kK];omega⟩;rw[hj]at et;rw[kK]at hj;have C:j<ls.length:=by omega
  have ex:(lD ls)[j]?=some (.int (ls[j]:Int)):=by simp[lD,C]
  rw[eG];rfl';have af:=jL h4 C;have U:=QN C
  have:=NC.mk (M:=M) (a:= .lst (hs.map hD)) (k:=k+1) (n/((lD ls).length:Int)) (ls.eraseIdx j) (os++[ls[j]]) (by simp[h1]) (by rw[YR,fD C];omega) (YN.mpr ⟨h3,by simp,λ a ha b hb e=>by rw[wW.mp hb]at e;exact(h5 a ha).2 (e▸U)⟩) (zT h4 j) (λ o ho=>(QD.mp ho).elim (λ z=>⟨(h5 o z).1,λ q=>(h5 o z).2 (Y8 q)⟩) λ z=>by rw[wW.mp z];exact⟨h6 _ U,af⟩) λ o ho=>h6 o (Y8 ho)
  rw[show lD (ls.eraseIdx j)=(lD ls).eraseIdx j from(jB _ ls j).symm]at this
  rw[show lD (os++[ls[j]])=lD os++[.int (ls[j]:Int)]by simp[lD]]at this
  exact this
 rintro _ _ - - ⟨n,ls,os,h1,h2,o2,h4,h5,-⟩;have o1:os.length=M:=by simpa[b_]using h1
 have o3:∀o∈os,o<M:= λ o ho=>(h5 o ho).1
 rfl'
 let mv:List Int->List Int:= λ h=>cT (h.map λ c=>((os.getD c.toNat 0:Nat):Int));have ae:∀h∈hs,fP M (mv h):= λ h hh=>by
  obtain⟨q1,q2,q3⟩:=hq h hh;have inj:(h.map λ c=>((os.getD c.toNat 0:Nat):Int)).Nodup:=by refine List.Pairwise.map _ (λ a b (aa:a∈h/\b∈h/\a<b) e=>?_) (List.Pairwise.imp_of_mem (λ{a b} ha hb (l:a<b)=>(⟨ha,hb,l⟩:a∈h/\b∈h/\a<b)) q2);have ha:=q3 a aa.1;have hb:=q3 b aa.2.1;have e':=Int.ofNat_inj.mp e;rw[QI,QI,kW (by omega),kW (by omega)]at e';have:=(List.getElem_inj o2).mp e';have:=aa.2.2;omega
  refine⟨?_,g9 inj,λ c hc=>?_⟩;. intro e;have:=Q9 List.length e;rw[oX,wF]at this;exact q1 (Z8 this)
  .rw[ix]at hc;obtain⟨x,hx,rfl⟩:=QJ.mp hc;have:=q3 x hx;have C:x.toNat<os.length:=by omega
   rw[QI,kW C];have:=o3 _ (QN C);simp;omega
 refine bQ hs hD (λ h=>some (hD (mv h))) rfl (by rfl') (by omega) (λ h hh=>?_) ?_
 .have h7:=(hq h hh).len (by omega) (by omega);rfl';refine bQ h .int (λ c=>some (.int ((os.getD c.toNat 0:Nat):Int))) rfl (by rfl') (by omega) (λ c hc=>?_) ?_
  .have hb:=(hq h hh).2.2 c hc;have e:i3 (.lst (lD os)) (.int c)=some (.int ((os.getD c.toNat 0:Nat):Int)):=by
    obtain⟨i,rfl⟩:∃i:Nat,c=(i:Int):=⟨c.toNat,by omega⟩;show jb _ _=_;have:i<os.length:=by omega
    rw[atI_nat _ _ (by rw[kK];omega)];simp[lD,this]
   rfl'
  .rw[QF];have es:sortI (h.map λ c=>D.int ((os.getD c.toNat 0:Nat):Int))=some ((mv h).map D.int):=by
    have:(h.map λ c=>D.int ((os.getD c.toNat 0:Nat):Int))=(h.map λ c=>((os.getD c.toNat 0:Nat):Int)).map D.int:=by rw[VU];rfl
    unfold sortI;rw[this,dk];exact fD (by rw[wF];omega)
   rfl'
 rw[QF,show(hs.map λ h=>hD (mv h))=(hs.map mv).map hD by rw[VU];rfl];rfl'
 refine vq (NS M (.lst (hs.map hD)) hs 0) ((vE (NS M (.lst (hs.map hD)) hs) ?_ 7 hs.length _ (by omega) (.mk n _ _ (hs.map mv) [] (by simp) (by simp) (by simp) λ g hg=>by obtain⟨h,hh,rfl⟩:=QJ.mp hg;exact ae h hh)).mono λ fl o h=>h) ?_
 .rintro k _ ⟨n,l,b,rs,I,r1,r2,r3,r4⟩;have e1:=FH true (rs.map hD);rw[W3]at e1;rfl'
  refine⟨λ q=>?_,λ q=>⟨rfl,?_⟩⟩
  .have ag:0<rs.length:=V3.mpr λ z=>by rw[z]at q;cases q
   have et:=m_law_take n (rs.map hD).length (by rw[wF];omega) (by rw[wF];omega);have g1:=Q3 n (show(rs.length:Int)≠0 by omega);have g2:=QV n (show(0:Int)<rs.length by omega);obtain⟨j,hj⟩:∃j:Nat,n%((rs.map hD).length:Int)=(j:Int):=⟨(n%(rs.length:Int)).toNat,by rw[wF];omega⟩;rw[hj]at et;rw[wF]at hj;have C:j<rs.length:=by omega
   have ex:(rs.map hD)[j]?=some (hD rs[j]):=by simp[C]
   refine⟨k-1,by omega,?_⟩;rfl'
   have:=NS.mk (M:=M) (a:= .lst (hs.map hD)) (hs:=hs) (k:=k-1) (n/((rs.map hD).length:Int)) l b (rs.eraseIdx j) (I++[rs[j]]) (by rw[YR,fD C];omega) (by simp;omega) (λ g hg=>(QD.mp hg).elim (r3 g) λ z=>by rw[wW.mp z];exact r4 _ (QN C)) λ g hg=>r4 g (Y8 hg)
   rw[<- jB,ZN]at this
   exact this
  .have:rs=[]:=by cases rs with
    |nil=>rfl
    |cons=>cases q
   subst this;subst r1;exact .mk n l b [] I rfl r2 r3 r4
 rintro _ ⟨n,l,b,rs,I,r1,r2,r3,r4⟩;rfl';exact⟨_,_,rfl,rfl,⟨I,rfl,r2,r3⟩,n,rfl⟩
theorem ur (hl:δ.length=lo) (h:Ok fi δ fun it δ'=>Ok (dG lo own (pure it) turn) δ' Q):Ok (dG lo own fi turn) δ Q:= by
 obtain ⟨it,δ',e,z⟩:=h
 obtain ⟨xs,δ2,e2,q⟩:=z
 refine ⟨xs,δ2,?_,q⟩
 unfold dG at e2 ⊢
 obtain ⟨u,δ3,e3,e4⟩:=bind_some e2
 obtain ⟨it',δ4,e5,e6⟩:=bind_some e4
 obtain ⟨rfl,rfl⟩:=bg e5
 have e7:δ3=δ':= by
  unfold gF at e3
  split at e3
  .cases e3;rfl
  .cases e3
 subst e7
 have:gF lo δ=some ((),δ):=by unfold gF;rw [fD hl]
 simp [M.bind_def,this,e] at e6 ⊢
 exact e6
theorem lG{M:Nat}(U:1<=M)(aa:M<=7)(Z:Nat)(hZ:Z<=100)(n:Int){a1 a2 o C I J:Jt.Slot}{fi:Jt.M jy}{Q:List D->DS->Prop}
  (hi:Ok fi [.ow true [.int n],a1,a2,.pu (.int M),o,C,I,J] λ it ab=>it=bL (b_ 0 Z)/\ab=[.ow true [.int n],a1,a2,.pu (.int M),o,C,I,J])
  (hQ:∀(hs:List (List Int))(n:Int),hs.length=Z->(∀h∈hs,fP M h)->Q (hs.map hD) [.ow true [.int n],a1,a2,.pu (.int M),o,C,I,J]):
  Ok (dG 8 1 fi (cp (jk 8) (pure true) (do let _<- dH 0;mJ 0 2 (fz vz uK) (bw (di 3) (pure []))))) [.ow true [.int n],a1,a2,.pu (.int M),o,C,I,J] Q:=by
 refine cB (b_ 0 Z) (λ k acc δ=>∃(n:Int) (hs:List (List Int)),acc=hs.map hD/\δ=[.ow true [.int n],a1,a2,.pu (.int M),o,C,I,J]/\hs.length=k/\∀h∈hs,fP M h) rfl hi (by simp[b_];omega) ⟨n,[],rfl,rfl,rfl,by simp⟩ ?_ ?_
 .rintro k hk acc _ ha hl ⟨n,hs,rfl,rfl,h1,h2⟩;obtain⟨d,ae,eh,⟨h,rfl,hh⟩,n',rfl⟩:=kM n U aa;rfl';refine⟨n',hs++[h],by simp,rfl,by simp[h1],λ g hg=>?_⟩;rcases QD.mp hg with z|z
  .exact h2 g z
  .rw[wW.mp z];exact hh
 .rintro xs _ hx hl ⟨n,hs,rfl,rfl,h1,h2⟩;exact hQ hs n (by rw[h1];simp[b_]) h2
theorem pB(n0:Int){P Z:Nat}(ae:1<=P)(af:P<=7)(ag:1<=Z)(ah:Z<=6):∃d o,fz zP Cm [.int n0] [.int P,.int Z]=some (d,o)/\LQ d o:=by
 apply e9;show Ok Cm [.ow true [.int n0],.pu (.int P),.pu (.int Z),.un,.un,.un,.un,.un] _;dsimp only[Cm,yb,yb]
 have pick:∀(n:Int){P:Nat},1<=P->∃M:Nat,ng (.int 1) (.int (n%P))=some (.int M)/\1<=M/\M<=P:= λ n P hP=>by
  have h1:=Q3 n (show(P:Int)≠0 by omega);have h2:=QV n (show(0:Int)<P by omega);refine⟨(1+n%(P:Int)).toNat,?_,by omega,by omega⟩;show some (D.int (1+n%(P:Int)))=_;rw[V4 (by omega)]
 obtain⟨M,hM,aa,J⟩:=pick n0 ae;have J:M<=7:=by omega
 obtain⟨N,hN,ab,ai⟩:=pick (n0/P) ag;have t1:=m_law_take n0 P (by omega) (by omega);have t2:=m_law_take (n0/P) Z (by omega) (by omega)
 have fin:∀{hs:List (List Int)}(n:Int),1<=hs.length->hs.length<=6->(∀h∈hs,fP M h)->∃d o,fz oo vS [.int n] [.int M,.lst (hs.map hD)]=some (d,o)/\LQ (.tup [.int M,d]) o:= λ n h1 h6 hq=>by
  obtain⟨d,o,e,⟨gs,rfl,g1,g2⟩,U,rfl⟩:=q0 n aa J h1 h6 hq
  exact⟨_,_,e,M,gs,U,rfl,rfl,by omega,by omega,by omega,g2⟩
 rfl';generalize n0/P/Z%5=way;generalize n0/P/Z/5=n
 refine pW (decide (way=0/\2<M)) ?_ ?_ ?_
 .have e0:=dz false way 0;by_cases q:way=0
  .rw[fN q]at e0;have e1:uJ (.int M) (.int 2)=some (.bl (decide (way=0/\2<M))):=by
    show some (D.bl _)=_;refine Q9 (λ b=>some (D.bl b)) ?_;rw[decide_eq_decide];omega
   rfl'
  .rw[gL q]at e0;rw[gL (λ z=>q z.1)];rfl'
 .intro hw;obtain⟨hw,aj⟩:=ZC hw;obtain⟨d,o,eb,⟨bs,rfl,b3,b6,bq⟩,U,rfl⟩:=o8 n (by omega) J
  rfl';refine ur rfl ?_
  obtain⟨W,hW,ak,ao⟩:∃W:Nat,w9 [.int 0,.int ((Z:Int) -((bs.map hD).length:Int))]=some (.int W)/\bs.length+W<=6/\ng (.int 1) (.int W)=some (.int (1+W:Nat)):=by
   refine⟨Z-bs.length,?_,by omega,?_⟩;. show some (D.int _)=_;refine Q9 (λ z:Int=>some (D.int z)) ?_;rw[wF];split <;> omega
   .show some (D.int _)=_;refine Q9 (λ z:Int=>some (D.int z)) ?_;omega
  obtain⟨V,hV,aq⟩:∃V:Nat,U%((1+W:Nat):Int)=(V:Int)/\V<1+W:=by
   have h1:=Q3 U (show((1+W:Nat):Int)≠0 by omega)
   have h2:=QV U (show(0:Int)<(1+W:Nat) by omega)
   exact⟨(U%((1+W:Nat):Int)).toNat,by omega,by omega⟩
  have et:=m_law_take U (1+W:Nat) (by omega) (by omega);rw[hV]at et;have rV:=dQ (M:=V) (by omega)
  rfl';refine lG aa J V (by omega) _ (by rfl') λ es m h1 h2=>?_
  obtain⟨d,o,e,z⟩:=fin (hs:=bs++es) m (by simp;omega) (by simp;omega) λ h hh=>(QD.mp hh).elim (bq h) (h2 h)
  have hc:Eb (.lst (bs.map hD)) (.lst (es.map hD))=some ((bs++es).map hD):=by rw[ZN];exact fD (by simp;omega)
  have ec:JZ (.lst ((bs++es).map hD)) none (some 6)=some (.lst ((bs++es).map hD)):=by
   refine Q9 (λ z=>some (D.lst z)) ?_;unfold cutD
   rw [HT.sIx_none,show (some (6:Int))=some ((6:Nat):Int) from rfl,HT.sIx_nat,YS,wF,WU]
   rw [wF,QC];simp;omega
  rfl';exact⟨_,rfl,_,_,rfl,rfl,z⟩
 intro _;refine pW (decide (way=1)) ?_ ?_ ?_
 .have e0:=dz false way 1;rfl'
 .intro _;have rN:=dQ (M:=N) (by omega);rfl';refine lG aa J N (by omega) _ (by rfl') λ es m h1 h2=>?_
  obtain⟨d,o,e,z⟩:=fin (hs:=es) m (by omega) (by omega) h2
  rfl';exact⟨_,rfl,_,_,rfl,rfl,z⟩
 intro _;obtain⟨d,o,eg,⟨hs,rfl,g1,g2⟩,U,rfl⟩:=rB n aa J ab (Z:=N) (by omega);obtain⟨d,o,e,z⟩:=fin (hs:=hs) U (by omega) (by omega) g2
 rfl';exact⟨_,_,rfl,rfl,z⟩
end K62
namespace K62
open PySem L2 Jt
noncomputable def za:List D:=[.non,.bl true,.bl false,.int (-1),.int 0,.int 1,.int 7,.int 10,.str "",.str "0",.str "none",.tup [],.tup [.int 0],.tup [.int 0,.int 1],.tup [.int 1,.int 0],.tup [.int 0,.int 0],.tup [.int 0,.bl true],.lst [.int 0],.dct,
 .tup [.tup [.int 0]],.tup [.tup [.int 0,.int 1]],.lst [.tup [.int 0,.int 1]],.int (10 ^ 39),.tup [.int 0,.int 10],.tup [.int 0,.int (-1)],.tup [.tup [],.tup []],.tup [.tup [.int 0,.int 1],.tup [.int 0,.int 1]],.tup [.tup [.int 0,.int 1],.non]]
noncomputable def MC:D->Bool
 | .tup xs=>decide (xs.length ≤ 60)
 | _=>true
theorem t_ {d:D} (h:MC d=true):Short d:=fun xs e=>by subst e;exact ZC h
noncomputable def N2:D->Bool
 | .tup [p,c]=>MC p && MC c
 | _=>true
theorem xK (n0:Int):∃d xs',fz GQ yO [.int n0] []=some (d,xs')∧(Short d∧∀p c,d=.tup [p,c]->Short p∧Short c)∧∃n:Int,xs' = [.int n]:= by
 apply e9
 show Ok yO [.ow true [.int n0],.un] _
 dsimp only[yO,ou,ou]
 have et:=m_law_take n0 28 (by omega) (by omega)
 have ep:zY (.int 10) (.int 39)=some (.int (10 ^ 39)):=by first | rfl | (simp [zY];done) | (unfold zY;rw [fD (by decide)];rfl)
 obtain ⟨d,hd,e⟩:=EE za n0 (by decide)
 refine vq (fun δ=>δ=[.ow true [.int n0],.pu (.lst (za.take 19))]) ⟨_,_,rfl,rfl,rfl⟩ ?_
 rintro _ rfl
 refine vq (fun δ=>δ=[.ow true [.int n0],.pu (.lst za)]) ⟨_,_,rfl,rfl,rfl⟩ ?_
 rintro _ rfl
 have el:i7 [.lst za]=some (.int 28):=rfl
 simp [-Prod.exists,el,et]
 refine fG e ⟨_,rfl,?_,_,rfl⟩
 have al:=fR.mp (show (za.all fun d=>MC d && N2 d)=true from rfl) d hd
 rw [Q1] at al
 refine ⟨t_ al.1,fun p c e=>?_⟩
 subst e
 have a2:=al.2
 simp only [N2,Q1] at a2
 exact ⟨t_ a2.1,t_ a2.2⟩
end K62
namespace K62
open PySem L2 Jt
open Jt.Tu (vD)
noncomputable def yu(W:Nat)(k:List Int):Prop:=k.length=W/\∀x∈k,0<=x/\x<10
noncomputable abbrev tD:=Jt.Tu.tD
noncomputable def dX(rows:List (List Int)):D:= .tup (rows.map tD)
noncomputable def MU(W:Nat)(rows:List (List Int)):Prop:=vD rows/\∀k∈rows,yu W k
inductive RS (W:Nat) (sm:Int) (k:Nat):DS->Prop
 | mk (n:Int) (ks:List (List Int)) (a:Jt.Slot) (nd:ks.Nodup) (hl:ks.length ≤ k) (hk:∀r ∈ ks,yu W r):RS W sm k [.ow true [.int n],.pu (.int W),.pu (.int 8),.od ks,.pu (.int sm),a]
theorem tm(n0:Int){W:Nat}(h1:1<=W)(h7:W<=7):∃d o,fz AV BX [.int n0] [.int W,.int 8]=some (d,o)/\(∃rows,d=dX rows/\MU W rows/\rows.length<=8)/\∃n:Int,o=[.int n]:=by
 apply e9;show Ok BX [.ow true [.int n0],.pu (.int W),.pu (.int 8),.un,.un,.un] _;dsimp only[BX,nQ,nQ];refine Nr rfl ?_;obtain⟨sm,es,s2,ag⟩:∃sm:Int,i3 (.lst [.int 2,.int 3,.int 10]) (.int (n0%3))=some (.int sm)/\2<=sm/\sm<=10:=by
  have g1:=Q3 n0 (show(3:Int)≠0 by omega);have g2:=QV n0 (show(0:Int)<3 by omega);have:n0%3=0\/n0%3=1\/n0%3=2:=by omega
  rcases this with e|e|e <;> rw[e]
  .exact⟨2,rfl,by omega,by omega⟩
  .exact⟨3,rfl,by omega,by omega⟩
  .exact⟨10,rfl,by omega,by omega⟩
 obtain⟨N,hN,ah⟩:∃N:Nat,n0/3%(8+1)=(N:Int)/\N<=8:=⟨(n0/3%(8+1)).toNat,by omega,by omega⟩;have et:=m_law_take (n0/3) (8+1) (by omega) (by omega);rw[hN]at et;have rN:=dQ (M:=N) (by omega);have rW:=dQ (M:=W) (by omega);rfl';refine AI (b_ 0 N) (RS W sm) ?_ ?_ ?_;. rfl';exact .mk _ [] _ (by simp) (by simp) (by simp)
 .rintro k hk _ ⟨n,ks,a,nd,J,U⟩;rw[eG];refine oSet rfl (NK rfl ?_);rfl';refine cB (b_ 0 W) (λ j acc C=>∃(I:Int) (r:List Int),acc=r.map .int/\C=[.ow true [.int I],.pu (.int W),.pu (.int 8),.od ks,.pu (.int sm),.pu (.int k)]/\r.length=j/\∀x∈r,0<=x/\x<10) rfl (by rfl') (by simp[b_];omega) ⟨n,[],rfl,rfl,rfl,by simp⟩ ?_ ?_
  .rintro j hj acc _ ha J ⟨I,r,rfl,rfl,hr,hx⟩;have t:=m_law_take I sm (by omega) (by omega);rfl';have g1:=Q3 I (show sm≠0 by omega);have g2:=QV I (show(0:Int)<sm by omega);refine⟨_,r++[I%sm],by simp,rfl,by simp[hr],λ x aa=>?_⟩;rcases QD.mp aa with z|z
   .exact hx x z
   .rw[wW.mp z];omega
  .rintro _ _- -⟨I,r,rfl,rfl,hr,hx⟩;have ai:k<N:=by simpa[b_]using hk
   have ab:r.length=W:=by rw[hr];simp[b_]
   rfl';refine .mk (dk r) rfl (by omega) ?_;unfold wH;by_cases z:r∈ks;. rw[fD z];exact .mk _ _ _ nd (by omega) U
   .rw[QB z];exact .mk _ _ _ (YN.mpr ⟨nd,by simp,λ a ha b hb e=>z (wW.mp hb▸e▸ha)⟩) (by simp;omega) λ q ae=>(QD.mp ae).elim (U q) λ y=>by rw[wW.mp y];exact⟨ab,hx⟩
 .rintro _ ⟨n,ks,a,nd,J,U⟩;have J:ks.length<=8:=by simp[b_]at J;omega
  obtain⟨s,es,pp,af⟩:=Jt.Tu.sortU_rows nd (λ k hk z=>by have:=(U k hk).1;rw[z]at this;simp at this;omega) (by omega);have es:Jt.Tu.sortU (ks.map λ k=>D.tup (k.map .int))=some (s.map tD):=es;rfl';refine KP rfl (by omega) ?_;rfl';exact⟨_,_,rfl,rfl,⟨s,rfl,⟨af,λ k hk=>U k (pp.mem_iff.mp hk)⟩,by rw[pp.length_eq];exact J⟩,n,rfl⟩
end K62
namespace K62
open PySem L2 Jt
open Jt.Tu (vD fj eJ eK)
noncomputable def Ig(hs:List (List Int))(ts:List (List (List Int))):Prop:=∀(i:Nat) h t,hs[i]?=some h->ts[i]?=some t->MU h.length t/\t.length<=10
theorem Ig.snoc (hj:j < hs.length) (hl:ts.length=j) (h:Ig hs ts) (t:List (List Int)) (ht:MU hs[j].length t∧t.length ≤ 10):Ig hs (ts ++ [t]):=fun i g u h1 h2=>by
 by_cases e:i < ts.length
 .rw [QZ e] at h2;exact h i g u h1 h2
 .have:i=j:= by
   have:=(xZ.mp h2).1
   simp at this;omega
  simp_all
noncomputable def Hq(r:List Int):D:= .lst (r.map .int)
inductive WS (M:Nat) (hs:List (List Int)) (way sm:Int) (k:Nat):DS->Prop
 | mk (n:Int) (ws:List (List Int)) (a:Jt.Slot) (hl:ws.length ≤ k) (hw:∀r ∈ ws,r.length=M∧∀x ∈ r,0 ≤ x∧x < 10):WS M hs way sm k [.ow true [.int n],.pu (dg M hs),.pu (.int 8),.pu (.int way),.pu (.int sm),.ow false (ws.map Hq),a,.un,.un,.un]
inductive XS (M:Nat) (hs ws:List (List Int)) (way sm:Int) (k:Nat):DS->Prop
 | mk (n:Int) (ts:List (List (List Int))) (a b c:Jt.Slot) (hl:ts.length=k) (ht:Ig hs ts):XS M hs ws way sm k [.ow true [.int n],.pu (dg M hs),.pu (.int 8),.pu (.int way),.pu (.int sm),.ow false (ws.map Hq),a,.ow false (ts.map dX),b,c]
theorem sL(x:List Int):∀l,(Jt.Tu.insL x l).length<=l.length+1
 |[]=>by simp[Jt.Tu.insL]
 |y::r=>by
  have:=sL x r;unfold Jt.Tu.insL;split;. simp
  .split <;> simp <;> omega
theorem qR:∀l,(fj l).length<=l.length
 |[]=>by simp[fj]
 |x::r=>by have h:=qR r;have:=sL x (fj r);show(Jt.Tu.insL x (fj r)).length<=_;grind
noncomputable def pick(h r:List Int):List Int:=h.map λ c=>r.getD c.toNat 0
theorem Ep{M:Nat}{h r:List Int}(o:fP M h)(C:r.length=M/\∀x∈r,0<=x/\x<10):yu h.length (pick h r):=by refine⟨by simp[pick],λ x hx=>?_⟩;obtain⟨c,hc,rfl⟩:=QJ.mp hx;have:=o.2.2 c hc;simp_all
theorem sset(I:1<=W)(C:rows.length<=18)(h:∀k∈rows,yu W k):Jt.Tu.sortSetL (rows.map tD)=some ((fj rows).map tD):=by unfold Jt.Tu.sortSetL;rw[Jt.Tu.tupsD_mapT];dsimp only;rw[fD ⟨C,fR.mpr λ k hk=>by have:=(h k hk).1;grind⟩]
theorem pd(n0:Int){M:Nat}{hs:List (List Int)}(h1:1<=hs.length)(h6:hs.length<=6)(hM:1<=M)(ak:M<=7)(hq:∀h∈hs,fP M h):∃d o,fz xB HU [.int n0] [dg M hs,.int 8]=some (d,o)/\(∃ts,d= .tup (ts.map dX)/\ts.length=hs.length/\Ig hs ts)/\∃n:Int,o=[.int n]:=by
 apply e9;show Ok HU [.ow true [.int n0],.pu (dg M hs),.pu (.int 8),.un,.un,.un,.un,.un,.un,.un] _;dsimp only[HU,xD,xD];have e0:=dz false (n0%3) 0;rfl';generalize n0%3=way at*;generalize n0/3=n at*;by_cases q:way=0
 .rw[fN q]at e0;refine eL ?_;rfl';refine cB (hs.map hD) (λ j acc C=>∃(I:Int) (ts:List (List (List Int))),acc=ts.map dX/\C=[.ow true [.int I],.pu (dg M hs),.pu (.int 8),.pu (.int way),.un,.un,.un,.un,.un,.un]/\ts.length=j/\Ig hs ts) rfl (by rfl') (by simp;omega) ⟨n,[],rfl,rfl,rfl,λ i h t _ h2=>by simp at h2⟩ ?_ ?_
  .rintro j hj acc _ ha hl ⟨I,ts,rfl,rfl,ht,U⟩;have ag:j<hs.length:=by simpa using hj
   have hh:=hq _ (QN ag);have ah:=hh.len (by omega) (by omega);have hp:=V3.mpr hh.1;rw[YW];obtain⟨d,o,er,⟨rows,rfl,tk,tl⟩,n2,rfl⟩:=tm I (W:=(hs[j].map D.int).length) (by rw[wF];omega) (by rw[wF];omega);rw[wF]at tk;rfl';exact⟨_,ts++[rows],by simp,rfl,by simp[ht],U.snoc ag ht rows ⟨tk,by omega⟩⟩
  .rintro _ _- -⟨I,ts,rfl,rfl,ht,U⟩;rfl';exact⟨_,_,rfl,rfl,⟨ts,rfl,by rw[ht,wF],U⟩,_,rfl⟩
 rw[gL q]at e0;refine eL ?_;rfl';have d3:0<=n%3/\n%3<3:=by omega
 generalize ai:(2:Int)+n%3=sm at*;generalize n/3=n1 at*;have rM:=dQ (M:=M) (by omega);obtain⟨N,hN,ao⟩:∃N:Nat,ng (.int 1) (.int (n1%8))=some (.int (N:Int))/\N<=8:=⟨(1+n1%8).toNat,by show some (D.int _)=_;rw[V4 (by omega)],by omega⟩;have rN:=dQ (M:=N) (by omega);refine AI (b_ 0 N) (WS M hs way sm) ?_ ?_ ?_;. rfl';subst ai;exact .mk _ [] _ (by simp) (by simp)
 .rintro k hk _ ⟨n,ws,a,hl,hw⟩;have ab:k<N:=by simpa[b_]using hk
  rw[eG];refine oSet rfl ?_;rfl';refine cB (b_ 0 M) (λ j acc C=>∃(I:Int) (r:List Int),acc=r.map .int/\C=[.ow true [.int I],.pu (dg M hs),.pu (.int 8),.pu (.int way),.pu (.int sm),.ow false (ws.map Hq),.pu (.int k),.un,.un,.un]/\r.length=j/\∀x∈r,0<=x/\x<10) rfl (by rfl') (by simp[b_];omega) ⟨n,[],rfl,rfl,rfl,by simp⟩ ?_ ?_
  .rintro j hj acc _ ha hl ⟨I,r,rfl,rfl,J,hx⟩;have t:=m_law_take I sm (by omega) (by omega)
   rfl'
   have g1:=Q3 I (show sm≠0 by omega)
   have g2:=QV I (show(0:Int)<sm by omega)
   refine⟨_,r++[I%sm],by simp,rfl,by simp[J],λ x ae=>?_⟩
   rcases QD.mp ae with z|z
   .exact hx x z
   .rw[wW.mp z];omega
  .rintro _ _- -⟨I,r,rfl,rfl,J,hx⟩
   rfl'
   have J:r.length=M:=by rw[J];simp[b_]
   have:=WS.mk (M:=M) (hs:=hs) (way:=way) (sm:=sm) (k:=k+1) I (ws++[r]) (.pu (.int k)) (by simp;omega) λ q aa=>(QD.mp aa).elim (hw q) λ z=>by rw[wW.mp z];exact⟨J,hx⟩
   rw[ZN]at this
   exact this
 rintro _ ⟨n,ws,a,hl,hw⟩
 have hl:ws.length<=8:=by simp[b_]at hl;omega
 rfl'
 refine C8 (hs.map hD) (XS M hs ws way sm) (by rfl') (.mk n [] _ _ _ rfl λ i h t _ h2=>by simp at h2) ?_ ?_
 .rintro k hk _ ⟨n,ts,a,b,c,ht,U⟩
  have ab:k<hs.length:=by simpa using hk
  have hh:=hq _ (QN ab)
  have ah:=hh.len (by omega) (by omega)
  have hp:=V3.mpr hh.1
  rw[YW]
  have snoc:= λ t aj=>U.snoc ab ht t aj
  generalize hs[k]=h at*
  refine oSet rfl ?_
  rfl'
  refine rF (i:=5) (b:=false) ws Hq (λ r=>some (tD (pick h r))) rfl rfl (by rfl';simp) (by omega) (λ r J=>?_) ?_
  .rfl'
   refine bQ h .int (λ c=>some (.int (r.getD c.toNat 0))) rfl (by rfl') (by omega) (λ c hc=>?_) ?_
   .have hb:=hh.2.2 c hc
    have J:=(hw r J).1
    have e:i3 (Hq r) (.int c)=some (.int (r.getD c.toNat 0)):=by
     obtain⟨i,rfl⟩:∃i:Nat,c=(i:Int):=⟨c.toNat,by omega⟩
     show jb _ _=_
     have:i<r.length:=by omega
     rw[atI_nat _ _ (by simpa using this)]
     simp[this]
    rfl'
   .rw[QF,show(h.map λ c=>D.int (r.getD c.toNat 0))=(pick h r).map .int by simp[pick]]
    rfl'
  rw[QF,show(ws.map λ r=>tD (pick h r))=(ws.map (pick h)).map tD by simp]
  have fin:∀{n:Int}{rows:List (List Int)}{x y z w:Jt.Slot},rows.length<=9->(∀q∈rows,yu h.length q)->XS M hs ws way sm (k+1) [.ow true [.int n],.pu (dg M hs),.pu (.int 8),.pu (.int way),.pu (.int sm),.ow false (ws.map Hq),x,.ow false (ts.map dX++[dX (fj rows)]),y,z]:= λ{n rows x y z w} r1 r2=>by
   have l:=qR rows
   have:=XS.mk (M:=M) (ws:=ws) (way:=way) (sm:=sm) (k:=k+1) n (ts++ [fj rows]) x y z (by simp [ht]) (snoc _ ⟨⟨eJ rows,λ q hq=>r2 q (eK.mp hq)⟩,by omega⟩)
   rw [ZN] at this
   exact this
  have af:∀q ∈ ws.map (pick h),yu h.length q:=λ q aa=>by
   obtain ⟨r,J,rfl⟩:=QJ.mp aa
   exact Ep hh (hw r J)
  have e2:=dz false way 2
  have tl:(ts.map dX).length <= 100000:=by rw [wF];omega
  rfl'
  refine eL ?_
  by_cases q2:way=2
  .rw [fN q2] at e2
   rfl'
   refine cB (h.map .int) (λ j acc C=>∃(I:Int) (r:List Int),acc=r.map .int /\ C=[.ow true [.int I],.pu (dg M hs),.pu (.int 8),.pu (.int way),.pu (.int sm),.ow false (ws.map Hq),a,.ow false (ts.map dX),.pu (hD h),.ow false ((ws.map (pick h)).map tD)] /\ r.length=j /\∀x ∈ r,0 <= x /\ x < 10) rfl (by rfl') (by simp;omega) ⟨n,[],rfl,rfl,rfl,by simp⟩ ?_ ?_
   .rintro j hj acc _ ha hl ⟨I,r,rfl,rfl,J,hx⟩
    have t:=m_law_take I sm (by omega) (by omega)
    rfl'
    have g1:=Q3 I (show sm ≠ 0 by omega)
    have g2:=QV I (show (0:Int) < sm by omega)
    refine ⟨_,r ++ [I % sm],by simp,rfl,by simp [J],λ x ae=>?_⟩
    rcases QD.mp ae with z | z
    .exact hx x z
    .rw [wW.mp z];omega
   .rintro _ _ - - ⟨I,r,rfl,rfl,J,hx⟩
    have J:yu h.length r:=⟨by rw [J,wF],hx⟩
    have ra:∀q ∈ ws.map (pick h) ++ [r],yu h.length q:=λ q aa=>(QD.mp aa).elim (af q) λ z=>by rw [wW.mp z];exact J
    have es:=sset hp (by simp;omega) ra
    rw [ZN] at es
    have es:Jt.Tu.sortSetL ((ws.map (pick h)).map tD ++ [D.tup (r.map .int)])=_:=es
    rfl'
    exact fin (w:=.un) (by simp;omega) ra
  .rw [gL q2] at e2
   have es:=sset hp (by simp;omega) af
   rfl'
   exact fin (w:=.un) (by simp;omega) af
 rintro _ ⟨n,ts,a,b,c,ht,U⟩
 rfl'
 exact ⟨_,_,rfl,rfl,⟨ts,rfl,by rw [ht,wF],U⟩,n,rfl⟩
end K62
namespace K62
open PySem L2 Jt
open Jt.Tu (vD fj eJ eK cq lex_trans ig rq)
inductive MJ (I:Jt.M D) (Q:D->DS->Prop):D->DS->Prop
 | t (h:Ok I o Q):MJ I Q (.bl true) o
 | f (q:Q (.bl false) o):MJ I Q (.bl false) o
theorem Mx (h:Ok C δ (MJ I Q)):Ok (E_ C I) δ Q:=Ez.mpr (h.mono fun _ _ h=>by cases h <;> assumption)
noncomputable def G4:List (List Int)->Bool
 |a::b::r=>cq a b&&G4 (b::r)
 |_=>true
theorem vB:∀{l:List (List Int)},G4 l=true↔vD l
 |[]=>⟨λ _=> .nil,λ _=>rfl⟩
 |[a]=>⟨λ _=>ZL _ _,λ _=>rfl⟩
 |a::b::r=>by
  unfold G4;rw[Q1,vB];constructor
  .rintro⟨o,C⟩;refine QE.mpr ⟨λ z hz=>?_,C⟩;rcases wR.mp hz with rfl|hz
   .exact o
   .exact lex_trans o ((QE.mp C).1 z hz)
  .intro h;have h':=QE.mp h;exact⟨h'.1 b uL,h'.2⟩
theorem jV(xs:List D)(k:Nat):cutD xs (some k) none=xs.drop k:=by
 unfold cutD;have I:HT.sIx xs.length xs.length none=xs.length:=rfl;have C:HT.sIx xs.length 0 (some k)=min k xs.length:=by simp[HT.sIx];omega
 rw[C];by_cases h:k<=xs.length;. rw[Nat.min_eq_left h];exact WU (by rw[List.length_drop];omega)
 .rw[Nat.min_eq_right (by omega),WR (xS _),WR (by omega),List.take_nil]
theorem yD:∀X Y:List (List Int),gJ (X.map tD) (Y.map tD)=(X.zip Y).map λ p=> .tup [tD p.1,tD p.2]
 |[],Y=>by rfl
 |x::X,[]=>by rfl
 |x::X,y::Y=>by show D.tup [tD x,tD y]::gJ (X.map tD) (Y.map tD)=_;rw[yD X Y];rfl
theorem uF:∀X:List (List Int),((X.zip (X.drop 1)).map λ p=>cq p.1 p.2).all id=G4 X
 |[]=>rfl
 |[a]=>rfl
 |a::b::r=>by have o:=uF (b::r);rw[Y2,YS,WD,QM,Z7];rw[Y2,YS]at o;rw[o];rfl
theorem Lg(h:ks.length<=1000):bU vd vT [dX ks]=some (.bl (G4 ks)):=by
 apply bT;dsimp only[vT,je,je];have sl:JZ (dX ks) (some 1) none=some (dX (ks.drop 1)):=by
  show some (D.tup (cutD (ks.map tD) (some ((1:Nat):Int)) none))=_;rw[jV,<- List.map_drop];rfl
 have o:kR [dX ks,dX (ks.drop 1)]=some (bL ((ks.zip (ks.drop 1)).map λ p=> .tup [tD p.1,tD p.2])):=by rw[<- yD];rfl
 have all:kl [.lst ((ks.zip (ks.drop 1)).map λ p=>D.bl (cq p.1 p.2))]=some (.bl (G4 ks)):=by
  show(boolsOf ((ks.zip (ks.drop 1)).map λ p=>D.bl (cq p.1 p.2))).map _=_;rw[df,<- uF];rfl
 rfl';refine bQ (ks.zip (ks.drop 1)) (λ p=> .tup [tD p.1,tD p.2]) (λ p=>some (.bl (cq p.1 p.2))) rfl (by rfl') (by simp;omega) (λ p _=>?_) ?_
 .have lt:rq (tD p.1) (tD p.2)=some (.bl (cq p.1 p.2)):=by show(match cz (p.1.map .int),cz (p.2.map .int)with|some ns,some ms=>some (D.bl (cq ns ms))|_,_=>none)=_;rw[dk,dk]
  rfl'
 .rw[QF];rfl'
noncomputable def lL(W:Nat):D->Bool
 | .tup xs=>xs.all (cQ 10)&&decide (xs.length=W)
 |_=>false
noncomputable def fO(W:Nat):D->Bool
 | .tup rows=>decide (rows.length<=625)&&rows.all (lL W)&&(match dF rows with|some ks=>G4 ks|none=>false)
 |_=>false
theorem IV(h:lL W r=true):∃k:List Int,r=tD k/\yu W k:=by cases r with
 |tup xs=>
  have h:=Bool.and_eq_true_iff.mp h;have w:xs.all isInt=true:=fR.mpr λ x hx=>by have:=fR.mp h.1 x hx;cases x <;> first|rfl|cases this
  obtain⟨k,rfl⟩:=iX w;refine⟨k,rfl,by simpa using h.2,λ x hx=>?_⟩;have:=fR.mp h.1 (.int x) (List.mem_map_of_mem hx);simpa[cQ]using this
 |_=>cases h
theorem Js(h:yu W k):lL W (tD k)=true:=by show(_&&_)=true;rw[Q1,fR];refine⟨λ x hx=>?_,by simpa using h.1⟩;obtain⟨i,hi,rfl⟩:=QJ.mp hx;have:=h.2 i hi;simp[cQ];omega
theorem wg:∀{rows:List D},rows.all (lL W)=true->∃ks:List (List Int),rows=ks.map tD/\∀k∈ks,yu W k
 |[],_=>⟨[],rfl,by simp⟩
 |r::rs,h=>by rw[Z7,Q1]at h;obtain⟨k,rfl,hk⟩:=IV h.1;obtain⟨ks,rfl,o⟩:=wg h.2;exact⟨k::ks,rfl,by simpa using⟨hk,o⟩⟩
theorem Lh(h:List Int)(J:∀rows,t= .tup rows->rows.length<=1000/\∀r∈rows,Short r):bU y6 Ai [t,hD h]=some (.bl (fO h.length t)):=by
 apply bT;show Ok Ai [.pu t,.pu (hD h)] _;dsimp only[Ai,oz,oz];refine eL ?_;by_cases ht:∃rows,t= .tup rows
 .obtain⟨rows,rfl⟩:=ht;obtain⟨I,hs⟩:=J rows rfl;by_cases o:rows.length<=625
  .have g:uJ (.int (rows.length:Int)) (.int 625)=some (.bl false):=by simp[uJ,cZ];omega
   have all:kl [.lst (rows.map λ r=>D.bl (lL h.length r))]=some (.bl (rows.all (lL h.length))):=by
    show(boolsOf _).map _=_;rw[df];simp
   rfl';refine Mx ?_;rfl';refine bQ rows id (λ r=>some (.bl (lL h.length r))) rfl (by rfl';simp) (by omega) (λ r U=>?_) ?_;. have e:=LX 10 (hs r U);show Ok (cp _ _ _ r) _ _;rfl';refine Mx ?_;cases q:pE 10 r with
    |false=>
     rw[q]at e;rfl';refine .f ⟨?_,rfl⟩;have:lL h.length r=false:=by cases r with
      |tup xs=>show(_&&_)=false;rw[show xs.all (cQ 10)=false from q];rfl
      |_=>rfl
     rw[this]
    |true=>rw[q]at e;cases r with
     |tup xs=>
      have e2:=dz false (xs.length:Int) ((h.map D.int).length:Int);rfl';refine .t ?_;rfl';refine⟨?_,rfl⟩;refine Q9 (λ b=>some (D.bl b)) ?_;show _=(xs.all (cQ 10)&&decide (xs.length=h.length));rw[show xs.all (cQ 10)=true from q,wF];simp[Int.natCast_inj]
     |_=>cases q
   .rw[QF];have tb:fO h.length (.tup rows)=(rows.all (lL h.length)&&(match dF rows with|some ks=>G4 ks|none=>false)):=by show(decide (rows.length<=625)&&_&&_)=_;rw[fN o];rfl
    rw[tb];cases q:rows.all (lL h.length)with
    |false=>rw[q]at all;rfl';refine .f ?_;rfl'
    |true=>rw[q]at all;obtain⟨ks,rfl,hk⟩:=wg q;have e:=Lg (ks:=ks) (by simpa using I);unfold dX at e;rw[Jt.Tu.tupsD_mapT];rfl';refine .t ?_;rfl'
  .have g:uJ (.int (rows.length:Int)) (.int 625)=some (.bl true):=by simp[uJ,cZ];omega
   have tb:fO h.length (.tup rows)=false:=by show(decide (rows.length<=625)&&_&&_)=_;rw[gL o];rfl
   rw[tb];rfl'
 .have C:(!cj .tup t)=true:=by cases t <;> first|rfl|exact absurd ⟨_,rfl⟩ ht
  have tb:fO h.length t=false:=by cases t <;> first|rfl|exact absurd ⟨_,rfl⟩ ht
  rw[tb];rfl'
noncomputable def yH:List (List Int)->List D->Bool
 |h::hs,t::ts=>fO h.length t&&yH hs ts
 |_,_=>true
noncomputable def xF(hs:List (List Int)):D->Bool
 | .tup ts=>decide (ts.length=hs.length)&&yH hs ts
 |_=>false
theorem Ae:∀(ts:List D)(hs:List (List Int)),gJ ts (hs.map hD)=(ts.zip hs).map λ p=> .tup [p.1,hD p.2]
 |[],hs=>by rfl
 |t::ts,[]=>by rfl
 |t::ts,h::hs=>by show D.tup [t,hD h]::gJ ts (hs.map hD)=_;rw[Ae ts hs];rfl
theorem rb:∀(ts:List D)(hs:List (List Int)),((ts.zip hs).map λ p=>fO p.2.length p.1).all id=yH hs ts
 |[],hs=>by cases hs <;> rfl
 |t::ts,[]=>rfl
 |t::ts,h::hs=>by rw[WD,QM,Z7,rb ts hs];rfl
noncomputable def Hy(t:D):Prop:=∀rows,t= .tup rows->rows.length<=1000/\∀r∈rows,Short r
theorem GR{M:Int}{hs:List (List Int)}(h6:hs.length<=6){t:D}(o:∀ts,t= .tup ts->∀x∈ts,Hy x):bU iK kg [dg M hs,t]=some (.bl (xF hs t)):=by
 apply bT;refine eL ?_;by_cases ht:∃ts,t= .tup ts
 .obtain⟨ts,rfl⟩:=ht;have g:=dz true (ts.length:Int) ((hs.map hD).length:Int);by_cases e:ts.length=hs.length
  .rw[fN (by simp[e])]at g;have z:kR [.tup ts,.tup (hs.map hD)]=some (bL ((ts.zip hs).map λ p=> .tup [p.1,hD p.2])):=by rw[<- Ae];rfl
   have all:kl [.lst ((ts.zip hs).map λ p=>D.bl (fO p.2.length p.1))]=some (.bl (xF hs (.tup ts))):=by
    show(boolsOf _).map _=_;rw[df];show some (D.bl (((ts.zip hs).map λ p=>fO p.2.length p.1).all id))=some (D.bl (decide (ts.length=hs.length)&&yH hs ts));rw[rb,fN e];rfl
   rfl';refine bQ (ts.zip hs) (λ p=> .tup [p.1,hD p.2]) (λ p=>some (.bl (fO p.2.length p.1))) rfl (by rfl') (by simp;omega) (λ p I=>?_) ?_;. have:=Lh p.2 (o ts rfl p.1 (Y9 I).1);rfl'
   simp_all
  .rw[gL (by simpa[Int.natCast_inj]using e)]at g;rw[show xF hs (.tup ts)=false by show(decide _&&_)=false;rw[gL e];rfl];rfl'
 .have C:(!cj .tup t)=true:=by cases t <;> first|rfl|exact absurd ⟨_,rfl⟩ ht
  rw[show xF hs t=false by cases t <;> first|rfl|exact absurd ⟨_,rfl⟩ ht];rfl'
end K62
namespace K62
open PySem L2 Jt
open Jt.Tu (vD fj eJ eK cq lex_trans ig rq gU sf j8 dP)
theorem LG (h:Ok fo δ fun x o=>Ok fs o fun ds C=>Ok (lift (pS x ds)) C Q):Ok (K6 fo fs) δ Q:=cb.mpr (h.mono fun _ _ h=>cb.mpr h)
noncomputable def pk(h cs r:List Int):List Int:=cs.map λ c=>r.getD (h.idxOf c) 0
noncomputable def fJ(h:List Int)(ks:List (List Int))(cs:List Int):List (List Int):=fj (ks.map (pk h cs))
theorem oC(hc:c∈h):pS (hD h) [.int c]=some (.int (h.idxOf c:Nat)):=by show(cz (h.map .int)).bind _=_;rw[dk];simp_all
theorem vj{p:Nat}(o:p<r.length):i3 (tD r) (.int p)=some (.int (r.getD p 0)):=by show jb _ _=_;rw[atI_nat _ _ (by simp_all)];simp[o]
theorem J_{h cs:List Int}(hc:∀c∈cs,c∈h)(C:cs.length<=1000):ki zr Gq [hD h,hD cs]=some (cs.map λ c=> .int (h.idxOf c:Nat)):=by
 apply DN;dsimp only[Gq,oJ,oJ];rfl';refine bQ cs .int (λ c=>some (.int (h.idxOf c:Nat))) rfl (by rfl') (by omega) (λ c o=>?_) ?_;. have e:=oC (hc c o);rfl';refine LG ?_;rfl'
 simp
theorem Kj{h cs r:List Int}(hc:∀c∈cs,c∈h)(C:r.length=h.length)(I:cs.length<=1000):bU yW GH [tD r,.lst (cs.map λ c=> .int (h.idxOf c:Nat))]=some (tD (pk h cs r)):=by
 apply bT;dsimp only[GH,og,og];rfl';refine bQ cs (λ c=> .int (h.idxOf c:Nat)) (λ c=>some (.int (r.getD (h.idxOf c) 0))) rfl (by rfl') (by omega) (λ c o=>?_) ?_;. have e:=vj (r:=r) (p:=h.idxOf c) (by rw[C];exact Y5.mpr (hc c o));rfl'
 .rw[QF];have e:i0 [.lst (cs.map λ c=> .int (r.getD (h.idxOf c) 0))]=some (tD (pk h cs r)):=by show some (D.tup _)=some (D.tup ((pk h cs r).map .int));unfold pk;rw[VU];rfl
  rfl'
theorem CK(h cs:List Int)(ks:List (List Int)):j8 (ks.map (pk h cs))=true:=by unfold j8;rw[Bool.or_eq_true];cases cs with
 |nil=>exact .inr (fR.mpr λ k hk=>by obtain⟨r,_,rfl⟩:=QJ.mp hk;rfl)
 |cons=>exact .inl (fR.mpr λ k hk=>by obtain⟨r,_,rfl⟩:=QJ.mp hk;rfl)
theorem rT(h cs:List Int){ks:List (List Int)}(o:ks.length<=18):gU (ks.map λ r=>tD (pk h cs r))=some ((fJ h ks cs).map tD):=by
 unfold gU;have e:dF (ks.map λ r=>tD (pk h cs r))=some (ks.map (pk h cs)):=by have:=dP (ks.map (pk h cs));rw[VU]at this;exact this
 rw[e];exact fD ⟨by simp_all,CK h cs ks⟩
theorem ze{h cs:List Int}{ks:List (List Int)}(hc:∀c∈cs,c∈h)(I:∀r∈ks,r.length=h.length)(C:cs.length<=1000)(hk:ks.length<=18):bU wx Gg [hD h,dX ks,hD cs]=some (dX (fJ h ks cs)):=by
 apply bT;dsimp only[Gg,lH,lH];have J:=J_ hc C;have U:=rT h cs hk;rfl';refine bQ ks tD (λ r=>some (tD (pk h cs r))) rfl (by rfl') (by omega) (λ r o=>?_) ?_;. have:=Kj hc (I r o) C;rfl'
 .rw[QF];rfl'
theorem yy{h cs:List Int}{ks:List (List Int)}{C:D}(sC:me C=some (bL (cs.map .int)))(hc:∀c∈cs,c∈h)(J:∀r∈ks,r.length=h.length)(hl:cs.length<=1000)(hk:ks.length<=18):bU oI wj [hD h,dX ks,C]=some (dX (fJ h ks cs)):=by
 apply bT;dsimp only[wj,lB,lB];rfl';refine bQ ks tD (λ r=>some (tD (pk h cs r))) rfl (by rfl') (by omega) (λ r I=>?_) ?_
 .rfl';refine bQ cs .int (λ c=>some (.int (r.getD (h.idxOf c) 0))) rfl (by rfl') (by omega) (λ c o=>?_) ?_
  .have e1:=oC (hc c o);have U:=vj (r:=r) (p:=h.idxOf c) (by rw[J r I];exact Y5.mpr (hc c o));rfl';refine LG ?_;rfl'
  .rw[QF];have e:i0 [.lst (cs.map λ c=> .int (r.getD (h.idxOf c) 0))]=some (tD (pk h cs r)):=by show some (D.tup _)=some (D.tup ((pk h cs r).map .int));unfold pk;rw[VU];rfl
   rfl'
 .rw[QF];have U:sf (.lst (ks.map λ r=>tD (pk h cs r)))=some ((fJ h ks cs).map tD):=rT h cs hk;rfl'
theorem HY(n:Nat)(a b:List Int):dE (n+2) (tD a) (tD b)=some (decide (a=b)):=by have h:=qX n a b;show(dE.go (n+1) (a.map .int) (b.map .int)).map (λ c=>c&&(a.map D.int).length==(b.map D.int).length)=_;rw[h];refine Q9 some (VR.mpr ?_);grind
theorem GY(n:Nat):∀a b:List (List Int),dE.go (n+2) (a.map tD) (b.map tD)=some (decide (a.take b.length=b.take a.length))
 |[],b=>by cases b <;> simp[dE.go]
 |x::a,[]=>by rfl
 |x::a,y::b=>by rw[QM,QM];unfold dE.go;rw[HY,GY n a b];simp
theorem tV(neg:Bool)(a b:List (List Int)):jx neg (dX a) (dX b)=some (.bl (if neg then !decide (a=b)else decide (a=b))):=by
 have:dE 9 (dX a) (dX b)=some (decide (a=b)):=by show(dE.go 8 (a.map tD) (b.map tD)).map (λ c=>c&&(a.map tD).length==(b.map tD).length)=_;rw[GY 6];refine Q9 some (VR.mpr ?_);grind
 show(dE 9 (dX a) (dX b)).map _=_;simp_all
theorem Iv (h:Ok m δ fun a o=>Ok (eC (f a) g) o Q):Ok (eC (m >>= f) g) δ Q :=
 cc.mpr (cb.mpr (h.mono fun _ _ h=>cc.mp h))
theorem vN (h:Ok body (entry N ds) fun z _=>z=.nx):bU N body ds=some .non:= by
 obtain ⟨z,δ',e,rfl⟩:=h
 unfold bU
 rw [e]
structure v5 (M:Int) (hs:List (List Int)) (ts:List (List (List Int))):Prop where
 len:ts.length=hs.length
 h6:hs.length ≤ 6
 up:∀h ∈ hs,h.Pairwise (· < ·)
 h7:∀h ∈ hs,h.length ≤ 7
 row:∀(i:Nat) h t,hs[i]? = some h->ts[i]? = some t->(∀r ∈ t,r.length=h.length)∧t.length ≤ 18
 are:bU iK kg [dg M hs,.tup (ts.map dX)]=some (.bl true)
noncomputable def TT(ts:List (List (List Int)))(i:Nat):List (List Int):=ts.getD i []
noncomputable def d9(hs:List (List Int))(i j:Nat):List Int:=(G hs i).filter λ c=>decide (c∈G hs j)
noncomputable def Cc(hs:List (List Int))(ts:List (List (List Int)))(i j:Nat):Bool:=decide (fJ (G hs i) (TT ts i) (d9 hs i j)=fJ (G hs j) (TT ts j) (d9 hs i j))
section
variable {M:Int} {hs:List (List Int)} {ts:List (List (List Int))}
theorem nv(hi:i<hs.length):G hs i∈hs:=by
 have:G hs i=hs[i]:=by simp[G,hi]
 simp_all
theorem v5.at (T:v5 M hs ts) (hi:i < hs.length):(∀r ∈ TT ts i,r.length=(G hs i).length)∧(TT ts i).length ≤ 18:= by
 have hi':i < ts.length:=by rw [T.len];omega
 have e:TT ts i=ts[i]:=by simp [TT,hi']
 have e2:G hs i=hs[i]:=by simp [G,hi]
 rw [e,e2]
 exact T.row i _ _ (kW hi) (kW hi')
theorem lA(hi:i<ts.length):i3 (.tup (ts.map dX)) (.int i)=some (dX (TT ts i)):=by show jb _ _=_;rw[atI_nat _ _ (by simp_all)];simp[TT,hi]
theorem rO(T:v5 M hs ts){i:Nat}(hi:i<hs.length)(j:Nat):(d9 hs i j).length<=7:=ZJ (List.length_filter_le _ _) (T.h7 _ (nv hi))
theorem t9:∀{a b:List Int},a.Pairwise (. < .)->b.Pairwise (. < .)->(∀z,z∈a↔z∈b)->a=b
 |[],[],_,_,_=>rfl
 |[],y::r,_,_,h=>by have:=(h y).mpr uL;cases this
 |x::r,[],_,_,h=>by have:=(h x).mp uL;cases this
 |x::r,y::q,U,hb,h=>by
  have o:=QE.mp U;have C:=QE.mp hb;have I:x=y:=by
   rcases wR.mp ((h x).mp uL)with e|e
   .exact e
   .rcases wR.mp ((h y).mpr uL)with J|J
    .exact J.symm
    .have l1:=C.1 x e;have l2:=o.1 y J;omega
  subst I;rw[t9 o.2 C.2 λ z=>⟨λ m=>by
   rcases wR.mp ((h z).mp (uN _ m))with e|e
   .have:=o.1 z m;omega
   .exact e,λ m=>by
   rcases wR.mp ((h z).mpr (uN _ m))with e|e
   .have:=C.1 z m;omega
   omega⟩]
theorem xV(T:v5 M hs ts){i j:Nat}(hi:i<hs.length)(o:j<hs.length):d9 hs j i=d9 hs i j:=
 t9 ((T.up _ (nv o)).filter _) ((T.up _ (nv hi)).filter _) λ z=>by unfold d9;simp;exact And.comm
theorem KQ(hi:i<hs.length):bU L5 L4 [dg M hs,.int i]=some .non:=by apply vN;dsimp only[L4,xU,xU];have e:=A8 (.int i) ((hs.map hD).length:Int);rw[show cQ ((hs.map hD).length:Int) (.int i)=true by unfold cQ;simp_all]at e;rfl'
theorem LB(T:v5 M hs ts)(hi:i<hs.length)(C:j<hs.length):bU yr Kk [dg M hs,.int i,.int j]=some (hD (d9 hs i j)):=by
 apply bT;have I:=KQ (M:=M) hi;have J:=KQ (M:=M) C;have U:=gc hi;have e4:=gc C;have l7:=T.h7 _ (nv hi);refine Iv ?_;rfl';refine Iv ?_;rfl';refine bQ (G hs i) .int (λ c=>if decide (c∈G hs j)=true then some (.int c)else none) rfl (by rfl') (by omega) (λ c _=>?_) ?_
 .have o:=ot false c (G hs j);by_cases q:c∈G hs j
  .rw[fN q]at o;rw[fD (fN q)];have o:sU false (.int c) (hD (G hs j))=some (.bl true):=o;rfl'
  .rw[gL q]at o;rw[QB (by rw[gL q];decide)];have o:sU false (.int c) (hD (G hs j))=some (.bl false):=o;rfl'
 .rw[dr];rfl'
theorem LA(T:v5 M hs ts)(hi:i<hs.length)(o:j<hs.length):bU G6 GZ [dg M hs,.tup (ts.map dX),.int i,.int j]=some (.bl (Cc hs ts i j)):=by
 apply bT;dsimp only[GZ,oZ,oZ];have I:=LB T hi o;have J:=gc hi;have U:=gc o;have e4:=lA (ts:=ts) (i:=i) (by rw[T.len];exact hi);have e5:=lA (ts:=ts) (i:=j) (by rw[T.len];exact o);have C:∀c∈d9 hs i j,c∈G hs i/\c∈G hs j:= λ c hc=>by have:=VS.mp hc;exact⟨this.1,ZC this.2⟩
 have bl:=rO T hi j;have e6:=ze (λ c hc=>(C c hc).1) (T.at hi).1 (by omega) (T.at hi).2;have e7:=ze (λ c hc=>(C c hc).2) (T.at o).1 (by omega) (T.at o).2;have e8:=tV false (fJ (G hs i) (TT ts i) (d9 hs i j)) (fJ (G hs j) (TT ts j) (d9 hs i j));rfl'
noncomputable def allB(hs:List (List Int))(ts:List (List (List Int))):Bool:=(List.range hs.length).all λ j=>(List.range j).all λ i=>Cc hs ts i j
theorem wC{α β:Type}(f:α->List β)(g:α->β->Bool)(as:List α):kl [.lst (as.flatMap λ a=>(f a).map λ b=>D.bl (g a b))]=some (.bl (as.all λ a=>(f a).all (g a))):=by
 have e:boolsOf (as.flatMap λ a=>(f a).map λ b=>D.bl (g a b))=some (as.flatMap λ a=>(f a).map (g a)):=by rw[<- rR,List.map_flatMap];simp[Function.comp_def]
 show(boolsOf _).map _=_;simp_all
theorem Kv(T:v5 M hs ts):bU rJ FQ [dg M hs,.tup (ts.map dX)]=some (.bl (allB hs ts)):=by
 apply bT;dsimp only[FQ,kO,kO];have h6:=T.h6;have I:(ts.map dX).length=hs.length:=by rw[wF,T.len]
 have J:=dQ (M:=(ts.map dX).length) (by omega);rw[uj,I]at J;have two:= λ{i j}(hi:i<hs.length) (o:j<hs.length)=>LA T hi o;have da:=wC (λ j:Nat=>List.range j) (λ j i=>Cc hs ts i j) (List.range hs.length);have ed:i7 [.tup (ts.map dX)]=some (.int hs.length):=by show some (D.int ((ts.map dX).length:Int))=_;rw[I]
 generalize dg M hs=lay at*;generalize D.tup (ts.map dX)=tt at*;rfl';refine AE (List.range hs.length) (λ(i:Nat)=> .int (i:Int)) (λ j=>(List.range j).map λ i=>D.bl (Cc hs ts i j)) rfl ?_ (by simp;omega) (λ j o=>?_) ?_;. rfl'
 .have C:=QL.mp o;have U:=dQ (M:=j) (by omega);rw[uj]at U;unfold nZ;rfl';refine Ho (λ δ=>∃z:Jt.Slot,δ=[.pu lay,.pu tt,.pu (.int (j:Int)),z]) (List.range j) (λ(i:Nat)=> .int i) (λ i=>some (D.bl (Cc hs ts i j))) ⟨_,rfl⟩ (by rfl') (by simp;omega) ?_ ?_;. rintro i hi _ ⟨z,rfl⟩;have:=two (i:=i) (j:=j) (by have:=QL.mp hi;omega) C;rfl';exact⟨_,rfl⟩
  .rintro _ ⟨z,rfl⟩;refine⟨?_,rfl⟩;rw[QF]
 .rfl'
end
section
variable {M:Int} {hs:List (List Int)} {ts:List (List (List Int))}
theorem ND(e:bU iK kg [lay,t]=some (.bl true)):bU KI La [lay,t]=some .non:=by apply vN;dsimp only[La,wD,wD];rfl'
theorem LZ(T:v5 M hs ts):bU vh Aj [dg M hs,.tup (ts.map dX)]=some (.bl (allB hs ts)):=by apply bT;have o:=ND T.are;have C:=Kv T;refine Iv ?_;rfl'
inductive AS (lay tt:D) (hs:List (List Int)) (ts:List (List (List Int))) (k:Nat):DS->Prop
 | mk (a2 a3 a4:Jt.Slot) (h:∀j,j < k->∀i,i < j->Cc hs ts i j=true):AS lay tt hs ts k [.pu lay,.pu tt,a2,a3,a4]
inductive BS (lay tt:D) (hs:List (List Int)) (ts:List (List (List Int))) (j k:Nat):DS->Prop
 | mk (a3 a4:Jt.Slot) (h:∀i,i < k->Cc hs ts i j=true):BS lay tt hs ts j k [.pu lay,.pu tt,.pu (.int j),a3,a4]
theorem Ma(T:v5 M hs ts):bU yM zJ [dg M hs,.tup (ts.map dX)]=some (.bl (allB hs ts)):=by
 apply bT;show Ok zJ [.pu (dg M hs),.pu (.tup (ts.map dX)),.un,.un,.un] _;dsimp only[zJ,nY,nY];have h6:=T.h6;have hl:(ts.map dX).length=hs.length:=by rw[wF,T.len]
 have r1:=dQ (M:=hs.length) (by omega);have ed:i7 [.tup (ts.map dX)]=some (.int hs.length):=by show some (D.int ((ts.map dX).length:Int))=_;rw[hl]
 have e0:=mz M hs;have dt:∀{i:Nat},i<hs.length->i3 (.tup (ts.map dX)) (.int i)=some (dX (TT ts i)):= λ{i} hi=>lA (by rw[T.len];exact hi);generalize dg M hs=lay at*;generalize D.tup (ts.map dX)=tt at*;refine C8 (b_ 0 hs.length) (AS lay tt hs ts) (by rfl') (.mk _ _ _ λ j J=>by omega) ?_ ?_
 .rintro j J _ ⟨a2,U,a4,hI⟩;have o:j<hs.length:=by simpa[b_]using J
  rw[eG];have r2:=dQ (M:=j) (by omega);have d1:=gc o;have d2:=dt o;have lj:=T.h7 _ (nv o);refine oSet rfl ?_;rfl';refine jW (b_ 0 j) (BS lay tt hs ts j) (.mk _ _ λ i hi=>by omega) ?_ ?_
  .rintro i hi _ ⟨U,a4,hB⟩;have aa:i<j:=by simpa[b_]using hi
   rw[eG];have d3:=gc (hs:=hs) (i:=i) (by omega);have d4:=dt (i:=i) (by omega);have ml:∀c∈d9 hs j i,c∈G hs j/\c∈G hs i:= λ c hc=>by
    have:=VS.mp hc;exact⟨this.1,ZC this.2⟩
   have bl:=rO T o i;have sC:me (.lst ((d9 hs j i).map .int))=some (bL ((d9 hs j i).map .int)):=rfl;have C:=yy sC (λ c hc=>(ml c hc).1) (T.at o).1 (by omega) (T.at o).2;have e7:=yy sC (λ c hc=>(ml c hc).2) (T.at (i:=i) (by omega)).1 (by omega) (T.at (i:=i) (by omega)).2;have I:=tV true (fJ (G hs j) (TT ts j) (d9 hs j i)) (fJ (G hs i) (TT ts i) (d9 hs j i));have ag:decide (fJ (G hs j) (TT ts j) (d9 hs j i)=fJ (G hs i) (TT ts i) (d9 hs j i))=Cc hs ts i j:=by
    unfold Cc;rw[xV T (i:=i) (j:=j) (by omega) o]
    exact decide_eq_decide.mpr eq_comm
   rw[ag]at I
   refine oSet rfl ?_
   rfl'
   refine bQ (G hs j) .int (λ c=>if decide (c∈G hs i)=true then some (.int c)else none) rfl (by rfl') (by omega) (λ c _=>?_) ?_
   .have C:=ot false c (G hs i)
    by_cases q:c∈G hs i
    .rw[fN q]at C
     rw[fD (fN q)]
     have C:sU false (.int c) (hD (G hs i))=some (.bl true):=C
     rfl'
    .rw[gL q]at C
     rw[QB (by rw[gL q];decide)]
     have C:sU false (.int c) (hD (G hs i))=some (.bl false):=C
     rfl'
   .rw[dr,show(G hs j).filter (λ c=>decide (c∈G hs i))=d9 hs j i from rfl]
    cases q:Cc hs ts i j with
    |true=>
     rw[q]at I
     have I:_=some (D.bl false):=I
     rfl'
     exact .mk _ _ λ i' h'=>by
      by_cases z:i'=i
      .rw[z];exact q
      .exact hB i' (by omega)
    |false=>
     rw[q]at I
     have I:_=some (D.bl true):=I
     rfl'
     refine Q9 (λ b=>Fl.rt (D.bl b)) ?_
     refine(VD.mpr λ z=>?_).symm
     have:=fR.mp (fR.mp z j (QL.mpr o)) i (QL.mpr aa)
     rw[q]at this;cases this
  .rintro _ ⟨U,a4,hB⟩
   refine .mk _ _ _ λ j' h' i h=>?_
   by_cases z:j'=j
   .subst z
    exact hB i (by simpa[b_]using h)
   .exact hI j' (by omega) i h
 .rintro _ ⟨a2,U,a4,hI⟩
  have z:allB hs ts=true:=fR.mpr λ j J=>fR.mpr λ i hi=>hI j (by have:=QL.mp J;simpa[b_]using this) i (QL.mp hi)
  rw[z]
  rfl'
end
noncomputable def kL:List Int->Bool
 |a::b::r=>decide (a<b)&&kL (b::r)
 |_=>true
theorem vK:∀X Y:List Int,gJ (X.map .int) (Y.map .int)=(X.zip Y).map λ p=> .tup [.int p.1,.int p.2]
 |[],Y=>by rfl
 |x::X,[]=>by rfl
 |x::X,y::Y=>by show D.tup [.int x,.int y]::gJ (X.map .int) (Y.map .int)=_;rw[vK X Y];rfl
theorem sO:∀X:List Int,((X.zip (X.drop 1)).map λ p=>decide (p.1<p.2)).all id=kL X
 |[]=>rfl
 |[a]=>rfl
 |a::b::r=>by have o:=sO (b::r);rw[Y2,YS,WD,QM,Z7];rw[Y2,YS]at o;rw[o];rfl
theorem m_(C:h.length<=1000):bU vd vT [hD h]=some (.bl (kL h)):=by
 apply bT;dsimp only[vT,je,je];have sl:JZ (hD h) (some 1) none=some (hD (h.drop 1)):=by show some (D.tup (cutD (h.map .int) (some ((1:Nat):Int)) none))=_;rw[jV,<- List.map_drop];rfl
 have o:kR [hD h,hD (h.drop 1)]=some (bL ((h.zip (h.drop 1)).map λ p=> .tup [.int p.1,.int p.2])):=by rw[<- vK];rfl
 have all:kl [.lst ((h.zip (h.drop 1)).map λ p=>D.bl (decide (p.1<p.2)))]=some (.bl (kL h)):=by show(boolsOf ((h.zip (h.drop 1)).map λ p=>D.bl (decide (p.1<p.2)))).map _=_;rw[df,<- sO];rfl
 rfl';refine bQ (h.zip (h.drop 1)) (λ p=> .tup [.int p.1,.int p.2]) (λ p=>some (.bl (decide (p.1<p.2)))) rfl (by rfl') (by simp;omega) (λ p _=>?_) ?_;. rfl'
 .rw[QF];rfl'
theorem mm:∀{l:List Int},kL l=true↔l.Pairwise (. < .)
 |[]=>⟨λ _=> .nil,λ _=>rfl⟩
 |[a]=>⟨λ _=>ZL _ _,λ _=>rfl⟩
 |a::b::r=>by
  unfold kL;rw[Q1,decide_eq_true_iff,mm];constructor
  .rintro⟨o,C⟩;refine QE.mpr ⟨λ z hz=>?_,C⟩;rcases wR.mp hz with rfl|hz
   .exact o
   .exact Int.lt_trans o ((QE.mp C).1 z hz)
  .intro h;have h':=QE.mp h;exact⟨h'.1 b uL,h'.2⟩
noncomputable def sy(h:List Int):D->Bool
 | .int i=>decide (i∈h)
 |_=>false
noncomputable def i9(h:List Int):D->Bool
 | .tup xs=>xs.all (sy h)&&(match cz xs with|some ns=>kL ns|none=>false)
 |_=>false
theorem jJ:i9 h (.tup (ns.map .int))=(ns.all (λ i=>decide (i∈h))&&kL ns):=by show((ns.map D.int).all (sy h)&&(match cz (ns.map .int)with|some ns=>kL ns|none=>false))=_;rw[dk,List.all_map];rfl
theorem lP:∀{xs:List D},xs.all (sy h)=true->∃ns:List Int,xs=ns.map .int/\∀i∈ns,i∈h
 |[],_=>⟨[],rfl,by simp⟩
 |x::xs,e=>by rw[Z7,Q1]at e;obtain⟨ns,rfl,hn⟩:=lP e.2;cases x with
  |int i=>exact⟨i::ns,rfl,by simpa using⟨ZC e.1,hn⟩⟩
  |_=>cases e.1
theorem Ng(hs:Short x)(h:List Int):bU Iw Jj [x,hD h]=some (.bl (i9 h x)):=by
 apply bT;show Ok Jj [.pu x,.pu (hD h)] _;dsimp only[Jj,xN,xN];refine eL ?_;by_cases hx:∃xs,x= .tup xs
 .obtain⟨xs,rfl⟩:=hx;have o:=hs xs rfl;have all:kl [.lst (xs.map λ d=>D.bl (sy h d))]=some (.bl (xs.all (sy h))):=by
   show(boolsOf _).map _=_;rw[df];simp
  rfl';refine bQ xs id (λ d=>some (.bl (sy h d))) rfl (by rfl';simp) (by omega) (λ d _=>?_) ?_
  .have e:=vb d;show Ok (cp _ _ _ d) _ _;rfl';refine Mx ?_;cases d with
   |int i=>
    have I:=ot false i h;have I:sU false (.int i) (hD h)=some (.bl (sy h (.int i))):=I;have e:bU yV vo [.int i]=some (.bl true):=e;rfl';refine .t ?_;rfl'
   |non=>rfl';exact .f ⟨rfl,rfl⟩
   |bl b=>rfl';exact .f ⟨rfl,rfl⟩
   |str s=>rfl';exact .f ⟨rfl,rfl⟩
   |tup t=>rfl';exact .f ⟨rfl,rfl⟩
   |lst t=>rfl';exact .f ⟨rfl,rfl⟩
   |dct=>rfl';exact .f ⟨rfl,rfl⟩
   |dic t=>rfl';exact .f ⟨rfl,rfl⟩
   |dip t=>rfl';exact .f ⟨rfl,rfl⟩
  .rw[QF];cases q:xs.all (sy h)with
   |false=>rw[q]at all;rw[show i9 h (.tup xs)=false by show(_&&_)=false;rw[q];rfl];rfl'
   |true=>rw[q]at all;obtain⟨ns,rfl,hn⟩:=lP q;have e:=m_ (h:=ns) (by simp at o;omega);unfold hD at e;rw[jJ,fR.mpr λ i hi=>fN (hn i hi),Bool.true_and];rfl'
 .have C:(!cj .tup x)=true:=by cases x <;> first|rfl|exact absurd ⟨_,rfl⟩ hx
  rw[show i9 h x=false by cases x <;> first|rfl|exact absurd ⟨_,rfl⟩ hx];rfl'
section
variable {α β:Type} {δ:DS}
inductive XE (f:α->Jt.M (β ⊕ Addr)) (Q:β ⊕ Addr->DS->Prop):α ⊕ Addr->DS->Prop
 | a {a:α} {o:DS} (h:Ok (f a) o Q):XE f Q (.inl a) o
 | c {C:Addr} {o:DS} (q:Q (.inr C) o):XE f Q (.inr C) o
theorem CY{f:α->Jt.M (β⊕Addr)}{Q:β⊕Addr->DS->Prop}(h:Ok x δ (XE f Q)):Ok (bX x f) δ Q:=
 cb.mpr (h.mono λ _ _ h=>by cases h with|a h=>exact h|c q=>simp_all)
inductive SE (g:Jt.M (Fl ⊕ Addr)) (Q:Fl ⊕ Addr->DS->Prop):Fl ⊕ Addr->DS->Prop
 | nx {o:DS} (h:Ok g o Q):SE g Q (.inl .nx) o
 | rt {d:D} {o:DS} (q:Q (.inl (.rt d)) o):SE g Q (.inl (.rt d)) o
 | c {C:Addr} {o:DS} (q:Q (.inr C) o):SE g Q (.inr C) o
theorem mW(h:Ok f δ (SE g Q)):Ok (G8 f g) δ Q:=by refine CY (h.mono λ _ _ h=>?_);cases h with
 |nx h=>exact .a h
 |rt q=>exact .a (oPure q)
 |c q=>exact .c q
theorem NY{Q:α⊕Addr->DS->Prop}(h:Ok f δ λ a o=>Q (.inl a) o):Ok (J0 f) δ Q:=cb.mpr (h.mono λ _ _ q=>oPure q)
theorem M_{fs:Jt.M (List D)}{Q:Fl⊕Addr->DS->Prop}(h:Ok fs δ λ ds o=>ds.length<=100000/\Q (.inr C) o):Ok (Aa C fs) δ Q:=
 oBind (h.mono λ _ _ q=>oBind (gz.mpr ⟨q.1,oPure q.2⟩))
theorem B7(h:Ok f δ λ x o=>Ok I o λ r C=>match r with| .inl xs=>Q (.inl (x::xs)) C| .inr A=>Q (.inr A) C):Ok (uR (J0 f) I) δ Q:=by refine CY (NY (h.mono λ x o h=> .a (CY (h.mono λ r C q=>?_))));cases r with
 |inl xs=>exact .a (oPure q)
 |inr A=>exact .c q
theorem gg{body:Jt.M (Fl⊕Addr)}{ds:List D}{r:D⊕Addr}(h:Ok body (entry N ds) λ z _=>match r with| .inl d=>z= .inl (.rt d)| .inr C=>z= .inr C):fY N body ds=some r:=by obtain⟨z,o,e,q⟩:=h;unfold fY;rw[e];cases r with
 |inl d=>simp_all
 |inr C=>subst q;rfl
theorem vM{body:Jt.M (Fl⊕Addr)}{ds:List D}(h:Ok body (entry N ds) λ z _=>z= .inl .nx):fY N body ds=some (.inl .non):=by obtain⟨z,o,e,rfl⟩:=h;unfold fY;rw[e]
theorem GX{J:Addr->Option Str}{U:Jt.M (Fl⊕Addr)}{Q:Fl->DS->Prop}{C:Addr}{w:Str}(hk:J C=some w)(h:Ok U δ λ r o=>r= .inr C/\o[ie]?=some .un/\(I<o.length/\ie≠I)/\Q .nx (o.set I (.pu (.str w)))):Ok (xG ie I J U) δ Q:=by obtain⟨r,o,e,rfl,h1,h2,q⟩:=h;exact⟨_,_,by unfold xG;rw[e];simp only[hk,h1];rw[fD h2],q⟩
theorem Ku{C:Jt.M (Fl⊕Addr)}{Q:Fl->DS->Prop}(h:Ok C δ λ r o=>r= .inl .nx/\Q .nx o):Ok (xG J U kn C) δ Q:=by obtain⟨r,o,e,rfl,q⟩:=h;exact⟨_,_,by unfold xG;rw[e],q⟩
end
variable {M:Int} {hs:List (List Int)}
theorem vv(C:Addr){lay t:D}{b:Bool}(e:bU iK kg [lay,t]=some (.bl b)):fY Km (HG C) [lay,t]=some (if b then .inl .non else .inr C):=by cases b with
 |true=>apply vM;show Ok (HG C) [.pu lay,.pu t] _;refine mW ?_;rfl';refine .nx ?_;rfl'
 |false=>apply gg;show Ok (HG C) [.pu lay,.pu t] _;refine mW ?_;rfl';refine mW (M_ ?_);rfl';exact .c (.c rfl)
theorem Bu(C:Addr)(x:D):fY FT (Bw C) [dg M hs,x]=some (if cQ hs.length x then .inl .non else .inr C):=by
 have e:=A8 x ((hs.map hD).length:Int);rw[show((hs.map hD).length:Int)=hs.length by rw[wF]]at e;have ed:i7 [.tup (hs.map hD)]=some (.int hs.length):=by show some (D.int ((hs.map hD).length:Int))=_;rw[wF]
 cases q:cQ hs.length x with
 |true=>rw[q]at e;apply vM;show Ok (Bw C) [.pu (dg M hs),.pu x] _;refine mW ?_;rfl';refine .nx ?_;rfl'
 |false=>rw[q]at e;apply gg;show Ok (Bw C) [.pu (dg M hs),.pu x] _;refine mW ?_;rfl';refine mW (M_ ?_);rfl';exact .c (.c rfl)
end K62
namespace K62
open PySem L2 Jt
open Jt.Tu (vD fj eJ eK cq lex_trans ig rq gU sf j8 dP)
theorem EB {N:List Str} {b:Jt.M (Fl ⊕ Addr)} {Q:Fl ⊕ Addr->DS->Prop} (hi:δ[i]? = some (.pu x)) (hj:δ[j]? = some (.pu y)) (e:fY N b [x,y]=some r) (q:Q (match r with | .inl _=>.inl .nx | .inr C=>.inr C) δ) :
  Ok (bX (bX (uR (J0 (di i)) (uR (J0 (di j)) (pure (.inl [])))) fun ds=>lift (if ds.length=2 then fY N b ds else none)) fun _=>pure (.inl .nx)) δ Q:= by
 refine CY (CY (B7 (oGet hi (B7 (oGet hj (oPure (.a (oLift e ?_))))))))
 cases r with
 | inl d=>exact .a (oPure q)
 | inr C=>exact .c q
section
variable {M:Int} {hs:List (List Int)} {ts:List (List (List Int))} {C1 C2 C3:Addr} {kn:Addr->Option Str}
theorem FA(e:bU iK kg [lay,t]=some (.bl false)):fY uz (yc C1 C2 C3) [lay,t,n,x]=some (.inr C3):=by apply gg;exact mW (EB rfl rfl (vv C3 e) (.c rfl))
theorem yB(T:v5 M hs ts){n x:D}(hn:cQ hs.length n=false):fY uz (yc C1 C2 C3) [dg M hs,.tup (ts.map dX),n,x]=some (.inr C2):=by apply gg;have e:=Bu (M:=M) (hs:=hs) C2 n;rw[hn]at e;exact mW (EB rfl rfl (vv C3 T.are) (.nx (mW (EB rfl rfl e (.c rfl)))))
theorem qK(T:v5 M hs ts){i:Nat}(hi:i<hs.length){x:D}(hx:Short x):(i9 (G hs i) x=false->fY uz (yc C1 C2 C3) [dg M hs,.tup (ts.map dX),.int i,x]=some (.inr C1))/\
  (∀ns:List Int,x=hD ns->i9 (G hs i) x=true->fY uz (yc C1 C2 C3) [dg M hs,.tup (ts.map dX),.int i,x]=some (.inl (dX (fJ (G hs i) (TT ts i) ns)))):=by
 have e:=Bu (M:=M) (hs:=hs) C2 (.int i);rw[show cQ hs.length (.int i)=true by unfold cQ;simp;omega]at e;have o:=Ng hx (G hs i);have e3:=gc hi;have e5:=lA (ts:=ts) (i:=i) (by rw[T.len];exact hi);have tb:=vv C3 T.are;have C:=T.at hi;refine⟨λ q=>?_,λ ns J q=>?_⟩;. rw[q]at o;apply gg;refine mW (EB rfl rfl tb (.nx (mW (EB rfl rfl e (.nx (mW ?_))))));rfl';refine mW (M_ ?_);rfl';exact .c (.c rfl)
 .subst J;rw[q]at o;have I:(ns.all (λ U=>decide (U∈G hs i))&&kL ns)=true:=by rw[<- jJ];exact q
  rw[Q1]at I;have hl:ns.length<=60:=by have:=hx _ rfl;simpa using this
  have e6:=ze (h:=G hs i) (cs:=ns) (λ c hc=>ZC (fR.mp I.1 c hc)) C.1 (by omega) C.2;apply gg;refine mW (EB rfl rfl tb (.nx (mW (EB rfl rfl e (.nx (mW ?_))))));rfl';refine .nx (mW (NY ?_));rfl';exact .rt rfl
theorem pK{C:Addr}{w:Str}(hk:kn C=some w)(e:fY uz (yc C1 C2 C3) [lay,t,n,x]=some (.inr C)):bU qW (my C1 C2 C3 kn) [lay,t,n,x]=some (.str w):=by apply bT;show Ok (my C1 C2 C3 kn) [.pu lay,.pu t,.pu n,.pu x,.un,.un] _;dsimp only[my,j7,j7];rfl';refine cc.mpr (GX hk ?_);refine mW ?_;refine CY (CY (B7 (oGet rfl (B7 (oGet rfl (B7 (oGet rfl (B7 (oGet rfl (oPure ?_))))))))));refine .a (oLift e (.c (.c ⟨rfl,rfl,by simp,?_⟩)));rfl'
theorem yX(e:fY uz (yc C1 C2 C3) [lay,t,n,x]=some (.inl d)):bU qW (my C1 C2 C3 kn) [lay,t,n,x]=some d:=by apply bT;dsimp only[my,j7,j7];rfl';refine cc.mpr (Ku ?_);refine mW ?_;refine CY (CY (B7 (oGet rfl (B7 (oGet rfl (B7 (oGet rfl (B7 (oGet rfl (oPure ?_))))))))));refine .a (oLift e (.a (oBind (oSet rfl (oPure (.nx (oPure ⟨rfl,?_⟩)))))));rfl'
theorem rk{w:Str}(hk:kn C3=some w)(e:bU iK kg [lay,t]=some (.bl false)):bU Je (Cu C3 kn) [lay,t]=some (.str w):=by
 have o:fY Gd (Ka C3) [lay,t]=some (.inr C3):=by apply gg;exact mW (EB rfl rfl (vv C3 e) (.c rfl))
 apply bT;show Ok (Cu C3 kn) [.pu lay,.pu t,.un,.un] _;dsimp only[Cu,ye,ye];rfl';refine cc.mpr (GX hk ?_);refine mW (EB rfl rfl o (.c ⟨rfl,rfl,by simp,?_⟩));rfl'
theorem zm{t n x:D}(hn:cQ hs.length n=false):bU iQ g8 [dg M hs,t,n,x]=some (.str "! head"):=by
 have ed:i7 [.tup (hs.map hD)]=some (.int hs.length):=by show some (D.int ((hs.map hD).length:Int))=_;rw[wF]
 apply bT;refine eL ?_;by_cases hi:∃i,n= .int i
 .obtain⟨i,rfl⟩:=hi;have C:Gu (.int 0) (.int i)=some (.bl (decide (0<=i))):=by simp[Gu,cZ]
  have I:yo (.int i) (.int hs.length)=some (.bl (decide (i<hs.length))):=by simp[yo,cZ]
  have o:(decide (0<=i)&&decide (i<hs.length))=false:=hn;by_cases h0:0<=i;. rw[fN h0]at C o;have o:decide (i<hs.length)=false:=o;rw[o]at I;rfl'
  .rw[gL h0]at C;rfl'
 .have J:bU uY sx [n]=some (.bl false):=by cases n <;> first|rfl|exact absurd ⟨_,rfl⟩ hi
  rfl'
theorem vO:ns=cT (jM ns)↔ns.Pairwise (. < .):=
 ⟨λ h=>by rw[h];exact g9 (dU ns),λ h=>t9 h (g9 (dU ns)) λ z=>by rw[ix,eW]⟩
theorem rD(T:v5 M hs ts){i:Nat}(hi:i<hs.length){x:D}(hx:Short x):(i9 (G hs i) x=false->bU iQ g8 [dg M hs,.tup (ts.map dX),.int i,x]=some (.str "! column"))/\
  (∀ns:List Int,x=hD ns->i9 (G hs i) x=true->bU iQ g8 [dg M hs,.tup (ts.map dX),.int i,x]=some (dX (fJ (G hs i) (TT ts i) ns))):=by
 have ed:i7 [.tup (hs.map hD)]=some (.int (hs.length:Int)):=by show some (D.int ((hs.map hD).length:Int))=_;rw[wF]
 have e4:=mz M hs;have ew:bU uY sx [.int i]=some (.bl true):=gP (.int i);have l1:Gu (.int 0) (.int i)=some (.bl true):=by simp[Gu,cZ]
 have l2:yo (.int i) (.int hs.length)=some (.bl true):=by simp[yo,cZ];omega
 have e3:=gc hi;have e5:=lA (ts:=ts) (i:=i) (by rw[T.len];exact hi);have ta:=T.at hi;have start:∀{r:D},Ok g8 [.pu (dg M hs),.pu (.tup (ts.map dX)),.pu (.int i),.pu x] (λ o _=>o= .rt r)->bU iQ g8 [dg M hs,.tup (ts.map dX),.int i,x]=some r:= λ h=>bT h;generalize dg M hs=lay at*;generalize D.tup (ts.map dX)=tt at*;by_cases ht:∃xs,x= .tup xs;rotate_left
 .have C:(!cj .tup x)=true:=by cases x <;> first|rfl|exact absurd ⟨_,rfl⟩ ht
  refine⟨λ _=>start ?_,λ ns e=>absurd ⟨_,e⟩ ht⟩;dsimp only[g8,iG,iG];refine eL ?_;rfl';refine eL ?_;rfl'
 obtain⟨xs,rfl⟩:=ht;have aa:=hx xs rfl;have all:kl [.lst (xs.map λ d=>D.bl (isInt d))]=some (.bl (xs.all isInt)):=by show(boolsOf _).map _=_;rw[df];simp
 by_cases U:xs.all isInt=true;rotate_left
 .have I:=Bool.not_eq_true _▸U;rw[I]at all;refine⟨λ _=>start ?_,λ ns e=>?_⟩
  .dsimp only[g8,iG,iG];refine eL ?_;rfl';refine eL ?_;rfl';refine bQ xs id (λ d=>some (.bl (isInt d))) rfl (by rfl';simp) (by omega) (λ d _=>?_) ?_;. have e:=gP d;show Ok (cp _ _ _ d) _ _;rfl'
   .rw[QF];rfl'
  .injection e with e;rw[e]at I;have:(ns.map D.int).all isInt=true:=fR.mpr λ d hd=>by obtain⟨_,_,rfl⟩:=QJ.mp hd;rfl
   rw[this]at I;cases I
 obtain⟨ns,rfl⟩:=iX U;rw[U]at all;rw[jJ];have ab:ns.length<64:=by simp at aa;omega
 have es:ja (ns.map .int)=some ((cT (jM ns)).map .int):=by unfold ja;rw[dk];exact fD ab
 have dq:=x3 true ns (cT (jM ns));have el:dList [.tup (ns.map .int)]=some (ns.map .int):=rfl;have eq:um (.tup (ns.map .int))=some (ns.map .int):=rfl;have go:∀{r:D},Ok (EA (LJ ((m2 (jx true) (do let xs<- (mC dList (bw (di 3) (pure [])));pure (D.lst xs)) (do let xs<- (mQ ja (do let x<- (di 3);lift (um x)));pure (D.lst xs))) >>= mE) ((m2 (jx true) (do let xs<- (dG 4 1 (do let x<- (di 3);lift (me x)) (cp (jk 4) (m2 (sU true) (di 4) (m2 i3 (m2 i3 (di 0) (pure (.int 1))) (di 2)) >>= mE) (di 4)));pure (D.lst xs)) (do let xs<- (qf (pure []));pure (D.lst xs))) >>= mE)) (do let d<- (pure (.str "! column"));pure (Fl.rt d)) (pure .nx)) [.pu lay,.pu tt,.pu (.int i),.pu (.tup (ns.map .int))] (λ fl o=>match fl with
   | .nx=>Ok (do let d<- (mC (iJ 3 (bU oI wj)) (bw (m2 i3 (m2 i3 (di 0) (pure (.int 1))) (di 2)) (bw (m2 i3 (di 1) (di 2)) (bw (di 3) (pure [])))));pure (Fl.rt d)) o λ o _=>o= .rt r
   |fl=>fl= .rt r)->bU iQ g8 [lay,tt,.int i,.tup (ns.map .int)]=some r:= λ{r} h=>start (by
  dsimp only[g8,iG,iG];refine eL ?_;rfl';refine eL ?_;rfl';refine bQ (ns.map D.int) id (λ d=>some (.bl (isInt d))) rfl (by rfl';simp) (by omega) (λ d _=>?_) ?_;. have e:=gP d;show Ok (cp _ _ _ d) _ _;rfl'
  .rw[QF];rfl';exact cc.mpr (h.mono λ fl o q=>by cases fl <;> exact q));by_cases up:ns.Pairwise (. < .)
 rotate_left
 .rw[gL λ z=>up (vO.mp z)]at dq
  have dq:jx true (.lst (ns.map .int)) (.lst ((cT (jM ns)).map .int))=some (.bl true):=dq
  have na:kL ns=false:=VD.mpr λ z=>up (mm.mp z)
  refine⟨λ _=>go ?_,λ J e q=>?_⟩
  .rfl'
  .rw[na,Bool.and_false]at q;cases q
 rw[fN (vO.mpr up)]at dq
 have dq:jx true (.lst (ns.map .int)) (.lst ((cT (jM ns)).map .int))=some (.bl false):=dq
 rw[mm.mpr up,Bool.and_true]
 have walk:∀{r:D},Ok (lift (jx true (.lst ((ns.filter λ c=> !decide (c∈G hs i)).map .int)) (.lst []))) [.pu lay,.pu tt,.pu (.int i),.pu (.tup (ns.map .int))] (λ y o=>Ok (mE y) o λ b o=>if b=true then r= .str "! column" else Ok (do let d<- (mC (iJ 3 (bU oI wj)) (bw (m2 i3 (m2 i3 (di 0) (pure (.int 1))) (di 2)) (bw (m2 i3 (di 1) (di 2)) (bw (di 3) (pure [])))));pure (Fl.rt d)) o λ o _=>o= .rt r)->bU iQ g8 [lay,tt,.int i,.tup (ns.map .int)]=some r:= λ{r} h=>go (by
  rfl'
  refine bQ ns .int (λ c=>if(!decide (c∈G hs i))=true then some (.int c)else none) rfl (by rfl') (by omega) (λ c _=>?_) ?_
  .have e6:=ot true c (G hs i)
   by_cases q:c∈G hs i
   .rw[fN q]at e6|-
    have e6:sU true (.int c) (hD (G hs i))=some (.bl false):=e6
    rfl'
   .rw[gL q]at e6|-
    have e6:sU true (.int c) (hD (G hs i))=some (.bl true):=e6
    rfl'
  .rw[dr]
   rfl'
   refine h.mono λ y o q=>q.mono λ b o q=>?_
   cases b with
   |true=>
    have q:r= .str "! column":=q
    subst q
    refine oT rfl ?_
    rfl'
   |false=>
    refine oF rfl ?_
    exact oPure q)
 have nil:=il true ((ns.filter λ c=> !decide (c∈G hs i)).map .int)
 by_cases sub:ns.all (λ c=>decide (c∈G hs i))=true
 .rw[sub]
  have fe:(ns.filter λ c=> !decide (c∈G hs i))=[]:=WV.mpr λ c hc=>by
   have:=fR.mp sub c hc
   rw[this];decide
  rw[fe]at nil walk
  have nil:jx true (.lst (([]:List Int).map .int)) (.lst [])=some (.bl false):=nil
  refine⟨(λ q=>by cases q),λ J e _=>walk ?_⟩
  have en:J=ns:=by
   injection e with e
   have:=Q9 cz e
   rw[dk,dk]at this
   exact(ZG this).symm
  subst en
  have eh:=yy (h:=G hs i) (ks:=TT ts i) (cs:=J) (C:= .tup (J.map .int)) rfl (λ c hc=>ZC (fR.mp sub c hc)) ta.1 (by omega) ta.2
  rfl'
 .have ne:=Bool.not_eq_true _▸sub
  rw[ne]
  refine⟨λ _=>walk ?_,(λ _ _ q=>by cases q)⟩
  have:((ns.filter λ c=> !decide (c∈G hs i)).map D.int).isEmpty=false:=by
   rw[W3]
   refine VD.mpr λ z=>sub (fR.mpr λ c hc=>?_)
   have:=WV.mp (List.isEmpty_iff.mp z) c hc
   cases q:decide (c∈G hs i)with
   |true=>rfl
   |false=>rw[q]at this;exact absurd rfl this
  rw[this]at nil
  have nil:jx true (.lst ((ns.filter λ c=> !decide (c∈G hs i)).map .int)) (.lst [])=some (.bl true):=nil
  rfl'
end
end K62
namespace K62
open PySem L2 Jt
open Jt.Tu (vD fj eJ eK cq lex_trans ig rq gU sf j8 dP)
open Builtin.Int (intBits)
theorem se:∀{hs:List (List Int)}{ts:List D},yH hs ts=true↔ ∀(i:Nat) h t,hs[i]?=some h->ts[i]?=some t->fO h.length t=true
 |[],ts=>⟨λ _ i h t e=>by simp at e,λ _=>by cases ts <;> rfl⟩
 |h::hs,[]=>⟨λ _ i h t _ e=>by simp at e,λ _=>rfl⟩
 |h::hs,t::ts=>by
  show(_&&_)=true↔_;rw[Q1,se];constructor;. rintro⟨J,I⟩ i g u o C;cases i with
   |zero=>simp_all
   |succ i=>exact I i g u o C
  .intro k;exact⟨k 0 h t rfl rfl,λ i g u o C=>k (i+1) g u o C⟩
theorem x_(C:ts.length=hs.length)(ht:Ig hs ts):xF hs (.tup (ts.map dX))=true:=by show(decide _&&_)=true;rw[fN (by rw[wF,C]),Bool.true_and,se];intro i h t I o;rw[QH]at o;obtain⟨u,J,rfl⟩:=Option.map_eq_some_iff.mp o;obtain⟨⟨U,q2⟩,q3⟩:=ht i h u I J;show(decide _&&_&&_)=true;rw[fN (by rw[wF];omega),Jt.Tu.tupsD_mapT];rw[show(u.map tD).all (lL h.length)=true from fR.mpr λ r hr=>by obtain⟨k,hk,rfl⟩:=QJ.mp hr;exact Js (q2 k hk)];exact vB.mpr U
theorem DK(neg:Bool)(x y:Str):jx neg (.str x) (.str y)=some (.bl (if neg then !decide (x=y)else decide (x=y))):=by show some (D.bl (if neg=true then !decide (V.str x=V.str y)else decide (V.str x=V.str y)))=_;simp
theorem l3(x:Str):jx true (.str x) (.str x)=some (.bl false):=by rw[DK,fN rfl];rfl
section
variable {M:Int} {hs:List (List Int)} {ts:List (List (List Int))} {C1 C2 C3:Addr} {kn:Addr->Option Str}
theorem both(T:v5 M hs ts)(o:kn C1=some "! column")(C:kn C2=some "! head")(n:D){x:D}(hx:Short x):∃r,bU qW (my C1 C2 C3 kn) [dg M hs,.tup (ts.map dX),n,x]=some r/\bU iQ g8 [dg M hs,.tup (ts.map dX),n,x]=some r/\jx true r r=some (.bl false):=by cases q:cQ hs.length n with
 |false=>exact⟨_,pK C (yB T q),zm q,l3 _⟩
 |true=>
  obtain⟨i,rfl,hi⟩:∃i:Nat,n= .int i/\i<hs.length:=by cases n with
   |int i=>have q:(decide (0<=i)&&decide (i<hs.length))=true:=q;simp at q;exact⟨i.toNat,by rw[V4 q.1],by omega⟩
   |_=>cases q
  cases z:i9 (G hs i) x with
  |false=>exact⟨_,pK o ((qK T hi hx).1 z),(rD T hi hx).1 z,l3 _⟩
  |true=>
   obtain⟨ns,rfl⟩:∃ns:List Int,x=hD ns:=by cases x with
    |tup xs=>obtain⟨ns,rfl,_⟩:=lP (Bool.and_eq_true_iff.mp z).1;exact⟨ns,rfl⟩
    |_=>cases z
   refine⟨_,yX ((qK T hi hx).2 ns rfl z),(rD T hi hx).2 ns rfl z,?_⟩;rw[tV,fN rfl];rfl
end
theorem K9:bU vh Aj [.tup [.int 2,.tup [.tup [.int 0],.tup [.int 1]]],.tup [.tup [.tup [.int 0]],.tup []]]=some (.bl false):=by rfl
theorem Ly:bU vh Aj [.tup [.int 2,.tup [.tup [.int 0],.tup [.int 1]]],.tup [.tup [],.tup []]]=some (.bl true):=by rfl
inductive LS (z0:Jt.Slot):DS->Prop
 | mk (a1 a2 a3 a4 a5 a6 a7 a8 a9 aa ab:Jt.Slot):LS z0 [z0,a1,a2,a3,a4,a5,a6,a7,a8,a9,aa,ab]
inductive MS (C:D) (k:Int) (lay T fo od:D):DS->Prop
 | mk (n:Int) (a7 a8 a9 aa ab:Jt.Slot):MS C k lay T fo od [.pu C,.pu (.int k),.ow false [.int n],.pu lay,.pu T,.pu fo,.pu od,a7,a8,a9,aa,ab]
inductive MI (C:D) (k n:Int) (lay T fo od nu h so:D):DS->Prop
 | mk (aa ab:Jt.Slot):MI C k n lay T fo od nu h so [.pu C,.pu (.int k),.ow false [.int n],.pu lay,.pu T,.pu fo,.pu od,.pu nu,.pu h,.pu so,aa,ab]
theorem wJ(C1 C2 C3:Addr)(kn:Addr->Option Str)(ai:kn C1=some "! column")(aj:kn C2=some "! head")(ah:kn C3=some "! tables"):∀ns:List Int,ns.length<=63->(∀i∈ns,intBits i<=2^20)->bU u7 (A5 C1 C2 C3 kn) [.lst (ns.map .int)]=some (.bl true):=by
 intro ns aq af;apply bT;show Ok (A5 C1 C2 C3 kn) [.pu (.lst (ns.map .int)),.un,.un,.un,.un,.un,.un,.un,.un,.un,.un,.un] _;dsimp only[A5,vf,vf];obtain⟨m,e1⟩:∃m:Int,tj [.int ((ns.map D.int).length:Int),.int 4]=some (.int m)/\m<=4:=⟨_,rfl,by split <;> omega⟩;obtain⟨e1,m4⟩:=e1;obtain⟨N,e2,N4⟩:∃N:Nat,w9 [.int 1,.int m]=some (.int (N:Int))/\N<=4:=by
  refine⟨(if m>1 then m else 1).toNat,?_,by split <;> omega⟩;show some (D.int (if m>1 then m else 1))=_;rw[V4 (by split <;> omega)]
 have e3:=dQ (M:=N) (by omega);refine C8 (b_ 0 N) (λ _=>LS (.pu (.lst (ns.map .int)))) (by rfl') (.mk ..) ?_ ?_
 .rintro k hk _ ⟨a1,a2,a3,a4,a5,a6,a7,a8,a9,aa,ab⟩;have ar:k<N:=by simpa[b_]using hk
  rw[eG];obtain⟨n,en⟩:=wG ns af k (by omega);obtain⟨d,o,el,m,hs,n1,rfl,rfl,h1,h6,hm,hq⟩:=pB n (P:=7) (Z:=6) (by omega) (by omega) (by omega) (by omega);obtain⟨M,rfl⟩:∃M:Nat,m=(M:Int):=⟨m.toNat,by omega⟩;have h7:∀h∈hs,1<=h.length/\h.length<=7:= λ h hh=>⟨V3.mpr (hq h hh).1,(hq h hh).len (by omega) (by omega)⟩;have el:fz zP Cm [.int n] [.int 7,.int 6]=some (dg M hs,[.int n1]):=el;obtain⟨d,o,et,⟨ts,rfl,tl,tk⟩,n2,rfl⟩:=pd n1 h1 h6 (by omega:1<=M) (by omega) hq;have lim:∀x∈ts.map dX,Hy x:= λ x hx rows e=>by
   obtain⟨u,hu,rfl⟩:=QJ.mp hx;obtain⟨i,hi,rfl⟩:=ZE hu;have ak:i<hs.length:=by omega
   obtain⟨q1,q2⟩:=tk i hs[i] ts[i] (kW _) (kW hi);have:=h7 _ (QN ak);cases e;refine⟨by rw[wF];omega,λ r hr=>?_⟩;obtain⟨k,hk,rfl⟩:=QJ.mp hr;exact ee (by rw[wF,(q1.2 k hk).1];omega)
  have ae:=GR (M:=M) (t:= .tup (ts.map dX)) h6 λ au e x hx=>by cases e;exact lim x hx
  rw[x_ tl tk]at ae;have T:v5 M hs ts:=⟨tl,h6,λ h hh=>(hq h hh).2.1,λ h hh=>(h7 h hh).2,λ i h t e1 e2=>by obtain⟨q1,q2⟩:=tk i h t e1 e2;exact⟨λ r hr=>(q1.2 r hr).1,by omega⟩,ae⟩;have ag:=LZ T;have la:=Ma T;have bb:jx true (.bl (allB hs ts)) (.bl (allB hs ts))=some (.bl false):=by cases allB hs ts <;> rfl
  obtain⟨od,o,eo,⟨so,_⟩,n3,rfl⟩:=xK n2;have two:= λ n{x}(hx:Short x)=>both (C3:=C3) T ai aj n hx;have bad:∀{t:D},(∀us,t= .tup us->∀x∈us,Hy x)->xF hs t=false->bU iK kg [dg M hs,t]=some (.bl false):= λ{t} hl e=>by have:=GR (M:=M) h6 hl;rwa [e]at this
  have e4:=mz (M:Int) hs;have e5:=BB (M:Int) hs;have L:(hs.map hD).length=hs.length:=wF _;have LT:(ts.map dX).length=hs.length:=by rw[wF,tl]
  generalize D.lst (ns.map D.int)=C at*;generalize dg (M:Int) hs=lay at*;generalize allB hs ts=bo at*;generalize ts.map dX=I at*;refine oSet rfl ?_;rfl';refine eL ?_;rfl'
  refine jW [.int (n3%((hs.map hD).length:Int)),.int ((hs.map hD).length:Int),od] (λ _=>MS C k lay (.tup I) (.bl bo) od) (.mk ..) ?_ ?_
  .rintro j hj _ ⟨n,a7,a8,a9,aa,ab⟩
   generalize[D.int (n3%((hs.map hD).length:Int)),.int ((hs.map hD).length:Int),od][j]=nu
   have g1:=Q3 n (show((hs.map hD).length:Int)≠0 by omega)
   have g2:=QV n (show(0:Int)<((hs.map hD).length:Int)by omega)
   obtain⟨i,hi⟩:∃i:Nat,n%((hs.map hD).length:Int)=(i:Int):=⟨(n%((hs.map hD).length:Int)).toNat,by omega⟩
   rw[hi]at g1 g2
   have e8:=gc (hs:=hs) (i:=i) (by omega)
   rw[<- hi]at e8
   have l7:=h7 _ (nv (hs:=hs) (i:=i) (by omega))
   generalize G hs i=h at*
   refine oSet rfl ?_
   rfl'
   refine cB (h.map .int) (λ j acc o=>∃(n':Int) (cs:List Int),acc=cs.map .int/\o=[.pu C,.pu (.int k),.ow false [.int n'],.pu lay,.pu (.tup I),.pu (.bl bo),.pu od,.pu nu,.pu (hD h),a9,aa,ab]/\cs.Sublist (h.take j)) rfl (by rfl') (by simp;omega) ⟨_,[],rfl,rfl,by simp⟩ ?_ ?_
   .rintro j hj acc _ ha hl ⟨n,cs,rfl,rfl,J⟩
    have ao:j<h.length:=by simpa using hj
    rw[YW]
    have tk:h.take (j+1)=h.take j++[h[j]]:=List.take_succ_eq_append_getElem ao
    have e2:=dz false (n%2) 0
    by_cases q2:n%2=0
    .rw[fN q2]at e2
     rfl'
     exact⟨_,cs++[h[j]],by simp,rfl,by rw[tk];exact J.append (List.Sublist.refl _)⟩
    .rw[gL q2]at e2
     rfl'
     exact⟨_,cs,by simp,rfl,by rw[tk];exact J.trans (List.sublist_append_left _ _)⟩
   rintro _ _- -⟨n4,cs,rfl,rfl,J⟩
   rw[wF,List.take_length]at J
   have lc:=J.length_le
   have c1:=LP (cs.map .int) [.int (M:Int)] (by simp;omega) (by simp)
   rfl'
   refine AI [.tup (cs.map .int),hD h,.tup [],.tup (cs.map D.int).reverse,.lst (cs.map .int),.tup (cs.map .int++[.int (M:Int)]),.tup [.int (n4%7)],od] (λ _=>MI C k (n4/7) lay (.tup I) (.bl bo) od nu (hD h) (.tup (cs.map .int))) ?_ ?_ ?_
   .rfl'
    exact .mk ..
   .rintro j hj _ ⟨aa,ab⟩
    have sh:∀x∈[D.tup (cs.map .int),hD h,.tup [],.tup (cs.map D.int).reverse,.lst (cs.map .int),.tup (cs.map .int++[.int (M:Int)]),.tup [.int (n4%7)],od],Short x:=by
     intro x hx
     simp only[wR,ZA,YH]at hx
     rcases hx with rfl|rfl|rfl|rfl|rfl|rfl|rfl|rfl
     .exact ee (by simp;omega)
     .exact ee (by simp;omega)
     .exact ee (by simp)
     .exact ee (by simp;omega)
     .exact λ xs e=>by cases e
     .exact ee (by simp;omega)
     .exact ee (by simp)
     .exact so
    have:=sh _ (QN hj)
    generalize[D.tup (cs.map .int),hD h,.tup [],.tup (cs.map D.int).reverse,.lst (cs.map .int),.tup (cs.map .int++[.int (M:Int)]),.tup [.int (n4%7)],od][j]=x at*
    obtain⟨r,f1,f2,f3⟩:=two nu this
    refine oSet rfl ?_
    rfl'
    exact .mk ..
   .rintro _ ⟨aa,ab⟩
    have c2:=LP I [.tup []] (by omega) (by simp)
    rfl'
    generalize hL:[D.tup (cutD I (some 1) none),.lst I,.non,.tup (I++[.tup []])]=U
    refine jW U (λ _=>MI C k (n4/7) lay (.tup I) (.bl bo) od nu (hD h) (.tup (cs.map .int))) (.mk ..) ?_ ?_
    .rintro j hj _ ⟨aa,ab⟩
     have no:∀x∈U,bU iK kg [lay,x]=some (.bl false):=by
      intro x hx
      rw[<- hL]at hx
      simp only[wR,ZA,YH]at hx
      rcases hx with rfl|rfl|rfl|rfl
      .rw[show(some (1:Int))=some ((1:Nat):Int)from rfl,jV]
       refine bad (λ us e x hx=>by cases e;exact lim x (List.mem_of_mem_drop hx)) ?_
       show(decide _&&_)=false
       rw[gL (by rw[List.length_drop];omega)];rfl
      .exact bad (λ us e=>by cases e) rfl
      .exact bad (λ us e=>by cases e) rfl
      .refine bad (λ us e x hx=>by
        cases e
        rcases QD.mp hx with z|z
        .exact lim x z
        .rw[wW.mp z];exact λ rows e=>by cases e;simp) ?_
       show(decide _&&_)=false
       rw[gL (by rw[QC,List.length_singleton];omega)];rfl
     have:=no _ (QN hj)
     generalize U[j]=x at*
     have f1:bU qW (my C1 C2 C3 kn) [lay,x,nu,od]=some (.str (Str.ofString "! tables")):=pK ah (FA this)
     have f2:bU Je (Cu C3 kn) [lay,x]=some (.str (Str.ofString "! tables")):=rk ah this
     have f3:km true (.str (Str.ofString "! tables")) (.str (Str.ofString "! tables"))=some (.bl false):=l3 (Str.ofString "! tables")
     refine oSet rfl ?_
     rfl'
     exact .mk ..
    .rintro _ ⟨aa,ab⟩
     exact .mk ..
  .rintro _ ⟨n,a7,a8,a9,aa,ab⟩
   exact .mk ..
 .rintro _ ⟨a1,a2,a3,a4,a5,a6,a7,a8,a9,aa,ab⟩
  generalize D.lst (ns.map D.int)=C at*
  have f1:=K9
  have f2:=Ly
  refine oBind (Mx ?_)
  rfl'
  refine .t ?_
  rfl'
end K62
namespace K62
open PySem L2 Jt
noncomputable abbrev cV:Stmt:=top 50
abbrev g0:List Str:=["_law_e","_law_kinds","_law_words"]
theorem jl:cx g0 ["_law_e"] (bj cV):=⟨rfl,rfl,rfl,by decide+kernel,rfl,by decide+kernel,by decide+kernel⟩
noncomputable def gk:List Str:=["! head","! column","! tree","! tables","! number","! row","! text","! bound","! many","! layout","! order","! deed"]
section
variable {P:Program} {w:World} {K:PySem.W.Frag} {mg:Str->Option Value} {base:Heap}
noncomputable abbrev xk(P:Program)(w:World)(K:PySem.W.Frag)(mg:Str->Option Value)(base:Heap)(f:Addr)(cdv:Value)(A:Around)(outer:List Env)(s:Shared)(H:Hp)(a:Addr)(o:Obj):Cx:=KH P w K mg base g0 "_law_kind" (bj cV) f cdv A outer s H a o
structure sG (K:PySem.W.Frag) (mg:Str->Option Value) (D:Addr) (cs:List Addr) (bs:List Bool):Prop where
 mi:mg "isinstance" = none
 mv:mg "ValueError" = none
 ve:PySem.W.kitOne K (.ref D) (.type "ValueError")=some true
 ms:(["NoHead","NoColumn","NoTree","NoTables","NoNumber","NoRow","NoText","Bound","TooMany","NoLayout","NoOrder","NoDeed"]:List Str).map mg=cs.map fun C=>some (.ref C)
 ks:cs.map (fun C=>PySem.W.kitOne K (.ref D) (.ref C))=bs.map some
noncomputable def JO(a:Addr)(p q r t:Bool):TE:=Fs (dW (qm 0 a p) (dW (qm 0 a q) (dW (qm 0 a r) (dW (qm 0 a t) ti))))
noncomputable def zw(K:PySem.W.Frag)(a:Addr)(b1 J U b4 b5 b6 b7 b8 b9 o C I:Bool):TS:=
 xM (ko (JO a b1 J U b4) (gH 1)) (xM (ko (uO vx (ql 1) (JO a b5 b6 b7 b8)) (gH 1)) (xM (ko (uO vx (ql 1) (JO a b9 o C I)) (gH 1))
  (xM (Ke (N5 (KS (λ σ H Q=>qm 0 a true σ H λ x H'=>∃k,FG K x H' k/\Q k H')) (rh (uO LK (Mr K "list" o5 (ql 1) (dW (tC (.bl true)) ti)) (tC (.int 1))))) (Ie (tC (.str "! other"))) GD)
  (xM (ko (Fs (dW (tC (.str "! head")) (dW (tC (.str "! column")) (dW (tC (.str "! tree")) (dW (tC (.str "! tables")) (dW (tC (.str "! number")) (dW (tC (.str "! row")) (dW (tC (.str "! text")) (dW (tC (.str "! bound")) (dW (tC (.str "! many")) ti)))))))))) (gH 2))
  (Ie (uO (Nj K) (uO vx (ql 2) (Fs (dW (tC (.str "! layout")) (dW (tC (.str "! order")) (dW (tC (.str "! deed")) ti))))) (Mr K "list" uV (ql 1) (dW (tC (.bl true)) ti))))))))
theorem Dr{f D c1 c2 c3 c4 c5 c6 c7 c8 c9 ab ae af:Addr}{b1 b2 b3 b4 b5 b6 b7 b8 b9 J U aa:Bool}{cdv:Value}{A:Around}{outer:List Env}{s:Shared}{H:Hp}{a:Addr}{o:Obj}(E:lb K D)(Z:sG K mg D [c1,c2,c3,c4,c5,c6,c7,c8,c9,ab,ae,af] [b1,b2,b3,b4,b5,b6,b7,b8,b9,J,U,aa])(z:Ck (.ref D) o):
  mV (xk P w K mg base f cdv A outer s H a o) (bR cV) (zw K a b1 b2 b3 b4 b5 b6 b7 b8 b9 J U aa):=by
 have ms:=Z.ms;have ks:=Z.ks;simp only[QM,YF,List.cons.injEq,and_true]at ms ks;obtain⟨m1,m2,m3,m4,m5,m6,m7,m8,m9,ag,ah,ai⟩:=ms;obtain⟨k1,k2,k3,k4,k5,k6,k7,k8,k9,aj,ak,ao⟩:=ks;have mem:(a,o)∈(xk P w K mg base f cdv A outer s H a o).pn:=uL;have I:∀{y:Str}{C:Addr}{b:Bool}{p1 p2 p3 p4:Pos},PySem.W.kitOne K (.ref D) (.ref C)=some b->mg y=some (.ref C)->Gl (xk P w K mg base f cdv A outer s H a o) y->(y==("__debug__":Str))=false->PE (xk P w K mg base f cdv A outer s H a o) (.Call (.Name "isinstance" p1) [.Name "_law_e" p2,.Name y p3] [] p4) (qm 0 a b):=
  λ{y C b p1 p2 p3 p4} e m g d=>Ic (X:=xk P w K mg base f cdv A outer s H a o) (i:=0) (x:="_law_e") E mem z e Z.mi m rfl (.inl rfl) rfl g (by decide) (by decide) d;have aq:∀{p1 p2 p3 p4:Pos},PE (xk P w K mg base f cdv A outer s H a o) (.Call (.Name "isinstance" p1) [.Name "_law_e" p2,.Name "ValueError" p3] [] p4) (qm 0 a true):=
  λ{p1 p2 p3 p4}=>CJ (X:=xk P w K mg base f cdv A outer s H a o) (i:=0) (x:="_law_e") E mem z Z.ve Z.mi Z.mv (by decide+kernel) rfl (.inl rfl) rfl rfl (by decide) (by decide) (by decide) (by decide);have kn:∀{p:Pos},PE (xk P w K mg base f cdv A outer s H a o) (.Name "_law_kinds" p) (ql 1):= λ{p}=>cY rfl (.inl rfl);have wn:∀{p:Pos},PE (xk P w K mg base f cdv A outer s H a o) (.Name "_law_words" p) (ql 2):= λ{p}=>cY rfl (.inl rfl);have nd:=jl.nd;unfold zw;refine f6 ?_ ?_;. exact g7 (X:=xk P w K mg base f cdv A outer s H a o) (i:=1) (x:="_law_kinds") nd rfl (.inl rfl) (jH (bA (I k1 m1 rfl rfl) (bA (I k2 m2 rfl rfl) (bA (I k3 m3 rfl rfl) (bA (I k4 m4 rfl rfl) cy))))) rfl (.inr rfl)
 refine f6 ?_ ?_;. exact g7 (X:=xk P w K mg base f cdv A outer s H a o) (i:=1) (x:="_law_kinds") nd rfl (.inl rfl) (rj ky kn (jH (bA (I k5 m5 rfl rfl) (bA (I k6 m6 rfl rfl) (bA (I k7 m7 rfl rfl) (bA (I k8 m8 rfl rfl) cy)))))) rfl (.inr rfl)
 refine f6 ?_ ?_;. exact g7 (X:=xk P w K mg base f cdv A outer s H a o) (i:=1) (x:="_law_kinds") nd rfl (.inl rfl) (rj ky kn (jH (bA (I k9 m9 rfl rfl) (bA (I aj ag rfl rfl) (bA (I ak ah rfl rfl) (bA (I ao ai rfl rfl) cy)))))) rfl (.inr rfl)
 refine f6 ?_ ?_;. exact Gr (PW.pt (FW (zL (sR aq (by intro _;rfl))) (zf (qj zy (vA YA PySem.F.slot_list_count PySem.F.type_list_count x8 kn (bA vV cy)) qb rfl)))) (kz (qA dY)) u_
 refine f6 ?_ ?_;. exact g7 (X:=xk P w K mg base f cdv A outer s H a o) (i:=2) (x:="_law_words") nd rfl (.inl rfl) (jH (bA dY (bA dY (bA dY (bA dY (bA dY (bA dY (bA dY (bA dY (bA dY cy)))))))))) rfl (.inr rfl)
 exact kz (qA (AY AG (rj ky wn (jH (bA dY (bA dY (bA dY cy))))) (vA YA PySem.F.slot_list_index PySem.F.type_list_index xC kn (bA vV cy)) (λ _ _=>rfl)))
theorem fQ:upd H p v p=some v:=by simp[upd]
theorem gj{v u:HO}(h:H q=some u)(o:H p=none):upd H p v q=some u:=by
 have:q≠p:= λ e=>by rw[e,o]at h;cases h
 simp[upd,this,h]
theorem fE(s:jv H H')(h:H' p=none):jv H (upd H' p v):= λ b o e=>gj (s b o e) h
theorem Bf{b1 J U b4 b5 b6 b7 b8 b9 o C I:Bool}{Q:VK}{H:Hp}{j:Nat}{wd:Str}(hc:[b1,J,U,b4,b5,b6,b7,b8,b9,o,C,I].count true=1)(hj:[b1,J,U,b4,b5,b6,b7,b8,b9,o,C,I][j]?=some true)
  (aa:∀m,m<j->[b1,J,U,b4,b5,b6,b7,b8,b9,o,C,I][m]?=some false)(hw:gk[j]?=some wd)(hQ:∀H',jv H H'->Q (.str wd) H'):
  zw K a b1 J U b4 b5 b6 b7 b8 b9 o C I { nx:= λ _ H'=>Q .non H',rt:=Q } (L2.start g0 [.ref a]) H:=by have s0:jv H H:= λ _ _ e=>e;refine⟨rfl,rfl,rfl,rfl,show 4<=sizeLine by decide,λ p1 n1=>?_⟩;have s1:=fE (v:= .lst [.bl b1,.bl J,.bl U,.bl b4]) s0 n1;refine⟨.ref p1,rfl,rfl,rfl,rfl,rfl,show 4<=sizeLine by decide,λ p2 n2=>?_⟩;have s2:=fE (v:= .lst [.bl b5,.bl b6,.bl b7,.bl b8]) s1 n2;refine⟨p1,p2,_,_,rfl,rfl,.inl (gj fQ n2),.inl fQ,show 8<=sizeLine by decide,λ p3 n3=>?_⟩;have s3:=fE (v:= .lst ([.bl b1,.bl J,.bl U,.bl b4]++[.bl b5,.bl b6,.bl b7,.bl b8])) s2 n3;refine⟨.ref p3,rfl,rfl,rfl,rfl,rfl,show 4<=sizeLine by decide,λ p4 n4=>?_⟩;have s4:=fE (v:= .lst [.bl b9,.bl o,.bl C,.bl I]) s3 n4;refine⟨p3,p4,_,_,rfl,rfl,.inl (gj fQ n4),.inl fQ,show 12<=sizeLine by decide,λ p5 n5=>?_⟩;have s5:=fE (v:= .lst ([b1,J,U,b4,b5,b6,b7,b8,b9,o,C,I].map V.bl)) s4 n5;refine⟨rfl,true,rfl,?_⟩;show rh (uO LK (Mr K "list" o5 (ql 1) (dW (tC (.bl true)) ti)) (tC (.int 1))) _ _ _;refine⟨.ref p5,rfl,.inl ⟨rfl,_,.inl (.inl fQ)⟩,p5,[b1,J,U,b4,b5,b6,b7,b8,b9,o,C,I],rfl,rfl,fQ,rfl,_,rfl,?_⟩;dsimp only;rw[hc,QB (by decide)];refine⟨show 9<=sizeLine by decide,λ p6 n6=>?_⟩;have s6:=fE (v:= .lst ((gk.take 9).map V.str)) s5 n6;refine⟨.ref p6,rfl,show 3<=sizeLine by decide,λ p7 n7=>?_⟩;have s7:=fE (v:= .lst ((gk.drop 9).map V.str)) s6 n7;refine⟨p6,p7,_,_,rfl,rfl,.inl (gj fQ n7),.inl fQ,show 12<=sizeLine by decide,λ p8 n8=>?_⟩;have s8:=fE (v:= .lst (gk.map V.str)) s7 n8;have h5:=gj (v:= .lst (gk.map V.str)) (gj (v:= .lst ((gk.drop 9).map V.str)) (gj (v:= .lst ((gk.take 9).map V.str)) (fQ (H:=_) (p:=p5) (v:= .lst ([b1,J,U,b4,b5,b6,b7,b8,b9,o,C,I].map V.bl))) n6) n7) n8;refine⟨.ref p5,rfl,.inl ⟨rfl,_,.inl (.inl h5)⟩,p5,[b1,J,U,b4,b5,b6,b7,b8,b9,o,C,I],j,rfl,rfl,h5,by simp,hj,aa,.inl ⟨p8,_,j,.str wd,rfl,rfl,.inl (.inl fQ),?_,hQ _ s8⟩⟩;show jb (gk.map V.str) (j:Int)=some (.str wd);exact L2.atI_nat (by rw[QH,hw];rfl)
theorem gn{f D c1 c2 c3 c4 c5 c6 c7 c8 c9 aa ab ae:Addr}{fd:FuncData}{b1 U b3 b4 b5 b6 b7 b8 b9 C I J:Bool}{j:Nat}{wd:Str}(F:yn K "_law_kind" "_law_kind" cV f fd)(E:lb K D)
  (Z:sG K mg D [c1,c2,c3,c4,c5,c6,c7,c8,c9,aa,ab,ae] [b1,U,b3,b4,b5,b6,b7,b8,b9,C,I,J])(hc:[b1,U,b3,b4,b5,b6,b7,b8,b9,C,I,J].count true=1)(hj:[b1,U,b3,b4,b5,b6,b7,b8,b9,C,I,J][j]?=some true)
  (af:∀m,m<j->[b1,U,b3,b4,b5,b6,b7,b8,b9,C,I,J][m]?=some false)(hw:gk[j]?=some wd):Mq P w K mg base (k+1) f fd ["_law_e"] D (.str wd):=
 Oe F jl rfl λ cdv A outer s H a o z _=>⟨_,Dr E Z z,λ Q hQ=>Bf hc hj af hw hQ⟩
end
theorem Kl {us:List Value} (h:us.length=1):∃a,us=[a]:=by match us,h with | [a],_=>exact ⟨a,rfl⟩
noncomputable def vY (c0 c1 c2:Addr):Addr->Option Str:=fun C=>if C=c0 then some "! column" else if C=c1 then some "! head" else if C=c2 then some "! tables" else none
theorem si {c0 c1 c2 C:Addr} {x:Str} (h:vY c0 c1 c2 C=some x):(C=c0∧x = "! column") ∨ (C=c1∧x = "! head") ∨ (C=c2∧x = "! tables"):= by
 unfold vY at h
 repeat' split at h
 all_goals simp_all
theorem JE {c0 c1 c2:Addr} :vY c0 c1 c2 c0=some "! column":=by simp [vY]
theorem Fm {c0 c1 c2:Addr} (h0:c1 ≠ c0):vY c0 c1 c2 c1=some "! head":=by simp [vY,h0]
theorem Dm {c0 c1 c2:Addr} (h0:c2 ≠ c0) (h1:c2 ≠ c1):vY c0 c1 c2 c2=some "! tables":=by simp [vY,h0,h1]
theorem all_mk {l:PySem.W.OpenLaw} {w:World} {K:PySem.W.Frag} {h:Heap} {mg:Str->Option Value} {fa:Addr} (X:K.In h) (G:h.Ns mainGlobals mg) (hfa:mg "law" = some (.ref fa))
  {i0q:Addr} {i2l i2m:Option Addr} {i2n:Array (Option Value)} {i2o i2p i2q i2r i15 i2t:Value}
  {i02 i01 i0h i00 i07 i0k i0i i0l i0b i08 i0c i0j i04:Addr}
  (i4r:PySem.W.nsIn K mainGlobals "NoHead" = some (some (.ref i02)))
  (i41:PySem.W.nsIn K mainGlobals "NoColumn" = some (some (.ref i01)))
  (i4s:PySem.W.nsIn K mainGlobals "NoTree" = some (some (.ref i0h)))
  (i42:PySem.W.nsIn K mainGlobals "NoTables" = some (some (.ref i00)))
  (i43:PySem.W.nsIn K mainGlobals "NoNumber" = some (some (.ref i07)))
  (i4z:PySem.W.nsIn K mainGlobals "NoRow" = some (some (.ref i0k)))
  (i4t:PySem.W.nsIn K mainGlobals "NoText" = some (some (.ref i0i)))
  (i50:PySem.W.nsIn K mainGlobals "Bound" = some (some (.ref i0l)))
  (i4m:PySem.W.nsIn K mainGlobals "TooMany" = some (some (.ref i0b)))
  (i44:PySem.W.nsIn K mainGlobals "NoLayout" = some (some (.ref i08)))
  (i4n:PySem.W.nsIn K mainGlobals "NoOrder" = some (some (.ref i0c)))
  (i4u:PySem.W.nsIn K mainGlobals "NoDeed" = some (some (.ref i0j)))
  (i35:PySem.W.nsIn K mainGlobals "JoinError" = some (some (.ref i04)))
  (u_ve:PySem.W.nsIn K mainGlobals "ValueError" = some none) (i45:PySem.W.nsIn K mainGlobals "isinstance" = some none)
  (i46:lb K i01) (i47:PySem.W.excIn K i01 [.type "ValueError",.type "Exception",.type "BaseException",.type "object"] "ValueError.__new__" = true)
  (i2u:PySem.W.kitOne K (.ref i01) (.type "ValueError")=some true) (i2v:PySem.W.exmOne K (.ref i01) (.ref i04)=some true)
  (i0d:PySem.W.kitOne K (.ref i01) (.ref i02)=some false)
  (i09:PySem.W.kitOne K (.ref i01) (.ref i01)=some true)
  (i1g:PySem.W.kitOne K (.ref i01) (.ref i0h)=some false)
  (i0a:PySem.W.kitOne K (.ref i01) (.ref i00)=some false)
  (i0y:PySem.W.kitOne K (.ref i01) (.ref i07)=some false)
  (i1v:PySem.W.kitOne K (.ref i01) (.ref i0k)=some false)
  (i1h:PySem.W.kitOne K (.ref i01) (.ref i0i)=some false)
  (i1w:PySem.W.kitOne K (.ref i01) (.ref i0l)=some false)
  (i16:PySem.W.kitOne K (.ref i01) (.ref i0b)=some false)
  (i0z:PySem.W.kitOne K (.ref i01) (.ref i08)=some false)
  (i17:PySem.W.kitOne K (.ref i01) (.ref i0c)=some false)
  (i1i:PySem.W.kitOne K (.ref i01) (.ref i0j)=some false)
  (i4v:lb K i02) (i4w:PySem.W.excIn K i02 [.type "ValueError",.type "Exception",.type "BaseException",.type "object"] "ValueError.__new__" = true)
  (i48:PySem.W.kitOne K (.ref i02) (.type "ValueError")=some true) (i49:PySem.W.exmOne K (.ref i02) (.ref i04)=some true)
  (i0o:PySem.W.kitOne K (.ref i02) (.ref i02)=some true)
  (i1j:PySem.W.kitOne K (.ref i02) (.ref i01)=some false)
  (i27:PySem.W.kitOne K (.ref i02) (.ref i0h)=some false)
  (i0e:PySem.W.kitOne K (.ref i02) (.ref i00)=some false)
  (i1k:PySem.W.kitOne K (.ref i02) (.ref i07)=some false)
  (i2b:PySem.W.kitOne K (.ref i02) (.ref i0k)=some false)
  (i28:PySem.W.kitOne K (.ref i02) (.ref i0i)=some false)
  (i2c:PySem.W.kitOne K (.ref i02) (.ref i0l)=some false)
  (i1x:PySem.W.kitOne K (.ref i02) (.ref i0b)=some false)
  (i1l:PySem.W.kitOne K (.ref i02) (.ref i08)=some false)
  (i1y:PySem.W.kitOne K (.ref i02) (.ref i0c)=some false)
  (i29:PySem.W.kitOne K (.ref i02) (.ref i0j)=some false)
  (i4a:lb K i00) (i4b:PySem.W.excIn K i00 [.type "ValueError",.type "Exception",.type "BaseException",.type "object"] "ValueError.__new__" = true)
  (i2w:PySem.W.kitOne K (.ref i00) (.type "ValueError")=some true) (i2x:PySem.W.exmOne K (.ref i00) (.ref i04)=some true)
  (i1m:PySem.W.kitOne K (.ref i00) (.ref i02)=some false)
  (i10:PySem.W.kitOne K (.ref i00) (.ref i01)=some false)
  (i1n:PySem.W.kitOne K (.ref i00) (.ref i0h)=some false)
  (i11:PySem.W.kitOne K (.ref i00) (.ref i00)=some true)
  (i13:PySem.W.kitOne K (.ref i00) (.ref i07)=some false)
  (i20:PySem.W.kitOne K (.ref i00) (.ref i0k)=some false)
  (i1o:PySem.W.kitOne K (.ref i00) (.ref i0i)=some false)
  (i21:PySem.W.kitOne K (.ref i00) (.ref i0l)=some false)
  (i18:PySem.W.kitOne K (.ref i00) (.ref i0b)=some false)
  (i14:PySem.W.kitOne K (.ref i00) (.ref i08)=some false)
  (i19:PySem.W.kitOne K (.ref i00) (.ref i0c)=some false)
  (i1p:PySem.W.kitOne K (.ref i00) (.ref i0j)=some false)
  (i0f:PySem.W.nsIn K mainGlobals "_law_kind" = some (some (.ref i0q))) (i36:K.lookup i0q=some ⟨i2o,i2l,.func (PySem.W.fnOf "_law_kind" "_law_kind" (eD cV) (bR cV) (bj cV) .none i2p i2q i2r i2m i15 i2t),i2n⟩) (i37:PySem.W.codeIn K i15 "_law_kind" = true) (i0r:PySem.W.keepIn K (.ref i0q)=true)
  (i38:Fh K "_law_cell" (top 37))
  (i4c:Fh K "_law_mix" (top 38))
  (i4d:Fh K "_law_box" (top 39))
  (i39:Fh K "_law_take" (top 40))
  (i2f:Fh K "_law_barred" (top 43))
  (i2y:Fh K "_law_named" (top 44))
  (i3a:Fh K "_law_head" (top 41))
  (i30:Fh K "_law_grown" (top 42))
  (i2g:Fh K "_law_layout" (top 45))
  (i3b:Fh K "_law_rows" (top 48))
  (i2h:Fh K "_law_tables" (top 49))
  (i3c:Fh K "is_rising" (top 18))
  (i4e:Fh K "is_whole" (top 15))
  (i4f:Fh K "is_below" (top 16))
  (i3d:Fh K "are_below" (top 17))
  (i4g:Fh K "is_table" (top 28))
  (i31:Fh K "are_tables" (top 29))
  (i0x:Fh K "need_tables" (top 30))
  (i1q:Fh K "need_head" (top 23))
  (i4x:Fh K "common" (top 24))
  (i3e:Fh K "places_in" (top 20))
  (i3f:Fh K "at_places" (top 21))
  (i4o:Fh K "part_of" (top 31))
  (i3g:Fh K "two_agree" (top 33))
  (i3h:Fh K "all_agree" (top 34))
  (i3l:Fh K "agree" (top 35))
  (i4h:Fh K "_law_odd" (top 47))
  (i4i:Fh K "_law_has" (top 51))
  (i32:Fh K "_law_agree" (top 54))
  (i2i:Fh K "are_some_of" (top 19))
  (i33:Fh K "columns_of" (top 32))
  (i3i:Fh K "_law_told" (top 52))
  (i34:Fh K "_law_whole" (top 46))
  (i4j:Fh K "_law_due" (top 53))
  (i2a:Fh K "_law_agreeing" (top 55))
  (i51:Fh K "law" (top 56))
  (z:PySem.W.nsIn K mainGlobals "all" = some none∧PySem.W.nsIn K mainGlobals "bool" = some none∧PySem.W.nsIn K mainGlobals "divmod" = some none∧PySem.W.nsIn K mainGlobals "int" = some none∧PySem.W.nsIn K mainGlobals "isinstance" = some none∧PySem.W.nsIn K mainGlobals "len" = some none∧PySem.W.nsIn K mainGlobals "list" = some none∧PySem.W.nsIn K mainGlobals "max" = some none∧PySem.W.nsIn K mainGlobals "min" = some none∧PySem.W.nsIn K mainGlobals "range" = some none∧PySem.W.nsIn K mainGlobals "set" = some none∧PySem.W.nsIn K mainGlobals "sorted" = some none∧PySem.W.nsIn K mainGlobals "tuple" = some none∧PySem.W.nsIn K mainGlobals "zip" = some none)
  {i4p:Tok} (i4q:PySem.W.nsIn K mainGlobals "FIGURES" = some (some (.int 10 i4p)))
  {i3j:Tok} (i3k:PySem.W.nsIn K mainGlobals "MOST_ROWS" = some (some (.int 625 i3j)))
 :∃fd:FuncData,(∀(s:Shared) (v:Value),BindsTo s fd ⟨[v],[]⟩ [("_law_script",v)])∧∀base:Heap,K.In base->base.Ns mainGlobals mg->d8 l.prog w K mg base fS 9 fa fd ["_law_script"] tW:= by
 have m:Bi mg:=⟨QG X G z.1,QG X G z.2.1,QG X G z.2.2.1,QG X G z.2.2.2.1,QG X G z.2.2.2.2.1,QG X G z.2.2.2.2.2.1,QG X G z.2.2.2.2.2.2.1,QG X G z.2.2.2.2.2.2.2.1,QG X G z.2.2.2.2.2.2.2.2.1,QG X G z.2.2.2.2.2.2.2.2.2.1,QG X G z.2.2.2.2.2.2.2.2.2.2.1,QG X G z.2.2.2.2.2.2.2.2.2.2.2.1,QG X G z.2.2.2.2.2.2.2.2.2.2.2.2.1,QG X G z.2.2.2.2.2.2.2.2.2.2.2.2.2,⟨_,Q8 X G i4q⟩,⟨_,Q8 X G i3k⟩⟩
 have i0m:=sY (st:=cV) i36 i37 i0r
 have i1r:=i0m.binds (ps:=["_law_e"]) fun _ _ _ _ _ _ us hl=>by obtain ⟨_,rfl⟩:=Kl hl;rfl
 have i1t:=Q8 X G i0f
 have i0g:=Q8 X G i4r
 have i06:=Q8 X G i41
 have i22:=Q8 X G i4s
 have i05:=Q8 X G i42
 have i0v:=Q8 X G i43
 have i2d:=Q8 X G i4z
 have i23:=Q8 X G i4t
 have i2e:=Q8 X G i50
 have i1a:=Q8 X G i4m
 have i0w:=Q8 X G i44
 have i1b:=Q8 X G i4n
 have i24:=Q8 X G i4u
 have i1u:=Q8 X G i35
 have i4k:sG K mg i01 [i02,i01,i0h,i00,i07,i0k,i0i,i0l,i0b,i08,i0c,i0j] [false,true,false,false,false,false,false,false,false,false,false,false]:=⟨QG X G i45,QG X G u_ve, i2u,by simp only [QM,YF,i0g,i06,i22,i05,i0v,i2d,i23,i2e,i1a,i0w,i1b,i24],by simp only [QM,YF,i0d,i09,i1g,i0a,i0y,i1v,i1h,i1w,i16,i0z,i17,i1i]⟩
 have i4y:sG K mg i02 [i02,i01,i0h,i00,i07,i0k,i0i,i0l,i0b,i08,i0c,i0j] [true,false,false,false,false,false,false,false,false,false,false,false]:=⟨QG X G i45,QG X G u_ve, i48,by simp only [QM,YF,i0g,i06,i22,i05,i0v,i2d,i23,i2e,i1a,i0w,i1b,i24],by simp only [QM,YF,i0o,i1j,i27,i0e,i1k,i2b,i28,i2c,i1x,i1l,i1y,i29]⟩
 have i4l:sG K mg i00 [i02,i01,i0h,i00,i07,i0k,i0i,i0l,i0b,i08,i0c,i0j] [false,false,false,true,false,false,false,false,false,false,false,false]:=⟨QG X G i45,QG X G u_ve, i2w,by simp only [QM,YF,i0g,i06,i22,i05,i0v,i2d,i23,i2e,i1a,i0w,i1b,i24],by simp only [QM,YF,i1m,i10,i1n,i11,i13,i20,i1o,i21,i18,i14,i19,i1p]⟩
 have h1_0:i02 ≠ i01:=fun z=>by rw [z,i09] at i0d;cases i0d
 have h2_0:i00 ≠ i01:=fun z=>by rw [z,i09] at i0a;cases i0a
 have h2_1:i00 ≠ i02:=fun z=>by rw [z,i0o] at i0e;cases i0e
 exact M7 X G hfa i51 (fun _ _ _ _ _ _ s v=>.of_eq rfl) eT (fun base=>by
  have W:M8 l.prog w K mg base 7 _ i04 _ ["_law_e"] (vY i01 i02 i00):=⟨fun C x h=>by
    rcases si h with ⟨rfl,rfl⟩ | ⟨rfl,rfl⟩ | ⟨rfl,rfl⟩
    .exact gn (P:=l.prog) (w:=w) (base:=base) (k:=6) (j:=1) i0m i46 i4k rfl rfl (by decide) rfl
    .exact gn (P:=l.prog) (w:=w) (base:=base) (k:=6) (j:=0) i0m i4v i4y rfl rfl (by decide) rfl
    .exact gn (P:=l.prog) (w:=w) (base:=base) (k:=6) (j:=3) i0m i4a i4l rfl rfl (by decide) rfl,fun C x h=>by
    rcases si h with ⟨rfl,rfl⟩ | ⟨rfl,rfl⟩ | ⟨rfl,rfl⟩
    .exact i2v
    .exact i49
    .exact i2x⟩
  let C:Cw:=⟨l.prog,w,K,mg,base⟩
  have i3m:ke.H C 1:=ke.h (dh X G i38) m
  have i3n:oM.H C 1:=oM.h (dh X G i4c)
  have i3y:oH.H C 2:=oH.h (dh X G i4d) m i3m.u i3n.u
  have i03:fI.H C 1:=fI.h (dh X G i39) m
  have G_q2:xn.H C 2:=xn.h (dh X G i2f) m i03.u
  have i25:nU.H C 2:=nU.h (dh X G i2y) m i03.u
  have i0s:mn.H C 2:=mn.h (dh X G i3a) m i03.u
  have G_q8:xo.H C 3:=xo.h (dh X G i30) m i0s.u i03.u
  have G_q4:yb.H C 4:=yb.h (dh X G i2g) m G_q2.u G_q8.u i0s.u i25.u i03.u
  have i3o:nQ.H C 2:=nQ.h (dh X G i3b) m i03.u
  have G_q3:xD.H C 3:=xD.h (dh X G i2h) m i3o.u i03.u
  have i1d:je.H C 1:=je.h (dh X G i3c) m
  have i1c:kG.H C 1:=kG.h (dh X G i4e) m
  have i0n:kb.H C 2:=kb.h (dh X G i4f) i1c.u
  have i3p:nD.H C 3:=nD.h (dh X G i3d) m i0n.u
  have i3q:oz.H C 4:=oz.h (dh X G i4g) m i3p.u i1d.u
  have i1e:qJ.H C 5:=qJ.h (dh X G i31) m i3q.u
  have G_q1:wD.H C 6:=wD.h (dh X G i0x) i1e.u
  have G_q5:xU.H C 3:=xU.h (dh X G i1q) m i0n.u
  have i3t:vg.H C 4:=vg.h (dh X G i4x) m G_q5.u
  have i3s:oJ.H C 1:=oJ.h (dh X G i3e)
  have i3r:og.H C 1:=og.h (dh X G i3f) m
  have i0t:lH.H C 2:=lH.h (dh X G i4o) m i3r.u i3s.u
  have i3u:oZ.H C 5:=oZ.h (dh X G i3g) i3t.u i0t.u
  have i1f:kO.H C 6:=kO.h (dh X G i3h) m i3u.u
  have i26:vy.H C 7:=vy.h (dh X G i3l) i1f.u G_q1.u
  have i40:ou.H C 2:=ou.h (dh X G i4h) m i03.u
  have i0u:lB.H C 1:=lB.h (dh X G i4i) m
  have i3x:nY.H C 2:=nY.h (dh X G i32) m i0u.u
  have G_q7:(zK i00).H C 6:=(zK i00).h (dh X G i0x) ⟨i05,i4b⟩ i1e.u
  have i3v:(vR i02).H C 3:=(vR i02).h (dh X G i1q) m ⟨i0g,i4w⟩ i0n.u
  have G_q6:xN.H C 2:=xN.h (dh X G i2i) m i1d.u i1c.u
  have G_q9:(FJ i01 i02 i00).H C 7:=(FJ i01 i02 i00).h (dh X G i33) ⟨i06,i47⟩ G_q6.u i3v.u G_q7.u i0t.u
  have i2k:(j7 i01 i02 i00 (vY i01 i02 i00)).H C 8:=(j7 i01 i02 i00 (vY i01 i02 i00)).h (dh X G i3i) _ _ _ ⟨W,i1u,i1t,i0r,i1r⟩ G_q9.u
  have i2j:nJ.H C 1:=nJ.h (dh X G i34) m
  have i3z:iG.H C 2:=iG.h (dh X G i4j) m i0u.u i2j.u
  have i3w:(v_ i00).H C 7:=(v_ i00).h (dh X G i3l) i1f.u G_q7.u
  have G_q0:(ye i00 (vY i01 i02 i00)).H C 8:=(ye i00 (vY i01 i02 i00)).h (dh X G i2a) _ _ _ ⟨W,i1u,i1t,i0r,i1r⟩ i3w.u
  exact fun _ _ _ _ _ _ _ hr=>N9.h (c:=C) (vf _ _ _ _) hr m i3x.u G_q0.u i3y.u i3z.u G_q4.u i40.u G_q3.u i03.u i2k.u i26.u) fun _ _ _ F=>Fu F (wJ i01 i02 i00 (vY i01 i02 i00) JE (Fm h1_0) (Dm h2_0 h2_1))
end K62
open PySem PySem.W PyProof.Rows
set_option maxRecDepth 100000
set_option maxHeartbeats 0
namespace Hd
open PySem PySem.W PySem.Calls PyProof.Rows
def run (st:SharedT→Thread→Option (SharedT×Thread)) (ok:Thread→Bool):Nat→SharedT→Thread→Option SharedT
 |0,_,_=>none
 |n+1,s,t=>match through t with
  |true=>some s
  |false=>match ok t with
   |false=>none
   |true=>match st s t with
    |some (s',t')=>run st ok n s' t'
    |none=>none
theorem spec {p:Program} {w:World} {m:Nat} {a:Option Value}:∀ {n:Nat} {s s':SharedT} {t:Thread},run (stepT (denote treeTable) p w) (stepOk m a) n s t=some s'→topRun treeTable p w m a n s.abs t=some s'.abs
 |0,_,_,_,h=>by cases h
 |n+1,s,s',t,h=>by
  unfold run at h
  unfold topRun
  cases ht:through t with
  |true=>rw[ht] at h;cases h;rfl
  |false=>
   rw[ht] at h
   cases hk:stepOk m a t with
   |false=>rw[hk] at h;cases h
   |true=>
    rw[hk] at h
    cases hs:stepT (denote treeTable) p w s t with
    |none=>rw[hs] at h;cases h
    |some r=>obtain ⟨s2,t2⟩:=r;rw[hs] at h;rw[stepT_spec hs];exact spec h
noncomputable def S0 (w:World) (os:OsState):SharedT:=⟨(boot_heap w.params).objs.toList.zipIdx.foldl (fun t x=>t.ins x.2 x.1) BT.nil,11,(boot_heap w.params).life,Array.mk [],boot_drawn,boot_toks,os⟩
theorem S0_abs (w:World) (os:OsState):(S0 w os).abs=⟨boot_heap w.params,Array.mk [],boot_drawn,boot_toks,os⟩:=by kernel_rfl
theorem size (w:World):((boot_heap w.params).isNs mainGlobals && (Array.mk []:Array GenState).size==0,(boot_heap w.params).objs.size,(boot_heap w.params).nsMap mainGlobals "__annotations__")=(true,11,some (.ref 6)):=by kernel_rfl
noncomputable abbrev go (p:Program) (w:World) (os:OsState):Option SharedT:=run (Fast.tw10156331382660048174 (Fast.tw11892475500146522536 Fast.tw14364793385576792824) p w) (Fast.tw6613529449190102663 11 (some (.ref 6))) 8000 (S0 w os) (topStub p)
abbrev Xt (q:Program) (s:Shared):Bool:=xlAt q [] s && recOk [] s
noncomputable abbrev sn (p q:Program) (S:SharedT):=Fast.tw4187177175401517315 q [] (Fast.tw5923862056798008813 p.main.body) (Xt q) true S.abs
noncomputable abbrev ok (p:Program) (w:World) (S:SharedT):Bool:=staticsOk (importedModules p.main.body) (boot_heap w.params) S.abs.heap && namesBound p S.abs.heap && gensDone S.abs && laidKept (boot_heap w.params) S.abs.heap
theorem left {p q:Program} {α:Type} {Yf:Shared→α} {Ya:World→α} (e:opening p=plainProg p.main.scope.names) (f:∀ s,fenceModules? p s=some s)
  (u1:∀ w:World,(fun os=>(go p w os).map fun S=>(ok p w S,(sn p q S).1))=fun _=>some (true,(openGood q []).1))
  (u2:∀ w:World,(fun os=>(go p w os).map fun S=>(sn p q S).2)=fun _=>some (openGood q []).2)
  (u3:∀ w:World,(fun os=>(go p w os).map fun S=>Yf S.abs)=fun _=>some (Ya w)):LeftO p q [] (Xt q) Yf Ya 8000 true:=fun w=>by
 obtain ⟨⟨h,gs,d,k,os⟩,e1,e'⟩:=Option.map_eq_some_iff.mp (boot_open (N:=8000) e (by decide) f w)
 obtain ⟨rfl,rfl,rfl,rfl⟩:h=boot_heap w.params∧gs=Array.mk []∧d=boot_drawn∧k=boot_toks:=by simpa using e'
 obtain ⟨z1,z2,z3⟩:_∧_∧_:=by simpa only [Prod.mk.injEq] using size w
 obtain ⟨S,r,l1⟩:=Option.map_eq_some_iff.mp (congrFun (u1 w) os)
 have l2:=congrFun (u2 w) os
 have l3:=congrFun (u3 w) os
 simp only [r,Option.map_some,Option.some.injEq] at l2 l3
 obtain ⟨l1,l4⟩:=Prod.mk.inj l1
 unfold sn at l2 l4
 rw[←Fast.te4187177175401517315,←Fast.te5923862056798008813] at l2 l4
 unfold go at r
 rw[←Fast.te10156331382660048174,←Fast.te11892475500146522536,←Fast.te14364793385576792824,←Fast.te6613529449190102663] at r
 have r:=spec r
 rw[S0_abs] at r
 have t:topFrom treeTable p w 8000 ⟨boot_heap w.params,Array.mk [],boot_drawn,boot_toks,os⟩=some S.abs:=by
  unfold topFrom
  dsimp only
  rw[z1,z2,z3,r]
  show (match ok p w S with |true=>_|false=>_)=_
  rw[l1]
 unfold openEnds
 rw[e1]
 show (topFrom treeTable p w 8000 _).map _=_
 rw[t]
 exact congrArg some (Prod.ext (Prod.ext l4 l2) l3)
abbrev p:=PySem.Challenge.rw_jointrees_k62_columns_of_tables_and_agre.row.prog
abbrev q:Program:=view p [1,2,3,4,5,6,7,8,9,10,11,12,13,15,16,17,18,19,20,21,23,24,26,27,28,29,30,31,32,33,34,35,37,38,39,40,41,42,43,44,45,46,47,48,49,50,51,52,53,54,55,56]
theorem law:PySem.Challenge.rw_jointrees_k62_columns_of_tables_and_agre.wellSaid=true:=by
 rw[Fast.te9446332074065402090]
 kernel_rfl
theorem u1 (w:World):(fun os=>(go p w os).map fun S=>(ok p w S,(sn p q S).1))=fun _=>some (true,(openGood q []).1):=by kernel_rfl
theorem u2 (w:World):(fun os=>(go p w os).map fun S=>(sn p q S).2)=fun _=>some (openGood q []).2:=by kernel_rfl
end Hd
open PySem PySem.W PyProof.Rows
set_option hygiene false in
local macro_rules |`(tactic|o_head $H)=>`(tactic|(refine holds_open (r:=PySem.Challenge.rw_jointrees_k62_columns_of_tables_and_agre.row) (q:=Hd.q) (loose:=[]) (Xt:=Hd.Xt Hd.q) (XP:=XL Hd.q []) (Yf:=Hook.obs $H) (Ya:=Hook.val $H) (YP:=Hook.says $H) (N:=8000) ?hl (Hook.of $H) (Hook.keeps $H) (fun s e=>xl_of s (Bool.and_eq_true_iff.mp e).1) XL.keeps (by rfl) (by rfl) (by rfl) (fun s e=>recFacts_of (Bool.and_eq_true_iff.mp e).2) (by rfl) (by assumption) (by decide +kernel) ⟨rfl,rfl,rfl,rfl,rfl,by decide +kernel⟩ ?hw ?hc;(case hl=>exact Hd.left (by kernel_rfl) (fun s=>by kernel_rfl) Hd.u1 Hd.u2 (fun w=>by kernel_rfl))))
set_option maxRecDepth 100000 in
set_option maxHeartbeats 0 in
theorem PySem.Challenge.cw_jointrees_k62_columns_of_tables_and_agre_holds : PySem.Challenge.rw_jointrees_k62_columns_of_tables_and_agre.Holds := by
 w_on;refine holds_law Hd.law fun said=>?_;k_head;(case hw=>w_witness2)
 k_fill
 refine Jt.walkB (l:=PySem.Challenge.rw_jointrees_k62_columns_of_tables_and_agre) (k:=9) rfl rfl ⟨rfl,by decide,by decide,rfl⟩ (fun w h Y=>PySem.W.kIn_of Y) ?L ?T ?F
 case L=>intro w;kernel_rfl
 case T=>intro w;kernel_rfl
 case F=>
  intro w mg fa h KX G hmg
  refine' K62.all_mk KX G hmg ?_ ?_ ?_ ?_ ?_ ?_ ?_ ?_ ?_ ?_ ?_ ?_ ?_ ?_ ?_ ⟨?_,?_,?_,?_,?_,?_,?_,?_⟩ ?_ ?_ ?_ ?_ ?_ ?_ ?_ ?_ ?_ ?_ ?_ ?_ ?_ ?_ ?_ ⟨?_,?_,?_,?_,?_,?_,?_,?_⟩ ?_ ?_ ?_ ?_ ?_ ?_ ?_ ?_ ?_ ?_ ?_ ?_ ?_ ?_ ?_ ⟨?_,?_,?_,?_,?_,?_,?_,?_⟩ ?_ ?_ ?_ ?_ ?_ ?_ ?_ ?_ ?_ ?_ ?_ ?_ ?_ ?_ ?_ ?_ ?_ ?_ ?_ ?_ ?_ ?_ ?_ ?_ ?_ ?_ ?_ ?_ ?_ ?_ ?_ ?_ ?_ ?_ ?_ ?_ ?_ ?_ ?_ ?_ ?_ ?_ ?_ ?_ ?_ ?_ ?_ ?_ ?_ ?_ ?_ ?_ ?_ ?_ ?_ ?z ?y_FIGURES ?y_MOST_ROWS
  all_goals try first | k_is | kernel_rfl
  case z=>refine ⟨?_,?_,?_,?_,?_,?_,?_,?_,?_,?_,?_,?_,?_,?_⟩ <;> k_is
  all_goals (refine' Jt.fh_mk ?a ?l ?c ?k;(case a=>k_is);(case l=>k_is);(case c=>k_is);(case k=>k_is))
