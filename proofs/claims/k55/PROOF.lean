import PyProof.Rows.All
import Wide.All
import OpenK.AllK
import Wide.FinOn
import Lean
import PyProof.Rows.SetFrom
import PyProof.WalksMore
import PyProof.SetRoads
import PyProof.ListRange
import PyProof.Rows.SortWalk
import PyProof.CollectWalk
import PyProof.ZipIter
import PyProof.EnumStmt
import PyProof.EqAt
import PyProof.EqKinds
import PyProof.TupleCall
import PyProof.CompFree
import PyProof.Cells
import PyProof.ConsumeWalk
import PyProof.TupleOfSeq
import PyProof.NeKinds
import PyProof.IsiPairs
import PyProof.IsiHeapPairs
import PyProof.IsInstanceT
import PyProof.IsiTupleOf
import KE.KSortTup
import KE.KTryMore
import PyProof.ExcBaseAll.ValueError
import KE.RegMulBits
import Wide.ObjOpen
import Wide.RegSB
import PyProof.ExcAttrAll.ValueError
import PyProof.ExcArgsOwn
import PyProof.SumWalk
import PyProof.ReprRoads
import PyProof.Rows.DictMade
import PyProof.Rows.DictMethods
import KE.KRevIter
import PyProof.ListMulRoad
import PyProof.FactsAll.tuple_2
import PyProof.DictRoadsH
import PyProof.DictCompW
import PyProof.DictIter
import PyProof.DictWalks
import PyProof.TupleKey
import PyProof.IsRules
import KE.KDictList
import KE.KSortKey
import KE.KLam
import PyProof.Rows.Range3
import PySem.Challenge.RW_jointrees_k55_whole_orders_and_trees
set_option compiler.extract_closed false
set_option bootstrap.genMatcherCode false
noncomputable def zN:=@PySem.wpAny_bind
noncomputable def zS:=@PySem.Heap.get?_push_of_some
noncomputable def kT:=@PySem.wpAny_pure
noncomputable def kW:=@List.getElem?_eq_getElem
noncomputable def jP:=@List.mem_singleton
noncomputable def wF:=@Nat.le_refl
noncomputable def wL:=@PySem.Heap.get?_push_size
noncomputable def wN:=@PySem.Heap.lt_size
noncomputable def wR:=@List.mem_filter
noncomputable def wV:=@List.mem_cons_of_mem
noncomputable def wW:=@List.getElem?_set_self
noncomputable def xS:=@List.mem_cons_self
noncomputable def xZ:=@List.getElem?_eq_some_iff
noncomputable def uL:=@List.mem_range
noncomputable def uN:=@List.getElem?_set_ne
noncomputable def uP:=@List.mem_append_right
noncomputable def uS:=@List.mem_cons
noncomputable def uT:=@List.mem_append
noncomputable def fD:=@List.length_map
noncomputable def fN:=@Bool.false_ne_true
noncomputable def fR:=@List.length_append
noncomputable def gA:=@List.size_toArray
noncomputable def gE:=@List.mem_map
noncomputable def gL:=@if_pos
noncomputable def gT:=@List.length_cons
noncomputable def QA:=@List.getD_eq_getElem?_getD
noncomputable def QB:=@Nat.ne_of_lt
noncomputable def QC:=@if_neg
noncomputable def QD:=@decide_eq_true_eq
noncomputable def QE:=@PySem.wpAny_mono
noncomputable def QF:=@List.getElem?_append_left
noncomputable def QG:=@List.drop_eq_getElem_cons
noncomputable def QH:=@List.getElem_mem
noncomputable def QI:=@Bool.and_eq_true
noncomputable def QJ:=@Nat.lt_of_lt_of_le
noncomputable def QK:=@decide_eq_true
noncomputable def QL:=@List.getElem?_map
noncomputable def QM:=@PySem.Heap.size_push
noncomputable def QN:=@PySem.wpAny_newObj_type
noncomputable def QO:=@List.take_append_of_le_length
noncomputable def QP:=@List.getElem?_take_of_lt
noncomputable def QQ:=@Array.getElem?_toList
noncomputable def QR:=@PySem.W.mg_none_of
noncomputable def QS:=@PySem.Heap.SameBut.update
noncomputable def QT:=@List.all_eq_true
noncomputable def QU:=@List.nodup_range
noncomputable def QV:=@Nat.zero_le
noncomputable def QW:=@List.map_cons
noncomputable def QX:=@List.length_filter_le
noncomputable def QY:=@List.any_eq_true
noncomputable def QZ:=@PySem.wpAny_holding
noncomputable def Q1:=@Nat.le_trans
noncomputable def Q2:=@List.getElem?_append_right
noncomputable def Q3:=@List.nodup_append
noncomputable def Q4:=@List.append_assoc
noncomputable def Q5:=@List.length_range
noncomputable def Q6:=@List.take_succ_eq_append_getElem
noncomputable def Q7:=@List.getElem?_cons_zero
noncomputable def Q8:=@Nat.lt_irrefl
noncomputable def Q9:=@Option.some.inj
noncomputable def ZA:=@List.append_nil
noncomputable def ZC:=@List.nodup_cons
noncomputable def ZD:=@Bool.false_eq_true
noncomputable def ZE:=@List.length_nil
noncomputable def ZF:=@List.filter_congr
noncomputable def ZG:=@PySem.wpAny_setField_rec
noncomputable def ZH:=@List.perm_ext_iff_of_nodup
noncomputable def ZI:=@List.map_map
noncomputable def ZJ:=@PySem.Heap.get?_update_self
noncomputable def ZK:=@PySem.wpAny_callSpecial?_slot
noncomputable def ZL:=@List.getElem?_cons_succ
noncomputable def ZM:=@List.map_congr_left
noncomputable def ZN:=@PySem.wpAny_call_entry
noncomputable def ZO:=@List.mem_append_left
noncomputable def ZP:=@Function.comp_def
noncomputable def ZQ:=@List.filterMap_eq_map'
noncomputable def ZR:=@List.filterMap_eq_map
noncomputable def ZS:=@List.getElem_of_mem
noncomputable def ZT:=@List.length_take
noncomputable def ZU:=@List.drop_length
noncomputable def ZV:=@of_decide_eq_true
noncomputable def ZW:=@Array.getElem?_eq_getElem
noncomputable def ZX:=@List.length_pos_of_mem
noncomputable def ZY:=@PyProof.Rows.callWith_type1
noncomputable def ZZ:=@Option.some.injEq
noncomputable def Z0:=@List.pairwise_cons
noncomputable def Z1:=@Bool.eq_iff_iff
noncomputable def Z2:=@PySem.codeAny_builtin
noncomputable def Z3:=@decide_eq_false
noncomputable def Z4:=@List.filter_cons
noncomputable def Z5:=@Decidable.byContradiction
noncomputable def Z6:=@congrArg
noncomputable def Z7:=@PySem.wpAny_standAt
noncomputable def Z8:=@PySem.F.args_tuple_add_2
noncomputable def Z9:=@PySem.codeAny_mono
noncomputable def VA:=@exists_eq_left'
noncomputable def VB:=@PySem.F.slot_dict_keyiterator_next
noncomputable def VC:=@List.set_cons_succ
noncomputable def VD:=@List.set_cons_zero
noncomputable def VE:=@PySem.F.entry_tuple_add
noncomputable def VF:=@List.getElem?_replicate
noncomputable def VG:=@Nat.ne_of_gt
noncomputable def VH:=@Nat.le_of_succ_le
noncomputable def VI:=@PySem.wpAny_truthy_bool
noncomputable def VJ:=@PySem.F.slot_tuple_add
noncomputable def VL:=@PySem.sizeLine_eq
noncomputable def VM:=@PySem.wpAny_field
noncomputable def VN:=@Bool.or_eq_true
noncomputable def VO:=@List.map_append
noncomputable def VP:=@PyProof.Rows.slot_tuple_getitem
noncomputable def VQ:=@List.length_replicate
noncomputable def VR:=@Nat.lt_succ_self
noncomputable def VS:=@Int.emod_lt_of_pos
noncomputable def VT:=@List.Perm.refl
noncomputable def VU:=@PySem.Around.under_plainId
noncomputable def VW:=@List.eq_nil_of_length_eq_zero
noncomputable def VX:=@PySem.wpAny_typeNameOfWhole_keyiter
noncomputable def VY:=@PySem.wpAny_pyIter_list
noncomputable def VZ:=@Nat.lt_succ_of_lt
noncomputable def V0:=@Bool.not_eq_true'
noncomputable def V1:=@List.find?_cons
noncomputable def V2:=@PyProof.Rows.F.plain_set_update_loop
noncomputable def V3:=@beq_eq_false_iff_ne
noncomputable def V4:=@List.getElem?_range
noncomputable def V5:=@List.length_pos_iff
noncomputable def V6:=@PySem.Heap.get?_update_other
noncomputable def V7:=@List.take_of_length_le
noncomputable def V8:=@List.take_length
noncomputable def V9:=@PySem.F.slot_tuple_iterator_next
noncomputable def KW:=@List.getElem?_eq_none
noncomputable def YA:=@PySem.wpAny_passesOwn
noncomputable def YB:=@List.take_left'
noncomputable def YC:=@Int.emod_nonneg
noncomputable def YD:=@List.pairwise_map
noncomputable def YE:=@List.reverse_cons
noncomputable def YF:=@PySem.wpAny_rule
noncomputable def YG:=@Option.isSome_iff_exists
noncomputable def YH:=@PySem.wpAny_typeNameOf_keyiter
noncomputable def YI:=@Int.ofNat_inj
noncomputable def YJ:=@Array.length_toList
noncomputable def YK:=@List.filterMap_cons
noncomputable def YL:=@PySem.mem_of_lookup
noncomputable def YM:=@if_true
noncomputable def YN:=@List.nodup_nil
noncomputable def YO:=@PySem.noFill_tuple_add
noncomputable def YQ:=@if_false
noncomputable def YR:=@List.length_eq_zero_iff
noncomputable def YS:=@decide_eq_false_iff_not
noncomputable def YT:=@Array.getElem?_eq_none
noncomputable def YU:=@List.range_succ_eq_map
noncomputable def YV:=@List.filter_append
noncomputable def YW:=@Nat.not_lt_zero
noncomputable def YX:=@PySem.F.slot_enumerate_next
noncomputable def YY:=@Nat.le_of_ble_eq_true
noncomputable def YZ:=@List.take_append_drop
noncomputable def Y0:=@PySem.F.plain_list_iadd
noncomputable def Y1:=@Int.toNat_natCast
noncomputable def Y2:=@Nat.lt_of_sub_pos
noncomputable def Y3:=@List.length_filter_lt_length_iff_exists
noncomputable def Y4:=@List.length_eraseIdx
noncomputable def Y5:=@Nat.not_lt
noncomputable def Y6:=@List.mem_of_getElem?
noncomputable def Y7:=@List.mem_of_mem_take
noncomputable def Y8:=@PySem.Obj.data_mapDictKeys
noncomputable def Y9:=@Array.perm_iff_toList_perm
noncomputable def JP:=@decide_eq_decide
noncomputable def WA:=@Nat.zero_lt_succ
noncomputable def WB:=@List.isEmpty_iff
noncomputable def WC:=@List.pairwise_iff_getElem
noncomputable def WD:=@List.getElem_append_right
noncomputable def WE:=@List.mem_take_iff_getElem
noncomputable def WG:=@List.exists_mem_of_ne_nil
noncomputable def WH:=@PyProof.Rows.F.entry_set_update_loop
noncomputable def WI:=@List.length_reverse
noncomputable def WJ:=@PySem.Obj.isFreed_of_dict
noncomputable def WK:=@PySem.F.args_dict_keyiterator_next_1
noncomputable def WL:=@Int.toNat_of_nonneg
noncomputable def WM:=@List.filter_eq_self
noncomputable def WN:=@PySem.plainId_quiet
noncomputable def WO:=@PySem.wpAny_attempt
noncomputable def WQ:=@PySem.seq_tuple_add
noncomputable def WR:=@List.all_cons
noncomputable def WS:=@PySem.wpAny_comprehension_free
noncomputable def WT:=@PySem.F.entry_dict_keyiterator_next
noncomputable def WU:=@List.getElem_append_left
noncomputable def WV:=@List.sum_cons
noncomputable def WW:=@Nat.min_eq_left
noncomputable def WX:=@PySem.Obj.data_mapFields
noncomputable def WY:=@List.mem_filterMap
noncomputable def WZ:=@PySem.wpAny_Call_Name_kw
noncomputable def W0:=@List.lookup_append
noncomputable def W2:=@List.pairwise_singleton
noncomputable def W3:=@Nat.le_of_lt
noncomputable def W4:=@PySem.wpAny_runValue
noncomputable def W5:=@PySem.wpAny_typeOf
noncomputable def W6:=@PySem.W.cellsFrom_some
noncomputable def W7:=@Nat.le_of_eq
noncomputable def W8:=@Nat.lt_of_succ_lt_succ
noncomputable def W9:=@PySem.F.entry_proto_collect
noncomputable def XA:=@List.length_singleton
noncomputable def XB:=@PySem.wpAny_askSetting
noncomputable def XC:=@PySem.wpAny_isInstance
noncomputable def XD:=@List.not_mem_nil
noncomputable def XE:=@PySem.Obj.data_mapDict
noncomputable def XF:=@List.isEmpty_map
noncomputable def XG:=@PySem.Paired.length
noncomputable def XH:=@List.any_cons
noncomputable def XI:=@Bool.and_eq_true_iff
noncomputable def XJ:=@PySem.codeAny_of_tree
noncomputable def XM:=@PySem.wpAny_execs_nil
noncomputable def XN:=@List.idxOf_cons
noncomputable def XO:=@List.all_map
noncomputable def XQ:=@Nat.zero_add
noncomputable def XR:=@List.any_map
noncomputable def XS:=@Nat.lt_or_eq_of_le
noncomputable def XT:=@List.drop_zero
noncomputable def XU:=@List.filter_filter
noncomputable def XX:=@PySem.W.mg_of
set_option Elab.async false
set_option linter.all false
set_option maxRecDepth 100000
set_option maxHeartbeats 4000000
namespace Jt
open PySem
noncomputable def Up(xs:Array Nat):Prop:=xs.toList.Pairwise (. < .)
theorem Up.lt(u:Up xs){i k a b:Nat}(h:i<k)(o:xs[i]?=some a)(C:xs[k]?=some b):a<b:=by rw[<- QQ]at o C;obtain⟨I,J⟩:=xZ.mp o;obtain⟨U,e2⟩:=xZ.mp C;rw[<- J,<- e2];exact WC.mp u i k I U h
theorem CQ(u:Up xs):∀(fuel lo o:Nat),o<=xs.size->lo<=o->o-lo<=fuel->
  (∀i v,i<lo->xs[i]?=some v->v<j)->(∀i v,o<=i->xs[i]?=some v->j<=v)->
  SetTable.below.go xs j fuel lo o<=xs.size/\(∀i v,i<SetTable.below.go xs j fuel lo o->xs[i]?=some v->v<j)/\∀i v,SetTable.below.go xs j fuel lo o<=i->xs[i]?=some v->j<=v:=by intro fuel;induction fuel with
 |zero=>
  intro lo o I h2 h3 J U;have:lo=o:=by omega
  subst this;exact⟨I,J,U⟩
 |succ fuel ih=>
  intro lo o I h2 h3 J U;unfold SetTable.below.go;by_cases hl:lo<o
  .rw[gL hl];have hm:(lo+o)/2<xs.size:=by omega
   have eg:xs.getD ((lo+o)/2) j=xs[(lo+o)/2]:=by simp[Array.getD,hm]
   have em:xs[(lo+o)/2]?=some xs[(lo+o)/2]:=by simp[hm]
   by_cases hc:xs.getD ((lo+o)/2) j<j
   .rw[gL hc];refine ih _ _ I (by omega) (by omega) (λ i v C e=>?_) U;rcases XS (Nat.le_of_lt_succ C)with q|q
    .have:=u.lt q e em;omega
    .subst q;rw[em]at e;cases e;omega
   .rw[QC hc];refine ih _ _ (by omega) (by omega) (by omega) J λ i v C e=>?_;rcases XS C with q|q
    .have:=u.lt q em e;omega
    .subst q;rw[em]at e;cases e;omega
  .rw[QC hl];have:lo=o:=by omega
   subst this;exact⟨I,J,U⟩
theorem jl(u:Up xs)(j:Nat):SetTable.below xs j<=xs.size/\(∀i v,i<SetTable.below xs j->xs[i]?=some v->v<j)/\∀i v,SetTable.below xs j<=i->xs[i]?=some v->j<=v:=by refine CQ u _ _ _ (wF _) (QV _) (by omega) (λ i v h=>absurd h (YW _)) λ i v h e=>?_;grind
theorem yu(u:Up xs){j:Nat}(h:xs[SetTable.below xs j]?≠some j):j∉xs.toList:= λ hm=>by
 obtain⟨i,C,e⟩:=ZS hm;have o:xs[i]?=some j:=by rw[<- QQ,kW C,e]
 obtain⟨_,b1,J⟩:=jl u j;rcases Nat.lt_trichotomy i (SetTable.below xs j)with q|q|q
 .exact absurd (b1 i j q o) (Q8 _)
 .rw[<- q]at h;exact h o
 .have U:SetTable.below xs j<xs.size:=QJ q (by simpa using W3 C);have I:xs[SetTable.below xs j]?=some xs[SetTable.below xs j]:=by simp
  have:=u.lt q I o;grind
theorem xj(u:Up xs){j:Nat}(h:j∉xs.toList):Up (SetTable.insertAt xs (SetTable.below xs j) j):=by
 unfold Up;rw[SetTable.toList_insertAt];obtain⟨b0,b1,U⟩:=jl u j;have J:xs.toList.Pairwise (. < .):=u;have hd:∀y∈xs.toList.drop (SetTable.below xs j),j<y:= λ y C=>by
  obtain⟨i,I,e⟩:=ZS C;rw[List.getElem_drop]at e;have hm:y∈xs.toList:=List.mem_of_mem_drop C;have:=U (SetTable.below xs j+i) y (by omega) (by rw[<- QQ,xZ];exact⟨by simp at I;simp;omega,e⟩);rcases XS this with q|q
  .exact q
  .subst q;exact absurd hm h
 have ht:∀y∈xs.toList.take (SetTable.below xs j),y<j:= λ y C=>by
  obtain⟨i,I,e⟩:=ZS C;rw[List.getElem_take]at e;have o:i<SetTable.below xs j/\i<xs.toList.length:=by rw[ZT]at I;omega
  exact b1 i y o.1 (by rw[<- QQ,xZ];exact⟨o.2,e⟩)
 rw[List.pairwise_append];refine⟨J.sublist (List.take_sublist _ _),?_,λ a ha b hb=>?_⟩;. rw[Z0];exact⟨hd,J.sublist (List.drop_sublist _ _)⟩
 grind
noncomputable def Tb(t:SetTable):Prop:=t.plain=true->Up t.place
theorem xP{t:SetTable}{j:Nat}(u:Up t.place)(h:t.slot j= .empty\/t.slot j= .dummy):j∉t.place.toList:=by refine yu u λ e=>?_;unfold SetTable.slot at h;grind
theorem iL(t:SetTable)(p:SetTable.Probe):(t.advance p).dummy=p.dummy:=by unfold SetTable.advance;grind
theorem sH:∀(fuel:Nat)(p:SetTable.Probe)(j:Nat)(d:Option Nat),(∀x,p.dummy=some x->t.slot x= .dummy)->
  SetTable.probe.go t f h fuel p=some (.empty j d)->t.slot (d.getD j)= .empty\/t.slot (d.getD j)= .dummy:=by intro fuel;induction fuel with
 |zero=>intro p j d _ e;cases e
 |succ fuel o=>intro p j d C e;unfold SetTable.probe.go at e;cases q:t.slot p.j with
  |empty=>rw[q]at e;injection e with e;injection e with I J;subst I;cases d with
   |none=>exact .inl q
   |some x=>exact .inr (C x J)
  |dummy=>rw[q]at e;refine o _ j d (λ x hx=>?_) e;rw[iL]at hx;cases hx;exact q
  |live i=>
   rw[q]at e;dsimp only at e;split at e;. cases e
   .exact o _ j d (λ x hx=>C x (by rw[iL]at hx;exact hx)) e
theorem my{t:SetTable}{h:Int}{j:Nat}{b:Bool}(u:Up t.place)(e:t.freeSlot h=some (j,b)):j∉t.place.toList:=by
 unfold SetTable.freeSlot at e;split at e;. rename_i o d q;cases e;exact xP u (sH _ _ _ _ (λ x hx=>by cases hx) q)
 grind
theorem yF(h:Tb t)(es:Array (Int×Value))(k:Int)(x:Value):Tb (layNew t es k x).2.1/\(layNew t es k x).2.1.led=t.led:=by
 unfold layNew;split
 .rename_i j b e;dsimp only;unfold SetTable.orStandIn;split;. exact⟨λ o=>xj (h o) (my (h o) e),rfl⟩
  .exact⟨λ o=>absurd (show false=true from o) fN,rfl⟩
 .exact⟨λ o=>absurd (show false=true from o) fN,rfl⟩
theorem E4 {mask finger moves:Nat} {led plain:Bool} {hs:Array Int} {t:SetTable} {o:Array Nat} (e:SetTable.laid mask finger moves led plain hs=some (t,o)):Up t.place∧t.led=led:= by
 unfold SetTable.laid at e
 cases q:SetTable.layClean mask hs with
 | none=>rw [q] at e;cases e
 | some owner=>
  rw [q] at e
  injection e with e
  injection e with e1 e2
  subst e1
  refine ⟨?_,rfl⟩
  show (List.map _ _).Pairwise _
  rw [YD]
  rw [List.pairwise_filterMap]
  refine List.Pairwise.imp (fun {a b} hab x hx y hy=>?_) List.pairwise_lt_range
  cases q1:owner.getD a none with
  | none=>rw [q1] at hx;cases hx
  | some _=>
   cases q2:owner.getD b none with
   | none=>rw [q2] at hy;cases hy
   | some _=>rw [q1] at hx;rw [q2] at hy;cases hx;cases hy;exact hab
theorem rM(t:SetTable)(es:Array (Int×Value))(n:Nat):Tb (relayAll t es n).2.1/\(relayAll t es n).2.1.led=t.led:=by
 unfold relayAll;split
 .rename_i t' o e;dsimp only;split;. obtain⟨I,J⟩:=E4 e;exact⟨λ _=>I,J⟩
  .exact⟨λ C=>absurd (show false=true from C) fN,rfl⟩
 .exact⟨λ C=>absurd (show false=true from C) fN,rfl⟩
noncomputable def eo(p:Int×Tok):Int×Value:=(hashInt p.1,.int p.1 p.2)
noncomputable def ed(e:Int×Value):Int×Tok:=match e.2 with
 | .int i t=>(i,t)
 |_=>(0,0)
theorem MQ(p:Int×Tok):ed (eo p)=p:=rfl
theorem oC{es:Array (Int×Value)}{l:List (Int×Tok)}(p:es.toList.Perm (l.map eo)):∃o:List (Int×Tok),es.toList=o.map eo/\o.Perm l:=by
 refine⟨es.toList.map ed,?_,?_⟩
 .have:es.toList.map (eo∘ed)=es.toList.map id:=ZM λ x hx=>by obtain⟨q,_,rfl⟩:=gE.mp (p.mem_iff.mp hx);rfl
  simp_all
 .have:=p.map ed;rw[ZI]at this;have e:l.map (ed∘eo)=l:=by have:(ed∘eo)=id:=funext MQ;rw[this,List.map_id]
  rwa [e]at this
structure b_ (w:World) (h:Heap) (a:Addr) (l:List (Int × Tok)) (ep:Nat) (t:SetTable):Prop where
 obj:∃o,h.get? a=some o∧o.ExactSet∧o.data=.set (l.map eo).toArray ep t
 few:l.length < scanBound
 fits:t.fits l.length=true
 led:t.led = !w.params.followText "set-order"
 tb:Tb t
section
variable {prog:Program} {w:World} {A:Around} {E:Value->Shared->Prop} {s:Shared} {a:Addr} {l:List (Int × Tok)} {ep:Nat} {t:SetTable}
theorem AG(l:List (Int×Tok)):ElemsOf (intKind prog w) (l.map eo):= λ e he=>by obtain⟨p,_,rfl⟩:=gE.mp he;exact⟨⟨p.1,by simp[eo,intKind,Value.isInt],rfl⟩,rfl⟩
theorem Eo(k:Int)(l:List (Int×Tok)):((l.map eo).findIdx? λ e=>(intKind prog w).is k e.2).isSome=decide (k∈l.map (·.1)):=by
 rw[Z1,QD,List.findIdx?_isSome,QY];constructor;. rintro⟨e,he,C⟩;obtain⟨p,o,rfl⟩:=gE.mp he;obtain⟨u,I⟩:=Value.isInt_shape (show Value.isInt k (.int p.1 p.2)=true from C);grind
 .intro h;obtain⟨p,o,rfl⟩:=gE.mp h;exact⟨eo p,List.mem_map_of_mem o,by simp[eo,intKind,Value.isInt]⟩
theorem b_.store{t':SetTable}(x:b_ w h a l ep t)(he:es.toList=C.map eo)(I:C.length<scanBound)(hf:t'.fits C.length=true)(J:t'.led=t.led)(U:Tb t'):
  b_ w (h.update a (Obj.putSet es t')) a C (ep+1) t':=by
 obtain⟨o,ho,hx,hd⟩:=x.obj;have e2:es=(C.map eo).toArray:=by grind
 refine⟨⟨{ o with data:= .set es (ep+1) t' },?_,hx,by rw[e2]⟩,I,hf,J.trans x.led,U⟩;have:=ZJ (Obj.putSet es t') ho (by rw[putSet_of es t' hd];rfl);rwa [putSet_of es t' hd]at this
theorem l8{Q:Unit->Shared->Prop}(x:b_ w s.heap a l ep t)(hz:es.size<scanBound)(h:Q () { s with heap:=s.heap.update a (Obj.putSet es t') }):
  wpAny (model prog w) A (storeSet a es t') Q E s:=by obtain⟨o,C,_,hd⟩:=x.obj;exact wpAny_storeSet_of C hd h (fits_of_scanBound hz)
theorem g6{es:Array (Int×Value)}{o:List (Int×Tok)}(h:es.toList=o.map eo):es.size=o.length:=by have:=Z6 List.length h;grind
theorem zK(x:b_ w s.heap a l ep t)(ah:l.length+1<scanBound)
  (h:∀h' U I t' b,Heap.SameBut a s.heap h'->b_ w h' a U I t'->(if k∈l.map (·.1)then U=l else U.Perm (l++[(k,tok)]))->Q b { s with heap:=h' }):
  wpAny (model prog w) A (setAddHashed a (.int k tok) (hashInt k)) Q E s:=by
 obtain⟨o,ho,hx,hd⟩:=x.obj;have hsz:(l.map eo).toArray.size=l.length:=by simp
 have ae:ElemsOf (intKind prog w) (l.map eo).toArray.toList:=by simpa using AG l
 have af:t.fits (l.map eo).toArray.size=true:=by rw[hsz];exact x.fits
 unfold setAddHashed setAddHashedIn;refine QZ ?_;refine zN (wpAny_setState_of ho hd af ?_);show wpAny _ _ (if byScan (.int k tok) (l.map eo).toArray=true then _ else _) _ _ _;rw[gL (byScan_of (knd:=intKind prog w) rfl (by rw[hsz];exact x.few) ae)];refine zN ?_;unfold setAddByScan;refine zN (YF ?_);refine zN (wpAny_setScan_of (knd:=intKind prog w) (k:=k) (intKind_is _ _ _ _) ho hd af ae ?_);have ab:=Eo (prog:=prog) (w:=w) k l;rw[show(l.map eo).toArray.toList=l.map eo by simp];cases hr:(l.map eo).findIdx? (λ e=>(intKind prog w).is k e.2)with
 |some j=>rw[hr]at ab;have hm:k∈l.map (·.1):=ZV ab.symm;dsimp only;refine kT (kT ?_);have:=h s.heap l ep t false (Heap.SameBut.refl a s.heap) x (by rw[gL hm]);exact this
 |none=>
  rw[hr]at ab;have hm:k∉l.map (·.1):=of_decide_eq_false ab.symm;have p1:=layNew_perm t (l.map eo).toArray (hashInt k) (.int k tok);have f1:=layNew_fits t (l.map eo).toArray (hashInt k) (.int k tok);obtain⟨b1,b2⟩:=yF x.tb (l.map eo).toArray (hashInt k) (.int k tok);generalize hL:layNew t (l.map eo).toArray (hashInt k) (.int k tok)=L at p1 f1 b1 b2|-;obtain⟨C,t1,dm,gv⟩:=L;dsimp only at p1 f1 b1 b2|-;rw[Array.toList_push,show(l.map eo).toArray.toList++[(hashInt k,Value.int k tok)]=(l++[(k,tok)]).map eo by simp[eo]]at p1;obtain⟨l1,e1,q1⟩:=oC p1;have n1:l1.length=l.length+1:=by rw[q1.length_eq];simp
  have z1:=g6 e1;have fin:∀h' U I t',Heap.SameBut a s.heap h'->b_ w h' a U I t'->U.Perm l1->Q true { s with heap:=h' }:= λ h' U I t' sb x' p'=>
   h h' U I t' true sb x' (by rw[QC hm];exact p'.trans q1);have gw:∀(b:Bool){J:Shared}{Q':Unit->Shared->Prop},Q' () J->wpAny (model prog w) A (match b with|true=>rule "set.scan.the-table-gave-way"|false=>pure ()) Q' E J:= λ b _ _ hq=>by
   cases b;. exact kT hq
   .exact YF hq
  refine zN (gw gv ?_);have x1:b_ w (s.heap.update a (Obj.putSet C t1)) a l1 (ep+1) t1:=x.store e1 (by omega) (by rw[<- z1];exact f1) b2 b1;have ag:=QS s.heap a (Obj.putSet C t1);have tl:∀(g:Bool->Sem Unit)(R:Option Bool->Shared->Prop),(∀(b:Bool){J:Shared}{Q':Unit->Shared->Prop},Q' () J->wpAny (model prog w) A (g b) Q' E J)->
    (∀h' U I t',Heap.SameBut a s.heap h'->b_ w h' a U I t'->U.Perm l1->R (some true) { s with heap:=h' })->
    wpAny (model prog w) A (storeSet a C t1 >>=λ _=>if(!dm&&t1.tooFull)=true then(g (relayAll t1 C (SetTable.grown C.size)).2.2 >>=λ _=>
     storeSet a (relayAll t1 C (SetTable.grown C.size)).1 (relayAll t1 C (SetTable.grown C.size)).2.1 >>=λ _=>pure (some true))else pure (some true)) R E s:= λ g R hg fin=>by
   refine zN (l8 x (by omega) ?_);by_cases aa:(!dm&&t1.tooFull)=true;. rw[gL aa];have p2:=relayAll_perm t1 C (SetTable.grown C.size);have f2:=relayAll_fits t1 C (SetTable.grown C.size);obtain⟨c1,c2⟩:=rM t1 C (SetTable.grown C.size);generalize hR:relayAll t1 C (SetTable.grown C.size)=R at p2 f2 c1 c2|-;obtain⟨aj,t2,ai⟩:=R;rw[e1]at p2;obtain⟨l2,e2,q2⟩:=oC p2;have n2:l2.length=l1.length:=q2.length_eq;have z2:=g6 e2;refine zN (hg ai ?_);refine zN (l8 (s:={ s with heap:=s.heap.update a (Obj.putSet C t1) }) x1 (by omega) (kT ?_));exact fin _ l2 _ t2 (ag.trans (QS _ a _)) (x1.store e2 (by omega) (by rw[<- z2];exact f2) c2 c1) q2
   .rw[QC aa];exact kT (fin _ l1 _ t1 ag x1 (VT _))
  split;. exact tl _ _ gw λ h' U I t' c1 c2 c3=>kT (fin h' U I t' c1 c2 c3)
  .exact tl _ _ gw λ h' U I t' c1 c2 c3=>kT (fin h' U I t' c1 c2 c3)
end
section
variable {prog:Program} {w:World} {A:Around} {E:Value->Shared->Prop} {s:Shared} {R:Result->Shared->Prop} {I:Addr} {fp wr:List Addr} {n:Nat} {P:Nat->Value->Prop} {St:Nat->Heap->Prop}
theorem b_.at (x:b_ w h a l ep t) (k:∀o,h.get? a=some o->h'.get? a=some o):b_ w h' a l ep t:= by
 obtain ⟨o,ho,hr⟩:=x.obj
 exact ⟨⟨o,k o ho,hr⟩,x.few,x.fits,x.led,x.tb⟩
theorem nv (W:Walks prog w A.in1 I fp wr n P St) (S:Addr) (hSf:S ∉ fp) (val:Nat->Int) (hval:∀i v,P i v->∃t,v=.int (val i) t) (hb:n + 1 < scanBound) :
  ∀(k i:Nat) (h:Heap) (tk:Nat) (l:List (Int × Tok)) (ep:Nat) (t:SetTable),n - i=k->i ≤ n->St i h->b_ w h S l ep t->l.length ≤ i->(l.map (·.1)).Nodup->(∀z,z ∈ l.map (·.1) ↔ ∃j,j < i∧val j=z) ->
   (∀h' tk' l' ep' t',(∀b o,b ∉ S :: wr->h.get? b=some o->h'.get? b=some o)->b_ w h' S l' ep' t' -> (l'.map (·.1)).Nodup->(∀z,z ∈ l'.map (·.1) ↔ ∃j,j < n∧val j=z)->R (.ok (.ret .none)) { s with heap:=h',toks:=tk' }) ->
   codeAny (model prog w) A (.builtin "set.update.loop" ⟨[.ref S,.ref I],[]⟩) R { s with heap:=h,toks:=tk }:= by
 have hSw:S ∉ wr:=fun z=>hSf (W.sub _ z)
 intro k
 induction k with
 | zero=>
  intro i h tk l ep t hk hi st x hl nd mem fin
  have ei:i=n:=by omega
  subst ei
  refine Z2 WH ?_
  rw [VU V2 _]
  show wpAny (model prog w) A.in1 (pyNext (.ref I) >>= _) _ _ _
  refine zN (W.done { s with heap:=h,toks:=tk } _ _ st fun h' tk' kp=>?_)
  exact kT (fin h' tk' l ep t (fun b o hb' e=>kp b o (fun z=>hb' (wV _ z)) e) (x.at fun o e=>kp S o hSw e) nd mem)
 | succ k ih=>
  intro i h tk l ep t hk hi st x hl nd mem fin
  have hlt:i < n:=by omega
  refine Z2 WH ?_
  rw [VU V2 _]
  show wpAny (model prog w) A.in1 (pyNext (.ref I) >>= _) _ _ _
  refine zN (W.item i { s with heap:=h,toks:=tk } _ _ hlt st fun v h1 tk1 hP st1 kp=>?_)
  obtain ⟨u,rfl⟩:=hval i v hP
  have x1:b_ w h1 S l ep t:=x.at fun o e=>kp S o hSw e
  show wpAny (model prog w) A.in1 (holding [Value.int (val i) u] (setAdd S (.int (val i) u)) >>= _) _ _ _
  refine zN (QZ ?_)
  unfold setAdd
  refine QZ ?_
  refine zN ((intKind prog w).pyHash (k:=val i) (intKind_is _ _ _ _) ?_)
  refine zK (s:={ s with heap:=h1,toks:=tk1 + 1 }) x1 (by omega) fun h2 l2 ep2 t2 b sb x2 hif=>?_
  have hm2:(∀z,z ∈ l2.map (·.1) ↔ ∃j,j < i + 1∧val j=z)∧(l2.map (·.1)).Nodup∧l2.length ≤ i + 1:= by
   by_cases hm:val i ∈ l.map (·.1)
   .rw [gL hm] at hif
    subst hif
    refine ⟨fun z=>(mem z).trans ⟨fun ⟨j,h1,h2⟩=>⟨j,by omega,h2⟩,fun ⟨j,h1,h2⟩=>?_⟩,nd,by omega⟩
    by_cases hj:j < i
    .exact ⟨j,hj,h2⟩
    .have:j=i:=by omega
     subst this
     exact (mem z).mp (h2 ▸ hm)
   .rw [QC hm] at hif
    have pm:(l2.map (·.1)).Perm (l.map (·.1) ++ [val i]):=by simpa using hif.map (·.1)
    refine ⟨fun z=>?_,?_,?_⟩
    .rw [pm.mem_iff,uT,mem z,jP]
     constructor
     .rintro (⟨j,h1,h2⟩ | e)
      .exact ⟨j,by omega,h2⟩
      .exact ⟨i,by omega,e.symm⟩
     .rintro ⟨j,h1,h2⟩
      by_cases hj:j < i
      .exact .inl ⟨j,hj,h2⟩
      .have:j=i:=by omega
       subst this
       exact .inr h2.symm
    .rw [pm.nodup_iff,Q3]
     refine ⟨nd,by simp,fun p hp q hq e=>?_⟩
     rw [jP] at hq
     subst hq;subst e
     exact hm hp
    .rw [hif.length_eq];simp;omega
  refine kT ⟨WN V2 _,ih (i + 1) h2 (tk1 + 1) l2 ep2 t2 (by omega) hlt (W.frame _ h1 h2 st1 fun b hb' o e=>?_) x2 hm2.2.2 hm2.2.1 hm2.1 fun h' tk' l' ep' t' c1 c2 c3 c4=>fin h' tk' l' ep' t' (fun b o hb' e=>?_) c2 c3 c4⟩
  .rw [sb.2 b fun z=>hSf (z ▸ hb')];exact e
  .refine c1 b o hb' ?_
   rw [sb.2 b fun z=>hb' (z ▸ xS)]
   exact kp b o (fun z=>hb' (wV _ z)) e
theorem kO(e:h.get? S=some { cls:= .type "set",dict:=none,data:= .set #[] 0 (.fresh 0 0 (!w.params.followText "set-order")) }):b_ w h S [] 0 (.fresh 0 0 (!w.params.followText "set-order")):=
 ⟨⟨_,e,⟨rfl,rfl,rfl⟩,rfl⟩,by decide,by rfl,rfl,λ _=>List.Pairwise.nil⟩
theorem j0 (v:Value) {Q:Value->Shared->Prop} (h:Q (.ref s.heap.objs.size) { s with heap:=s.heap.push { cls:=.type "set",dict:=none,data:=.set #[] 0 (.fresh 0 0 (!w.params.followText "set-order")) } }) :
  codeAny (model prog w) A (.call (.builtin "set.__new__") ⟨[.type "set",v],[]⟩) (wants Q E) s:= by
 refine XJ ?_
 show wpAny (model prog w) A.in1 (do checkBuiltinCall "set.__new__" ⟨[.type "set",v],[]⟩;again (.builtin "set.__new__" ⟨[.type "set",v],[]⟩)) _ _ s
 refine zN (wpAny_of_eq (F.newCall_set_1 v) (kT ⟨WN F.plain_set_new _,Z2 F.entry_set_new ?_⟩))
 rw [VU F.plain_set_new _]
 have hsub:=sub_set_self
 obtain ⟨hp,g,d,tk,os⟩:=s
 unfold Builtin.«set.__new__» Builtin.Frozenset.newClass
 dsimp only
 wp_walk
 refine XB (kT ?_)
 dsimp only
 simp only [newObj]
 exact zN (wpAny_alloc (kT (kT h)))
set_option maxHeartbeats 8000000 in
theorem xw(hh:A.handled=none)(hl:s.heap.IsList l items)(hi:PyProof.Rows.IntsAre items.toList ns)(hb:items.size+1<scanBound)
  (h:∀(h':Heap)(tk:Nat)(ls:List (Int×Tok))(ep:Nat)(t:SetTable),b_ w h' s.heap.objs.size ls ep t->(ls.map (·.1)).Nodup->(∀z,z∈ls.map (·.1)↔z∈ns)->
   (∀b o,s.heap.get? b=some o->h'.get? b=some o)->Q (.ref s.heap.objs.size) { s with heap:=h',toks:=tk }):
  wpAny (model prog w) A (call (.type "set") [.ref l]) Q E s:=by
 obtain⟨c,tl,aF⟩:=F.called_set.mro;have ax:=F.called_set.made;have aG:=F.called_set.sub;refine wpAny_call (XJ (?_:wpAny _ _ (callAny (.type "set") _) _ _ _));refine kT ⟨Code.quiet_builtin _ (by decide+kernel),Z2 F.entry_type_call ?_⟩;rw[Around.under_plain (weight_type_call_type "set" [.ref l] []) rfl];have h1:=F.called_set.notType;have h2:=F.called_set.canCreate;have aK:=F.typeCall_set_1 (.ref l);repeat(any_goals(first|assumption|wp_step))
 refine Z9 (j0 (.ref l) (E:=E) (Q:= λ obj U=>obj= .ref s.heap.objs.size/\U={ s with heap:=s.heap.push { cls:= .type "set",dict:=none,data:= .set #[] 0 (.fresh 0 0 (!w.params.followText "set-order")) } }) ⟨rfl,rfl⟩) λ r U hr=>?_;cases r with
 |error e=> exact hr
 | ok fl =>cases fl with
  | ret obj=>
   obtain ⟨rfl,rfl⟩:=hr;have hS:(s.heap.push ({ cls:=.type "set",dict:=none,data:=.set #[] 0 (.fresh 0 0 (!w.params.followText "set-order")) }:Obj)).get? s.heap.objs.size=some ({ cls:=.type "set",dict:=none,data:=.set #[] 0 (.fresh 0 0 (!w.params.followText "set-order")) }:Obj):=wL _ rfl;have hT:Shared.TypeIs { s with heap:=s.heap.push ({ cls:=.type "set",dict:=none,data:=.set #[] 0 (.fresh 0 0 (!w.params.followText "set-order")) }:Obj) } (.ref s.heap.objs.size) "set":=⟨_,hS,rfl⟩;have aL:=F.called_set.init.lookup;have aM:=F.called_set.init.bind (.ref s.heap.objs.size);repeat (any_goals (first | assumption | wp_step))
   refine Z9 (codeAny_call_builtin (R:=wants (λ r aa=>r=.none /\∃h' tk ls ep t,aa={ s with heap:=h',toks:=tk } /\ b_ w h' s.heap.objs.size ls ep t /\ (ls.map (·.1)).Nodup /\ (∀z,z ∈ ls.map (·.1) ↔ z ∈ ns) /\
     (∀b o,s.heap.get? b=some o->h'.get? b=some o)) E) F.called_set.init.plain F.entry_set_init (check_set_init_1 hT ?_)) fun af aa C=>?_
   .obtain ⟨⟨aH,ay,az,aw⟩,ag,ah,nl,ai⟩:=hl;simp only at ah ai;subst ah;subst ai;have aj:=zS ({ cls:=.type "set",dict:=none,data:=.set #[] 0 (.fresh 0 0 (!w.params.followText "set-order")) }:Obj) ag;have aI:=F.sub_list_set;have aJ:=F.sub_list_frozenset;have aN:(Value.type "list" == Value.type "dict")=false:=by decide
    have ak:(s.heap.push ({ cls:=.type "set",dict:=none,data:=.set #[] 0 (.fresh 0 0 (!w.params.followText "set-order")) }:Obj)).IsList l items:=⟨_,aj,rfl,nl,rfl⟩;unfold Builtin.«set.__init__» noKeywords Builtin.Frozenset.updateFrom;generalize aA:pyIter=PI;wp_walk;subst aA;refine VY (s:={ s with heap:=s.heap.push ({ cls:=.type "set",dict:=none,data:=.set #[] 0 (.fresh 0 0 (!w.params.followText "set-order")) }:Obj) }) ak ?_;refine zN (W4 ?_);have ao:l < s.heap.objs.size:=wN ag;have aB:A.in1.in1.in1.handled=none:=by simp [hh]
    have aq:l ≠ (s.heap.push ({ cls:=.type "set",dict:=none,data:=.set #[] 0 (.fresh 0 0 (!w.params.followText "set-order")) }:Obj)).objs.size:=by rw [QM];exact QB (VZ ao)
    have aC:s.heap.objs.size ∉ [(s.heap.push ({ cls:=.type "set",dict:=none,data:=.set #[] 0 (.fresh 0 0 (!w.params.followText "set-order")) }:Obj)).objs.size,l]:= by
     rw [QM];intro hm;rcases uS.mp hm with e | hm
     .exact QB (VR _) e
     .exact VG ao (jP.mp hm)
    have ar:∀(i:Nat) (v:Value),items[i]? = some v->∃t,v=.int ((fun i=>ns.getD i 0) i) t:=fun i v hv=>PyProof.Rows.IntsAre.int_at hi i v (by rw [QQ];exact hv);have aO:ns.length=items.size:=by have:=hi.length;simpa using this.symm
    refine nv (Walks.list aB _ l aq items) s.heap.objs.size aC (fun i=>ns.getD i 0) ar hb (items.size - 0) 0 _ s.toks [] 0 (.fresh 0 0 (!w.params.followText "set-order")) (by omega) (QV _) ⟨⟨_,wL _ rfl,rfl,rfl⟩,ak.push _⟩
     (kO (zS _ hS)) (QV _) YN (fun z=>⟨fun hz=>(by cases hz),fun ⟨j,hj,_⟩=>absurd hj (YW _)⟩) fun h' aD l' aE t' kp x' ab J=>?_;refine kT (?_:wpAny _ _ (ret Value.none) _ _ _);refine kT ⟨rfl,h',aD,l',aE,t',rfl,x',ab,fun z=>(J z).trans ⟨fun ⟨j,hj,e⟩=>?_,fun hz=>?_⟩,fun b o e=>?_⟩
    .have au:j < ns.length:=by omega
     have:ns.getD j 0=ns[j]:=by simp [au]
     exact e ▸ this ▸ QH au
    .obtain ⟨j,hj,e⟩:=ZS hz
     exact ⟨j,by omega,by simp [hj,e]⟩
    .have av:=wN e
     refine kp b o (fun hm=>?_) (zS _ (zS _ e))
     rcases uS.mp hm with e' | hm
     .exact QB av e'
     .have:=jP.mp hm
      rw [QM] at this
      exact QB (VZ av) this
   .cases af with
    | error e=>exact C
    | ok ae=>
     cases ae with
     | ret r=>
      obtain ⟨rfl,h',tk,ls,ep,t,rfl,x',ab,J,kp⟩:=C
      repeat (any_goals (first | assumption | wp_step))
      exact h _ _ ls ep t x' ab J kp
     | _=>exact C.elim
  | _=>exact hr.elim
theorem rD:isSubtype (.type "tuple") (.type "set")=pure false:=by rw[isSubtype_type];rfl
theorem qt:isSubtype (.type "tuple") (.type "frozenset")=pure false:=by rw[isSubtype_type];rfl
set_option maxHeartbeats 8000000 in
theorem xF(hh:A.handled=none)(hl:s.heap.IsTuple l items)(hi:PyProof.Rows.IntsAre items.toList ns)(hb:items.size+1<scanBound)
  (h:∀(h':Heap)(tk:Nat)(ls:List (Int×Tok))(ep:Nat)(t:SetTable),b_ w h' s.heap.objs.size ls ep t->(ls.map (·.1)).Nodup->(∀z,z∈ls.map (·.1)↔z∈ns)->
   (∀b o,s.heap.get? b=some o->h'.get? b=some o)->Q (.ref s.heap.objs.size) { s with heap:=h',toks:=tk }):
  wpAny (model prog w) A (call (.type "set") [.ref l]) Q E s:=by
 obtain⟨c,tl,aF⟩:=F.called_set.mro;have ax:=F.called_set.made;have aG:=F.called_set.sub;refine wpAny_call (XJ (?_:wpAny _ _ (callAny (.type "set") _) _ _ _));refine kT ⟨Code.quiet_builtin _ (by decide+kernel),Z2 F.entry_type_call ?_⟩;rw[Around.under_plain (weight_type_call_type "set" [.ref l] []) rfl];have h1:=F.called_set.notType;have h2:=F.called_set.canCreate;have aK:=F.typeCall_set_1 (.ref l);repeat(any_goals(first|assumption|wp_step))
 refine Z9 (j0 (.ref l) (E:=E) (Q:= λ obj U=>obj= .ref s.heap.objs.size/\U={ s with heap:=s.heap.push { cls:= .type "set",dict:=none,data:= .set #[] 0 (.fresh 0 0 (!w.params.followText "set-order")) } }) ⟨rfl,rfl⟩) λ r U hr=>?_;cases r with
 |error e=>exact hr
 |ok fl=>cases fl with
  |ret obj=>
   obtain⟨rfl,rfl⟩:=hr;have hS:(s.heap.push ({ cls:= .type "set",dict:=none,data:= .set #[] 0 (.fresh 0 0 (!w.params.followText "set-order")) }:Obj)).get? s.heap.objs.size=some ({ cls:= .type "set",dict:=none,data:= .set #[] 0 (.fresh 0 0 (!w.params.followText "set-order")) }:Obj):=wL _ rfl;have hT:Shared.TypeIs { s with heap:=s.heap.push ({ cls:= .type "set",dict:=none,data:=.set #[] 0 (.fresh 0 0 (!w.params.followText "set-order")) }:Obj) } (.ref s.heap.objs.size) "set":=⟨_,hS,rfl⟩;have aL:=F.called_set.init.lookup;have aM:=F.called_set.init.bind (.ref s.heap.objs.size);repeat (any_goals (first | assumption | wp_step))
   refine Z9 (codeAny_call_builtin (R:=wants (λ r aa=>r=.none /\∃h' tk ls ep t,aa={ s with heap:=h',toks:=tk } /\ b_ w h' s.heap.objs.size ls ep t /\ (ls.map (·.1)).Nodup∧(∀z,z ∈ ls.map (·.1) ↔ z ∈ ns) ∧
     (∀b o,s.heap.get? b=some o->h'.get? b=some o)) E) F.called_set.init.plain F.entry_set_init (check_set_init_1 hT ?_)) fun af aa C=>?_
   .obtain ⟨⟨aH,ay,az,aw⟩,ag,ah,nl,ai⟩:=hl;simp only at ah ai;subst ah;subst ai;have aj:=zS ({ cls:=.type "set",dict:=none,data:=.set #[] 0 (.fresh 0 0 (!w.params.followText "set-order")) }:Obj) ag;have aI:=rD;have aJ:=qt;have aN:(Value.type "tuple" == Value.type "dict")=false:=by decide
    have ak:(s.heap.push ({ cls:=.type "set",dict:=none,data:=.set #[] 0 (.fresh 0 0 (!w.params.followText "set-order")) }:Obj)).IsTuple l items:=⟨_,aj,rfl,nl,rfl⟩;unfold Builtin.«set.__init__» noKeywords Builtin.Frozenset.updateFrom;generalize aA:pyIter=PI;wp_walk;subst aA;refine wpAny_pyIter_tuple (s:={ s with heap:=s.heap.push ({ cls:=.type "set",dict:=none,data:=.set #[] 0 (.fresh 0 0 (!w.params.followText "set-order")) }:Obj) }) ak ?_;refine zN (W4 ?_);have ao:l < s.heap.objs.size:=wN ag;have aB:A.in1.in1.in1.handled=none:=by simp [hh]
    have aq:l ≠ (s.heap.push ({ cls:=.type "set",dict:=none,data:=.set #[] 0 (.fresh 0 0 (!w.params.followText "set-order")) }:Obj)).objs.size:=by rw [QM];exact QB (VZ ao)
    have aC:s.heap.objs.size ∉ [(s.heap.push ({ cls:=.type "set",dict:=none,data:=.set #[] 0 (.fresh 0 0 (!w.params.followText "set-order")) }:Obj)).objs.size,l]:= by
     rw [QM];intro hm;rcases uS.mp hm with e | hm
     .exact QB (VR _) e
     .exact VG ao (jP.mp hm)
    have ar:∀(i:Nat) (v:Value),items[i]? = some v->∃t,v=.int ((fun i=>ns.getD i 0) i) t:=fun i v hv=>PyProof.Rows.IntsAre.int_at hi i v (by rw [QQ];exact hv);have aO:ns.length=items.size:=by have:=hi.length;simpa using this.symm
    refine nv (Walks.tuple aB _ l aq items) s.heap.objs.size aC (fun i=>ns.getD i 0) ar hb (items.size - 0) 0 _ s.toks [] 0 (.fresh 0 0 (!w.params.followText "set-order")) (by omega) (QV _) ⟨⟨_,wL _ rfl,rfl,rfl⟩,ak.push _⟩
     (kO (zS _ hS)) (QV _) YN (fun z=>⟨fun hz=>(by cases hz),fun ⟨j,hj,_⟩=>absurd hj (YW _)⟩) fun h' aD l' aE t' kp x' ab J=>?_;refine kT (?_:wpAny _ _ (ret Value.none) _ _ _);refine kT ⟨rfl,h',aD,l',aE,t',rfl,x',ab,fun z=>(J z).trans ⟨fun ⟨j,hj,e⟩=>?_,fun hz=>?_⟩,fun b o e=>?_⟩
    .have au:j < ns.length:=by omega
     have:ns.getD j 0=ns[j]:=by simp [au]
     exact e ▸ this ▸ QH au
    .obtain ⟨j,hj,e⟩:=ZS hz;exact ⟨j,by omega,by simp [hj,e]⟩
    .have av:=wN e;refine kp b o (fun hm=>?_) (zS _ (zS _ e));rcases uS.mp hm with e' | hm
     .exact QB av e'
     .have:=jP.mp hm;rw [QM] at this;exact QB (VZ av) this
   .cases af with
    | error e=>exact C
    | ok ae =>cases ae with
     | ret r=>
      obtain ⟨rfl,h',tk,ls,ep,t,rfl,x',ab,J,kp⟩:=C;repeat (any_goals (first | assumption | wp_step))
      exact h _ _ ls ep t x' ab J kp
     | _=>exact C.elim
  | _=>exact hr.elim
end
theorem AY:Manifest.owners.lookup (String.ofList ['r','o','t','a','r','e','t','i','_','t','e','s'].reverse)=some Manifest.sig_set_iterator:=by kernel_rfl
theorem eZ:Slot "set_iterator" "__next__" "set_iterator.__next__":= .of (owner:="set_iterator") (n:="__next__") (by rfl) (by decide+kernel) (by decide+kernel) (by decide+kernel) (by first|exact .inl (by decide+kernel)|exact .inr (by decide+kernel)) (by kernel_rfl)
theorem uA:entryFor table "set_iterator.__next__"=some Builtin.«set_iterator.__next__»:=entryFor_of_tree (by rfl)
theorem ug(v:Value):argsOk "set_iterator.__next__" ⟨[v],[]⟩:=by unfold argsOk;rw[signature?_of (id:="set_iterator.__next__") (n:=['_','_','t','x','e','n','_','_']) (o:=['r','o','t','a','r','e','t','i','_','t','e','s']) (by kernel_rfl) AY];rfl
theorem kU:Slot "set_iterator" "__iter__" "set_iterator.__iter__":= .of (owner:="set_iterator") (n:="__iter__") (by rfl) (by decide+kernel) (by decide+kernel) (by decide+kernel) (by first|exact .inl (by decide+kernel)|exact .inr (by decide+kernel)) (by kernel_rfl)
theorem tS:entryFor table "set_iterator.__iter__"=some Builtin.«dict_keyiterator.__iter__»:=entryFor_alias (id':="dict_keyiterator.__iter__") (by kernel_rfl) (by first|rfl|decide+kernel|(unfold String.splitOn;simp+decide [String.splitOnAux])) (by decide+kernel) (by kernel_rfl)
theorem t_(v:Value):argsOk "set_iterator.__iter__" ⟨[v],[]⟩:=by unfold argsOk;rw[signature?_of (id:="set_iterator.__iter__") (n:=['_','_','r','e','t','i','_','_']) (o:=['r','o','t','a','r','e','t','i','_','t','e','s']) (by kernel_rfl) AY];rfl
theorem qM:entryFor table "set.__iter__"=some Builtin.«frozenset.__iter__»:=entryFor_alias (id':="frozenset.__iter__") (by kernel_rfl) (by first|rfl|decide+kernel|(unfold String.splitOn;simp+decide [String.splitOnAux])) (by decide+kernel) (by kernel_rfl)
noncomputable abbrev sv(h:Heap)(I S:Addr)(f0:Value)(i n o:Nat):Prop:=h.get? I=some { cls:= .type "set_iterator",dict:=none,data:= .fields #[f0,.int i 0,.ref S,.int n 0,.int o 0],slots:=#[] }
section
variable {prog:Program} {w:World} {A:Around} {E:Value->Shared->Prop} {s:Shared} {I S:Addr} {l:List (Int × Tok)} {ep:Nat} {t:SetTable} {i:Nat} {f0:Value}
theorem b_.state(x:b_ w s.heap S l ep t)(h:Q ((l.map eo).toArray,ep,t) s):wpAny (model prog w) A (setState S) Q E s:=by obtain⟨o,C,_,hd⟩:=x.obj;exact wpAny_setState_of C hd (by simpa using x.fits) h
theorem b_.ty(x:b_ w s.heap S l ep t):s.TypeIs (.ref S) "set":=by obtain⟨o,C,hx,_⟩:=x.obj;exact⟨o,C,hx.1⟩
theorem kL(C:A.handled=none)(J:∀h' e,(∀b o,s.heap.get? b=some o->h'.get? b=some o)->(∃o,h'.get? e=some o/\o.cls= .type "StopIteration")->E (.ref e) { s with heap:=h' }):
  wpAny (model prog w) A (newExc (.type "StopIteration") [] >>=λ x=>(raiseNew x:Sem α)) Q E s:=by refine zN ?_;refine zN (m:=firstArgMember _ _) (wpAny_of_eq (a:=Value.none) (by first|rfl|(simp)) ?_);refine QN ?_ (by size_fits);refine zN (wpAny_handled ?_);rw[C];refine zN (kT (wpAny_throw ?_));exact J _ _ (λ b o e=>zS _ (zS _ e)) ⟨_,wL _ rfl,rfl⟩
theorem kf{Q:Option Value->Shared->Prop}(C:sv s.heap I S f0 i l.length ep)(x:b_ w s.heap S l ep t)
  (h:wpAny (model prog w) A.in1 (if let .int slot _:=f0 then(do
    match<- setNext S slot.toNat i ep with
    |some (x,next)=>
     setField (.ref I) 0 (rawInt next)
     setField (.ref I) 1 (rawInt (i+1))
     ret x
    |none=>setField (.ref I) 2 .none;raiseNew (<- newExc (.type "StopIteration") []))
   else(do
    let some places<- seqItems? f0|unsupported "internal:set_iterator"
    match places[i]? with
    |some (.int place _)=>
     let x<- setNextDrawn S place.toNat ep
     setField (.ref I) 1 (rawInt (i+1))
     ret x
    |some _=>unsupported "internal:set_iterator"
    |none=>setField (.ref I) 0 (rawInt 0);setField (.ref I) 2 .none;raiseNew (<- newExc (.type "StopIteration") [])))
   (λ fin s'=>∃v,fin= .done (.ret v)/\Q (some v) s') (λ e s'=>(∃a o,e= .ref a/\s'.heap.get? a=some o/\o.cls= .type "StopIteration")/\Q none s') s):
  wpAny (model prog w) A (pyNext (.ref I)) Q E s:=by
 have J:s.TypeIs (.ref I) "set_iterator":=⟨_,C,rfl⟩;refine zN (WO (ZK (name:=Str.ofString "__next__") J eZ (ZN eZ J uA ?_ (ug _))));refine zN (m:=slotArgs "__next__" 0 ⟨[.ref I],[]⟩) (kT ?_);refine zN (wpAny_fieldsOf C rfl ?_);refine zN ?_;refine zN (x.state (kT ?_));rw[QC (by simp)];refine QE h (λ fin s' h'=>?_) λ e s' h'=>?_;. obtain⟨v,rfl,q⟩:=h';exact⟨v,rfl,kT q⟩
 .obtain⟨⟨a,o,rfl,U,hc⟩,q⟩:=h';exact zN (XC (T:="StopIteration") (b:=true) ⟨o,U,hc⟩ isSubtype_stop (kT q))
end
section
variable {prog:Program} {w:World} {A:Around} {E:Value->Shared->Prop} {s:Shared} {I S:Addr} {l:List (Int × Tok)} {ep:Nat} {t:SetTable} {i:Nat} {f0:Value}
theorem vA{slot nx:Nat}{v:Value}(C:I≠S)(hI:sv s.heap I S (.int slot 0) i l.length ep)(x:b_ w s.heap S l ep t)
  (hn:∀(Q':Option (Value×Nat)->Shared->Prop)(E':Value->Shared->Prop),Q' (some (v,nx)) s->wpAny (model prog w) A.in1 (setNext S slot i ep) Q' E' s)
  (hQ:∀h',sv h' I S (.int nx 0) (i+1) l.length ep->b_ w h' S l ep t->(∀b o,b≠I->s.heap.get? b=some o->h'.get? b=some o)->Q (some v) { s with heap:=h' }):
  wpAny (model prog w) A (pyNext (.ref I)) Q E s:=by
 refine kf hI x ?_;refine zN (hn _ _ ?_);refine zN (ZG hI (by simp) λ h1 aa J=>?_);refine zN (ZG aa (by simp) λ h2 ab U=>kT ⟨v,rfl,?_⟩);refine hQ h2 (by simpa[sv,rawInt]using ab) (x.at λ o e=>?_) λ b o hb e=>?_;. rw[U.2 S C.symm,J.2 S C.symm];exact e
 .rw[U.2 b hb,J.2 b hb];exact e
theorem jX{slot:Nat}(hh:A.handled=none)(J:sv s.heap I S (.int slot 0) i l.length ep)(x:b_ w s.heap S l ep t)
  (hn:∀(U:Option (Value×Nat)->Shared->Prop)(E':Value->Shared->Prop),U none s->wpAny (model prog w) A.in1 (setNext S slot i ep) U E' s)
  (hQ:∀h',(∀b o,b≠I->s.heap.get? b=some o->h'.get? b=some o)->Q none { s with heap:=h' }):
  wpAny (model prog w) A (pyNext (.ref I)) Q E s:=by refine kf J x ?_;refine zN (hn _ _ ?_);refine zN (ZG J (by simp) λ h1 aa C=>?_);refine kL (s:={ s with heap:=h1 }) hh λ h' e kp he=>?_;obtain⟨o,ho,hc⟩:=he;refine⟨⟨e,o,rfl,ho,hc⟩,hQ h' λ b o hb e=>kp b o ?_⟩;rw[C.2 b hb];exact e
theorem Fq{T:Addr}{places:Array Value}{p:Nat}{v:Int×Tok}(J:I≠S)(aa:I≠T)(hI:sv s.heap I S (.ref T) i l.length ep)(x:b_ w s.heap S l ep t)
  (hT:s.heap.get? T=some { cls:= .type "tuple",data:= .seq places })(hp:places[i]?=some (.int p 0))(hv:l[p]?=some v)
  (hQ:∀h',sv h' I S (.ref T) (i+1) l.length ep->b_ w h' S l ep t->(∀b o,b≠I->s.heap.get? b=some o->h'.get? b=some o)->Q (some (.int v.1 v.2)) { s with heap:=h' }):
  wpAny (model prog w) A (pyNext (.ref I)) Q E s:=by
 refine kf hI x ?_;refine zN (wpAny_seqItems hT rfl ?_);dsimp only;rw[hp];refine zN ?_;refine zN (x.state ?_);dsimp only;rw[QC (by simp)];have:(l.map eo).toArray[(p:Int).toNat]?=some (eo v):=by simp[hv]
 rw[this];refine kT ?_;refine zN (ZG hI (by simp) λ h1 U C=>kT ⟨_,rfl,?_⟩);refine hQ h1 (by simpa[sv,rawInt]using U) (x.at λ o e=>?_) λ b o hb e=>?_;. rw[C.2 S J.symm];exact e
 .rw[C.2 b hb];exact e
theorem rK{T:Addr}{places:Array Value}(hh:A.handled=none)(hI:sv s.heap I S (.ref T) i l.length ep)(x:b_ w s.heap S l ep t)
  (hT:s.heap.get? T=some { cls:= .type "tuple",data:= .seq places })(hp:places[i]?=none)
  (hQ:∀h',(∀b o,b≠I->s.heap.get? b=some o->h'.get? b=some o)->Q none { s with heap:=h' }):
  wpAny (model prog w) A (pyNext (.ref I)) Q E s:=by refine kf hI x ?_;refine zN (wpAny_seqItems hT rfl ?_);dsimp only;rw[hp];refine zN (ZG hI (by simp) λ h1 C J=>?_);refine zN (ZG C (by simp) λ h2 aa U=>?_);refine kL (s:={ s with heap:=h2 }) hh λ h' e kp he=>?_;obtain⟨o,ho,hc⟩:=he;refine⟨⟨e,o,rfl,ho,hc⟩,hQ h' λ b o hb e=>kp b o ?_⟩;rw[U.2 b hb,J.2 b hb];exact e
theorem pb{n:Nat}(C:sv s.heap I S f0 i n ep)(h:Q (.ref I) s):wpAny (model prog w) A (pyIter (.ref I)) Q E s:=by have o:s.TypeIs (.ref I) "set_iterator":=⟨_,C,rfl⟩;refine wpAny_pyIter_slot o kU (ZN kU o tS ?_ (t_ _));exact kT ⟨_,rfl,"set_iterator",_,o,eZ.lookup,h⟩
theorem dY{α:Type}:∀{l:List α}{i:Nat}(h:i<l.length),(l[i]::l.eraseIdx i).Perm l
 |[],_,h=>absurd h (YW _)
 |x::l,0,_=>VT _
 |x::l,i+1,h=>(List.Perm.swap _ _ _).trans ((dY (l:=l) (i:=i) (by grind)).cons x)
theorem FU(next:Nat->Nat):∀(fuel k:Nat)(left:List α)(out:Array α),fuel=left.length->(pickOrder.go next fuel k left out).toList.Perm (out.toList++left):=by intro fuel;induction fuel with
 |zero=>intro k left out h;have:left=[]:=VW h.symm;subst this;unfold pickOrder.go;simp
 |succ fuel C=>intro k left out h;unfold pickOrder.go;have o:next k%left.length<left.length:=Nat.mod_lt _ (by omega);rw[kW o];refine(C _ _ _ (by rw[Y4];split <;> omega)).trans ?_;rw[Array.toList_push,Q4];refine List.Perm.append_left _ ?_;exact(dY o)
theorem yc(next:Nat->Nat)(xs:Array α):(pickOrder next xs).toList.Perm xs.toList:=by unfold pickOrder;have:=FU next xs.size 0 xs.toList #[] (by simp);grind
theorem sV{Q:List Nat->Shared->Prop}:∀(n:Nat)(xs:List Nat)(s:Shared),n=xs.length->(∀ys d,ys.Perm xs->Q ys { s with drawn:=d })->wpAny M A (drawOrder n xs) Q E s:=by intro n;induction n generalizing Q with
 |zero=>intro xs s h o;have:xs=[]:=VW h.symm;subst this;exact kT (o [] s.drawn (VT _))
 |succ n J=>intro xs s h o;cases xs with
  |nil=>cases h
  |cons x xs=>refine zN (λ Γ p U=>?_);refine⟨by simp,?_⟩;rw[Sem.wp_pure];have C:M.w.draws Source.order (s.drawn.get Source.order)%(x::xs).length<(x::xs).length:=Nat.mod_lt _ (by simp);dsimp only;rw[kW C];refine zN (J _ _ (by rw[Y4];split <;> (omega)) λ ys d py=>kT ?_);exact o _ d ((py.cons _).trans (dY C))
end
section
variable {prog:Program} {w:World} {A:Around} {E:Value->Shared->Prop} {s:Shared} {I S:Addr} {l:List (Int × Tok)} {ep:Nat} {t:SetTable} {i:Nat}
theorem ko(h:Q (w.params.followText "set-order") s):wpAny (model prog w) A setsByText Q E s:=zN (XB (kT h))
theorem xx(x:b_ w s.heap S l ep t)(h:Q (!w.params.followText "set-order"&&(!t.plain&&decide (l.length>1))) s):wpAny (model prog w) A (setDrawn S) Q E s:=by
 refine zN (x.state ?_);refine zN (ko ?_);have e:(l.map eo).toArray.size=l.length:=by simp
 rw[<- e]at h;exact kT h
theorem nz(hw:w.params.followText "set-order"=true)(x:b_ w s.heap S l ep t)(h:Q (((pickOrder (w.params.setOrder S ep) (l.map eo).toArray)[i]?).map λ e=>(e.2,slot)) s):
  wpAny (model prog w) A (setNext S slot i ep) Q E s:=by refine zN (x.state ?_);refine zN (ko ?_);rw[hw,gL rfl,QC (by simp)];refine zN ?_;refine zN (x.state ?_);refine zN (ko ?_);rw[hw];exact zN (XB (kT (kT h)))
theorem kz(hw:w.params.followText "set-order"=false)(hd:(!t.plain&&decide (l.length>1))=false)(x:b_ w s.heap S l ep t)
  (h:Q (match(l.map eo).toArray[SetTable.below t.place slot]?,t.place[SetTable.below t.place slot]? with
   |some (_,x),some j=>some (x,j+1)
   |_,_=>none) s):wpAny (model prog w) A (setNext S slot i ep) Q E s:=by
 refine zN (x.state ?_);refine zN (ko ?_);rw[hw,QC fN];have e:(l.map eo).toArray.size=l.length:=by simp
 rw[<- e]at hd;refine(show∀{b:Bool}{m k:Sem (Option (Value×Nat))},b=false->wpAny (model prog w) A k Q E s->wpAny (model prog w) A (if b=true then m else k) Q E s from λ o C=>by simp_all) hd ?_;refine zN ?_;have U:t.led=true:=by rw[x.led,hw];rfl
 refine(show∀{b:Bool}{m k:Sem PUnit}{J:PUnit->Shared->Prop},b=false->wpAny (model prog w) A k J E s->wpAny (model prog w) A (if b=true then m else k) J E s from λ o C=>by rw[o];exact C) (show(!t.led&& !(l.map eo).toArray.isEmpty)=false by rw[U];rfl) ?_;exact kT (kT h)
noncomputable def pj(prog:Program)(w:World)(I S:Addr)(l:List (Int×Tok))(h':Heap)(top:Addr):Prop:=
 ∃(ord:List (Int×Tok)) (fp:List Addr) (St:Nat->Heap->Prop),ord.Perm l/\(∀A:Around,A.handled=none->Walks prog w A I fp [I] l.length (λ i v=>∃p,ord[i]?=some p/\v= .int p.1 p.2) St)/\St 0 h'/\
  (∀i h,St i h->∃o,h.get? I=some o/\o.cls= .type "set_iterator")/\I∈fp/\∀b∈fp,b<h'.objs.size/\(b=S\/top<=b)
theorem qk {h':Heap} {top:Addr} (hw:w.params.followText "set-order" = true) (hIS:I ≠ S) (ht:top ≤ I) (hI:sv h' I S (.int 0 0) 0 l.length ep) (x:b_ w h' S l ep t):pj prog w I S l h' top:= by
 have p0:=yc (w.params.setOrder S ep) (l.map eo).toArray
 rw [show (l.map eo).toArray.toList=l.map eo by simp] at p0
 obtain ⟨ord,eord,pord⟩:=oC p0
 have eg:∀i:Nat,(pickOrder (w.params.setOrder S ep) (l.map eo).toArray)[i]? = (ord[i]?).map eo:=fun i=>by
  rw [<- QQ,eord,QL]
 have hlen:ord.length=l.length:=pord.length_eq
 refine ⟨ord,[I,S],fun i h=>sv h I S (.int 0 0) i l.length ep∧b_ w h S l ep t,pord,fun A hh=>⟨?_,?_,?_,?_,?_⟩,⟨hI,x⟩,fun i h st=>⟨_,st.1,rfl⟩,by simp,fun b hb=>?_⟩
 .intro b hb
  rw [jP.mp hb];simp
 .intro i h h2 st k
  exact ⟨k I (by simp) _ st.1,st.2.at fun o e=>k S (by simp) o e⟩
 .intro i s Q E hi st hQ
  have hx:ord[i]? = some ord[i]:=kW (by omega)
  refine vA (v:=.int ord[i].1 ord[i].2) (nx:=0) hIS st.1 st.2 (fun Q' E' q=>nz hw st.2 ?_) fun h2 a1 a2 a3=>hQ _ h2 s.toks ⟨_,hx,rfl⟩ ⟨a1,a2⟩ fun b o hb e=>a3 b o (fun z=>hb (by rw [z];simp)) e
  rw [eg,hx];exact q
 .intro s Q E st hQ
  refine jX hh st.1 st.2 (fun Q' E' q=>nz hw st.2 ?_) fun h2 a3=>hQ h2 s.toks fun b o hb e=>a3 b o (fun z=>hb (by rw [z];simp)) e
  simp_all
 .intro i s Q E st hQ
  exact pb st.1 hQ
 .rcases uS.mp hb with e | hb
  .rw [e];exact ⟨wN hI,.inr ht⟩
  .rw [jP.mp hb]
   obtain ⟨o,ho,_⟩:=x.obj
   exact ⟨wN ho,.inl rfl⟩
theorem sQ(u:Up xs){i j:Nat}(h:xs[i]?=some j):SetTable.below xs (j+1)=i+1:=by
 obtain⟨J,b1,C⟩:=jl u (j+1);have U:i<SetTable.below xs (j+1):=by
  rcases Nat.lt_or_ge i (SetTable.below xs (j+1))with q|q
  .exact q
  .have:=C i j q h;omega
 rcases Nat.lt_or_ge (i+1) (SetTable.below xs (j+1))with q|q
 .have hs:i+1<xs.size:=by omega
  have o:xs[i+1]?=some xs[i+1]:=by simp
  have a1:=b1 (i+1) _ q o;have a2:=u.lt (VR i) h o;omega
 omega
theorem t5(u:Up xs):SetTable.below xs 0=0:=by
 obtain⟨o,b1,C⟩:=jl u 0;rcases Nat.eq_zero_or_pos (SetTable.below xs 0)with q|q
 .exact q
 .have J:xs[0]?=some xs[0]:=by simp
  grind
theorem pB{top:Addr}(hw:w.params.followText "set-order"=false)(hd:(!t.plain&&decide (l.length>1))=false)(ab:I≠S)(ht:top<=I)(hI:sv h' I S (.int 0 0) 0 l.length ep)(x:b_ w h' S l ep t):pj prog w I S l h' top:=by
 have hsz:t.place.size=l.length:=by have:=x.fits;simp only[SetTable.fits,QI,beq_iff_eq]at this;exact this.1
 have u:Up t.place:=by cases hp:t.plain with
  |true=>exact x.tb hp
  |false=>
   rw[hp]at hd;have hl: ¬l.length>1:=by simpa using hd
   unfold Up;have aa:t.place.toList.length<=1:=by rw[YJ];omega
   generalize t.place.toList=q at aa;match q,aa with
   |[],_=>exact List.Pairwise.nil
   |[_],_=>exact W2 _ _
   |_::_::_,h=>simp at h
 refine⟨l,[I,S],λ i h=>∃slot:Nat,sv h I S (.int slot 0) i l.length ep/\b_ w h S l ep t/\SetTable.below t.place slot=i,VT _,λ A hh=>⟨?_,?_,?_,?_,?_⟩,⟨0,hI,x,t5 u⟩,λ i h ⟨_,st,_⟩=>⟨_,st,rfl⟩,by simp,λ b hb=>?_⟩;. intro b hb;rw[jP.mp hb];simp
 .rintro i h h2 ⟨slot,J,C,U⟩ k;exact⟨slot,k I (by simp) _ J,C.at λ o e=>k S (by simp) o e,U⟩
 .rintro i s Q E hi ⟨slot,J,C,U⟩ hQ;have hx:l[i]?=some l[i]:=kW hi;have hp:t.place[i]?=some t.place[i]:=by simp[hsz,hi]
  refine vA (v:= .int l[i].1 l[i].2) (nx:=t.place[i]+1) ab J C (λ Q' E' q=>kz hw hd C ?_) λ h2 a1 a2 a3=>hQ _ h2 s.toks ⟨_,hx,rfl⟩ ⟨_,a1,a2,sQ u hp⟩ λ b o hb e=>a3 b o (λ z=>hb (by rw[z];simp)) e;have e1:(l.map eo).toArray[i]?=some (eo l[i]):=by simp[hi]
  rw[U,e1,hp];exact q
 .rintro s Q E ⟨slot,J,C,U⟩ hQ;refine jX hh J C (λ Q' E' q=>kz hw hd C ?_) λ h2 a3=>hQ h2 s.toks λ b o hb e=> a3 b o (λ z=>hb (by rw [z];simp)) e;have e1:(l.map eo).toArray[l.length]? = none:=by simp
  rw [U,e1];exact q
 .rintro i s Q E ⟨slot,J,C,U⟩ hQ;exact pb J hQ
 .rcases uS.mp hb with e | hb
  .rw [e];exact ⟨wN hI,.inr ht⟩
  .rw [jP.mp hb];obtain ⟨o,ho,_⟩:=x.obj;exact ⟨wN ho,.inl rfl⟩
theorem qf {h':Heap} {top T:Addr} {ys:List Nat} (hp:ys.Perm (List.range l.length)) (hIS:I ≠ S) (hIT:I ≠ T) (ht:top ≤ I) (htT:top ≤ T) (hI:sv h' I S (.ref T) 0 l.length ep) (x:b_ w h' S l ep t)
  (hT:h'.get? T=some { cls:=.type "tuple",data:=.seq (ys.map fun (i:Nat)=>rawInt i).toArray }):pj prog w I S l h' top:= by
 have hyl:ys.length=l.length:=by rw [hp.length_eq,Q5]
 have hin:∀y ∈ ys,y < l.length:=fun y hy=>uL.mp (hp.mem_iff.mp hy)
 have hpo:(ys.filterMap fun i=>l[i]?).Perm l:=(hp.filterMap _).trans (by rw [List.filterMap_getElem?_range_length])
 have eg:∀i (h:i < ys.length),(ys.filterMap fun i=>l[i]?)[i]? = l[ys[i]]?:= by
  have gen:∀(zs:List Nat),(∀y ∈ zs,y < l.length)->∀i (h:i < zs.length),(zs.filterMap fun i=>l[i]?)[i]? = l[zs[i]]?:= by
   intro zs
   induction zs with
   | nil=>intro _ i h;exact absurd h (YW _)
   | cons z zs ih=>
    intro hz i h
    have hzl:z < l.length:=hz z xS
    have e1:l[z]? = some l[z]:=kW hzl
    rw [List.filterMap_cons_some e1]
    cases i with
    | zero=>simp [e1]
    | succ i=>simpa using ih (fun y hy=>hz y (wV _ hy)) i (by simpa using h)
  grind
 refine ⟨ys.filterMap fun i=>l[i]?,[I,S,T],fun i h=>sv h I S (.ref T) i l.length ep∧b_ w h S l ep t∧h.get? T=some { cls:=.type "tuple",data:=.seq (ys.map fun (i:Nat)=>rawInt i).toArray },hpo,fun A hh=>⟨?_,?_,?_,?_,?_⟩,⟨hI,x,hT⟩,fun i h st=>⟨_,st.1,rfl⟩,by simp,fun b hb=>?_⟩
 .intro b hb
  rw [jP.mp hb];simp
 .rintro i h h2 ⟨st1,st2,st3⟩ k
  exact ⟨k I (by simp) _ st1,st2.at fun o e=>k S (by simp) o e,k T (by simp) _ st3⟩
 .rintro i s Q E hi ⟨st1,st2,st3⟩ hQ
  have hi':i < ys.length:=by omega
  have hyi:ys[i] < l.length:=hin _ (QH hi')
  have hx:l[ys[i]]? = some l[ys[i]]:=kW hyi
  refine Fq hIS hIT st1 st2 st3 (p:=ys[i]) (by simp [hi',rawInt]) hx fun h2 a1 a2 a3=>hQ _ h2 s.toks ⟨_,(eg i hi').trans hx,rfl⟩ ⟨a1,a2,a3 T _ (fun z=>hIT z.symm) st3⟩ fun b o hb e=>a3 b o (fun z=>hb (by rw [z];simp)) e
 .rintro s Q E ⟨st1,st2,st3⟩ hQ
  exact rK hh st1 st2 st3 (by simp [hyl]) fun h2 a3=>hQ h2 s.toks fun b o hb e=>a3 b o (fun z=>hb (by rw [z];simp)) e
 .rintro i s Q E ⟨st1,st2,st3⟩ hQ
  exact pb st1 hQ
 .rcases uS.mp hb with e | hb
  .rw [e];exact ⟨wN hI,.inr ht⟩
  .rcases uS.mp hb with e | hb
   .rw [e]
    obtain ⟨o,ho,_⟩:=x.obj
    exact ⟨wN ho,.inl rfl⟩
   .rw [jP.mp hb]
    exact ⟨wN hT,.inr htT⟩
theorem yh(x:b_ w s.heap S l ep t)
  (h:∀(I:Addr)(h':Heap)(d:Drawn),(∀b o,s.heap.get? b=some o->h'.get? b=some o)->s.heap.objs.size<=I->pj prog w I S l h' s.heap.objs.size->Q (.ref I) { s with heap:=h',drawn:=d }):
  wpAny (model prog w) A (pyIter (.ref S)) Q E s:=by
 have U:S<s.heap.objs.size:=by obtain⟨o,ho,_⟩:=x.obj;exact wN ho
 refine wpAny_pyIter_slot x.ty F.slot_set_iter (ZN F.slot_set_iter x.ty qM ?_ (F.args_set_iter_1 _));refine zN (m:=Builtin.Frozenset.slot0 "__iter__" ⟨[.ref S],[]⟩) (kT ?_);refine zN ?_;refine zN (zN (x.state (kT (kT ?_))));have ez:(l.map eo).toArray.size=l.length:=by simp
 rw[ez];refine zN (xx x ?_);by_cases hb:(!w.params.followText "set-order"&&(!t.plain&&decide (l.length>1)))=true
 .rw[gL hb];refine zN (sV l.length (List.range l.length) s (by simp) λ ys d py=>?_);have aa:ys.length=l.length:=by rw[py.length_eq,Q5]
  refine zN (wpAny_newTuple ?_ (by rw[fD,aa];exact fits_of_scanBound x.few));have C:b_ w (s.heap.push { cls:= .type "tuple",data:= .seq (ys.map λ(i:Nat)=>rawInt i).toArray }) S l ep t:=x.at λ o e=>zS _ e;refine zN ?_;refine zN (b_.state (s:={ s with drawn:=d,heap:=s.heap.push { cls:= .type "tuple",data:= .seq (ys.map λ(i:Nat)=>rawInt i).toArray } }) C (kT ?_));refine zN (QN (kT ⟨_,rfl,"set_iterator",_,⟨_,wL _ rfl,rfl⟩,eZ.lookup,?_⟩));refine h _ _ d (λ b o e=>zS _ (zS _ e)) (by rw[QM];exact Nat.le_succ _) ?_;refine qf (t:=t) py (λ z=>?_) (λ z=>?_) ?_ (wF _) (wL _ rfl) (C.at λ o e=>zS _ e) (zS _ (wL _ rfl));. rw[<- z]at U;have J:(s.heap.push { cls:= .type "tuple",data:= .seq (ys.map λ(i:Nat)=>rawInt i).toArray }).objs.size<s.heap.objs.size:=U;rw[QM]at J;exact absurd J (Y5.mpr (Nat.le_succ _))
  .have z':(s.heap.push { cls:= .type "tuple",data:= .seq (ys.map λ(i:Nat)=>rawInt i).toArray }).objs.size=s.heap.objs.size:=z;rw[QM]at z';exact Nat.succ_ne_self _ z'
  simp
 .rw[QC hb];refine zN (kT ?_);refine zN ?_;refine zN (x.state (kT ?_));refine zN (QN (kT ⟨_,rfl,"set_iterator",_,⟨_,wL _ rfl,rfl⟩,eZ.lookup,?_⟩));refine h _ _ s.drawn (λ b o e=>zS _ e) (wF _) ?_;have C:b_ w (s.heap.push { cls:= .type "set_iterator",data:= .fields [rawInt 0,rawInt 0,.ref S,rawInt l.length,rawInt ep].toArray }) S l ep t:=x.at λ o e=>zS _ e;cases hw:w.params.followText "set-order" with
  |true=>exact qk hw (λ z=>Q8 _ (z▸U)) (wF _) (wL _ rfl) C
  |false=>rw[hw]at hb;exact pB hw (by simpa using hb) (λ z=>Q8 _ (z▸U)) (wF _) (wL _ rfl) C
end
section
variable {prog:Program} {w:World} {A:Around} {E:Value->Shared->Prop} {s:Shared} {I S:Addr} {l:List (Int × Tok)} {ep:Nat} {t:SetTable}
theorem BZ(x:b_ w s.heap S l ep t)(h:Q false s):wpAny (model prog w) A (Builtin.List.listLengthHint (.ref S)) Q E s:=by refine zN (wpAny_specialOf x.ty F.slot_set_len.lookup ?_);generalize FX:("set.__len__":String)=o;wp_delta;subst FX;refine zN (XC (T:="set") (b:=true) x.ty (by kernel_rfl) ?_);exact zN (W5 x.ty (kT h))
theorem EF{ord:List (Int×Tok)}{acc:Array Value}(h:ItemsOf (λ i v=>∃p,ord[i]?=some p/\v= .int p.1 p.2) acc ord.length):acc.toList=ord.map λ p=>Value.int p.1 p.2:=by
 refine List.ext_getElem? λ i=>?_;rw[QL];by_cases o:i<acc.size
 .have e:acc[i]?=some acc[i]:=by simp
  obtain⟨p,C,J⟩:=h.2 i _ e;simp_all
 .rw[QQ,YT (by omega),KW (by have:=h.1;omega)];rfl
theorem ou{Q:List Value->Shared->Prop}(hh:A.handled=none)(x:b_ w s.heap S l ep t)
  (h:∀(ord:List (Int×Tok))(h':Heap)(tk:Nat)(d:Drawn),ord.Perm l->(∀b o,s.heap.get? b=some o->h'.get? b=some o)->Q (ord.map λ p=>Value.int p.1 p.2) { s with heap:=h',toks:=tk,drawn:=d }):
  wpAny (model prog w) A (collect (.ref S)) Q E s:=by
 have C:S<s.heap.objs.size:=by obtain⟨o,ho,_⟩:=x.obj;exact wN ho
 refine zN (W4 (Z2 W9 ?_));refine zN (QN (kT ⟨WN Y0 _,Z2 F.entry_list_iadd ?_⟩));rw[VU Y0 _];have g1:(s.heap.push { cls:= .type "list",data:= .seq ([]:List Value).toArray }).get? s.heap.objs.size=some { cls:= .type "list",data:= .seq ([]:List Value).toArray }:=wL _ rfl;have x1:b_ w (s.heap.push { cls:= .type "list",data:= .seq ([]:List Value).toArray }) S l ep t:=x.at λ o e=>zS _ e;have af:Builtin.List.listSameRef (.ref s.heap.objs.size) (.ref S)=false:=by show(s.heap.objs.size==S)=false;simp only[V3];exact VG C
 show wpAny (model prog w) A.in1 (Builtin.List.listExtendWith (.ref s.heap.objs.size) (.ref S) (.ref s.heap.objs.size)) _ _ _;refine zN (W5 (b_.ty (s:={ s with heap:=s.heap.push { cls:= .type "list",data:= .seq ([]:List Value).toArray } }) x1) ?_);have h2:(Value.type "set"==Value.type "list")=false:=by decide
 have h3:(Value.type "set"==Value.type "tuple")=false:=by decide
 simp[af];refine zN (yh (s:={ s with heap:=s.heap.push { cls:= .type "list",data:= .seq ([]:List Value).toArray } }) x1 λ I U d kp hI Y=>?_);have x2:b_ w U S l ep t:=x1.at λ o e=>kp S o e;refine zN (QZ (BZ (s:={ s with heap:=U,drawn:=d }) x2 ?_));refine zN (YF (zN ?_));have g2:=kp _ _ g1;refine zN (wpAny_updateSeq (s:={ s with heap:=U,drawn:=d }) g2 rfl ?_)
 have g3:=ZJ (Obj.mapSeq (·.push Value.none)) g2 rfl
 refine wpAny_updateSeq (s:={ s with heap:=U.update s.heap.objs.size (Obj.mapSeq (·.push Value.none)),drawn:=d }) g3 rfl ?_ (hz:=by seq_fits)
 have g4:=ZJ (Obj.mapSeq (·.pop)) g3 rfl
 obtain⟨ord,fp,St,po,W,ag,hT,ao,ah⟩:=Y
 have ab:s.heap.objs.size∉fp:= λ hm=>by
  obtain⟨_,h6⟩:=ah _ hm
  rcases h6 with e|e
  .rw[e]at C;exact Q8 _ C
  .have e':(s.heap.push { cls:= .type "list",data:= .seq ([]:List Value).toArray }).objs.size<=s.heap.objs.size:=e
   rw[QM]at e'
   exact Nat.not_succ_le_self _ e'
 have oth:∀b o,b≠s.heap.objs.size->U.get? b=some o->((U.update s.heap.objs.size (Obj.mapSeq (·.push Value.none))).update s.heap.objs.size (Obj.mapSeq (·.pop))).get? b=some o:= λ b o hb e=>by
  rw[V6 _ _ (Ne.symm hb),V6 _ _ (Ne.symm hb)];exact e
 have hlen:ord.length=l.length:=po.length_eq
 have ai:St 0 ((U.update s.heap.objs.size (Obj.mapSeq (·.push Value.none))).update s.heap.objs.size (Obj.mapSeq (·.pop))):=(W A.in1 hh).frame 0 U _ ag λ b hb o e=>oth b o (λ z=>ab (z▸hb)) e
 refine kT ⟨WN F.plain_extend_loop _,codeAny_extend_loopS (W A.in1 hh).toS (fits_of_scanBound x.few) _ ab _ l.length 0 { s with heap:=(U.update s.heap.objs.size (Obj.mapSeq (·.push Value.none))).update s.heap.objs.size (Obj.mapSeq (·.pop)),drawn:=d } #[] _ rfl (QV _) ai g4 (ItemsOf.nil _) fun s' ak c' hm aj aa=>?_⟩
 refine zN (wpAny_load aj (kT ?_))
 rw[<-hlen]at aa
 rw[EF aa,Moved.eq_with hm]
 refine h ord s'.heap s'.toks d po fun b o e=>?_
 have hb:=wN e
 refine hm.heap b o (fun J=>?_) (oth b o (QB hb) (kp b o (zS _ e)))
 rcases uS.mp J with e'|J
 .rw[e']at hb;exact Q8 _ hb
 .have e':=jP.mp J
  have ae:(s.heap.push { cls:= .type "list",data:= .seq ([]:List Value).toArray }).objs.size≤I:=hI
  rw[QM]at ae
  exact absurd hb (Y5.mpr (VH (e'▸ae)))
theorem jV{ns:List Int}{Q:Value->Shared->Prop}
  (hc:∀(U:Around)(Q':List Value->Shared->Prop)(E':Value->Shared->Prop),(U.handled=A.handled)->(∀(vs:List Value)(ms:List Int)(h':Heap)(tk:Nat)(d:Drawn),PyProof.Rows.IntsAre vs ms->ms.Perm ns->(∀b o,s.heap.get? b=some o->h'.get? b=some o)->Q' vs { s with heap:=h',toks:=tk,drawn:=d })->
   wpAny (model prog w) U (collect v) Q' E' s)(aa:ns.length<64)
  (h:∀(C h':Heap)(tk:Nat)(d:Drawn)(out:List Value)(ms:List Int)(e:Nat),(∀b o,s.heap.get? b=some o->C.get? b=some o)->(∀b o,C.get? b=some o->h'.get? b=some o)->h'.get? C.objs.size=some { cls:= .type "list",data:= .seq out.toArray e }->
   PyProof.Rows.IntsAre out ms->ms.Perm ns->ms.Pairwise (. <= .)->Q (.ref C.objs.size) { s with heap:=h',toks:=tk,drawn:=d }):
  wpAny (model prog w) A (call (.builtin "sorted") [v]) Q E s:=by
 refine Calls.call_function_entry PyProof.Rows.kind_sorted PyProof.Rows.plain_sorted PyProof.Rows.entry_sorted (PyProof.Rows.args_sorted1 _) ?_;refine zN (m:=checkCount "sorted" 1 1 _) (kT ?_);refine zN (hc _ _ _ (by simp) λ vs ms C tk d hi pm kp=>?_);have hl:vs.length=ns.length:=by rw[hi.length,pm.length_eq]
 refine zN (wpAny_newList ?_ (by rw[VL];omega));have g1:(C.push (PyProof.Rows.seqObj "list" vs.toArray 0)).get? C.objs.size=some (PyProof.Rows.seqObj "list" vs.toArray 0):=wL _ rfl;refine zN (QZ (ZN PyProof.Rows.slot_list_sort ⟨_,g1,rfl⟩ PyProof.Rows.entry_list_sort (PyProof.Rows.list_sort_tree (s:={ s with heap:=C.push (PyProof.Rows.seqObj "list" vs.toArray 0),toks:=tk,drawn:=d }) g1 hi (by omega) λ out J a1 a2 a3=>⟨_,rfl,?_⟩) (PyProof.Rows.args_list_sort _)));obtain⟨e,he⟩:=PyProof.Rows.sortedHeap_at (out:=out) g1;refine kT ⟨_,rfl,h C _ tk d out.toList J e kp (λ b o eb=>?_) (by omega) a1 (a2.trans pm) a3⟩;have hb:=wN eb;rw[PyProof.Rows.sortedHeap_old (QB hb) (by rw[QM];grind)];exact zS _ eb
end
noncomputable def vI(b:Bool)(h:Heap)(q:Addr)(xs:Array Value):Prop:=match b with
 |true=>h.IsTuple q xs
 |false=>h.IsList q xs
noncomputable def vO(b:Bool)(h:Heap)(it q:Addr)(k:Nat):Prop:=match b with
 |true=>h.IsTupleIter it q k
 |false=>h.IsListIter it q k
noncomputable def qh(b:Bool)(q:Addr):Obj:={ cls:= .type (if b then"tuple_iterator" else"list_iterator"),data:= .fields #[.ref q,.int 0 0] }
section
variable {prog:Program} {w:World} {A:Around} {E:Value->Shared->Prop} {s:Shared} {b:Bool} {it q:Addr} {k:Nat} {xs:Array Value}
theorem vI.at(x:vI b h q xs)(e:∀o,h.get? q=some o->h'.get? q=some o):vI b h' q xs:=by cases b with
 |true=>obtain⟨o,C,r⟩:=x;exact⟨o,e o C,r⟩
 |false=>obtain⟨o,C,r⟩:=x;exact⟨o,e o C,r⟩
theorem vO.at(x:vO b h it q k)(e:∀o,h.get? it=some o->h'.get? it=some o):vO b h' it q k:=by cases b with
 |true=>obtain⟨o,C,r⟩:=x;exact⟨o,e o C,r⟩
 |false=>obtain⟨o,C,r⟩:=x;exact⟨o,e o C,r⟩
theorem vO.lt(x:vO b h it q k):it<h.objs.size:=by cases b with
 |true=>obtain⟨o,C,r⟩:=x;exact wN C
 |false=>obtain⟨o,C,r⟩:=x;exact wN C
theorem vI.lt(x:vI b h q xs):q<h.objs.size:=by cases b with
 |true=>obtain⟨o,C,r⟩:=x;exact wN C
 |false=>obtain⟨o,C,r⟩:=x;exact wN C
theorem pv(x:vI b s.heap q xs)(h:Q (.ref s.heap.objs.size) { s with heap:=s.heap.push (qh b q) }):wpAny (model prog w) A (pyIter (.ref q)) Q E s:=by cases b with
 |true=>exact wpAny_pyIter_tuple x h
 |false=>exact VY x h
theorem vO.new{h:Heap}:vO b (h.push (qh b q)) h.objs.size q 0:=by cases b with
 |true=>exact⟨_,wL _ rfl,rfl,rfl⟩
 |false=>exact⟨_,wL _ rfl,rfl,rfl⟩
theorem EN(U:vO b s.heap it q k)(hq:vI b s.heap q xs)(hx:xs[k]?=some x)(h:∀h',vO b h' it q (k+1)->Heap.SameBut it s.heap h'->Q x { s with heap:=h' }):
  wpAny (model prog w) A (Builtin.SmallTypes.nextOf (.ref it)) Q E s:=by cases b with
 |false=>exact wpAny_nextOf_list_item U hq hx h
 |true=>obtain⟨o,C,hc,hd⟩:=id U;obtain⟨oq,I,_,n,J⟩:=hq;have hT:s.TypeIs (.ref it) "tuple_iterator":=⟨o,C,hc⟩;refine zN (ZK (name:=Str.ofString "__next__") hT V9 (ZN V9 hT F.entry_tuple_iterator_next (?_:wpAny _ _ (field (.ref it) 0 >>= _) _ _ s) (F.args_tuple_iterator_next_1 _)));refine zN (VM C hd (x:= .ref q) rfl (?_:wpAny _ _ (if(Value.ref q==Value.none)=true then _ else _) _ _ s));refine zN (VM C hd (x:= .int k 0) rfl (?_:wpAny _ _ (seqItems? (.ref q) >>= _) _ _ s));refine zN (wpAny_seqItems I J ?_);simp[hx];refine zN (wpAny_setField C hd (by simp) (kT ⟨x,rfl,kT (h _ ⟨_,ZJ _ C (Obj.isFreed_of_fields (WX hd _)),(Obj.cls_mapFields ..).trans hc,?_⟩ (QS ..))⟩));rw[WX hd];rfl
theorem IH(hh:A.handled=none)(hi:vO b s.heap it q k)(hq:vI b s.heap q xs)(hx:xs[k]?=none)
  (h:∀h' e,(∀c o,c≠it->s.heap.get? c=some o->h'.get? c=some o)->(∃o,h'.get? e=some o/\o.cls= .type "StopIteration")->E (.ref e) { s with heap:=h' }):
  wpAny (model prog w) A (Builtin.SmallTypes.nextOf (.ref it)) Q E s:=by cases b with
 |false=>exact wpAny_nextOf_list_end hh hi hq hx h
 |true=>obtain⟨o,C,I,hd⟩:=id hi;obtain⟨oq,J,_,n,U⟩:=hq;have hT:s.TypeIs (.ref it) "tuple_iterator":=⟨o,C,I⟩;refine zN (ZK (name:=Str.ofString "__next__") hT V9 (ZN V9 hT F.entry_tuple_iterator_next (?_:wpAny _ _ (field (.ref it) 0 >>= _) _ _ s) (F.args_tuple_iterator_next_1 _)));refine zN (VM C hd (x:= .ref q) rfl (?_:wpAny _ _ (if(Value.ref q==Value.none)=true then _ else _) _ _ s));refine zN (VM C hd (x:= .int k 0) rfl (?_:wpAny _ _ (seqItems? (.ref q) >>= _) _ _ s));refine zN (wpAny_seqItems J U ?_);simp[hx];refine zN (YF (zN (wpAny_setField C hd (by simp) (?_:wpAny _ _ (newExc (.type "StopIteration") [] >>= _) _ _ _))));refine kL (s:={ s with heap:=s.heap.update it _ }) (by omega) λ h' e kp he=>h h' e (λ c o I e'=>kp c o ?_) he;exact(V6 _ _ (Ne.symm I)).trans e'
end
section
variable {prog:Program} {w:World} {A:Around} {E:Value->Shared->Prop} {s:Shared} {b:Bool} {q it e:Addr} {xs:Array Value} {k:Nat}
theorem tV(b:Bool)(l:Addr)(xs:Array Value):Meets (Builtin.«enumerate.__new__» ⟨[.type "enumerate",.ref l],[]⟩) (λ _ R s=>vI b s.heap l xs/\R (.ok (.ret (.ref (s.heap.push (qh b l)).objs.size)))
  { s with heap:=(s.heap.push (qh b l)).push { cls:= .type "enumerate",data:= .fields #[.none,.bool false,.ref s.heap.objs.size,rawInt 0,.none,.none] } }):=
 .of_wp λ prog w A R s h=>by
  obtain⟨I,g,d,tk,os⟩:=s;obtain⟨J,h⟩:=h;have C:=sub_enumerate;have o:vI b (Shared.heap ⟨I,g,d,tk,os⟩) l xs:=J;wp_walk;refine wpAny_stack_any λ st=>kT ?_;split
  .rename_i c _ _ _ _ _;cases(c==Value.type "enumerate")
   .wp_walk using pv o;exact⟨_,rfl,h⟩
   .wp_walk using pv o;exact⟨_,rfl,h⟩
  .wp_walk using pv o;exact⟨_,rfl,h⟩
noncomputable abbrev NZ(b:Bool)(e it l:Addr)(xs:Array Value)(k:Nat)(h:Heap):Prop:=(∃old,IsEnum h e it k old)/\vO b h it l k/\vI b h l xs
theorem zx(I:vI b s.heap q xs)
  (h:∀h' e it,e≠it->q≠e->q≠it->NZ b e it q xs 0 h'->(∀c o,s.heap.get? c=some o->h'.get? c=some o)->s.heap.objs.size<=e->s.heap.objs.size<=it->Q (.ref e) { s with heap:=h' }):
  wpAny (model prog w) A (call (.type "enumerate") [.ref q]) Q E s:=by
 refine callType_new F.called_enumerate (by decide) (F.typeCall_enumerate_1 _) (F.newCall_enumerate_1 _) (λ obj=>F.args_object_init_2 obj _) F.entry_enumerate_new (tV b q xs) ⟨I,?_⟩;have a1:(s.heap.push (qh b q)).objs.size=s.heap.objs.size+1:=QM ..;have C:=I.lt;refine⟨⟨_,wL _ rfl,rfl⟩,h _ _ s.heap.objs.size (λ z=>?_) (λ z=>?_) (QB C) ⟨⟨.none,wL _ rfl⟩,vO.new.at λ o e=>zS _ e,I.at λ o e=>zS _ (zS _ e)⟩ (λ c o e=>zS _ (zS _ e)) ?_ (wF _)⟩;. rw[a1]at z;exact Nat.succ_ne_self _ z
 .rw[a1]at z;exact QB (VZ C) z
 simp
theorem xE(aa:e≠it)(ae:q≠e)(af:q≠it)(st:NZ b e it q xs k s.heap)(hx:xs[k]?=some v)
  (hQ:∀h',IsEnumOut h' e it (k+1) v s.heap.objs.size->vO b h' it q (k+1)->vI b h' q xs->IsPair h' s.heap.objs.size (.int k s.toks) v->(∀c o,c≠e->c≠it->s.heap.get? c=some o->h'.get? c=some o)->Q (some (.ref s.heap.objs.size)) { s with heap:=h',toks:=s.toks+1 }):
  wpAny (model prog w) A (pyNext (.ref e)) Q E s:=by
 obtain⟨⟨old,he⟩,hi,hq⟩:=st;have hT:s.TypeIs (.ref e) "enumerate":=⟨_,he,rfl⟩;have ag:e<s.heap.objs.size:=wN he;refine zN (WO (ZK (name:=Str.ofString "__next__") hT YX (ZN YX hT F.entry_enumerate_next (?_:wpAny _ _ (field (.ref e) 2 >>= _) _ _ _) (F.args_enumerate_next_1 _))));obtain⟨hp,g,d,tk,os⟩:=s;refine zN (VM he rfl (x:= .ref it) rfl (zN (EN hi hq hx λ I ah s1=>?_)));have e1:IsEnum I e it k old:=(s1.2 e aa).trans he;refine zN (VM (s:=⟨I,g,d,tk,os⟩) e1 rfl (x:=rawInt k) rfl (?_:wpAny _ _ (field (.ref e) 4 >>= _) _ _ ⟨I,g,d,tk,os⟩));refine zN (VM (s:=⟨I,g,d,tk,os⟩) e1 rfl (x:= .none) rfl (?_:wpAny _ _ (mkInt k >>= _) _ _ ⟨I,g,d,tk,os⟩));refine zN (wpAny_mkInt (?_:wpAny _ _ (setField (.ref e) 3 (rawInt (k+1)) >>= _) _ _ ⟨I,g,d,tk+1,os⟩));refine zN (ZG (s:=⟨I,g,d,tk+1,os⟩) e1 (by simp) λ h2 e2 s2=>(?_:wpAny _ _ (setField (.ref e) 4 .none >>= _) _ _ ⟨h2,g,d,tk+1,os⟩));refine zN (ZG (s:=⟨h2,g,d,tk+1,os⟩) e2 (by simp) λ U e3 s3=>(?_:wpAny _ _ (newTuple [.int k tk,v] >>= _) _ _ ⟨U,g,d,tk+1,os⟩));refine zN (wpAny_newTuple ?_);have hsz:U.objs.size=hp.objs.size:=by rw[s3.1,s2.1,s1.1]
 have e4:IsEnum (U.push { cls:= .type "tuple",data:= .seq #[.int k tk,v] }) e it (k+1) old:=zS _ e3;have t4:IsPair (U.push { cls:= .type "tuple",data:= .seq #[.int k tk,v] }) hp.objs.size (.int k tk) v:=by rw[<- hsz];exact wL _ rfl
 have ab:∀c o,c≠e->I.get? c=some o->(U.push { cls:= .type "tuple",data:= .seq #[.int k tk,v] }).get? c=some o:= λ c o J x=>zS _ (s3.extBut c o J (s2.extBut c o J x));rw[hsz];generalize U.push { cls:= .type "tuple",data:= .seq #[.int k tk,v] }=h4 at e4 t4 ab;refine zN ?_;refine zN (VM (s:=⟨h4,g,d,tk+1,os⟩) e4 rfl (x:= .none) rfl (kT ?_));refine zN (YF (zN (VM (s:=⟨h4,g,d,tk + 1,os⟩) e4 rfl (x:=old) rfl ?_)));refine zN (ZG (s:=⟨h4,g,d,tk + 1,os⟩) e4 (by simp) λ h5 e5 s5=>(?_:wpAny _ _ (Builtin.SmallTypes.ownedTupleHandOut (.ref e) (.ref hp.objs.size) >>= _) _ _ ⟨h5,g,d,tk + 1,os⟩));replace e5:IsEnum h5 e it (k + 1) v:=e5;refine zN ?_;refine zN (ZG (s:=⟨h5,g,d,tk + 1,os⟩) e5 (by simp) λ h6 e6 s6=>?_);refine ZG (s:=⟨h6,g,d,tk + 1,os⟩) e6 (by simp) λ h7 e7 s7=>?_;have up:∀c o,c ≠ e->I.get? c=some o->h7.get? c=some o:=λ c o J x=>s7.extBut c o J (s6.extBut c o J (s5.extBut c o J (ab c o J x)));have C:hp.objs.size ≠ e:=VG ag;exact zN (wpAny_letGo (kT ⟨_,rfl,kT (hQ h7 e7 (ah.at λ o x=>up _ _ aa.symm x) (hq.at λ o x=>up _ _ ae (s1.extBut _ _ af x)) (s7.extBut _ _ C (s6.extBut _ _ C (s5.extBut _ _ C t4))) λ c o c1 c2 x=>up c o c1 (s1.extBut _ _ c2 x))⟩))
theorem zE(hh:A.handled=none)(st:NZ b e it q xs k s.heap)(hx:xs[k]?=none)(J:∀h',(∀c o,c≠it->s.heap.get? c=some o->h'.get? c=some o)->Q none { s with heap:=h' }):wpAny (model prog w) A (pyNext (.ref e)) Q E s:=by obtain⟨⟨old,he⟩,U,hq⟩:=st;have I:s.TypeIs (.ref e) "enumerate":=⟨_,he,rfl⟩;refine zN (WO (ZK (name:=Str.ofString "__next__") I YX (ZN YX I F.entry_enumerate_next (?_:wpAny _ _ (field (.ref e) 2 >>= _) _ _ _) (F.args_enumerate_next_1 _))));refine zN (VM he rfl (x:= .ref it) rfl (zN (IH (by omega) U hq hx λ h' x kp C=>?_)));obtain⟨o,ho,hc⟩:=C;exact zN (XC (T:="StopIteration") (b:=true) ⟨o,ho,hc⟩ isSubtype_stop (kT (J _ kp)))
end
end Jt
namespace L2
open PySem PySem.Spec PyProof.Rows
noncomputable abbrev Key:=Sum Int Str
noncomputable def nY:Key->Value->Bool
 | .inl k,v=>Value.isInt k v
 | .inr x,v=>Value.isStrOf x v
noncomputable def N1(w:World):Key->Int
 | .inl k=>hashInt k
 | .inr x=>hashStr w x
theorem cF:∀{k:Key}{v:Value},nY k v=true->(∃i t,k=Sum.inl i/\v=Value.int i t)\/(∃x t,k=Sum.inr x/\v=Value.str x t)
 | .inl i,v,h=>by obtain⟨t,e⟩:=Value.isInt_shape (k:=i) (v:=v) h;grind
 | .inr x,v,h=>by obtain⟨t,e⟩:=Value.isStrOf_shape (x:=x) (v:=v) h;grind
theorem xh(i:Int)(t:Tok):nY (.inl i) (.int i t)=true:=by simp[nY,Value.isInt]
theorem yt(x:Str)(t:Tok):nY (.inr x) (.str x t)=true:=by simp[nY,Value.isStrOf]
theorem Jz(a b:Int):decide ((Sum.inl a:Key)=Sum.inl b)=(a==b):=by grind
theorem HV(a b:Str):decide ((Sum.inr a:Key)=Sum.inr b)=decide (a=b):=by simp
theorem J9(a:Int)(b:Str):decide ((Sum.inl a:Key)=Sum.inr b)=false:=Z3 (λ q=>nomatch q)
theorem IL(a:Str)(b:Int):decide ((Sum.inr a:Key)=Sum.inl b)=false:=Z3 (λ q=>nomatch q)
noncomputable def cK (prog:Program) (w:World):PySem.KeyKind prog w Key where
 is:=nY
 hash:=N1 w
 inj:=fun v a b ha hb=>by
  rcases cF ha with ⟨i,t,rfl,rfl⟩ | ⟨x,t,rfl,rfl⟩
  .rcases cF hb with ⟨j,u,rfl,e⟩ | ⟨y,u,rfl,e⟩
   .injection e with e1 _;rw [e1]
   .exact nomatch e
  .rcases cF hb with ⟨j,u,rfl,e⟩ | ⟨y,u,rfl,e⟩
   .exact nomatch e
   .injection e with e1 _;rw [e1]
 byValue:=fun k v h=>by
  rcases cF h with ⟨i,t,rfl,rfl⟩ | ⟨x,t,rfl,rfl⟩ <;> rfl
 pyHash:=fun hv h=>by
  rcases cF hv with ⟨i,t,rfl,rfl⟩ | ⟨x,t,rfl,rfl⟩
  .exact wpAny_pyHash_int h
  .exact wpAny_pyHash_str h
 eqBool:=fun hu hv h=>by
  rcases cF hu with ⟨i,t,rfl,rfl⟩ | ⟨x,t,rfl,rfl⟩
  .rcases cF hv with ⟨j,u,rfl,rfl⟩ | ⟨y,u,rfl,rfl⟩
   .rw [Jz] at h;exact wpAny_eqBool_int h
   .rw [J9] at h;exact SeqAt.EqAt.int_str i t y u _ _ _ _ h
  .rcases cF hv with ⟨j,u,rfl,rfl⟩ | ⟨y,u,rfl,rfl⟩
   .rw [IL] at h;exact SeqAt.EqAt.str_int x t j u _ _ _ _ h
   .rw [HV] at h;exact wpAny_eqBool_str h
 «strs»:=fun k x t v h=>by
  rcases cF h with ⟨i,u,rfl,e⟩ | ⟨y,u,rfl,e⟩
  .exact nomatch e
  .injection e with e1 _
   subst e1
   cases v <;> rfl
theorem p_(prog:Program)(w:World)(i:Int)(t:Tok):(cK prog w).is (.inl i) (.int i t)=true:=xh i t
theorem qv(prog:Program)(w:World)(x:Str)(t:Tok):(cK prog w).is (.inr x) (.str x t)=true:=yt x t
inductive V where
 | non | bl (b:Bool) | int (i:Int) | str (x:Str) | byt (b:Array UInt8) | flt (b:UInt64) | ref (a:Addr) | ty (n:String)
 deriving DecidableEq
noncomputable def RelV:V->Value->Prop
 | .non,u=>u=Value.none
 | .bl b,u=>u=Value.bool b
 | .int i,u=>∃t,u=Value.int i t
 | .str x,u=>∃t,u=Value.str x t
 | .byt b,u=>∃t,u=Value.bytes b t
 | .flt b,u=>∃t,u=Value.float b t
 | .ref a,u=>u=Value.ref a
 | .ty n,u=>u=Value.type n
noncomputable abbrev Vals:List V->List Value->Prop:=Paired RelV
theorem Vals.length(r:Vals xs us):xs.length=us.length:=XG r
theorem Vals.get:∀{xs:List V}{us:List Value}{i:Nat}{x:V},Vals xs us->xs[i]?=some x->∃u,us[i]?=some u/\RelV x u
 |_,_,_,_,.nil,e=>by grind
 |_,_,0,_,.cons r _,e=>by simp_all
 |_,_,i+1,x,.cons _ t,e=>by obtain⟨u,o,C⟩:=Vals.get (i:=i) (x:=x) t (by simp_all);grind
theorem Vals.set(r:RelV x u):∀{xs:List V}{us:List Value}(i:Nat),Vals xs us->Vals (xs.set i x) (us.set i u)
 |_,_,_,.nil=> .nil
 |_,_,0,.cons _ t=> .cons r t
 |_,_,i+1,.cons q t=> .cons q (Vals.set r i t)
theorem Vals.append:∀{xs ys:List V}{us ws:List Value},Vals xs us->Vals ys ws->Vals (xs++ys) (us++ws)
 |_,_,_,_,.nil,s=>s
 |_,_,_,_,.cons r t,s=> .cons r (Vals.append t s)
theorem Vals.take:∀{xs:List V}{us:List Value}(n:Nat),Vals xs us->Vals (xs.take n) (us.take n)
 |_,_,0,_=> .nil
 |_,_,_+1,.nil=> .nil
 |_,_,n+1,.cons r t=> .cons r (Vals.take n t)
theorem Vals.drop:∀{xs:List V}{us:List Value}(n:Nat),Vals xs us->Vals (xs.drop n) (us.drop n)
 |_,_,0,r=>r
 |_,_,_+1,.nil=> .nil
 |_,_,n+1,.cons _ t=>Vals.drop n t
noncomputable def RelO:Option V->Option Value->Prop
 |some v,some u=>RelV v u
 |none,none=>True
 |_,_=>False
noncomputable def KV{o:Type}:List (o×V)->List (o×Value)->Prop:=Paired λ(p:o×V) (q:o×Value)=>p.1=q.1/\RelV p.2 q.2
noncomputable def kV:Key->V
 | .inl i=> .int i
 | .inr x=> .str x
inductive HO where
  | lst (xs:List V)
  | tup (xs:List V)
  | dK (kvs:List (Key × V)) | dT (kvs:List (List Key × V))
  | set (S:Int->Bool) (n:Nat)
  | ins (C dx:Addr) (fs:List (Str × V))
  | own (x:Addr)
  | xd (fs:List (Str × V))
  | met (f x:Addr)
  | rng (lo hi:Int)
  | frz (o:Obj) (u:HO)
  | tbl (ps:Array Value)
  | ext (φ:Heap->Prop)
noncomputable abbrev Hp:=Addr->Option HO
noncomputable def upd(H:Hp)(a:Addr)(o:HO):Hp:= λ b=>if b=a then some o else H b
theorem bj:upd H a o a=some o:=by unfold upd;simp
theorem aY{a b:Addr}{o:HO}(h:b≠a):upd H a o b=H b:=by unfold upd;grind
theorem EU:upd (upd H a o) a u=upd H a u:=by unfold upd;grind
theorem MF{H:Hp}{a b:Addr}{o u:HO}(h:H a=some o)(h':H b=some u)(d:o≠u):a≠b:=by grind
theorem bC{H:Hp}{a b:Addr}{o:HO}(h:H a=some o)(h':H b=none):a≠b:=by grind
noncomputable def rL(h:Heap)(a:Addr)(items:Array Value):Prop:=IsTup h a items/\∃o,h.get? a=some o/\o.dict=none
theorem rL.new(h:Heap)(items:Array Value):rL (h.push { cls:= .type "tuple",data:= .seq items }) h.objs.size items:=⟨IsTup.new _ _,_,wL _ rfl,rfl⟩
section
variable (P:Program) (w:World)
noncomputable def cg(H:Hp)(h:Heap)(a:Addr):HO->Prop
 | .lst xs=>xs.length<=sizeLine/\∃(its:List Value) (n:Nat),Vals xs its/\h.get? a=some { cls:= .type "list",data:= .seq its.toArray n }
 | .tup xs=>xs.length<=sizeLine/\∃its:List Value,Vals xs its/\rL h a its.toArray
 | .dK kvs=>kvs.length<=sizeLine/\(a==sysModules)=false/\∃vs,KV kvs vs/\h.DictOf (cK P w) a vs
 | .dT kvs=>kvs.length<=sizeLine/\(a==sysModules)=false/\∃xs:List (List Key×Addr×Value),
   Paired (λ(p:List Key×V) (q:List Key×Addr×Value)=>p.1=q.1/\H q.2.1=some (.tup (p.1.map kV))/\RelV p.2 q.2.2) kvs xs/\
   ∃o es ep,h.get? a=some o/\o.ExactDict/\o.data= .dict es ep/\es.toList=xs.map (entryOfKey (tupleKind (cK P w)))/\(xs.map (·.1)).Nodup/\ep=es.size
 | .set S n=>h.SetOf (intKind P w) a S n
 | .ins C J fs=>H J=some (.own a)/\fs.length<=1000/\J≠a/\h.get? a=some (PySem.W.instObj C J)/\
   ∃I,h.Ns1 J I/\(∀f,RelO (fs.lookup f) (I f))/\PySem.Within I (fs.map (·.1))
 | .own _=>∃o,h.get? a=some o
 | .xd fs=>∃I,h.Ns1 a I/\∀f,RelO (fs.lookup f) (I f)
 | .rng lo hi=>∃t u v,h.get? a=some { cls:= .type "range",data:= .fields #[.int lo t,.int hi u,.int 1 v] }
 | .frz o u=>h.get? a=some o/\cg H h a u
 | .tbl qs=>∃ps:Array Value,h.get? a=some { cls:= .none,data:= .fields ps }/\TriplesOk ps.toList/\∀(q:Str)(t0:Tok)(pos:Pos)(cv:Value),qs[0]?=some (.str q t0)->codeAmong pos ps.toList=some cv->
   ∃c' oc u vs t,cv= .ref c'/\H c'=some (.frz oc u)/\oc.data= .fields vs/\vs[1]?=some (.str q t)
 | .met f x=>h.get? a=some (PySem.W.methodObj (.ref f) (.ref x))
 | .ext U=>U h/\(∃o,h.get? a=some o)/\∀h1 h2:Heap,U h1->(∀o,h1.get? a=some o->h2.get? a=some o)->U h2
noncomputable def iG(H:Hp)(h:Heap):Prop:=∀a o,H a=some o->cg P w H h a o
end
section
variable {P:Program} {w:World} {H H':Hp} {h h':Heap} {a:Addr} {o:HO}
theorem cg.lt(x:cg P w H h a o):a<h.objs.size:=by cases o with
 |lst xs=>obtain⟨_,_,_,_,e⟩:=x;exact wN e
 |tup xs=>obtain⟨_,_,_,p⟩:=x;exact p.1.lt
 |dK kvs=>obtain⟨_,_,_,_,o,_,_,e,_⟩:=x;exact wN e
 |dT kvs=>obtain⟨_,_,_,_,o,_,_,e,_⟩:=x;exact wN e
 |set S n=>obtain⟨o,_,_,_,e,_⟩:=x;exact wN e
 |ins C dx fs=>obtain⟨_,_,_,e,_⟩:=x;exact wN e
 |own y=>obtain⟨_,e⟩:=x;exact wN e
 |xd fs=>obtain⟨_,⟨_,_,_,e,_⟩,_⟩:=x;exact wN e
 |rng lo hi=>obtain⟨_,_,_,e⟩:=x;exact wN e
 |frz ob u=>obtain⟨e,_⟩:=x;exact wN e
 |tbl ps=>obtain⟨_,e,_⟩:=x;exact wN e
 |met f y=>exact wN (show h.get? a=some _ from x)
 |ext φ=>obtain⟨_,⟨_,e⟩,_⟩:=x;exact wN e
theorem Paired.mapP:∀{C:List α}{I:List β},Paired F C I->(∀a b,F a b->G a b)->Paired G C I
 |_,_,.nil,_=> .nil
 |_,_,.cons r t,f=> .cons (f _ _ r) (Paired.mapP t f)
theorem cg.stay(x:cg P w H h a o)(k:∀b u,(b=a\/H b=some (.own a))->h.get? b=some u->h'.get? b=some u)
  (ho:∀b,H b=some (.own a)->H' b=some (.own a))(ht:∀b xs,H b=some (.tup xs)->H' b=some (.tup xs))(hf:∀b o u,H b=some (.frz o u)->H' b=some (.frz o u):=by exact fun _ _ _ h=>h):cg P w H' h' a o:=by induction o with
 |lst xs=>obtain⟨z,its,n,r,e⟩:=x;exact⟨z,its,n,r,k _ _ (.inl rfl) e⟩
 |tup xs=>obtain⟨z,its,r,⟨I,e,c⟩,U,e2,d⟩:=x;exact⟨z,its,r,⟨I,k _ _ (.inl rfl) e,c⟩,U,k _ _ (.inl rfl) e2,d⟩
 |dK kvs=>obtain⟨z,y,vs,r,I,es,J,e,c⟩:=x;exact⟨z,y,vs,r,I,es,J,k _ _ (.inl rfl) e,c⟩
 |dT kvs=>obtain⟨z,y,xs,r,I,es,J,e,c⟩:=x;exact⟨z,y,xs,Paired.mapP r λ p q z=>⟨z.1,ht _ _ z.2.1,z.2.2⟩,I,es,J,k _ _ (.inl rfl) e,c⟩
 |set S n=>obtain⟨I,es,J,t,e,c⟩:=x;exact⟨I,es,J,t,k _ _ (.inl rfl) e,c⟩
 |ins C dx fs=>obtain⟨d,z,ne,e,mA,⟨od,es,J,e2,c⟩,r⟩:=x;exact⟨ho _ d,z,ne,k _ _ (.inl rfl) e,mA,⟨od,es,J,k _ _ (.inr d) e2,c⟩,r⟩
 |own y=>obtain⟨I,e⟩:=x;exact⟨I,k _ _ (.inl rfl) e⟩
 |xd fs=>obtain⟨mA,⟨od,es,J,e,c⟩,r⟩:=x;exact⟨mA,⟨od,es,J,k _ _ (.inl rfl) e,c⟩,r⟩
 |rng lo hi=>obtain⟨t,u,v,e⟩:=x;exact⟨t,u,v,k _ _ (.inl rfl) e⟩
 |frz I u ih=>obtain⟨e,q⟩:=x;exact⟨k _ _ (.inl rfl) e,ih q⟩
 |tbl ps=>obtain⟨qs,e,tr,c⟩:=x;refine⟨qs,k a _ (.inl rfl) e,tr,λ q t0 pos cv h1 h2=>?_⟩;grind
 |met f y=>have e:h.get? a=some (PySem.W.methodObj (.ref f) (.ref y)):=x;show h'.get? a=some (PySem.W.methodObj (.ref f) (.ref y));grind
 |ext φ=>obtain⟨p,⟨o,e⟩,st⟩:=x;exact⟨st _ _ p λ o q=>k _ _ (.inl rfl) q,⟨o,k _ _ (.inl rfl) e⟩,st⟩
theorem iG.lt(x:iG P w H h)(e:H a=some o):a<h.objs.size:=(x a o e).lt
theorem iG.fresh(x:iG P w H h)(e:h.objs.size<=a):H a=none:=by cases q:H a with
 |none=>rfl
 |some u=>exact absurd (QJ (x.lt q) e) (Q8 _)
theorem iG.kept(x:iG P w H h)(k:∀b u,h.get? b=some u->h'.get? b=some u):iG P w H h':= λ a o e=>
 (x a o e).stay (λ b u _ q=>k b u q) (λ _ q=>q) λ _ _ q=>q
theorem iG.laid(x:iG P w H h)(k:∀b u,h.get? b=some u->h'.get? b=some u)(J:h.objs.size<=a)(new:cg P w (upd H a o) h' a o):iG P w (upd H a o) h':= λ b u e=>by
 have C:=x.fresh J;by_cases I:b=a;. subst I;rw[bj]at e;simp_all
 .rw[aY I]at e;exact(x b u e).stay (λ c v _ q=>k c v q) (λ c q=>by rw[aY (bC q C)];exact q) (λ c xs q=>by rw[aY (bC q C)];exact q) λ c U u q=>by rw[aY (bC q C)];exact q
end
noncomputable def Rd(H:Hp)(a:Addr)(u:HO):Prop:=H a=some u\/ ∃o,H a=some (.frz o u)
theorem Rd.ok{H:Hp}{h:Heap}{a:Addr}{u:HO}(r:Rd H a u)(x:iG P w H h):cg P w H h a u:=by
 rcases r with r|⟨o,r⟩
 .exact x a u r
 .obtain⟨_,q⟩:=x a _ r;exact q
noncomputable def MN:Option HO->Prop
 |some (.lst _)=>True
 |some (.dK _)=>True
 |some (.dT _)=>True
 |some (.set _ _)=>True
 |some (.ins _ _ _)=>True
 |some (.ext _)=>True
 |_=>False
section
variable {P:Program} {w:World} {H:Hp} {h h':Heap} {x e:Addr} {o':HO}
theorem iG.write(ok:iG P w H h)(I:MN (H x))(he:e=x\/H e=some (.own x))(k:∀b u,b≠e->h.get? b=some u->h'.get? b=some u)(ab:∃u,h'.get? e=some u)
  (new:cg P w (upd H x o') h' x o'):iG P w (upd H x o') h':= λ b u q=>by
 have J:∀c y,H c=some (.own y)->c≠x:= λ c y r z=>by subst z;rw[r]at I;exact I
 have U:∀c xs,H c=some (.tup xs)->c≠x:= λ c xs r z=>by subst z;rw[r]at I;exact I
 have aa:∀c ob u,H c=some (.frz ob u)->c≠x:= λ c ob u r z=>by subst z;rw[r]at I;exact I
 by_cases hb:b=x;. subst hb;rw[bj]at q;cases q;exact new
 .rw[aY hb]at q;by_cases C:b=e
  .have q':H b=some (.own x):=by
    rcases he with z|z
    .exact absurd (C.trans z) hb
    .rw[C];exact z
   rw[q]at q';cases q';obtain⟨v,hv⟩:=ab;exact⟨v,by rw[C];exact hv⟩
  .refine(ok b u q).stay (λ c v hc r=>k c v ?_ r) (λ c r=>by rw[aY (J c b r)];exact r) (λ c xs r=>by rw[aY (U c xs r)];exact r) λ c ob v r=>by rw[aY (aa c ob v r)];exact r
   grind
end
structure Un (fs ex:List Addr) (H H':Hp) (h h':Heap):Prop where
 keep:∀b o,h.get? b=some o->H b=none->b ∉ fs->b ∉ ex->h'.get? b=some o
 slot:∀b o,h.get? b=some o->H b=none->b ∈ fs->b ∉ ex->∃sl,h'.get? b=some { o with slots:=sl }
 free:∀b o,h.get? b=some o->H b=none->b ∉ ex->H' b=none
 there:∀b o,h.get? b=some o->b ∉ ex->∃o',h'.get? b=some o'
 tups:∀b xs,H b=some (.tup xs)->H' b=some (.tup xs)
 frzs:∀b o u,H b=some (.frz o u)->H' b=some (.frz o u)
 tbls:∀b ps,H b=some (.tbl ps)->∃more,H' b=some (.tbl (ps ++ more))
section
variable {fs ex:List Addr} {H H1:Hp} {h h1 h':Heap} {a x e:Addr} {o:HO}
theorem Un.any(u:Un fs ex H H1 h h1){b:Addr}{C:Obj}(q:h.get? b=some C)(n:H b=none)(hx:b∉ex):∃sl,h1.get? b=some { C with slots:=sl }:=by
 by_cases I:b∈fs;. exact u.slot b C q n I hx
 .exact⟨C.slots,u.keep b C q n I hx⟩
theorem Un.kept(k:∀b u,h.get? b=some u->h'.get? b=some u):Un fs ex H H h h':=
 ⟨λ b C q _ _ _=>k b C q,λ b C q _ _ _=>⟨C.slots,k b C q⟩,λ _ _ _ n _=>n,λ b C q _=>⟨C,k b C q⟩,λ _ _ q=>q,λ _ _ _ q=>q,λ _ ps q=>⟨#[],by grind⟩⟩
theorem Un.refl:Un fs ex H H h h:=Un.kept λ _ _ q=>q
theorem Un.laid(k:∀b u,h.get? b=some u->h'.get? b=some u)(hp:h.objs.size<=a)(C:H a=none):Un fs ex H (upd H a o) h h' where
 keep:= λ b u q _ _ _=>k b u q
 slot:= λ b u q _ _ _=>⟨u.slots,k b u q⟩
 free:= λ b u q n _=>by rw[aY (QB (QJ (wN q) hp))];exact n
 there:= λ b u q _=>⟨u,k b u q⟩
 tups:= λ b xs q=>by rw[aY (bC q C)];exact q
 frzs:= λ b u xs q=>by rw[aY (bC q C)];exact q
 tbls:= λ b ps q=>⟨#[],by rw[aY (bC q C),q];simp⟩
theorem Un.write(C:MN (H x))(he:e=x\/H e=some (.own x))(k:∀b u,b≠e->h.get? b=some u->h'.get? b=some u)(J:∃u,h'.get? e=some u):Un fs ex H (upd H x o) h h':=by
 have hx:∀b,H b=none->b≠x:= λ b n z=>by subst z;rw[n]at C;exact C
 have I:∀b,H b=none->b≠e:= λ b n z=>by simp_all
 have hm:∀b u,H b=some u-> ¬MN (some u)->b≠x:= λ b u q nm z=>by subst z;rw[q]at C;exact nm C
 refine⟨λ b u q n _ _=>k b u (I b n) q,λ b u q n _ _=>⟨u.slots,k b u (I b n) q⟩,λ b u q n _=>by rw[aY (hx b n)];exact n,λ b u q _=>?_,
  λ b xs q=>by rw[aY (hm b _ q λ z=>z)];exact q,λ b u xs q=>by rw[aY (hm b _ q λ z=>z)];exact q,λ b ps q=>⟨#[],by rw[aY (hm b _ q λ z=>z),q];simp⟩⟩;grind
end
noncomputable def Nv(h:Heap)(H:Hp):List Addr:=(List.range h.objs.size).filter λ a=>(H a).isSome
noncomputable def o9(h:Heap)(H:Hp):Heap:=PySem.W.hideAll h (Nv h H)
theorem yv(h:Heap)(H:Hp):(o9 h H).objs.size=h.objs.size:=PySem.W.hideAll_size _ _
theorem Cv{H:Hp}{b:Addr}{o:Obj}(e:h.get? b=some o)(n:H b=none):(o9 h H).get? b=some o:=
 PySem.W.hideAll_get _ e λ hm=>by have q:(H b).isSome=true:=(wR.mp hm).2;grind
theorem Fg(e:(o9 h H).get? b=some o):h.get? b=some o/\H b=none:=by have C:h.get? b=some o:=PySem.W.of_hideAll (Nv h H) e;refine⟨C,?_⟩;cases q:H b with
 |none=>rfl
 |some x=>have hm:b∈Nv h H:=wR.mpr ⟨uL.mpr (wN C),by simp[q]⟩;have z:(o9 h H).get? b=none:=PySem.W.hideAll_none (Nv h H) hm;simp_all
noncomputable def Dm(g h:Heap)(L:Addr):List (Addr×Obj):=(List.range h.objs.size).filterMap λ a=>if a=L\/(g.get? a).isSome=true then none else(h.get? a).map λ o=>(a,o)
noncomputable def rest(g h:Heap)(L d:Addr):List (Addr×Obj):=(Dm g h L).filter λ p=>decide (p.1≠d)
structure Mod (K:PySem.W.Frag) (mg:Str->Option Value) (base:Heap):Prop where
 kin:K.In base
 glob:base.Ns mainGlobals mg
 blt:∃mb,base.Ns builtinsNs mb∧∀x:Str,x ≠ "__name__" -> mb x=bootBuiltins x
 nolimit:base.NoLimit
structure Cx where
 prog:Program
 w:World
 K:PySem.W.Frag
 mg:Str->Option Value
 base:Heap
 A:Around
 N:List Str
 s₀:Shared
 H₀:Hp
 env:Env
 outer:List Env
 stack:List Env
 ex:List Addr
 fn:Str->Bool
 calm:Bool
 pn:List (Addr × Obj)
 xe:Value->Shared->Prop
def dC:Str:="most_more"
def b5:Str:="most_more.<locals>.<lambda>"
noncomputable def yG(K:PySem.W.Frag)(H:Hp):Prop:=∀c P,PySem.W.tabIn K dC=some (c,P)->∃C t0,H P=some (.tbl C)/\C[0]?=some (.str b5 t0)
theorem yG.un{K:PySem.W.Frag}{fs ex:List Addr}{H H':Hp}{h h':Heap}(t:yG K H)(u:Un fs ex H H' h h'):yG K H':= λ c P e=>by obtain⟨C,t0,h1,h2⟩:=t c P e;obtain⟨more,I⟩:=u.tbls P C h1;grind
noncomputable def yI(l:List Env):List Addr:=l.filterMap (·.frame)
noncomputable abbrev Cx.fs(X:Cx):List Addr:=yI X.outer
noncomputable def uw(sc:Scope)(x:Str):Prop:=sc.names.lookup x=some .local\/sc.names.lookup x=some .cell\/sc.names.lookup x=some .free
noncomputable def Loc(sc:Scope)(x:Str):Prop:=sc.names.lookup x=some .local\/sc.names.lookup x=some .cell
noncomputable def Look(env:Env)(h:Heap)(m:Str->Option Value)(x:Str)(u:Value):Prop:=
 (env.kindOf x=some .local/\m x=some u)\/((env.kindOf x=some .cell\/env.kindOf x=some .free)/\∃c,env.cells.lookup x=some c/\h.IsCell c (some u))
structure Cx.Ok (X:Cx):Prop where
 mod:Mod X.K X.mg X.base
 kind:X.env.scope.kind=.function
 glob:X.env.globals=mainGlobals
 blt:X.env.builtins=builtinsNs
 above:X.s₀.heap.objs.size ≤ X.env.locals
 inj:∀x y c,X.env.cells.lookup x=some c->X.env.cells.lookup y=some c->x=y
 has:∀x,(X.env.kindOf x=some .cell ∨ X.env.kindOf x=some .free)->∃c,X.env.cells.lookup x=some c
 cab:∀x c,X.fn x=true->X.env.cells.lookup x=some c->X.s₀.heap.objs.size ≤ c
 hd:X.calm=true->X.A.handled=none
 frames:X.A.frames=some X.stack
 stk:X.stack=X.outer ∨ (X.stack=X.env :: X.outer∧X.env.frame=some X.env.locals)
 exf:∀b ∈ X.ex,b ≠ X.env.locals∧∀x c,X.env.cells.lookup x=some c->c ≠ b
 bs:∀b o,X.base.get? b=some o->X.s₀.heap.get? b=some o∧X.H₀ b=none
 bsz:X.base.objs.size ≤ X.s₀.heap.objs.size
 noex:∀b o,X.base.get? b=some o->b ∉ X.ex
 exfs:∀b ∈ X.ex,b ∉ X.fs
 funs:X.s₀.heap.FunFrames X.base X.outer
 frf:∀b ∈ X.fs,X.H₀ b=none
 tb:yG X.K X.H₀
structure Inv (X:Cx) (pins:List (Addr × Obj)) (σ:List (Option V)) (H:Hp) (s:Shared):Prop where
 ok:X.Ok
 os:s.os=X.s₀.os
 bare:AllBare s.gens
 base:Un X.fs X.ex X.H₀ H X.s₀.heap s.heap
 loc:∃m,s.heap.Ns X.env.locals m∧∀(i:Nat) (x:Str) (v:V),X.N[i]? = some x->σ[i]? = some (some v)->uw X.env.scope x->∃u,RelV v u∧Look X.env s.heap m x u
 cell:∀x c,X.env.cells.lookup x=some c->∃v,s.heap.IsCell c v
 free:H X.env.locals=none
 freeC:∀x c,X.env.cells.lookup x=some c->H c=none
 pin:∀p ∈ X.pn ++ pins,s.heap.get? p.1=some p.2∧H p.1=none∧p.1 ≠ X.env.locals∧p.1 ∉ X.fs∧∀v,p.2.data ≠ .cell v
 hok:iG X.prog X.w H s.heap
 len:σ.length=X.N.length
section
variable {X:Cx} {pins:List (Addr × Obj)} {σ:List (Option V)} {H H':Hp} {s:Shared} {h':Heap}
theorem Cx.Ok.nofr(ok:X.Ok){b:Addr}{o:Obj}(e:X.base.get? b=some o):b∉X.fs:= λ C=>by have:=(ok.funs.mem C).1;grind
theorem Inv.bs(I:Inv X pins σ H s):∀b o,X.base.get? b=some o->s.heap.get? b=some o/\H b=none:= λ b o e=>
 ⟨I.base.keep b o (I.ok.bs b o e).1 (I.ok.bs b o e).2 (I.ok.nofr e) (I.ok.noex b o e),I.base.free b o (I.ok.bs b o e).1 (I.ok.bs b o e).2 (I.ok.noex b o e)⟩
theorem Inv.bk(I:Inv X pins σ H s):∀b o,X.base.get? b=some o->s.heap.get? b=some o:= λ b o e=>(I.bs b o e).1
theorem Inv.tb(I:Inv X pins σ H s):yG X.K H:=I.ok.tb.un I.base
theorem Inv.mod(I:Inv X pins σ H s):Mod X.K X.mg X.base:=I.ok.mod
theorem Inv.kIn(I:Inv X pins σ H s):X.K.In s.heap:=I.ok.mod.kin.keeps I.bk
theorem Inv.nolimit(I:Inv X pins σ H s):s.heap.NoLimit:=I.ok.mod.nolimit.keeps I.bk
theorem Inv.lt(I:Inv X pins σ H s):X.env.locals<s.heap.objs.size:=let⟨_,C,_⟩:=I.loc;C.lt
theorem Inv.sz(I:Inv X pins σ H s):X.s₀.heap.objs.size<=s.heap.objs.size:=Q1 I.ok.above (W3 I.lt)
theorem Inv.nofs(I:Inv X pins σ H s){a:Addr}(h:s.heap.objs.size<=a):a∉X.fs:= λ C=>by obtain⟨_,o,J,_⟩:=I.ok.funs.mem C;exact absurd (QJ (wN J) (Q1 I.sz h)) (Q8 _)
theorem Inv.cne(I:Inv X pins σ H s):∀x c,X.env.cells.lookup x=some c->c≠X.env.locals:= λ x c e z=>by obtain⟨v,o,U,hd⟩:=I.cell x c e;obtain⟨m,⟨o',es,ep,C,J,_⟩,_⟩:=I.loc;grind
theorem Inv.funs(I:Inv X pins σ H s):s.heap.FunFrames X.base X.outer:=by
 have all:∀(l:List Env),(∀b∈yI l,b∈X.fs)->X.s₀.heap.FunFrames X.base l->s.heap.FunFrames X.base l:=by intro l;induction l with
  |nil=>intro _ _;trivial
  |cons env r U=>intro hs hl;obtain⟨hk,⟨L,o,hf,hn,ho,hd⟩,hr⟩:=hl;have C:L∈X.fs:=hs L (by unfold yI;grind);obtain⟨sl,e⟩:=I.base.slot L o ho (I.ok.frf L C) C λ z=>I.ok.exfs L z C;exact⟨hk,⟨L,_,hf,hn,e,hd⟩,U (λ b J=>hs b (by unfold yI;rw[YK,hf];exact wV _ J)) hr⟩
 exact all X.outer (λ _ J=>J) I.ok.funs
theorem Inv.stack(I:Inv X pins σ H s):s.heap.FunFrames X.base X.stack:=by
 rcases I.ok.stk with e|⟨e,hf⟩
 .rw[e];exact I.funs
 .rw[e];obtain⟨m,C,_⟩:=I.loc;refine .cons (by rw[I.ok.kind];decide) hf C ?_ I.funs;exact Heap.get?_none_of_le (Q1 I.ok.bsz I.ok.above)
theorem Inv.stkSub(I:Inv X pins σ H s):∀b∈yI X.stack,b∈X.env.locals::X.fs:= λ b C=>by
 rcases I.ok.stk with e|⟨e,hf⟩
 .grind
 .rw[e]at C;unfold yI at C;rw[YK,hf]at C;exact C
theorem Inv.stkFree(I:Inv X pins σ H s):∀b∈yI X.stack,H b=none:= λ b C=>by
 rcases uS.mp (I.stkSub b C)with e|C
 .rw[e];exact I.free
 .obtain⟨_,o,J,_⟩:=I.ok.funs.mem C;exact I.base.free b o J (I.ok.frf b C) λ z=>I.ok.exfs b z C
theorem Inv.step{g':Array GenState}{t':Nat}{d':Drawn}{ch:List Addr}(I:Inv X pins σ H s)
  (C:∀b∈ch,(b∈X.ex\/X.s₀.heap.objs.size<=b)/\b≠X.env.locals/\(∀x c,X.env.cells.lookup x=some c->c≠b)/\∀p∈X.pn++pins,p.1≠b)
  (keep:∀b o,b≠X.env.locals->b∉X.fs->b∉ch->s.heap.get? b=some o->H b=none->h'.get? b=some o)
  (slot:∀b o,b≠X.env.locals->b∈X.fs->b∉ch->s.heap.get? b=some o->H b=none->∃sl,h'.get? b=some { o with slots:=sl })(free:∀b o,b∉ch->s.heap.get? b=some o->H b=none->H' b=none)
  (there:∀b o,b∉ch->s.heap.get? b=some o->∃o',h'.get? b=some o')
  (aa:∀b xs,H b=some (.tup xs)->H' b=some (.tup xs))(ab:∀b o u,H b=some (.frz o u)->H' b=some (.frz o u))(ae:∀b ps,H b=some (.tbl ps)->∃more,H' b=some (.tbl (ps++more)))
  (ns:∀m,s.heap.Ns X.env.locals m->h'.Ns X.env.locals m)(ah:iG X.prog X.w H' h')(hg:AllBare g'):
  Inv X pins σ H' { s with heap:=h',gens:=g',drawn:=d',toks:=t' }:=by
 have af:∀b o,X.s₀.heap.get? b=some o->b≠X.env.locals:= λ b o e=>QB (QJ (wN e) I.ok.above);have J:∀b o,X.s₀.heap.get? b=some o->b∉X.ex->b∉ch:= λ b o e hx hb=>by
  rcases(C b hb).1 with z|z
  .exact hx z
  .exact absurd (QJ (wN e) z) (Q8 _)
 have cellK:∀x c,X.env.cells.lookup x=some c->∀v,s.heap.IsCell c v->h'.IsCell c v:= λ x c e v ⟨o,ho,hd⟩=>by
  have ag:c∉ch:= λ z=>(C c z).2.2.1 x c e rfl;by_cases hc:c∈X.fs;. obtain⟨sl,q⟩:=slot c o (I.cne x c e) hc ag ho (I.freeC x c e);exact⟨_,q,hd⟩
  .exact⟨o,keep c o (I.cne x c e) hc ag ho (I.freeC x c e),hd⟩
 refine⟨I.ok,I.os,hg,⟨λ b o e n hb hx=>?_,λ b o e n hb hx=>?_,λ b o e n hx=>?_,λ b o e hx=>?_,λ b xs e=>aa b xs (I.base.tups b xs e),λ b o xs e=>ab b o xs (I.base.frzs b o xs e),λ b ps e=>?_⟩,?_,λ x c e=>?_,?_,λ x c e=>?_,λ p hp=>?_,ah,I.len⟩;. exact keep b o (af b o e) hb (J b o e hx) (I.base.keep b o e n hb hx) (I.base.free b o e n hx)
 .obtain⟨sl,U⟩:=I.base.slot b o e n hb hx;obtain⟨ai,e2⟩:=slot b _ (af b o e) hb (J b o e hx) U (I.base.free b o e n hx);grind
 .obtain⟨o',U⟩:=I.base.there b o e hx;exact free b o' (J b o e hx) U (I.base.free b o e n hx)
 .obtain⟨o',U⟩:=I.base.there b o e hx;exact there b o' (J b o e hx) U
 .obtain⟨m1,U⟩:=I.base.tbls b ps e;obtain⟨m2,e2⟩:=ae b _ U;exact⟨m1++m2,by rw[e2,Array.append_assoc]⟩
 .obtain⟨m,hn,hl⟩:=I.loc;refine⟨m,ns m hn,λ i x v U e2 e3=>?_⟩;obtain⟨u,r,l⟩:=hl i x v U e2 e3;refine⟨u,r,?_⟩;rcases l with l|⟨k,c,e,z⟩
  .exact .inl l
  .exact .inr ⟨k,c,e,cellK x c e _ z⟩
 .obtain⟨v,z⟩:=I.cell x c e;exact⟨v,cellK x c e v z⟩
 .obtain⟨m,⟨o,_,_,ho,_⟩,_⟩:=I.loc;exact free _ o (λ z=>(C _ z).2.1 rfl) ho I.free
 .obtain⟨v,o,ho,hd⟩:=I.cell x c e;exact free c o (λ z=>(C c z).2.2.1 x c e rfl) ho (I.freeC x c e)
 .obtain⟨e,n,ne,nf,d⟩:=I.pin p hp;grind
theorem Inv.un(I:Inv X pins σ H s)(u:Un X.fs [] H H' s.heap h')(J:iG X.prog X.w H' h'):Inv X pins σ H' { s with heap:=h',toks:=t' }:=by obtain⟨m,⟨o,es,ep,ho,r⟩,_⟩:=id I.loc;obtain⟨sl,hL⟩:=u.any ho I.free (by simp);exact I.step (g':=s.gens) (d':=s.drawn) (ch:=[]) (λ _ z=>nomatch z) (λ b o _ U _ e n=>u.keep b o e n U (by simp)) (λ b o _ U _ e n=>u.slot b o e n U (by simp)) (λ b o _ e n=>u.free b o e n (by simp)) (λ b o _ e=>u.there b o e (by simp)) u.tups u.frzs u.tbls (λ m' hm=>by obtain⟨o',aa,ab,C,r'⟩:=hm;rw[ho]at C;cases C;exact⟨_,aa,ab,hL,r'⟩) J I.bare
theorem Inv.call{d':Drawn}{ch:List Addr}(I:Inv X pins σ H s)(u:Un (yI X.stack) ch H H' s.heap h')(aa:iG X.prog X.w H' h')(hg:AllBare g')
  (J:∀b∈ch,(b∈X.ex\/X.s₀.heap.objs.size<=b)/\b≠X.env.locals/\(∀x c,X.env.cells.lookup x=some c->c≠b)/\∀p∈X.pn++pins,p.1≠b):
  Inv X pins σ H' { s with heap:=h',gens:=g',drawn:=d',toks:=t' }:=by obtain⟨m,⟨o,es,ep,ho,r⟩,_⟩:=id I.loc;obtain⟨sl,hL⟩:=u.any ho I.free λ z=>(J _ z).2.1 rfl;exact I.step (ch:=ch) J (λ b o hL hb C e n=>u.keep b o e n (λ z=>(uS.mp (I.stkSub b z)).elim hL hb) C) (λ b o _ _ C e n=>u.any e n C) (λ b o C e n=>u.free b o e n C) (λ b o C e=>u.there b o e C) u.tups u.frzs u.tbls (λ m' hm=>by obtain⟨o',ab,ae,U,r'⟩:=hm;rw[ho]at U;cases U;exact⟨_,ab,ae,hL,r'⟩) aa hg
theorem Inv.turned{it:Addr}(I:Inv X pins σ H s)(k:∀b o,b≠it->s.heap.get? b=some o->h'.get? b=some o)(hn:H it=none)(J:it≠X.env.locals)
  (h1:it∈X.ex\/X.s₀.heap.objs.size<=it)(h2:∀x c,X.env.cells.lookup x=some c->c≠it)(h3:∀p∈X.pn++pins,p.1≠it):Inv X pins σ H { s with heap:=h',toks:=t' }:=by
 refine I.step (g':=s.gens) (d':=s.drawn) (ch:=[it]) (λ b hb=>?_) (λ b o _ _ C e _=>k b o (λ z=>C (by simp[z])) e) (λ b o _ _ C e _=>⟨o.slots,k b o (λ z=>C (by simp[z])) e⟩) (λ _ _ _ _ n=>n)
  (λ b o C e=>⟨o,k b o (λ z=>C (by simp[z])) e⟩) (λ _ _ e=>e) (λ _ _ _ e=>e) (λ b ps e=>⟨#[],by rw[e];simp⟩) (λ m hm=>?_) (λ b u e=>?_) I.bare;. grind
 .obtain⟨o,es,U,ho,r⟩:=hm;exact⟨o,es,U,k _ o (Ne.symm J) ho,r⟩
 .refine(I.hok b u e).stay (λ c v C q=>k c v ?_ q) (λ _ q=>q) λ _ _ q=>q;grind
theorem Inv.tok(I:Inv X pins σ H s)(t:Nat):Inv X pins σ H { s with toks:=t }:=I.un (h':=s.heap) (t':=t) Un.refl I.hok
theorem Inv.kept(I:Inv X pins σ H s)(k:∀b u,s.heap.get? b=some u->h'.get? b=some u):Inv X pins σ H { s with heap:=h',toks:=t' }:=I.un (Un.kept k) (I.hok.kept k)
theorem Inv.laid{a:Addr}{o:HO}{t':Nat}(I:Inv X pins σ H s)(k:∀b u,s.heap.get? b=some u->h'.get? b=some u)(C:s.heap.objs.size<=a)(new:cg X.prog X.w (upd H a o) h' a o):
  Inv X pins σ (upd H a o) { s with heap:=h',toks:=t' }:=I.un (Un.laid k C (I.hok.fresh C)) (I.hok.laid k C new)
theorem Inv.write(I:Inv X pins σ H s)(J:MN (H x))(he:e=x\/H e=some (.own x))(k:∀b u,b≠e->s.heap.get? b=some u->h'.get? b=some u)(C:∃u,h'.get? e=some u)
  (new:cg X.prog X.w (upd H x o) h' x o):Inv X pins σ (upd H x o) { s with heap:=h',toks:=t' }:=I.un (Un.write J he k C) (I.hok.write J he k C new)
theorem Inv.weak(I:Inv X pins σ H s)(U:C.length=σ.length)(w:∀(i:Nat) v,C[i]?=some (some v)->σ[i]?=some (some v)):Inv X pins C H s:=
 ⟨I.ok,I.os,I.bare,I.base,let⟨m,hn,J⟩:=I.loc;⟨m,hn,λ i x v e1 e2 e3=>J i x v e1 (w i v e2) e3⟩,I.cell,I.free,I.freeC,I.pin,I.hok,U.trans I.len⟩
theorem Inv.pins_of(I:Inv X pins σ H s)(h:∀p∈pins',s.heap.get? p.1=some p.2/\H p.1=none/\p.1≠X.env.locals/\p.1∉X.fs/\∀v,p.2.data≠ .cell v):Inv X pins' σ H s:=
 ⟨I.ok,I.os,I.bare,I.base,I.loc,I.cell,I.free,I.freeC,λ p C=>(uT.mp C).elim (λ z=>I.pin p (ZO _ z)) (h p),I.hok,I.len⟩
theorem rp{N:List Str}(C:N.Nodup){i j:Nat}{x:Str}(a:N[i]?=some x)(b:N[j]?=some x):i=j:=by obtain⟨h1,I⟩:=xZ.mp a;obtain⟨h2,J⟩:=xZ.mp b;exact(List.getElem_inj C).mp (I.trans J.symm)
theorem mN{i:Nat}{x:Str}{v:V}{u:Value}{Q:Unit->Shared->Prop}(I:Inv X pins σ H s)(hN:X.N.Nodup)(hi:X.N[i]?=some x)(hx:Loc X.env.scope x)(r:RelV v u)
  (h:∀s',Inv X pins (σ.set i (some v)) H s'->(∃a,Heap.SameBut a s.heap s'.heap/\(a=X.env.locals\/X.env.cells.lookup x=some a))->Q () s')(hf:X.fn x=true\/X.env.scope.names.lookup x=some .local:=by first|exact .inl rfl|exact .inr rfl|assumption):wpAny M A (storeName X.env x u) Q E s:=by
 obtain⟨m,hn,hl⟩:=id I.loc;have ae:(X.env.scope.kind== .class||(X.env.scope.kind== .module&&X.env.locals !=X.env.globals))=false:=by rw[I.ok.kind];rfl
 have aa:i<σ.length:=by rw[I.len];exact(xZ.mp hi).1
 have cne:=I.cne;have tracked:∀{a:Addr}{h':Heap},(∃o,s.heap.get? a=some o/\H a=none)->Heap.SameBut a s.heap h'->iG X.prog X.w H h':= λ{a h'} ha hs b ob e=>by refine(I.hok b ob e).stay (λ c w' J q=>(hs.2 c ?_).trans q) (λ _ q=>q) λ _ _ q=>q;grind
 rcases hx with hk|hk
 .refine wpAny_storeName_local hk hn (λ h' aj hs=>?_) ae;obtain⟨oL,_,_,ak,_⟩:=id hn;refine h _ ⟨I.ok,I.os,I.bare,⟨λ b o e n hb hx=>?_,λ b o e n hb hx=>?_,I.base.free,λ b o e hx=>?_,I.base.tups,I.base.frzs,I.base.tbls⟩,⟨_,aj,λ j y v' C U e3=>?_⟩,λ y c e=>?_,I.free,I.freeC,λ p hp=>?_,tracked ⟨oL,ak,I.free⟩ hs,by simpa using I.len⟩ ⟨_,hs,.inl rfl⟩;. exact(hs.2 b (QB (QJ (wN e) I.ok.above))).trans (I.base.keep b o e n hb hx)
  .obtain⟨sl,C⟩:=I.base.slot b o e n hb hx;exact⟨sl,(hs.2 b (QB (QJ (wN e) I.ok.above))).trans C⟩
  .obtain⟨o',C⟩:=I.base.there b o e hx;exact⟨o',(hs.2 b (QB (QJ (wN e) I.ok.above))).trans C⟩
  .by_cases hj:j=i;. subst hj;rw[hi]at C;cases C;rw[wW aa]at U;cases U;exact⟨u,r,.inl ⟨hk,by simp⟩⟩
   .rw[uN (Ne.symm hj)]at U;obtain⟨u',r',q⟩:=hl j y v' C U e3;refine⟨u',r',?_⟩;rcases q with⟨k,e⟩|⟨k,c,e,z⟩
    .refine .inl ⟨k,?_⟩;have:y≠x:= λ e=>hj (rp hN C (e▸hi));simp[this,e]
    .exact .inr ⟨k,c,e,z.sameBut hs (cne y c e)⟩
  .obtain⟨w',z⟩:=I.cell y c e;exact⟨w',z.sameBut hs (cne y c e)⟩
  .obtain⟨e,n,ne,nf,d⟩:=I.pin p hp;exact⟨(hs.2 p.1 ne).trans e,n,ne,nf,d⟩
 .have ab:X.fn x=true:=by
   rcases hf with z|z
   .exact z
   .rw[z]at hk;cases hk
  obtain⟨c,J⟩:=I.ok.has x (.inl hk);obtain⟨w',z⟩:=I.cell x c J;refine wpAny_storeName_cell I.ok.kind hk J z (λ h' af hs=>?_);obtain⟨oc,ag,ah⟩:=id z;refine h { s with heap:=h' } ⟨I.ok,I.os,I.bare,⟨λ b o e n hb hx=>?_,λ b o e n hb hx=>?_,I.base.free,λ b o e hx=>?_,I.base.tups,I.base.frzs,I.base.tbls⟩,⟨m,hn.sameBut hs (Ne.symm (cne x c J)),λ j y v' C U e3=>?_⟩,λ y c' e=>?_,I.free,I.freeC,λ p hp=>?_,tracked ⟨oc,ag,I.freeC x c J⟩ hs,by simpa using I.len⟩ ⟨c,hs,.inr J⟩;. exact(hs.2 b (QB (QJ (wN e) (I.ok.cab x c ab J)))).trans (I.base.keep b o e n hb hx)
  .obtain⟨sl,C⟩:=I.base.slot b o e n hb hx;exact⟨sl,(hs.2 b (QB (QJ (wN e) (I.ok.cab x c ab J)))).trans C⟩
  .obtain⟨o',C⟩:=I.base.there b o e hx;exact⟨o',(hs.2 b (QB (QJ (wN e) (I.ok.cab x c ab J)))).trans C⟩
  .by_cases hj:j=i;. subst hj;rw[hi]at C;cases C;rw[wW aa]at U;cases U;exact⟨u,r,.inr ⟨.inl hk,c,J,af⟩⟩
   .rw[uN (Ne.symm hj)]at U;obtain⟨u',r',q⟩:=hl j y v' C U e3;refine⟨u',r',?_⟩;rcases q with q|⟨k,c',e,z'⟩
    .exact .inl q
    .refine .inr ⟨k,c',e,z'.sameBut hs ?_⟩;rintro rfl;exact hj (rp hN C (I.ok.inj _ _ _ e J▸hi))
  .by_cases ai:c'=c;. subst ai;exact⟨_,af⟩
   .obtain⟨w2,z2⟩:=I.cell y c' e;exact⟨w2,z2.sameBut hs ai⟩
  .obtain⟨e,n,ne,nf,d⟩:=I.pin p hp;refine⟨(hs.2 p.1 ?_).trans e,n,ne,nf,d⟩;intro q;rw[q,ag]at e;have q':oc=p.2:=Q9 e;exact d w' (by rw[<- q'];exact ah)
theorem gy{i:Nat}{x:Str}{v:V}{u:Value}{Q:Unit->Shared->Prop}(I:Inv X pins σ H s)(C:X.N.Nodup)(J:X.N[i]?=some x)(hx:Loc X.env.scope x)(r:RelV v u)
  (h:∀s',Inv X pins (σ.set i (some v)) H s'->Q () s')(hf:X.fn x=true\/X.env.scope.names.lookup x=some .local:=by first | exact .inl rfl | exact .inr rfl | assumption):wpAny M A (storeName X.env x u) Q E s:=
 mN I C J hx r (λ s' U _=>h s' U) hf
theorem Inv.call'{ch:List Addr}(I:Inv X pins σ H s)(U:s'.os=s.os)(u:Un (yI X.stack) ch H H' s.heap s'.heap)(C:iG X.prog X.w H' s'.heap)(hg:AllBare s'.gens)
  (J:∀b∈ch,(b∈X.ex\/X.s₀.heap.objs.size<=b)/\b≠X.env.locals/\(∀x c,X.env.cells.lookup x=some c->c≠b)/\∀p∈X.pn++pins,p.1≠b):Inv X pins σ H' s':=by obtain⟨h',g',d',t',o'⟩:=s';have e:o'=s.os:=U;subst e;exact I.call (g':=g') (t':=t') (d':=d') u C hg J
end
noncomputable abbrev XK:=Value->Option Addr->Hp->Prop
noncomputable abbrev St:=List (Option V)
noncomputable abbrev VK:=V->Hp->Prop
noncomputable abbrev TE:=St->Hp->VK->Prop
noncomputable abbrev TT:=St->Hp->(Bool->Hp->Prop)->Prop
noncomputable abbrev TA:=St->Hp->(List V->Hp->Prop)->Prop
structure Ends where
 nx:St->Hp->Prop
 rt:VK
 bk:St->Hp->Prop:=fun _ _=>False
 ct:St->Hp->Prop:=fun _ _=>False
noncomputable abbrev TS:=Ends->St->Hp->Prop
noncomputable def EP(X:Cx)(pins:List (Addr×Obj))(σ:St)(Q:VK)(u:Value)(s':Shared):Prop:=∃v H',Inv X pins σ H' s'/\RelV v u/\Q v H'
noncomputable def TP(X:Cx)(pins:List (Addr×Obj))(σ:St)(Q:Bool->Hp->Prop)(b:Bool)(s':Shared):Prop:=∃H',Inv X pins σ H' s'/\Q b H'
noncomputable def AP(X:Cx)(pins:List (Addr×Obj))(σ:St)(Q:List V->Hp->Prop)(us:List Value)(s':Shared):Prop:=∃vs H',Inv X pins σ H' s'/\Vals vs us/\Q vs H'
noncomputable def SP(X:Cx)(pins:List (Addr×Obj))(D:Ends)(f:Flow)(s':Shared):Prop:=
 match f with
 | .next=>∃C H',Inv X pins C H' s'/\D.nx C H'
 | .brk=>∃C H',Inv X pins C H' s'/\D.bk C H'
 | .cont=>∃C H',Inv X pins C H' s'/\D.ct C H'
 | .ret u=>∃v C H',Inv X pins C H' s'/\RelV v u/\D.rt v H'
noncomputable def PE(X:Cx)(e:Expr)(t:TE):Prop:=
 ∀(pins:List (Addr×Obj))(s:Shared)(σ:St)(H:Hp)(Q:VK),Inv X pins σ H s->t σ H Q->wpAny (model X.prog X.w) X.A (eval e X.env) (EP X pins σ Q) X.xe s
noncomputable def PT(X:Cx)(e:Expr)(t:TT):Prop:=
 ∀(pins:List (Addr×Obj))(s:Shared)(σ:St)(H:Hp)(Q:Bool->Hp->Prop),Inv X pins σ H s->t σ H Q->wpAny (model X.prog X.w) X.A (isTrue e X.env (eval e X.env)) (TP X pins σ Q) X.xe s
noncomputable def PW(X:Cx)(e:Expr)(t:TT):Prop:=
 ∀(whole:Sem Value)(pins:List (Addr×Obj))(s:Shared)(σ:St)(H:Hp)(Q:Bool->Hp->Prop),Inv X pins σ H s->t σ H Q->wpAny (model X.prog X.w) X.A (isTrue e X.env whole) (TP X pins σ Q) X.xe s
theorem PW.pt(h:PW X e t):PT X e t:=h _
noncomputable def PA(X:Cx)(es:List Expr)(t:TA):Prop:=
 ∀(pos:Pos)(pins:List (Addr×Obj))(s:Shared)(σ:St)(H:Hp)(Q:List V->Hp->Prop),Inv X pins σ H s->t σ H Q->wpAny (model X.prog X.w) X.A (spliced (backTo pos (starEach es X.env))) (AP X pins σ Q) X.xe s
noncomputable def PS(X:Cx)(st:Stmt)(t:TS):Prop:=
 ∀(pins:List (Addr×Obj))(s:Shared)(σ:St)(H:Hp)(D:Ends),Inv X pins σ H s->t D σ H->wpAny (model X.prog X.w) X.A (exec st X.env) (SP X pins D) X.xe s
noncomputable def sG(X:Cx)(st:List Stmt)(t:TS):Prop:=
 ∀(pins:List (Addr×Obj))(s:Shared)(σ:St)(H:Hp)(D:Ends),Inv X pins σ H s->t D σ H->wpAny (model X.prog X.w) X.A (execs st X.env) (SP X pins D) X.xe s
theorem cf{M:Model}{A:Around}{E:Value->Shared->Prop}{s:Shared}(h:wpAny M A t Q E s)(C:∀a s,Q a s->I a s):wpAny M A t I E s:=QE h C λ _ _ x=>x
section
variable {X:Cx}
noncomputable def O3(i:Nat):TE:= λ σ H Q=>∃v,σ[i]?=some (some v)/\Q v H
noncomputable def tC(v:V):TE:= λ _ H Q=>Q v H
theorem eU{pos:Pos}(hN:X.N[i]?=some x)(hv:uw X.env.scope x)(hd:(x==("__debug__":Str))=false:=by decide)(U:(x==("__classdict__":Str))=false:=by decide):PE X (.Name x pos) (O3 i):=by
 intro pins s σ H Q I h;obtain⟨v,e,h⟩:=h;obtain⟨m,hn,hl⟩:=I.loc;obtain⟨u,r,l⟩:=hl i x v hN e hv;have fin:EP X pins σ Q u s:=⟨v,H,I,r,h⟩;rcases l with⟨J,hm⟩|⟨J,c,hc,C⟩
 .exact wpAny_Name (wpAny_loadName_local I.ok.kind J hn hm fin) hd
 .rcases J with J|J
  .exact wpAny_Name (wpAny_loadName_cell I.ok.kind J hc C fin) hd
  .exact wpAny_Name (wpAny_loadName_free I.ok.kind J hc C fin U) hd
theorem tw:PE X (.Constant (.int i) j pos) (tC (.int i)):= λ _ _ _ H _ I h=>wpAny_Constant_int ⟨.int i,H,I.tok _,⟨_,rfl⟩,h⟩
theorem Mh:PE X (.Constant (.bool b) j pos) (tC (.bl b)):= λ _ _ _ H _ I h=>Constant_bool ⟨.bl b,H,I,rfl,h⟩
theorem Ke:PE X (.Constant .none j pos) (tC .non):= λ _ _ _ H _ I h=>Constant_none ⟨.non,H,I,rfl,h⟩
noncomputable def Gl(X:Cx)(x:Str):Prop:=X.env.kindOf x=some .globalImplicit
theorem FK{pins:List (Addr×Obj)}{s:Shared}{σ:St}{H:Hp}{x:Str}{u:Value}{pos:Pos}{Q:Value->Shared->Prop}(I:Inv X pins σ H s)(C:Gl X x)(hm:X.mg x=some u)(h:Q u s)
  (hd:(x==("__debug__":Str))=false:=by decide):wpAny (model X.prog X.w) X.A (eval (.Name x pos) X.env) Q E s:=
 Calls.Name_function_global I.ok.kind C (Calls.loadGlobal_global (by rw[I.ok.glob];exact I.mod.glob.keeps I.bk) hm h) hd
theorem gj{E:Value->Shared->Prop}{pins:List (Addr×Obj)}{s:Shared}{σ:St}{H:Hp}{x:Str}{u:Value}{pos:Pos}{Q:Value->Shared->Prop}(I:Inv X pins σ H s)(C:Gl X x)(hm:X.mg x=none)(J:bootBuiltins x=some u)(h:Q u s)
  (U:x≠"__name__":=by decide)(hd:(x==("__debug__":Str))=false:=by decide):wpAny (model X.prog X.w) X.A (eval (.Name x pos) X.env) Q E s:=by obtain⟨mb,h1,h2⟩:=I.mod.blt;exact Calls.Name_function_global I.ok.kind C (Calls.loadGlobal_builtin (by rw[I.ok.glob];exact I.mod.glob.keeps I.bk) hm (by rw[I.ok.blt];exact h1.keeps I.bk) ((h2 x U).trans J) h) hd
theorem E3{u:Value}{pos:Pos}(C:Gl X x)(hm:X.mg x=none)(J:bootBuiltins x=some u)(r:RelV v u)(U:x≠"__name__":=by decide)(hd:(x==("__debug__":Str))=false:=by decide):PE X (.Name x pos) (tC v):=
 λ _ _ _ H _ I h=>gj I C hm J ⟨v,H,I,r,h⟩ U hd
variable {a b:Expr} {ta tb:TE} {pos:Pos}
variable {tA tB':TT} {rest:List Expr}
noncomputable def Ox(t u:TT):TT:= λ σ H Q=>t σ H λ c H1=>if c=true then u σ H1 Q else Q false H1
noncomputable def P8(t u:TT):TT:= λ σ H Q=>t σ H λ c H1=>if c=true then Q true H1 else u σ H1 Q
noncomputable def OM(t:TT):TT:= λ σ H Q=>t σ H λ c H1=>Q (!c) H1
theorem Fp(C:PT X a tA):PW X (.BoolOp .And [a] pos) tA:=by intro wh pins s σ H Q I h;refine isTrue_and (cf (C pins s σ H Q I h) λ c s1 e=>?_);cases c with
 |true=>exact isTrue_and_nil e
 |false=>exact e
theorem Jb(C:PT X a tA):PW X (.BoolOp .Or [a] pos) tA:=by intro wh pins s σ H Q I h;refine isTrue_or (cf (C pins s σ H Q I h) λ c s1 e=>?_);cases c with
 |false=>exact isTrue_or_nil e
 |true=>exact e
theorem Jv(U:PT X a tA)(hb:PW X (.BoolOp .And (b::rest) pos) tB'):PW X (.BoolOp .And (a::b::rest) pos) (Ox tA tB'):=by intro wh pins s σ H Q I h;refine isTrue_and (cf (U pins s σ H _ I h) λ c s1 ⟨H1,C,J⟩=>?_);cases c with
 |true=>exact hb wh pins s1 σ H1 Q C J
 |false=>exact⟨H1,C,J⟩
theorem Mg(U:PT X a tA)(hb:PW X (.BoolOp .Or (b::rest) pos) tB'):PW X (.BoolOp .Or (a::b::rest) pos) (P8 tA tB'):=by intro wh pins s σ H Q I h;refine isTrue_or (cf (U pins s σ H _ I h) λ c s1 ⟨H1,C,J⟩=>?_);cases c with
 |true=>exact⟨H1,C,J⟩
 |false=>exact hb wh pins s1 σ H1 Q C J
theorem J0(C:PT X a tA):PT X (.UnaryOp .Not a pos) (OM tA):=by intro pins s σ H Q I h;exact isTrue_not (C pins s σ H (λ c H1=>Q (!c) H1) I h)
noncomputable def K0(ta tb:TE):TE:= λ σ H Q=>ta σ H λ x H1=>∃c,x= .bl c/\if c=true then tb σ H1 Q else Q (.bl false) H1
noncomputable def O4(ta tb:TE):TE:= λ σ H Q=>ta σ H λ x H1=>∃c,x= .bl c/\if c=true then Q (.bl true) H1 else tb σ H1 Q
noncomputable def K8(ta:TE):TE:= λ σ H Q=>ta σ H λ x H1=>∃c,x= .bl c/\Q (.bl (!c)) H1
theorem HS{t:TE}(h:PE X a t):PE X (.BoolOp op [a] pos) t:= λ pins s σ H Q I hw=>BoolOp_one (h pins s σ H Q I hw)
theorem HN(U:PE X a ta)(hb:PE X (.BoolOp .And (b::rest) pos) tb):PE X (.BoolOp .And (a::b::rest) pos) (K0 ta tb):=by intro pins s σ H Q I h;refine BoolOp_and (cf (U pins s σ H _ I h) λ v s1 ⟨x,H1,J,r1,C⟩=>?_);obtain⟨c,rfl,C⟩:=C;cases r1;refine VI ?_;cases c with
 |true=>exact hb pins s1 σ H1 Q J C
 |false=>exact⟨.bl false,H1,J,rfl,C⟩
theorem Me(U:PE X a ta)(hb:PE X (.BoolOp .Or (b::rest) pos) tb):PE X (.BoolOp .Or (a::b::rest) pos) (O4 ta tb):=by intro pins s σ H Q I h;refine BoolOp_or (cf (U pins s σ H _ I h) λ v s1 ⟨x,H1,J,r1,C⟩=>?_);obtain⟨c,rfl,C⟩:=C;cases r1;refine VI ?_;cases c with
 |false=>exact hb pins s1 σ H1 Q J C
 |true=>exact⟨.bl true,H1,J,rfl,C⟩
theorem JO(J:PE X a ta):PE X (.UnaryOp .Not a pos) (K8 ta):=by intro pins s σ H Q I h;refine UnaryOp_ (cf (J pins s σ H _ I h) λ v s1 ⟨x,H1,U,r1,C⟩=>?_);obtain⟨c,rfl,C⟩:=C;cases r1;exact not_of (VI ⟨.bl (!c),H1,U,rfl,C⟩)
noncomputable def P7(t:TT)(ta tb:TE):TE:= λ σ H Q=>t σ H λ c H1=>if c=true then ta σ H1 Q else tb σ H1 Q
theorem AV(U:PT X c tA)(ha:PE X a ta)(hb:PE X b tb):PE X (.IfExp c a b pos) (P7 tA ta tb):=by intro pins s σ H Q I h;refine wpAny_IfExp (cf (U pins s σ H _ I h) λ d s1 ⟨H1,C,J⟩=>?_);cases d with
 |true=>exact ha pins s1 σ H1 Q C J
 |false=>exact hb pins s1 σ H1 Q C J
end
noncomputable def iK(K:PySem.W.Frag)(H:Hp)(a:Addr)(xs:List V):Prop:=
 Rd H a (.lst xs)\/
  ∃(o:Obj) (its:Array Value) (n:Nat),K.lookup a=some o/\o.cls= .type "list"/\o.dict=none/\o.data= .seq its n/\its.size<=sizeLine/\Vals xs its.toList
noncomputable def i0(K:PySem.W.Frag)(H:Hp)(a:Addr)(xs:List V):Prop:=
 Rd H a (.tup xs)\/
  ∃(o:Obj) (its:Array Value) (n:Nat),K.lookup a=some o/\o.cls= .type "tuple"/\o.data= .seq its n/\its.size<=sizeLine/\Vals xs its.toList
noncomputable def NH:Value->Option V
 | .none=>some .non
 | .bool b=>some (.bl b)
 | .int i _=>some (.int i)
 | .str x _=>some (.str x)
 | .bytes b _=>some (.byt b)
 | .float b _=>some (.flt b)
 | .ref a=>some (.ref a)
 | .type n=>some (.ty n)
 |_=>none
theorem RelV.abs(r:RelV x u):NH u=some x:=by cases x with
 |non=>cases r;rfl
 |bl _=>cases r;rfl
 |int _=>obtain⟨t,rfl⟩:=r;rfl
 |str _=>obtain⟨t,rfl⟩:=r;rfl
 |byt _=>obtain⟨t,rfl⟩:=r;rfl
 |flt _=>obtain⟨t,rfl⟩:=r;rfl
 |ref _=>cases r;rfl
 |ty _=>cases r;rfl
theorem RelV.inj{u:Value}(r:RelV x u)(q:RelV y u):x=y:=Q9 (r.abs.symm.trans q.abs)
theorem Vals.inj:∀{xs ys:List V}{us:List Value},Vals xs us->Vals ys us->xs=ys
 |_,_,_,.nil,.nil=>rfl
 |_,_,_,.cons r t,.cons C t'=>by rw[r.inj C,Vals.inj t t']
section
variable {X:Cx} {pins:List (Addr × Obj)} {σ:St} {H:Hp} {s:Shared} {a:Addr} {xs ys:List V}
theorem iK.of{K:PySem.W.Frag}(h:H a=some (.lst xs)):iK K H a xs:= .inl (.inl h)
theorem i0.of{K:PySem.W.Frag}(h:H a=some (.tup xs)):i0 K H a xs:= .inl (.inl h)
theorem Inv.list(I:Inv X pins σ H s)(h:iK X.K H a xs):∃its:List Value,Vals xs its/\PlainL s.heap a its.toArray/\xs.length<=sizeLine:=by
 rcases h with h|⟨o,its,n,C,J,hd,hs,hz,r⟩
 .obtain⟨z,its,n,r,e⟩:=h.ok I.hok;exact⟨its,r,⟨_,n,e,rfl,rfl,rfl⟩,z⟩
 .refine⟨its.toList,r,⟨o,n,I.kIn a o C,J,hd,by simpa using hs⟩,?_⟩;have e:=r.length;simp_all
theorem Inv.tuple(I:Inv X pins σ H s)(h:i0 X.K H a xs):∃its:List Value,Vals xs its/\IsTup s.heap a its.toArray/\xs.length<=sizeLine:=by
 rcases h with h|⟨o,its,n,C,J,hs,hz,r⟩
 .obtain⟨z,its,r,p⟩:=h.ok I.hok;exact⟨its,r,p.1,z⟩
 .refine⟨its.toList,r,⟨o,I.kIn a o C,J,n,by simpa using hs⟩,?_⟩;have e:=r.length;simp_all
theorem Inv.list_inj(I:Inv X pins σ H s)(h:iK X.K H a xs)(h':iK X.K H a ys):xs=ys:=by
 obtain⟨its,r,⟨o,n,e,_,_,d⟩,_⟩:=I.list h;obtain⟨its',J,⟨o',n',C,_,_,d'⟩,_⟩:=I.list h';rw[e]at C;cases C;rw[d]at d';injection d' with U _;have:its=its':=by simpa using Z6 Array.toList U
 subst this;exact r.inj J
theorem Inv.tuple_inj(I:Inv X pins σ H s)(h:i0 X.K H a xs)(h':i0 X.K H a ys):xs=ys:=by
 obtain⟨its,r,⟨o,e,_,n,d⟩,_⟩:=I.tuple h;obtain⟨its',J,⟨o',C,_,n',d'⟩,_⟩:=I.tuple h';rw[e]at C;cases C;rw[d]at d';injection d' with U _;have:its=its':=by simpa using Z6 Array.toList U
 subst this;exact r.inj J
end
noncomputable abbrev Cx.wish(X:Cx)(E:Value->Shared->Prop):Cx:={ X with xe:=E }
noncomputable abbrev Cx.nox(X:Cx):Cx:=X.wish λ _ _=>False
theorem Cx.Ok.wish{X:Cx}(ok:X.Ok)(E:Value->Shared->Prop):(X.wish E).Ok:=
 ⟨ok.mod,ok.kind,ok.glob,ok.blt,ok.above,ok.inj,ok.has,ok.cab,ok.hd,ok.frames,ok.stk,ok.exf,ok.bs,ok.bsz,ok.noex,ok.exfs,ok.funs,ok.frf,ok.tb⟩
theorem Cx.Ok.unwish{X:Cx}{E:Value->Shared->Prop}(ok:(X.wish E).Ok):X.Ok:=
 ⟨ok.mod,ok.kind,ok.glob,ok.blt,ok.above,ok.inj,ok.has,ok.cab,ok.hd,ok.frames,ok.stk,ok.exf,ok.bs,ok.bsz,ok.noex,ok.exfs,ok.funs,ok.frf,ok.tb⟩
section
variable {X:Cx} {pins:List (Addr × Obj)} {σ:St} {H:Hp} {s:Shared} {E:Value->Shared->Prop}
theorem Inv.wish(I:Inv X pins σ H s)(E:Value->Shared->Prop):Inv (X.wish E) pins σ H s:=⟨I.ok.wish E,I.os,I.bare,I.base,I.loc,I.cell,I.free,I.freeC,I.pin,I.hok,I.len⟩
theorem Inv.unwish(I:Inv (X.wish E) pins σ H s):Inv X pins σ H s:=⟨I.ok.unwish,I.os,I.bare,I.base,I.loc,I.cell,I.free,I.freeC,I.pin,I.hok,I.len⟩
theorem SP.unwish(h:SP (X.wish E) pins D f s'):SP X pins D f s':=by cases f with
 |next=>obtain⟨C,H',I,q⟩:=h;exact⟨C,H',I.unwish,q⟩
 |brk=>obtain⟨C,H',I,q⟩:=h;exact⟨C,H',I.unwish,q⟩
 |cont=>obtain⟨C,H',I,q⟩:=h;exact⟨C,H',I.unwish,q⟩
 |ret u=>obtain⟨v,C,H',I,r,q⟩:=h;exact⟨v,C,H',I.unwish,r,q⟩
theorem sG.nox{st:List Stmt}{t:TS}(h:sG X.nox st t):sG X st t:= λ pins s σ H D I hw=>
 QE (h pins s σ H D (I.wish _) hw) (λ _ _ q=>q.unwish) λ _ _ z=>False.elim z
end
section
variable {X:Cx} {st:Stmt} {rest:List Stmt} {t u:TS} {e:Expr} {te:TE} {pos:Pos}
noncomputable def LA:TS:= λ D σ H=>D.nx σ H
noncomputable def Oe(t u:TS):TS:= λ D σ H=>t { D with nx:=u D } σ H
theorem Ep:sG X [] LA:= λ _ _ σ H _ I h=>XM ⟨σ,H,I,h⟩
theorem BA(h1:PS X st t)(h2:sG X rest u):sG X (st::rest) (Oe t u):=by intro pins s σ H D I h;refine wpAny_execs_cons (cf (h1 pins s σ H { D with nx:=u D } I h) λ f s1 q=>?_);cases f with
 |next=>obtain⟨C,H',J,q⟩:=q;exact h2 pins s1 C H' D J q
 |ret v=>exact q
 |brk=>exact q
 |cont=>exact q
theorem Eg(h1:PS X st t):sG X [st] t:=by intro pins s σ H D I h;refine wpAny_execs_cons (cf (h1 pins s σ H D I h) λ f s1 q=>?_);cases f with
 |next=>exact XM q
 |ret v=>exact q
 |brk=>exact q
 |cont=>exact q
theorem Inv.quiet{σ:St}{H:Hp}{s:Shared}(I:Inv X pins σ H s):interactive X.env=false:=by simp[interactive,I.ok.kind]
noncomputable def ML(te:TE):TS:= λ D σ H=>te σ H λ _ H1=>D.nx σ H1
theorem wC(he:PE X e te)(hs:swapsWith e none pos.line X.env=pure false:=by rfl):PS X (.Expr e pos) (ML te):=by intro pins s σ H D I h;exact wpAny_Expr_any (cf (he pins s σ H _ I h) λ v s1 ⟨x,H1,C,U,J⟩=>⟨σ,H1,C,J⟩) I.quiet hs
noncomputable def NK(te:TE):TS:= λ D σ H=>te σ H D.rt
theorem Cc(he:PE X e te):PS X (.Return (some e) pos) (NK te):=by intro pins s σ H D I h;exact wpAny_Return_some (cf (he pins s σ H _ I h) λ v s1 ⟨x,H1,C,J,U⟩=>⟨x,σ,H1,C,J,U⟩)
noncomputable def NI(c:TT)(t u:TS):TS:= λ D σ H=>c σ H λ b H1=>if b=true then t D σ H1 else u D σ H1
theorem Md{C:TT}(hc:PT X c C)(ha:sG X a t)(hb:sG X b u):PS X (.If c a b pos) (NI C t u):=by intro pins s σ H D I h;refine wpAny_If (cf (hc pins s σ H _ I h) λ d s1 ⟨H1,J,U⟩=>?_);cases d with
 |true=>exact ha pins s1 σ H1 D J U
 |false=>exact hb pins s1 σ H1 D J U
end
noncomputable abbrev TG:=V->St->Hp->(St->Hp->Prop)->Prop
noncomputable abbrev Gz:=List V->St->Hp->(St->Hp->Prop)->Prop
noncomputable def PG(X:Cx)(target:Expr)(t:TG):Prop:=
 ∀(pins:List (Addr×Obj))(s:Shared)(σ:St)(H:Hp)(v:V)(u:Value)(Q:St->Hp->Prop),Inv X pins σ H s->RelV v u->t v σ H Q->
  wpAny (model X.prog X.w) X.A (assign target X.env u) (λ _ s'=>∃C H',Inv X pins C H' s'/\Q C H') X.xe s
noncomputable def Jd(X:Cx)(I:List Expr)(t:Gz):Prop:=
 ∀(pins:List (Addr×Obj))(s:Shared)(σ:St)(H:Hp)(vs:List V)(us:List Value)(Q:St->Hp->Prop),Inv X pins σ H s->Vals vs us->t vs σ H Q->
  wpAny (model X.prog X.w) X.A (assignInOrder ((assignEach I X.env).map (·.2)) us) (λ _ s'=>∃C H',Inv X pins C H' s'/\Q C H') X.xe s
noncomputable abbrev JJ:=V->V->V->Hp->(Hp->Prop)->Prop
noncomputable def MD(X:Cx)(t:JJ):Prop:=
 ∀(pins:List (Addr×Obj))(s:Shared)(σ:St)(H:Hp)(o i v:V)(C I u:Value)(Q:Hp->Prop),Inv X pins σ H s->RelV o C->RelV i I->RelV v u->t o i v H Q->
  wpAny (model X.prog X.w) X.A (setItem C I u) (λ _ s'=>∃H',Inv X pins σ H' s'/\Q H') X.xe s
noncomputable abbrev N0:=V->V->Hp->VK->Prop
noncomputable def LG(X:Cx)(op:Operator)(t:N0):Prop:=
 ∀(pins:List (Addr×Obj))(s:Shared)(σ:St)(H:Hp)(x y:V)(v u:Value)(Q:VK),Inv X pins σ H s->RelV x v->RelV y u->t x y H Q->
  wpAny (model X.prog X.w) X.A (inplaceOp op v u) (EP X pins σ Q) X.xe s
section
variable {X:Cx} {pos:Pos}
noncomputable def qE(i:Nat):TG:= λ v σ H Q=>Q (σ.set i (some v)) H
theorem Ew(C:X.N.Nodup)(J:X.N[i]?=some x)(hx:Loc X.env.scope x)(hf:X.fn x=true\/X.env.scope.names.lookup x=some .local:=by first | exact .inl rfl | exact .inr rfl | assumption):PG X (.Name x pos) (qE i):=by intro pins s σ H v u Q I r h;exact wpAny_assign_Name (gy I C J hx r (λ s' U=>⟨_,H,U,h⟩) hf)
noncomputable def Oq:Gz:= λ vs σ H Q=>vs=[]/\Q σ H
noncomputable def Mj(t:TG)(u:Gz):Gz:= λ vs σ H Q=>∃v r,vs=v::r/\t v σ H λ C H'=>u r C H' Q
theorem Gr:Jd X [] Oq:=by intro pins s σ H vs us Q I r h;obtain⟨e,h⟩:=h;exact assignInOrder_nil ⟨σ,H,I,h⟩
theorem zR{t:TG}{u:Gz}(h1:PG X e t)(h2:Jd X es u)
  (hs:(assignEach (e::es) X.env).map (·.2)=assign e X.env::(assignEach es X.env).map (·.2):=by rfl):Jd X (e::es) (Mj t u):=by intro pins s σ H vs us Q I r h;obtain⟨v,vr,J,h⟩:=h;subst J;cases r with
 |cons r U=>rw[hs];refine assignInOrder_cons (cf (h1 pins s σ H _ _ _ I r h) λ _ s1 ⟨C,H1,I1,q1⟩=>?_);exact h2 pins s1 C H1 _ _ Q I1 U q1
noncomputable def N3(K:PySem.W.Frag)(n:Nat)(t:Gz):TG:= λ v σ H Q=>∃a xs,v= .ref a/\i0 K H a xs/\xs.length=n/\t xs σ H Q
theorem IZ{k:Nat}{t:Gz}{n:Nat}(J:X.calm=true)(h:Jd X es t)
  (U:(assignEach es X.env).length=n:=by rfl)(C:(assignEach es X.env).findIdx? (·.1)=none:=by rfl):PG X (.Tuple es k pos) (N3 X.K n t):=by intro pins s σ H v u Q I r hw;obtain⟨a,xs,e1,hq,hl,hw⟩:=hw;subst e1;cases r;obtain⟨its,rv,ht,hz⟩:=I.tuple hq;refine assign_Tuple_tuple (I.ok.hd J) ht (by simp[U,<- hl,rv.length]) C λ h' hx=>?_;have I1:Inv X pins σ H { s with heap:=h' }:=I.kept (t':=s.toks) λ b o e=>hx b o (QB (wN e)) e;exact h pins _ σ H xs _ Q I1 (by omega) hw
noncomputable def Om(to C:TE)(t:JJ):TG:= λ v σ H Q=>to σ H λ o H1=>C σ H1 λ i H2=>t o i v H2 λ I=>Q σ I
theorem JC{to U:TE}{t:JJ}(ho:PE X o to)(hi:PE X i U)(hs:MD X t)
  (ha:∀v,assign (.Subscript o i pos) X.env v=(do
   let C<- holding [v] (eval o X.env)
   let J<- holding [v,C] (eval i X.env)
   standAt pos
   holding [v,C,J] (setItem C J v)
   release [v,C,J] []):=by intro _;rfl):PG X (.Subscript o i pos) (Om to U t):=by intro pins s σ H v u Q I r h;rw[ha];refine zN (QZ (cf (ho pins s σ H _ I h) λ C s1 ⟨x,H1,I1,r1,q1⟩=>?_));refine zN (QZ (cf (hi pins s1 σ H1 _ I1 q1) λ J s2 ⟨y,H2,I2,r2,q2⟩=>?_));refine zN (Z7 (zN (QZ (cf (hs pins s2 σ H2 x y v C J u _ I2 r1 r2 r q2) λ _ s3 ⟨H3,I3,q3⟩=>?_))));exact wpAny_release ⟨σ,H3,I3,q3⟩
noncomputable def CU(te:TE)(g:TG):TS:= λ D σ H=>te σ H λ x H1=>g x σ H1 D.nx
theorem Bk{tg e:Expr}{te:TE}{g:TG}(he:PE X e te)(C:PG X tg g)(hs:swapsWithSole [tg] e pos.line X.env=pure false:=by rfl)(hw:swappedStores [tg] e X.env=pure none:=by rfl)
  (h1:(assignEach [tg] X.env).map (·.2)=[assign tg X.env]:=by rfl):PS X (.Assign [tg] e pos) (CU te g):=by intro pins s σ H D I h;refine wpAny_Assign_stores (cf (he pins s σ H _ I h) λ v s1 ⟨x,H1,J,U,q1⟩=>?_) hs hw;rw[h1];exact cf (C pins s1 σ H1 x v _ J U q1) λ _ s2 q=>q
theorem Az(C:X.N.Nodup)(J:X.N[i]?=some x)(hx:Loc X.env.scope x)(he:PE X e te)(hs:swapsWith e (some (.Name x pos')) pos.line X.env=pure false:=by rfl)(hf:X.fn x=true\/X.env.scope.names.lookup x=some .local:=by first | exact .inl rfl | exact .inr rfl | assumption):
  PS X (.Assign [.Name x pos'] e pos) (CU te (qE i)):=by intro pins s σ H D I h;refine wpAny_Assign_Name (cf (he pins s σ H _ I h) λ v s1 ⟨y,H1,U,r1,q1⟩=>?_) hs;exact gy U C J hx r1 (λ s2 I2=>⟨_,H1,I2,q1⟩) hf
noncomputable def OI(i j:Nat)(ta:TA):TS:= λ D σ H=>ta σ H λ vs H1=>∃v w,vs=[v,w]/\D.nx ((σ.set i (some v)).set j (some w)) H1
theorem JT{x y:Str}{a b:Expr}{ta:TA}{px py pt:Pos}{kt k2 C}(hc:X.calm=true)(hN:X.N.Nodup)(hi:X.N[i]?=some x)(hj:X.N[j]?=some y)(aa:i≠j)
  (hx:X.env.scope.names.lookup x=some .local)(hy:X.env.scope.names.lookup y=some .local)(ha:PA X [a,b] ta)
  (hw:swappedStores [.Tuple [.Name x px,.Name y py] kt pt] (.Tuple [a,b] k2 C) X.env=pure (some [x,y]))
  (hs:swapsWithSole [.Tuple [.Name x px,.Name y py] kt pt] (.Tuple [a,b] k2 C) pos.line X.env=pure false:=by rfl):
  PS X (.Assign [.Tuple [.Name x px,.Name y py] kt pt] (.Tuple [a,b] k2 C) pos) (OI i j ta):=by
 intro pins s σ H D I h;refine zN (Z7 ?_);refine zN (kT ?_);refine zN (Tuple_ (cf (ha _ pins s σ H _ I h) λ us s1 ⟨vs,H1,I1,r1,q1⟩=>?_));obtain⟨v,w,e1,q1⟩:=q1;subst e1;obtain⟨J,U,rfl,rv,ab⟩:∃J U,us=[J,U]/\RelV v J/\RelV w U:=by cases r1 with
  |cons p q=>cases q with
   |cons p' q'=>cases q';grind
 refine QN ?_ (by show 2<=sizeLine;decide);have I2:Inv X pins σ H1 { s1 with heap:=s1.heap.push { cls:= .type "tuple",data:= .seq [J,U].toArray } }:=I1.kept (t':=s1.toks) λ b o e=>zS _ e;rw[hw];refine zN (kT ?_);refine zN (YF (zN (unpackItems_tuple (items:=#[J,U]) (I.ok.hd hc) (IsTup.new s1.heap _) λ h' ae=>?_)));have I3:=I2.kept (h':=h') (t':=s1.toks) λ b o e=>ae b o (QB (wN e)) e;refine zN (assignInOrder_cons (wpAny_bindName (gy I3 hN hj (.inl hy) ab (λ s2 I4=>?_) (.inr hy))));refine assignInOrder_cons (wpAny_bindName (gy I4 hN hi (.inl hx) rv (λ s3 I5=>assignInOrder_nil (kT ?_)) (.inr hx)));rw[List.set_comm _ _ (Ne.symm aa)]at I5;exact⟨_,H1,I5,q1⟩
noncomputable def OY(i:Nat)(te:TE)(C:N0):TS:= λ D σ H=>∃x,σ[i]?=some (some x)/\te σ H λ y H1=>C x y H1 λ z H2=>D.nx (σ.set i (some z)) H2
theorem Il(hN:X.N.Nodup)(hi:X.N[i]?=some x)(hx:Loc X.env.scope x)(he:PE X e te)(ho:LG X op ti)(hf:X.fn x=true\/X.env.scope.names.lookup x=some .local:=by first|exact .inl rfl|exact .inr rfl|assumption):
  PS X (.AugAssign (.Name x pos') op e pos) (OY i te ti):=by
 intro pins s σ H D I h;obtain⟨v,e1,h⟩:=h;obtain⟨m,hn,hl⟩:=I.loc;have fv:uw X.env.scope x:=by rcases hx with k|k;exact .inl k;exact .inr (.inl k)
 obtain⟨u,r,l⟩:=hl i x v hi e1 fv;refine wpAny_AugAssign_Name ?_;have go:wpAny (model X.prog X.w) X.A (eval e X.env) (λ w U=>wpAny (model X.prog X.w) X.A (inplaceOp op u w) (λ r aa=>wpAny (model X.prog X.w) X.A (storeName X.env x r) (λ _=>SP X pins D .next) X.xe aa) X.xe U) X.xe s:=by refine cf (he pins s σ H _ I h) λ w s1 ⟨y,H1,I1,r1,q1⟩=>?_;refine cf (ho pins s1 σ H1 v y u w _ I1 r r1 q1) λ z s2 ⟨zv,H2,I2,r2,q2⟩=>?_;exact gy I2 hN hi hx r2 (λ s3 I3=>⟨_,H2,I3,q2⟩) hf
 rcases l with⟨C,hm⟩|⟨C,c,hc,J⟩
 .exact wpAny_loadName_local I.ok.kind C hn hm go
 .rcases C with C|C
  .exact wpAny_loadName_cell I.ok.kind C hc J go
  .rcases hx with k|k
   .have:X.env.scope.names.lookup x=some .free:=C;simp_all
   .have:X.env.scope.names.lookup x=some .free:=C;rw[k]at this;cases this
noncomputable def Oz(f:Int->Int->Int):N0:= λ x y H Q=>∃i j,x= .int i/\y= .int j/\Q (.int (f i j)) H
theorem Kc:LG X .Add (Oz fun i j=>i + j):= by
 intro pins s σ H x y v u Q I r1 r2 h
 obtain ⟨i,j,e1,e2,q⟩:=h
 subst e1;subst e2
 obtain ⟨t,rfl⟩:=r1
 obtain ⟨t',rfl⟩:=r2
 exact iadd_int ⟨.int _,H,I.tok _,⟨_,rfl⟩,q⟩
end
section
variable {X:Cx} {pos:Pos}
noncomputable def Ka(c:TT)(tb:TS):TS:= λ D σ H=>∃W:Nat->St->Hp->Prop,(∃m,W m σ H)/\∀m σ H,W m σ H->
 c σ H λ b H1=>if b=true then∃N:St->Hp->Prop,(∀C H',N C H'->∃I,I<m/\W I C H')/\tb { D with nx:=N,ct:=N,bk:=D.nx } σ H1 else D.nx σ H1
theorem BU{tc:TT}{tb:TS}(hp:PassesOwn (model X.prog X.w) X.A X.env X.xe)(hc:PT X c tc)(hb:sG X body tb):PS X (.While c body [] pos) (Ka tc tb):=by intro pins s σ H D I h;obtain⟨W,⟨m0,w0⟩,turn⟩:=h;refine wpAny_While (codeAny_whileLoop (λ n s'=>∃U H',Inv X pins U H' s'/\W n U H') ?_ m0 ⟨σ,H,I,w0⟩);rintro n s1 ⟨C,H1,I1,w1⟩;refine YA hp (cf (hc pins s1 C H1 _ I1 (turn n C H1 w1)) λ b s2 ⟨H2,I2,q2⟩=>?_);cases b with
 |true=>obtain⟨N,hN,q2⟩:=q2;refine YA hp (cf (hb pins s2 C H2 _ I2 q2) λ f s3 q3=>?_);cases f with
  |next=>obtain⟨J,H3,I3,n3⟩:=q3;grind
  |cont=>obtain⟨J,H3,I3,n3⟩:=q3;obtain⟨m',hm,w3⟩:=hN J H3 n3;exact⟨m',hm,J,H3,I3,w3⟩
  |brk=>exact q3
  |ret v=>exact q3
 |false=>exact XM ⟨C,H2,I2,q2⟩
end
structure It where
 go:Nat->Hp->Prop
 yld:Nat->Hp->V->Hp->Prop
 stop:Nat->Hp->Prop
noncomputable def dz(X:Cx)(pins:List (Addr×Obj))(H:Hp)(b:Addr):Prop:=
 H b=none/\b≠X.env.locals/\b∉X.fs/\(b∈X.ex\/X.s₀.heap.objs.size<=b)/\(∀x c,X.env.cells.lookup x=some c->c≠b)/\∀p∈X.pn++pins,p.1≠b
theorem Inv.fpOk{σ:St}{H H':Hp}{s:Shared}{b:Addr}(I:Inv X pins σ H s)(C:s.heap.objs.size<=b)(J:H' b=none):dz X pins H' b:=by
 refine⟨J,VG (QJ I.lt C),I.nofs C,.inr (Q1 I.sz C),λ x c e z=>?_,λ p U z=>?_⟩;. obtain⟨v,q⟩:=I.cell x c e;exact absurd (QJ q.lt (by simp_all)) (Q8 _)
 .exact absurd (QJ (wN (I.pin p U).1) (by rw[z];exact C)) (Q8 _)
structure Turn (P:Program) (w:World) (K:PySem.W.Frag) (tg:Expr) (J:It) (fp:List Addr) (it:Addr) (tn:Nat->Heap->Prop):Prop where
 mem:it ∈ fp
 obj:∀i h,tn i h->∀b ∈ fp,∃o,h.get? b=some o∧∀v,o.data ≠ .cell v
 keep:∀i h h',tn i h->(∀b ∈ fp,∀o,h.get? b=some o->h'.get? b=some o)->tn i h'
 item:∀(X:Cx),X.prog=P->X.w=w->X.K=K->X.calm=true->∀(i:Nat) (pins:List (Addr × Obj)) (s:Shared) (σ:St) (H:Hp) (E:Value->Shared->Prop),Inv X pins σ H s->(∀b ∈ fp,dz X pins H b)->tn i s.heap->J.go i H ->
  wpAny (model P w) X.A (pyNext (.ref it)) (fun r s1=>∃u,r=some u ∧
   wpAny (model P w) X.A (letOwnedTupleGo tg (.ref it) u) (fun _ s2=>∃x H',Inv X pins σ H' s2∧RelV x u∧J.yld i H x H' ∧ tn (i + 1) s2.heap∧∀b ∈ fp,H' b=none) E s1) E s
 done:∀(X:Cx),X.prog=P->X.w=w->X.K=K->X.calm=true->∀(i:Nat) (pins:List (Addr × Obj)) (s:Shared) (σ:St) (H:Hp) (E:Value->Shared->Prop),Inv X pins σ H s->(∀b ∈ fp,dz X pins H b)->tn i s.heap->J.stop i H ->
  wpAny (model P w) X.A (pyNext (.ref it)) (fun r s1=>r=none∧Inv X pins σ H s1) E s
 self:∀(A:Around) (i:Nat) (s:Shared) (Q:Value->Shared->Prop) (E:Value->Shared->Prop),tn i s.heap->Q (.ref it) s->wpAny (model P w) A (pyIter (.ref it)) Q E s
noncomputable abbrev TI:=St->Hp->(It->Hp->Prop)->Prop
noncomputable def NF(X:Cx)(pins:List (Addr×Obj))(σ:St)(tg:Expr)(R:It->Hp->Prop)(C:Value)(s2:Shared):Prop:=
 ∃(it:Addr) (fp:List Addr) (I:Nat->Heap->Prop) (J:It) (H':Hp),C= .ref it/\Inv X pins σ H' s2/\Turn X.prog X.w X.K tg J fp it I/\I 0 s2.heap/\(∀b∈fp,dz X pins H' b)/\R J H'
noncomputable def PI(X:Cx)(tg iter:Expr)(C:TI):Prop:=
 ∀(pins:List (Addr×Obj))(s:Shared)(σ:St)(H:Hp)(R:It->Hp->Prop),Inv X pins σ H s->C σ H R->
  wpAny (model X.prog X.w) X.A (eval iter X.env) (λ v s1=>wpAny (model X.prog X.w) X.A (pyIter v) (NF X pins σ tg R) X.xe s1) X.xe s
theorem rR{s:Shared}{tg:Expr}{it:Addr}{u:Value}{o:Obj}{n:String}{vs:Array Value}{Q:Unit->Shared->Prop}(I:s.heap.get? it=some o)(J:o.cls= .type n)(hd:o.data= .fields vs)
  (U:["enumerate","zip","dict_itemiterator","dict_reverseitemiterator","odict_iterator","itertools.zip_longest","itertools.pairwise"].contains n=false)(C:Q () s):wpAny M A (letOwnedTupleGo tg (.ref it) u) Q E s:=by cases tg <;> first
  |exact kT C
  |(cases u <;> first
    |exact kT C
    |(refine zN (wpAny_load I ?_);rw[J,hd];show wpAny M A (if(["enumerate","zip","dict_itemiterator","dict_reverseitemiterator","odict_iterator","itertools.zip_longest","itertools.pairwise"].contains n&&vs[0]?==some (rawInt _))=true then _ else _) Q E s;rw[QC (by grind)];exact kT C))
noncomputable def Nh(K:PySem.W.Frag)(a:Addr):It:=
 ⟨λ i H=>∃xs x,iK K H a xs/\xs[i]?=some x,λ i H x H'=>H'=H/\∀xs,iK K H a xs->xs[i]?=some x,λ i H=>∃xs,iK K H a xs/\xs.length<=i⟩
noncomputable def OA(K:PySem.W.Frag)(a:Addr):It:=
 ⟨λ i H=>∃xs x,i0 K H a xs/\xs[i]?=some x,λ i H x H'=>H'=H/\∀xs,i0 K H a xs->xs[i]?=some x,λ i H=>∃xs,i0 K H a xs/\xs.length<=i⟩
noncomputable def Mr(lo:Int)(n:Nat):It:=⟨λ i _=>i<n,λ i H x H'=>H'=H/\x= .int (lo+i),λ i _=>n<=i⟩
theorem nc{K:PySem.W.Frag}{tg:Expr}(a it:Addr):Turn P w K tg (Nh K a) [it] it (λ i h=>h.IsListIter it a i) where
 mem:=by simp
 obj:= λ i h st b C=>by
  have e:b=it:=by simpa using C
  subst e;obtain⟨o,e,c,d⟩:=st;exact⟨o,e,λ v z=>by rw[d]at z;cases z⟩
 keep:= λ i h h' st k=>st.at λ o e=>k it (by simp) o e
 item:=by intro X hP hw hK hc i pins s σ H E I hf st hg;subst hP hw hK;obtain⟨xs,x,U,hx⟩:=hg;obtain⟨its,rv,p,hz⟩:=I.list U;obtain⟨u,hu,ru⟩:=rv.get hx;obtain⟨f0,f1,f2,f3,f4,f5⟩:=hf it (by simp);refine wpAny_pyNext_list_item st p.isList (x:=u) (by simpa using hu) λ h' J sb=>?_;have I1:Inv X pins σ H { s with heap:=h' }:=I.turned (t':=s.toks) (λ b o C e=>(sb.2 b C).trans e) f0 f1 f3 f4 f5;obtain⟨o,e,c,d⟩:=id J;exact⟨u,rfl,rR (s:={ s with heap:=h' }) e c d (by decide) ⟨x,H,I1,ru,⟨rfl,λ ys hy=>by rw[I.list_inj hy U];exact hx⟩,J,λ b C=>(hf b C).1⟩⟩
 done:=by intro X hP hw hK hc i pins s σ H E I hf st hg;subst hP hw hK;obtain⟨xs,U,hx⟩:=hg;obtain⟨its,rv,p,hz⟩:=I.list U;obtain⟨f0,f1,f2,f3,f4,f5⟩:=hf it (by simp);have hl:=rv.length;exact wpAny_pyNext_list_end (I.ok.hd hc) st p.isList (by simp;omega) λ h' eb=>⟨rfl,I.turned (t':=s.toks) (λ b o C e=>eb b o C e) f0 f1 f3 f4 f5⟩
 self:= λ _ _ _ _ _ st h=>wpAny_pyIter_listiter st h
theorem sL{K:PySem.W.Frag}{tg:Expr}(a it:Addr):Turn P w K tg (OA K a) [it] it (λ i h=>h.IsTupleIter it a i) where
 mem:=by simp
 obj:= λ i h st b C=>by
  have e:b=it:=by simpa using C
  subst e;obtain⟨o,e,c,d⟩:=st;exact⟨o,e,λ v z=>by rw[d]at z;cases z⟩
 keep:= λ i h h' st k=>st.at λ o e=>k it (by simp) o e
 item:=by intro X hP hw hK hc i pins s σ H E I hf st hg;subst hP hw hK;obtain⟨xs,x,U,hx⟩:=hg;obtain⟨its,rv,p,hz⟩:=I.tuple U;obtain⟨u,hu,ru⟩:=rv.get hx;obtain⟨f0,f1,f2,f3,f4,f5⟩:=hf it (by simp);refine wpAny_pyNext_tuple_item st (show s.heap.IsTuple a its.toArray from p) (x:=u) (by simpa using hu) λ h' J sb=>?_;have I1:Inv X pins σ H { s with heap:=h' }:=I.turned (t':=s.toks) (λ b o C e=>(sb.2 b C).trans e) f0 f1 f3 f4 f5;obtain⟨o,e,c,d⟩:=id J;exact⟨u,rfl,rR (s:={ s with heap:=h' }) e c d (by decide) ⟨x,H,I1,ru,⟨rfl,λ ys hy=>by rw[I.tuple_inj hy U];exact hx⟩,J,λ b C=>(hf b C).1⟩⟩
 done:=by intro X hP hw hK hc i pins s σ H E I hf st hg;subst hP hw hK;obtain⟨xs,U,hx⟩:=hg;obtain⟨its,rv,p,hz⟩:=I.tuple U;obtain⟨f0,f1,f2,f3,f4,f5⟩:=hf it (by simp);have hl:=rv.length;exact wpAny_pyNext_tuple_end (I.ok.hd hc) st (show s.heap.IsTuple a its.toArray from p) (by simp;omega) λ h' eb=>⟨rfl,I.turned (t':=s.toks) (λ b o C e=>eb b o C e) f0 f1 f3 f4 f5⟩
 self:= λ _ _ _ _ _ st h=>wpAny_pyIter_tupleiter st h
theorem uE{K:PySem.W.Frag}{tg:Expr}(it:Addr)(lo:Int)(n:Nat):Turn P w K tg (Mr lo n) [it] it (λ i h=>IsRangeIter h it (lo+i*1) (n-i) 1) where
 mem:=by simp
 obj:= λ i h st b C=>by
  have e:b=it:=by simpa using C
  subst e;exact⟨_,st,λ v z=>by have z':Data.fields _=Data.cell v:=z;cases z'⟩
 keep:= λ i h h' st k=>k it (by simp) _ st
 item:=by intro X hP hw hK U i pins s σ H E I hf st hg;subst hP hw hK;obtain⟨f0,f1,f2,f3,f4,f5⟩:=hf it (by simp);have W:=Walks.range (prog:=X.prog) (w:=X.w) (I.ok.hd U) it lo 1 n;refine W.item i s _ _ hg st λ v h' tk hv J kk=>?_;obtain⟨t,rfl⟩:=hv;have I1:Inv X pins σ H { s with heap:=h',toks:=tk }:=I.turned (λ b o C e=>kk b o (by simpa using C) e) f0 f1 f3 f4 f5;refine⟨_,rfl,rR (s:={ s with heap:=h',toks:=tk }) (n:="range_iterator") J rfl rfl (by decide) ⟨.int (lo+i),H,I1,⟨t,?_⟩,⟨rfl,rfl⟩,J,λ b C=>(hf b C).1⟩⟩;simp
 done:=by intro X hP hw hK U i pins s σ H E I hf st hg;obtain⟨f0,f1,f2,f3,f4,f5⟩:=hf it (by simp);exact wpAny_pyNext_range_end (I.ok.hd U) st (by have:n<=i:=hg;omega) λ h' eb=>⟨rfl,I.turned (t':=s.toks) (λ b o C e=>eb b o C e) f0 f1 f3 f4 f5⟩
 self:= λ _ _ _ _ _ st h=>wpAny_pyIter_rangeiter st h
section
variable {X:Cx} {tg:Expr}
noncomputable def ME(K:PySem.W.Frag)(C:TE):TI:= λ σ H R=>C σ H λ x H1=>∃a,x= .ref a/\(∃xs,iK K H1 a xs)/\R (Nh K a) H1
theorem Ea(J:PE X l U):PI X tg l (ME X.K U):=by
 intro pins s σ H R I h;refine cf (J pins s σ H _ I h) λ v s1 ⟨x,H1,C,r1,q1⟩=>?_;obtain⟨a,e,⟨xs,hq⟩,q⟩:=q1;subst e;cases r1;obtain⟨its,rv,p,hz⟩:=C.list hq;refine VY p.isList ?_;refine⟨s1.heap.objs.size,[s1.heap.objs.size],_,_,H1,rfl,C.kept (t':=s1.toks) λ b o e=>zS _ e,nc a _,⟨_,wL _ rfl,rfl,rfl⟩,λ b hb=>?_,q⟩;have e:b=s1.heap.objs.size:=by simp_all
 subst e;exact C.fpOk (wF _) (C.hok.fresh (wF _))
theorem rm{σ:St}{H:Hp}{s:Shared}{R:It->Hp->Prop}{E:Value->Shared->Prop}{lo C:Int}{t u v:Tok}{tk:Nat}(I:Inv X pins σ H s)(h1: -(2^62)<=lo)(h2:lo<2^62)(U: -(2^62)<=C)(h4:C<2^62)
  (q:R (Mr lo (C-lo).toNat) H):wpAny (model X.prog X.w) X.A (pyIter (.ref s.heap.objs.size)) (NF X pins σ tg R) E { s with heap:=s.heap.push { cls:= .type "range",data:= .fields #[.int lo t,.int C u,.int 1 v] },toks:=tk }:=by
 refine wpAny_pyIter_range (IsRange.new ..) (small_one h1 h2 U h4) ?_;have J:Inv X pins σ H { s with heap:=s.heap.push { cls:= .type "range",data:= .fields #[.int lo t,.int C u,.int 1 v] },toks:=tk }:=I.kept λ b o e=>zS _ e;refine⟨(s.heap.push { cls:= .type "range",data:= .fields #[.int lo t,.int C u,.int 1 v] }).objs.size,[(s.heap.push { cls:= .type "range",data:= .fields #[.int lo t,.int C u,.int 1 v] }).objs.size],_,_,H,rfl,
  J.kept (t':=tk) λ b o e=>zS _ e,uE _ lo (C-lo).toNat,?_,λ b hb=>?_,q⟩
 .have e1:lo+((0:Nat):Int)*1=lo:=by simp
  have e2:(((C-lo).toNat:Nat):Int) -((0:Nat):Int)=Builtin.Range.rangeSize lo C 1:=by rw[rangeSize_one];omega
  rw[e1,e2];exact wL _ rfl
 .have e:b=(s.heap.push { cls:= .type "range",data:= .fields #[.int lo t,.int C u,.int 1 v] }).objs.size:=by simpa using hb
  subst e;exact J.fpOk (wF _) (J.hok.fresh (wF _))
noncomputable def Mx(ta:TA):TI:= λ σ H R=>ta σ H λ vs H1=>∃j:Int,vs=[.int j]/\ -(2^62)<=j/\j<2^62/\R (Mr 0 j.toNat) H1
noncomputable def LL(ta:TA):TI:= λ σ H R=>ta σ H λ vs H1=>∃i j:Int,vs=[.int i,.int j]/\(-(2^62)<=i/\i<2^62/\ -(2^62)<=j/\j<2^62)/\R (Mr i (j-i).toNat) H1
theorem yn {a:Expr} {ta:TA} {p pos:Pos} (hg:Gl X "range") (hm:X.mg "range" = none) (ha:PA X [a] ta) (hs:starEach [a] X.env=[(false,eval a X.env)]:=by rfl):PI X tg (.Call (.Name "range" p) [a] [] pos) (Mx ta):= by
 intro pins s σ H R I h
 refine Call_ (gj I hg hm boot_range (ZY (cf (ha pos pins s σ H _ I h) fun us s1 ⟨vs,H1,I1,r1,q1⟩=>?_) hs rfl))
 obtain ⟨j,e,q1,q2,q⟩:=q1
 subst e
 cases r1 with
 | cons r rr=>
  cases rr
  obtain ⟨t,rfl⟩:=r
  exact call_range_1 (rm I1 (by omega) (by omega) q1 q2 (by simpa using q))
theorem yd {a b:Expr} {ta:TA} {p pos:Pos} (hg:Gl X "range") (hm:X.mg "range" = none) (ha:PA X [a,b] ta) (hs:starEach [a,b] X.env=[(false,eval a X.env),(false,eval b X.env)]:=by rfl) (hs2:starEach [b] X.env=[(false,eval b X.env)]:=by rfl) :
  PI X tg (.Call (.Name "range" p) [a,b] [] pos) (LL ta):= by
 intro pins s σ H R I h
 refine Call_ (gj I hg hm boot_range (ZY (cf (ha pos pins s σ H _ I h) fun us s1 ⟨vs,H1,I1,r1,q1⟩=>?_) (by rw [hs,hs2]) (by rw [hs2];rfl)))
 obtain ⟨i,j,e,⟨q1,q2,q3,q4⟩,q⟩:=q1
 subst e
 cases r1 with
 | cons r rr=>
  cases rr with
  | cons r' rr=>
   cases rr
   obtain ⟨t,rfl⟩:=r
   obtain ⟨t',rfl⟩:=r'
   exact call_range_2 (rm I1 q1 q2 q3 q4 q)
noncomputable def NU(wi:TI)(g:TG)(tb:TS):TS:= λ D σ H=>wi σ H λ J H1=>∃W:Nat->Nat->St->Hp->Prop,(∃m,W 0 m σ H1)/\∀i m σ H,W i m σ H->
 (J.stop i H/\D.nx σ H)\/(J.go i H/\∃N:St->Hp->Prop,(∀C H',N C H'->∃U,U<m/\W (i+1) U C H')/\∀x H',J.yld i H x H'->g x σ H' λ I H2=>tb { D with nx:=N,ct:=N,bk:=D.nx } I H2)
noncomputable def iP(fp:List Addr)(h:Heap):List (Addr×Obj):=fp.filterMap λ b=>(h.get? b).map λ o=>(b,o)
theorem cG{b:Addr}{o:Obj}(C:b∈fp)(e:h.get? b=some o):(b,o)∈iP fp h:=WY.mpr ⟨b,C,by grind⟩
theorem yq(C:p∈iP fp h):p.1∈fp/\h.get? p.1=some p.2:=by obtain⟨b,I,e⟩:=WY.mp C;cases q:h.get? b with
 |none=>grind
 |some o=>grind
theorem Inv.pinned{σ:St}{H:Hp}{s:Shared}{fp:List Addr}(I:Inv X pins σ H s)(hf:∀b∈fp,dz X pins H b)(U:∀b∈fp,∃o,s.heap.get? b=some o/\∀v,o.data≠ .cell v):Inv X (pins++iP fp s.heap) σ H s:=
 I.pins_of λ p C=>(uT.mp C).elim (λ z=>I.pin p (uP _ z)) λ z=>by obtain⟨J,e⟩:=yq z;obtain⟨f0,f1,f2,_⟩:=hf p.1 J;grind
theorem Inv.unpinned{σ:St}{H:Hp}{s:Shared}(I:Inv X (pins++pl) σ H s):Inv X pins σ H s:=I.pins_of λ p C=>I.pin p (uP _ (ZO _ C))
theorem JR{wi:TI}{g:TG}{tb:TS}{pos:Pos}(hp:PassesOwn (model X.prog X.w) X.A X.env X.xe)(hc:X.calm=true)(hi:PI X tg iter wi)(hg:PG X tg g)(U:sG X body tb)
  (hs:∀x,foldedSetIterable iter X.env x=pure x:=by intro _;rfl):PS X (.For tg iter body [] pos) (NU wi g tb):=by
 intro pins s σ H D I h;refine wpAny_For (cf (hi pins s σ H _ I h) λ v s1 h1=>cf h1 λ aq s2 h2=>?_) hs;obtain⟨it,fp,tn,J,H2,e,I2,T,ai,f2,W,⟨m0,w0⟩,turn⟩:=h2;subst e
 have aa:∀{H':Hp},(∀b∈fp,H' b=none)->∀b∈fp,dz X pins H' b:= λ hn b U=>⟨hn b U,(f2 b U).2⟩;refine codeAny_forLoop_any (λ n s'=>∃i ab H',Inv X pins ab H' s'/\tn i s'.heap/\(∀b∈fp,H' b=none)/\W i n ab H') ?_ m0 ⟨0,σ,H2,I2,ai,λ b U=>(f2 b U).1,w0⟩;rintro n s3 ⟨i,ae,H3,I3,ag,ah,w3⟩;rcases turn i n ae H3 w3 with⟨stop,qn⟩|⟨go,N,hN,step⟩
 .refine YA hp (cf (T.done X rfl rfl rfl hc i pins s3 ae H3 X.xe I3 (aa ah) ag stop) λ r s4 ⟨hr,I4⟩=>?_);subst hr;exact XM ⟨ae,H3,I4,qn⟩
 .refine YA hp (cf (T.item X rfl rfl rfl hc i pins s3 ae H3 X.xe I3 (aa ah) ag go) λ r s4 ⟨u,hr,h4⟩=>?_);subst hr;refine YA hp (cf h4 λ _ s5 ⟨x,H5,I5,r5,y5,af,aj⟩=>?_);have ak:=I5.pinned (aa aj) (T.obj _ _ af);refine YA hp (cf (hg _ s5 ae H5 x u _ ak r5 (step x H5 y5)) λ _ s6 ⟨ao,H6,I6,q6⟩=>?_);refine YA hp (cf (U _ s6 ao H6 _ I6 q6) λ f s7 q7=>?_);have again:∀{C:St}{H7:Hp},Inv X (pins++iP fp s5.heap) C H7 s7->N C H7->∃m,m<n/\∃i ab H',Inv X pins ab H' s7/\tn i s7.heap/\(∀b∈fp,H' b=none)/\W i m ab H':= λ{C H7} I7 n7=>by obtain⟨m',hm,w7⟩:=hN C H7 n7;refine⟨m',hm,i+1,C,H7,I7.unpinned,T.keep _ _ _ af λ b U o e=>(I7.pin (b,o) (uP _ (uP _ (cG U e)))).1,λ b U=>?_,w7⟩;obtain⟨o,e,d⟩:=T.obj _ _ af b U;exact(I7.pin (b,o) (uP _ (uP _ (cG U e)))).2.1
  cases f with
  |next=>obtain⟨C,H7,I7,n7⟩:=q7;exact again I7 n7
  |cont=>obtain⟨C,H7,I7,n7⟩:=q7;exact again I7 n7
  |brk=>obtain⟨C,H7,I7,q7⟩:=q7;exact⟨C,H7,I7.unpinned,q7⟩
  |ret v=>obtain⟨x7,C,H7,I7,r7,q7⟩:=q7;exact⟨x7,C,H7,I7.unpinned,r7,q7⟩
end
noncomputable abbrev R2:=V->V->Hp->VK->Prop
noncomputable def iu(X:Cx)(f:Value->Value->Sem Value)(r:R2):Prop:=
 ∀(pins:List (Addr×Obj))(s:Shared)(σ:St)(H:Hp)(x y:V)(v u:Value)(Q:VK),Inv X pins σ H s->RelV x v->RelV y u->r x y H Q->
  wpAny (model X.prog X.w) X.A (f v u) (EP X pins σ Q) X.xe s
noncomputable def Ou(X:Cx)(f:Value->Sem Value)(r:V->Hp->VK->Prop):Prop:=
 ∀(pins:List (Addr×Obj))(s:Shared)(σ:St)(H:Hp)(x:V)(v:Value)(Q:VK),Inv X pins σ H s->RelV x v->r x H Q->
  wpAny (model X.prog X.w) X.A (f v) (EP X pins σ Q) X.xe s
noncomputable def dM(X:Cx)(f:Value)(r:List V->Hp->VK->Prop):Prop:=
 ∀(pins:List (Addr×Obj))(s:Shared)(σ:St)(H:Hp)(xs:List V)(us:List Value)(Q:VK),Inv X pins σ H s->Vals xs us->r xs H Q->
  wpAny (model X.prog X.w) X.A (call f us) (EP X pins σ Q) X.xe s
noncomputable def Oj(X:Cx)(r:V->Hp->(Bool->Hp->Prop)->Prop):Prop:=
 ∀(pins:List (Addr×Obj))(s:Shared)(σ:St)(H:Hp)(x:V)(v:Value)(Q:Bool->Hp->Prop),Inv X pins σ H s->RelV x v->r x H Q->
  wpAny (model X.prog X.w) X.A (truthy v) (TP X pins σ Q) X.xe s
noncomputable def GY(r:R2)(ta tb:TE):TE:= λ σ H Q=>ta σ H λ x H1=>tb σ H1 λ y H2=>r x y H2 Q
noncomputable def PB(r:V->Hp->VK->Prop)(ta:TE):TE:= λ σ H Q=>ta σ H λ x H1=>r x H1 Q
noncomputable def rI(C:Int->Int->Prop)(g:Int->Int->V):R2:= λ x y H Q=>∃i j,x= .int i/\y= .int j/\C i j/\Q (g i j) H
noncomputable def C3(g:Int->Int->V):R2:= λ x y H Q=>∃i j,x= .int i/\y= .int j/\Q (g i j) H
noncomputable def rU(g:Int->V):V->Hp->VK->Prop:= λ x H Q=>∃i,x= .int i/\Q (g i) H
section
variable {X:Cx} {a b:Expr} {ta tb:TE} {pos:Pos}
theorem HZ(U:PE X a ta)(hb:PE X b tb){pins:List (Addr×Obj)}{s:Shared}{σ:St}{H:Hp}{R:V->V->Hp->Prop}(I:Inv X pins σ H s)
  (h:ta σ H λ x H1=>tb σ H1 λ y H2=>R x y H2){Q:Value->Shared->Prop}{f:Value->Value->Sem Value}
  (hf:∀v u s2 x y H2,Inv X pins σ H2 s2->RelV x v->RelV y u->R x y H2->wpAny (model X.prog X.w) X.A (f v u) Q X.xe s2):
  wpAny (model X.prog X.w) X.A (eval a X.env) (λ v C=>wpAny (model X.prog X.w) X.A (eval b X.env) (λ u J=>wpAny (model X.prog X.w) X.A (f v u) Q X.xe J) X.xe C) X.xe s:=by refine cf (U pins s σ H _ I h) λ v s1 ⟨x,H1,I1,r1,q1⟩=>?_;refine cf (hb pins s1 σ H1 _ I1 q1) λ u s2 ⟨y,H2,I2,r2,q2⟩=>?_;grind
theorem GP(C:iu X (binaryOp op) r)(J:PE X a ta)(U:PE X b tb):PE X (.BinOp a op b pos) (GY r ta tb):=by intro pins s σ H Q I h;exact wpAny_BinOp (HZ J U I h λ v u s2 x y H2 I2 rx ry q=>C pins s2 σ H2 x y v u Q I2 rx ry q)
theorem Gw(C:Ou X (unaryOp op) r)(J:PE X a ta):PE X (.UnaryOp op a pos) (PB r ta):=by intro pins s σ H Q I h;exact UnaryOp_ (cf (J pins s σ H _ I h) λ v s1 ⟨x,H1,U,r1,q1⟩=>C pins s1 σ H1 x v Q U r1 q1)
theorem OQ{C:Int->Int->Prop}{g:Int->Int->Int}
  (rule:∀(i j:Int)(t u:Tok)(s:Shared)(Q:Value->Shared->Prop)(E:Value->Shared->Prop),C i j->Q (.int (g i j) s.toks) { s with toks:=s.toks+1 }->wpAny (model X.prog X.w) X.A (f (.int i t) (.int j u)) Q E s):
  iu X f (rI C λ i j=> .int (g i j)):=by intro pins s σ H x y v u Q I J U h;obtain⟨i,j,rfl,rfl,hc,q⟩:=h;obtain⟨t,rfl⟩:=J;obtain⟨t',rfl⟩:=U;exact rule i j t t' s _ _ hc ⟨.int (g i j),H,I.tok _,⟨_,rfl⟩,q⟩
theorem LZ{g:Int->Int->Int}
  (rule:∀(i j:Int)(t u:Tok)(s:Shared)(Q:Value->Shared->Prop)(E:Value->Shared->Prop),Q (.int (g i j) s.toks) { s with toks:=s.toks+1 }->wpAny (model X.prog X.w) X.A (f (.int i t) (.int j u)) Q E s):
  iu X f (C3 λ i j=> .int (g i j)):=by intro pins s σ H x y v u Q I C J h;obtain⟨i,j,rfl,rfl,q⟩:=h;obtain⟨t,rfl⟩:=C;obtain⟨t',rfl⟩:=J;exact rule i j t t' s _ _ ⟨.int (g i j),H,I.tok _,⟨_,rfl⟩,q⟩
theorem Kh{g:Int->Int->Bool}
  (rule:∀(i j:Int)(t u:Tok)(s:Shared)(Q:Value->Shared->Prop)(E:Value->Shared->Prop),Q (.bool (g i j)) s->wpAny (model X.prog X.w) X.A (f (.int i t) (.int j u)) Q E s):
  iu X f (C3 λ i j=> .bl (g i j)):=by intro pins s σ H x y v u Q I C J h;obtain⟨i,j,rfl,rfl,q⟩:=h;obtain⟨t,rfl⟩:=C;obtain⟨t',rfl⟩:=J;exact rule i j t t' s _ _ ⟨.bl (g i j),H,I,rfl,q⟩
noncomputable def OV(i j:Int):Prop:=0<j/\j<1073741824
noncomputable def IK(i j:Int):Prop:=(-(2^64)<i/\i<2^64)\/(-(2^64)<j/\j<2^64)
theorem IK.ok(h:IK i j):IntMulOk i j:=by
 rcases h with⟨h1,h2⟩|⟨h1,h2⟩
 .exact .of_left (intBits_le_64 h1 h2)
 .exact .of_right (intBits_le_64 h1 h2)
theorem HQ:iu X (binaryOp .Add) (C3 fun i j=>.int (i + j)):=LZ fun _ _ _ _ _ _ _ q=>add_int q
theorem Iq:iu X (binaryOp .Sub) (C3 fun i j=>.int (i - j)):=LZ fun _ _ _ _ _ _ _ q=>sub_int q
theorem JU:iu X (binaryOp .Mult) (rI IK fun i j=>.int (i * j)):=OQ fun _ _ _ _ _ _ _ hc q=>mul_int q hc.ok
theorem ES:iu X (binaryOp .FloorDiv) (rI OV fun i j=>.int (i / j)):=OQ fun i j _ _ _ _ _ hc q=>by
 have h1:(0:Int) < j:=hc.1
 have h2:j < 1073741824:=hc.2
 exact floordiv_int (by omega) (by grind) (.inl (PyProof.noPylong_small (by omega)))
theorem IB:iu X (binaryOp .Mod) (rI (fun _ j=>0 < j) fun i j=>.int (i % j)):=OQ fun i j _ _ _ _ _ hc q=>by
 have h1:(0:Int) < j:=hc
 exact mod_int' (by omega) (by grind)
theorem P_{g:Int->Int}
  (rule:∀(i:Int)(t:Tok)(s:Shared)(Q:Value->Shared->Prop)(E:Value->Shared->Prop),Q (.int (g i) s.toks) { s with toks:=s.toks+1 }->wpAny (model X.prog X.w) X.A (f (.int i t)) Q E s):
  Ou X f (rU λ i=> .int (g i)):=by intro pins s σ H x v Q I C h;obtain⟨i,rfl,q⟩:=h;obtain⟨t,rfl⟩:=C;exact rule i t s _ _ ⟨.int (g i),H,I.tok _,⟨_,rfl⟩,q⟩
theorem Cg:Ou X (unaryOp .USub) (rU fun i=>.int (-i)):=P_ fun _ _ _ _ _ q=>neg_int q
end
noncomputable def j8:V->V->Bool
 | .non,.non=>true| .non,.int _=>true| .int _,.non=>true| .non,.bl _=>true| .bl _,.non=>true| .non,.str _=>true| .str _,.non=>true
 | .int _,.int _=>true| .bl _,.bl _=>true| .str _,.str _=>true| .byt _,.byt _=>true
 | .int _,.str _=>true| .str _,.int _=>true| .bl _,.str _=>true| .str _,.bl _=>true
 |_,_=>false
noncomputable def OJ:R2:= λ x y H Q=>j8 x y=true/\Q (.bl (decide (x=y))) H
noncomputable def Oy:R2:= λ x y H Q=>j8 x y=true/\Q (.bl (!decide (x=y))) H
theorem vY:decide (V.int i=V.int j)=(i==j):=by grind
theorem yV:decide (V.bl i=V.bl j)=(i==j):=by grind
theorem wc:decide (V.str i=V.str j)=(i==j):=by grind
theorem vD:decide (V.byt i=V.byt j)=(i.toList==j.toList):=by rw[Z1];simp
section
variable {X:Cx} {a b c:Expr} {ta tb tc:TE} {pos:Pos}
theorem bQ{σ:St}{H:Hp}{s:Shared}{Q:VK}{k C:Bool}(I:Inv X pins σ H s)(q:Q (.bl k) H)(e:k=C):EP X pins σ Q (.bool C) s:=by subst e;exact⟨.bl k,H,I,rfl,q⟩
theorem yS:iu X (compareOp .Eq) OJ:= by
 intro pins s σ H x y v u Q I rx ry h
 obtain ⟨hs,q⟩:=h
 cases x with
 | non=>
  cases rx
  cases y with
  | non=>cases ry;exact PySem.EqNone.eq_none_none (bQ I q (by simp))
  | bl j=>cases ry;exact PySem.EqNone.eq_none_bool (bQ I q (by simp))
  | int j=>obtain ⟨t',rfl⟩:=ry;exact PySem.EqNone.eq_none_int (bQ I q (by simp))
  | str j=>obtain ⟨t',rfl⟩:=ry;exact PySem.EqNone.eq_none_str (bQ I q (by simp))
  | _=>exact absurd (show false=true from hs) fN
 | bl i=>
  cases rx
  cases y with
  | non=>cases ry;exact PySem.EqNone.eq_bool_none (bQ I q (by simp))
  | bl j=>cases ry;exact eq_bool (bQ I q yV)
  | str j=>obtain ⟨t',rfl⟩:=ry;exact PySem.EqMixed.eq_bool_str (bQ I q (by simp))
  | _=>exact absurd (show false=true from hs) fN
 | int i=>
  obtain ⟨t,rfl⟩:=rx
  cases y with
  | non=>cases ry;exact PySem.EqNone.eq_int_none (bQ I q (by simp))
  | int j=>obtain ⟨t',rfl⟩:=ry;exact eq_int (bQ I q vY)
  | str j=>obtain ⟨t',rfl⟩:=ry;exact PySem.EqMixed.eq_int_str (bQ I q (by simp))
  | _=>exact absurd (show false=true from hs) fN
 | str i=>
  obtain ⟨t,rfl⟩:=rx
  cases y with
  | non=>cases ry;exact PySem.EqNone.eq_str_none (bQ I q (by simp))
  | bl j=>cases ry;exact PySem.EqMixed.eq_str_bool (bQ I q (by simp))
  | int j=>obtain ⟨t',rfl⟩:=ry;exact PySem.EqMixed.eq_str_int (bQ I q (by simp))
  | str j=>obtain ⟨t',rfl⟩:=ry;exact eq_str (bQ I q wc)
  | _=>exact absurd (show false=true from hs) fN
 | byt i=>
  obtain ⟨t,rfl⟩:=rx
  cases y with
  | byt j=>obtain ⟨t',rfl⟩:=ry;exact PySem.W.eq_bytes (bQ I q vD)
  | _=>exact absurd (show false=true from hs) fN
 | _=>cases y <;> exact absurd (show false=true from hs) fN
theorem LB:iu X (compareOp .NotEq) Oy:= by
 intro pins s σ H x y v u Q I rx ry h
 obtain ⟨hs,q⟩:=h
 cases x with
 | non=>
  cases rx
  cases y with
  | non=>cases ry;exact PySem.EqNone.ne_none_none (bQ I q (by simp))
  | bl j=>cases ry;exact PySem.EqNone.ne_none_bool (bQ I q (by simp))
  | int j=>obtain ⟨t',rfl⟩:=ry;exact PySem.EqNone.ne_none_int (bQ I q (by simp))
  | str j=>obtain ⟨t',rfl⟩:=ry;exact PySem.EqNone.ne_none_str (bQ I q (by simp))
  | _=>exact absurd (show false=true from hs) fN
 | bl i=>
  cases rx
  cases y with
  | non=>cases ry;exact PySem.EqNone.ne_bool_none (bQ I q (by simp))
  | bl j=>cases ry;exact ne_bool (bQ I q (Z6 not yV))
  | str j=>obtain ⟨t',rfl⟩:=ry;exact PySem.EqMixed.ne_bool_str (bQ I q (by simp))
  | _=>exact absurd (show false=true from hs) fN
 | int i=>
  obtain ⟨t,rfl⟩:=rx
  cases y with
  | non=>cases ry;exact PySem.EqNone.ne_int_none (bQ I q (by simp))
  | int j=>obtain ⟨t',rfl⟩:=ry;exact ne_int (bQ I q (Z6 not vY))
  | str j=>obtain ⟨t',rfl⟩:=ry;exact PySem.EqMixed.ne_int_str (bQ I q (by simp))
  | _=>exact absurd (show false=true from hs) fN
 | str i=>
  obtain ⟨t,rfl⟩:=rx
  cases y with
  | non=>cases ry;exact PySem.EqNone.ne_str_none (bQ I q (by simp))
  | bl j=>cases ry;exact PySem.EqMixed.ne_str_bool (bQ I q (by simp))
  | int j=>obtain ⟨t',rfl⟩:=ry;exact PySem.EqMixed.ne_str_int (bQ I q (by simp))
  | str j=>obtain ⟨t',rfl⟩:=ry;exact ne_str (bQ I q (Z6 not wc))
  | _=>exact absurd (show false=true from hs) fN
 | byt i=>
  obtain ⟨t,rfl⟩:=rx
  cases y with
  | byt j=>obtain ⟨t',rfl⟩:=ry;exact PySem.W.ne_bytes (bQ I q (Z6 not vD))
  | _=>exact absurd (show false=true from hs) fN
 | _=>cases y <;> exact absurd (show false=true from hs) fN
theorem G4:iu X (compareOp .Lt) (C3 fun i j=>.bl (decide (i < j))):=Kh fun _ _ _ _ _ _ _ q=>lt_int q
theorem Mz:iu X (compareOp .LtE) (C3 fun i j=>.bl (decide (i ≤ j))):=Kh fun _ _ _ _ _ _ _ q=>le_int q
theorem KL:iu X (compareOp .Gt) (C3 fun i j=>.bl (decide (j < i))):=Kh fun _ _ _ _ _ _ _ q=>gt_int q
theorem yK:iu X (compareOp .Is) (λ x y H Q=>y= .non/\Q (.bl (decide (x= .non))) H):=by intro pins s σ H x y v u Q I C J h;obtain⟨rfl,q⟩:=h;cases J;refine is_none_gen (bQ I q ?_);cases x <;> first
  |rfl
  |(obtain⟨t,rfl⟩:=C;rfl)
theorem u7:iu X (compareOp .IsNot) (λ x y H Q=>y= .non/\Q (.bl (!decide (x= .non))) H):=by intro pins s σ H x y v u Q I C J h;obtain⟨rfl,q⟩:=h;cases J;refine isnot_none_gen (bQ I q ?_);cases x <;> first
  |rfl
  |(obtain⟨t,rfl⟩:=C;rfl)
theorem uc(b:Expr){op:CmpOp}(h:op≠ .In:=by decide)(h2:op≠ .NotIn:=by decide):behindInMarks op b=false:=by
 have C:(op==CmpOp.In)=false:=by simp_all
 have I:(op==CmpOp.NotIn)=false:=by simp_all
 cases b <;> simp[behindInMarks,C,I]
theorem Dz(C:iu X (compareOp op) r)(J:PE X a ta)(U:PE X b tb)(hm:behindInMarks op b=false):PE X (.Compare a [op] [b] pos) (GY r ta tb):=by intro pins s σ H Q I h;exact wpAny_Compare1 (HZ J U I h λ v u s2 x y H2 I2 rx ry q=>C pins s2 σ H2 x y v u Q I2 rx ry q) hm
noncomputable def GB(t:TE):TT:= λ σ H Q=>t σ H λ x H'=>∃k,x= .bl k/\Q k H'
theorem vG(C:iu X (compareOp op) r)(J:PE X a ta)(U:PE X b tb)(hm:behindInMarks op b=false):PT X (.Compare a [op] [b] pos) (GB (GY r ta tb)):=by
 intro pins s σ H Q I h;refine wpAny_isTrue_Compare1 (cf (J pins s σ H _ I h) λ v s1 ⟨x,H1,I1,r1,q1⟩=>cf (U pins s1 σ H1 _ I1 q1) λ u s2 ⟨y,H2,I2,r2,q2⟩=>
  cf (C pins s2 σ H2 x y v u _ I2 r1 r2 q2) λ c s3 ⟨z,H3,I3,r3,k,e,q3⟩=>?_) hm;subst e;cases r3;exact VI ⟨H3,I3,q3⟩
noncomputable def IX(r I:R2)(ta tb tc:TE):TE:= λ σ H Q=>ta σ H λ x H1=>tb σ H1 λ y H2=>r x y H2 λ z C=>∃k,z= .bl k/\
 (if k=true then tc σ C λ J U=>I y J U Q else Q (.bl false) C)
theorem zZ{r U:R2}(ho:iu X (compareOp op) r)(J:iu X (compareOp C) U)(ha:PE X a ta)(hb:PE X b tb)(hc:PE X c tc)
  (hm:lastMarks [op,C] [b,c]=false:=by with_unfolding_all rfl):PE X (.Compare a [op,C] [b,c] pos) (IX r U ta tb tc):=by
 intro pins s σ H Q I h;refine Compare_chain (cf (ha pins s σ H _ I h) λ v s1 ⟨x,H1,I1,r1,q1⟩=>chain_link (cf (hb pins s1 σ H1 _ I1 q1) λ u s2 ⟨y,H2,I2,r2,q2⟩=>
  cf (ho pins s2 σ H2 x y v u _ I2 r1 r2 q2) λ d s3 ⟨z,H3,I3,r3,k,e,q3⟩=>?_)) hm;subst e;cases r3;refine VI ?_;cases k with
 |false=>exact ite_ff ⟨.bl false,H3,I3,rfl,q3⟩
 |true=>exact ite_tt (chain_last (cf (hc pins s3 σ H3 _ I3 q3) λ w' s4 ⟨z',H4,I4,r4,q4⟩=>J pins s4 σ H4 y z' u w' Q I4 r2 r4 q4))
noncomputable def Kg(K:PySem.W.Frag)(x:V)(H:Hp)(k:Bool):Prop:=
 match x with
 | .non=>k=false
 | .bl b=>k=b
 | .int i=>k=(i !=0)
 | .str y=>y.length<=sizeLine/\k=((y.length:Int)!=0)
 | .byt y=>y.size<=sizeLine/\k=((y.size:Int)!=0)
 | .ref p=>(∃xs,iK K H p xs/\k= !xs.isEmpty)\/(∃xs,i0 K H p xs/\k= !xs.isEmpty)\/ ∃kvs,H p=some (.dK kvs)/\k= !kvs.isEmpty
 |_=>False
theorem tI(r:KV kvs vs):(!vs.isEmpty)= !kvs.isEmpty:=by cases r <;> rfl
theorem lA(r:Vals xs its):(!its.toArray.isEmpty)= !xs.isEmpty:=by cases r <;> simp
theorem jN:sizeLine<2^63:=by decide
theorem zU:Oj X (fun x H Q=>∃k,Kg X.K x H k∧Q k H):= by
 intro pins s σ H x v Q I rx h
 obtain ⟨k,e,q⟩:=h
 have hl:=jN
 have hs:sizeLine=16777216:=VL
 cases x with
 | non=>
  cases rx
  have e':k=false:=e
  subst e'
  exact truthy_none ⟨H,I,q⟩
 | bl b=>
  cases rx
  have e':k=b:=e
  subst e'
  exact VI ⟨H,I,q⟩
 | int i=>
  obtain ⟨t,rfl⟩:=rx
  have e':k=(i != 0):=e
  subst e'
  exact PySem.P.truthy_int ⟨H,I,q⟩
 | str y=>
  obtain ⟨t,rfl⟩:=rx
  obtain ⟨hy,e'⟩:y.length ≤ sizeLine∧k=((y.length:Int) != 0):=e
  subst e'
  exact PySem.P.truthy_str (by omega) ⟨H,I.tok _,q⟩
 | byt y=>
  obtain ⟨t,rfl⟩:=rx
  obtain ⟨hy,e'⟩:y.size ≤ sizeLine∧k=((y.size:Int) != 0):=e
  subst e'
  exact PySem.W.truthy_bytes (by omega) ⟨H,I.tok _,q⟩
 | ref p=>
  cases rx
  have e':(∃xs,iK X.K H p xs∧k = !xs.isEmpty) ∨ (∃xs,i0 X.K H p xs∧k = !xs.isEmpty) ∨ ∃kvs,H p=some (.dK kvs)∧k = !kvs.isEmpty:=e
  rcases e' with ⟨xs,hx,e'⟩ | ⟨xs,hx,e'⟩ | ⟨kvs,hx,e'⟩
  .subst e'
   obtain ⟨its,r,pl,hz⟩:=I.list hx
   have hlen:=r.length
   exact wpAny_truthy_list pl.isList (by simp only [gA];omega) ⟨H,I.tok _,by rw [lA r];exact q⟩
  .subst e'
   obtain ⟨its,r,pl,hz⟩:=I.tuple hx
   have hlen:=r.length
   exact truthy_tuple pl (by simp only [gA];omega) ⟨H,I.tok _,by rw [lA r];exact q⟩
  .subst e'
   obtain ⟨hz,hS,vs,r,m⟩:kvs.length ≤ sizeLine∧(p == sysModules)=false∧∃vs,KV kvs vs∧s.heap.DictOf (cK X.prog X.w) p vs:=I.hok p _ hx
   have hlen:kvs.length=vs.length:=XG r
   exact wpAny_truthy_dict hS m (by omega) ⟨H,I.tok _,by rw [tI r];exact q⟩
 | _=>exact (show False from e).elim
theorem CJ(C:PE X a ta)(he:∀whole,isTrue a X.env whole=(do let v<- whole;standAt a.pos;holding [v] (truthy v))):
  PT X a (λ σ H Q=>ta σ H λ x H'=>∃k,Kg X.K x H' k/\Q k H'):=by intro pins s σ H Q I h;exact isTrue_plain (cf (C pins s σ H _ I h) λ v s1 ⟨x,H1,J,U,q1⟩=>zU pins s1 σ H1 x v Q J U q1) (he _)
theorem vals1(r:Vals [x] us):∃u,us=[u]/\RelV x u:=by cases r with
 |cons I C=>cases C;grind
theorem vals2(r:Vals [x,y] us):∃u C,us=[u,C]/\RelV x u/\RelV y C:=by cases r with
 |cons U I=>cases I with
  |cons r3 J=>cases J;grind
theorem xH(J:X.calm=true):dM X (.builtin "max") (λ xs H Q=>∃i j,xs=[.int i,.int j]/\Q (.int (if j>i then j else i)) H):=by
 intro pins s σ H xs us Q I r h;obtain⟨i,j,rfl,q⟩:=h;obtain⟨u,U,rfl,⟨t,rfl⟩,⟨t',rfl⟩⟩:=vals2 r;refine max_two_ints (I.ok.hd J) λ h' tk k=>⟨_,H,I.kept k,?_,q⟩;by_cases C:j>i;. rw[gL C,gL C];exact⟨_,rfl⟩
 .rw[QC C,QC C];exact⟨_,rfl⟩
theorem xN(J:X.calm=true):dM X (.builtin "min") (λ xs H Q=>∃i j,xs=[.int i,.int j]/\Q (.int (if j<i then j else i)) H):=by
 intro pins s σ H xs us Q I r h;obtain⟨i,j,rfl,q⟩:=h;obtain⟨u,U,rfl,⟨t,rfl⟩,⟨t',rfl⟩⟩:=vals2 r;refine min_two_ints (I.ok.hd J) λ h' tk k=>⟨_,H,I.kept k,?_,q⟩;by_cases C:j<i;. rw[gL C,gL C];exact⟨_,rfl⟩
 .rw[QC C,QC C];exact⟨_,rfl⟩
end
theorem RelO.some_of(r:RelO (some v) o):∃u,o=some u/\RelV v u:=by cases o with
 |none=>exact(show False from r).elim
 |some u=>exact⟨u,rfl,r⟩
structure M6 (K:PySem.W.Frag) (C:Addr) (f:Str) (v:V) (u:Value):Prop where
 at_:PySem.W.findIn K (.ref C) f=some (some u)
 rel:RelV v u
 get:PySem.W.specialIn K u "__get__" = some none
 cp:PySem.W.copiedNames.contains f=false
structure cb (k:Nat) (A:Around):Prop where
 hd:A.handled=none
 dp:A.depth + 3 * k + 5 < recursionLimit
 un:A.units + 16 * k + 200 < cLine
 gd:A.guards=some []
theorem cb.mono{j k:Nat}{A:Around}(r:cb k A)(h:j<=k):cb j A:=⟨r.hd,by have:=r.dp;omega,by have:=r.un;omega,r.gd⟩
theorem cb.deeper(r:cb (k+1) A)(env:Env):cb k (A.deeper env):=
 ⟨r.hd,by have:=r.dp;show A.depth+1+3*k+5<_;omega,by have:=r.un;show A.units+3+16*k+200<_;omega,r.gd⟩
theorem cb.depth(r:cb k A):A.depth<recursionLimit:=by have:=r.dp;omega
noncomputable def Pb:TA:= λ _ H Q=>Q [] H
noncomputable def Mn(ta:TE)(I:TA):TA:= λ σ H Q=>ta σ H λ x H1=>I σ H1 λ xs H2=>Q (x::xs) H2
section
variable {X:Cx} {e:Expr} {es:List Expr} {te:TE} {t:TA} {pos:Pos}
theorem d8:PA X [] Pb:= λ _ _ _ _ H Q I h=>Calls.spliced_nil ⟨[],H,I,.nil,h⟩
theorem cX(J:PE X e te)(U:PA X es t)(hs:starEach (e::es) X.env=(false,eval e X.env)::starEach es X.env:=by rfl):PA X (e::es) (Mn te t):=by intro pos pins s σ H Q I h;rw[hs];show wpAny _ _ (spliced ((false,eval e X.env)::backTo pos (starEach es X.env))) _ _ s;refine Calls.spliced_cons (cf (J pins s σ H _ I h) λ u s1 ⟨x,H1,I1,r1,q1⟩=>?_);exact cf (U pos pins s1 σ H1 _ I1 q1) λ us s2 ⟨xs,H2,I2,r2,q2⟩=>⟨x::xs,H2,I2,.cons r1 r2,q2⟩
noncomputable def OD(t:TA):TE:= λ σ H Q=>t σ H λ xs H1=>xs.length<=sizeLine/\∀p,H1 p=none->Q (.ref p) (upd H1 p (.tup xs))
noncomputable def Od(t:TA):TE:= λ σ H Q=>t σ H λ xs H1=>xs.length<=sizeLine/\∀p,H1 p=none->Q (.ref p) (upd H1 p (.lst xs))
theorem Ir(h:PA X es t):PE X (.Tuple es x1 pos) (OD t):=by intro pins s σ H Q I U;refine wpAny_Tuple_spliced (cf (h pos pins s σ H _ I U) λ us s1 ⟨xs,H1,J,r,z,q⟩=>⟨by rw[<- r.length];exact z,?_⟩);have hf:H1 s1.heap.objs.size=none:=J.hok.fresh (wF _);refine⟨.ref s1.heap.objs.size,upd H1 s1.heap.objs.size (.tup xs),J.laid (t':=s1.toks) (λ b u e=>zS _ e) (wF _) ?_,rfl,q _ hf⟩;exact⟨z,us,r,⟨_,wL _ rfl,rfl,_,rfl⟩,_,wL _ rfl,rfl⟩
theorem Kr(h:PA X es t):PE X (.List es pos) (Od t):=by intro pins s σ H Q I U;refine wpAny_List_spliced (cf (h pos pins s σ H _ I U) λ us s1 ⟨xs,H1,J,r,z,q⟩=>⟨by rw[<- r.length];exact z,?_⟩);have hf:H1 s1.heap.objs.size=none:=J.hok.fresh (wF _);refine⟨.ref s1.heap.objs.size,upd H1 s1.heap.objs.size (.lst xs),J.laid (t':=s1.toks) (λ b u e=>zS _ e) (wF _) ?_,rfl,q _ hf⟩;exact⟨z,us,0,r,wL _ rfl⟩
end
noncomputable abbrev Sp:=List V->Hp->VK->XK->Prop
noncomputable abbrev yM:=List Env->Hp->Shared->XK->Value->Shared->Prop
structure Ee (P:Program) (w:World) (K:PySem.W.Frag) (mg:Str->Option Value) (base:Heap) (A:Around) (outer:List Env) (s:Shared) (H:Hp):Prop where
 frames:A.frames=some outer
 mod:Mod K mg base
 bs:∀b o,base.get? b=some o->s.heap.get? b=some o∧H b=none
 bsz:base.objs.size ≤ s.heap.objs.size
 funs:s.heap.FunFrames base outer
 frf:∀b ∈ yI outer,H b=none
 hok:iG P w H s.heap
 bare:AllBare s.gens
 tb:yG K H
noncomputable def CE(outer:List Env)(P:Program)(w:World)(H:Hp)(s:Shared)(Q:VK)(u:Value)(s':Shared):Prop:=
 ∃v H',s'.os=s.os/\AllBare s'.gens/\Un (yI outer) [] H H' s.heap s'.heap/\iG P w H' s'.heap/\RelV v u/\Q v H'
noncomputable def CR(CX:yM)(outer:List Env)(P:Program)(w:World)(H:Hp)(s:Shared)(Q:VK)(E:XK)(r:Result)(s':Shared):Prop:=
 match r with
 | .ok (.ret u)=>CE outer P w H s Q u s'
 | .ok _=>False
 | .error e=>CX outer H s E e s'
structure dG (P:Program) (w:World) (K:PySem.W.Frag) (mg:Str->Option Value) (base:Heap) (CX:yM) (k:Nat) (f:Addr) (fd:FuncData) (ps:List Str) (sp:Sp):Prop where
 len:∀vs H Q E,sp vs H Q E->vs.length=ps.length
 run:∀(A:Around) (outer:List Env) (s:Shared) (H:Hp) (args:Args) (us:List Value) (vs:List V) (Q:VK) (E:XK),cb k A->Ee P w K mg base A outer s H->BindsTo s fd args (ps.zip us)->Vals vs us->sp vs H Q E ->
  codeAny (model P w) A (.call (.ref f) args) (CR CX outer P w H s Q E) s
theorem dG.mono{K:PySem.W.Frag}{I:Str->Option Value}{base:Heap}{CX:yM}{j k:Nat}{f:Addr}{fd:FuncData}{ps:List Str}{sp:Sp}(F:dG P w K I base CX j f fd ps sp)(h:j<=k):
  dG P w K I base CX k f fd ps sp:=⟨F.len,λ A outer s H args us vs Q E J=>F.run A outer s H args us vs Q E (J.mono h)⟩
theorem dG.imp{K:PySem.W.Frag}{J:Str->Option Value}{base:Heap}{CX:yM}{k:Nat}{f:Addr}{fd:FuncData}{ps:List Str}{sp I:Sp}(F:dG P w K J base CX k f fd ps sp)
  (h:∀vs H Q E,I vs H Q E->sp vs H Q E):dG P w K J base CX k f fd ps I:=
 ⟨λ vs H Q E q=>F.len vs H Q E (h _ _ _ _ q),λ A outer s H args us vs Q E U he hb hv hs=>F.run A outer s H args us vs Q E U he hb hv (h _ _ _ _ hs)⟩
section
variable {X:Cx} {pins:List (Addr × Obj)} {σ:St} {H:Hp} {s s':Shared}
theorem Inv.env0(I:Inv X pins σ H s):Ee X.prog X.w X.K X.mg X.base X.A X.stack s H:=
 ⟨I.ok.frames,I.ok.mod,I.bs,Q1 I.ok.bsz I.sz,I.stack,I.stkFree,I.hok,I.bare,I.tb⟩
theorem Inv.after(I:Inv X pins σ H s)(h:CE X.stack X.prog X.w H s Q u s'):EP X pins σ Q u s':=by obtain⟨v,H',os,bare,un,J,r,q⟩:=h;obtain⟨hh,g,d,t,U⟩:=s';obtain rfl:U=s.os:=os;exact⟨v,H',I.call (h':=hh) (g':=g) (d':=d) (t':=t) (ch:=[]) un J bare (λ b z=>absurd z (by simp)),r,q⟩
end
noncomputable def Mf(sp:Sp)(I:List V)(E:XK)(t:TA):TE:= λ σ H Q=>t σ H λ vs H1=>sp (vs++I) H1 Q E
noncomputable def Binds(K:PySem.W.Frag)(fd:FuncData)(ps:List Str)(ds:List Value):Prop:=
 ∀(s:Shared)(us:List Value),K.In s.heap->(us++ds).length=ps.length->BindsTo s fd ⟨us,[]⟩ (ps.zip (us++ds))
theorem Binds.all{K:PySem.W.Frag}{fd:FuncData}{ps:List Str}(h:∀us:List Value,us.length=ps.length->bindArgs fd ⟨us,[]⟩=pure (ps.zip us)):Binds K fd ps []:= λ s us _ I=>by rw[ZA]at I|-;exact .of_eq (h us I)
noncomputable def Passes(CX:yM)(X:Cx)(E:XK):Prop:=∀(pins:List (Addr×Obj))(σ:St)(H:Hp)(s:Shared)(e:Value)(s':Shared),Inv X pins σ H s->CX X.stack H s E e s'->X.xe e s'
section
variable {X:Cx} {CX:yM} {k:Nat} {f C:Addr} {fd:FuncData} {ps:List Str} {sp:Sp} {dvs:List V} {ds:List Value} {E:XK} {x:Str} {p pos:Pos} {e:Expr} {es:List Expr} {t:TA}
theorem Jj{σ:St}{H:Hp}{s:Shared}{Q:VK}{us:List Value}{vs:List V}(F:dG X.prog X.w X.K X.mg X.base CX k f fd ps sp)(hr:cb k X.A)(hb:Binds X.K fd ps ds)(hd:Vals dvs ds)(hx:Passes CX X E)
  (I:Inv X pins σ H s)(r:Vals vs us)(h:sp (vs++dvs) H Q E):wpAny (model X.prog X.w) X.A (call (.ref f) us) (EP X pins σ Q) X.xe s:=by
 have U:Vals (vs++dvs) (us++ds):=r.append hd;have hl:(us++ds).length=ps.length:=by rw[<- U.length];exact F.len _ _ _ _ h
 refine wpAny_call (Z9 (F.run X.A X.stack s H ⟨us,[]⟩ (us++ds) (vs++dvs) Q E hr I.env0 (hb s us I.kIn hl) U h) λ r s' J=>?_);cases r with
 |error e=>exact hx pins σ H s e s' I J
 |ok fl=>cases fl with
  |ret u=>exact I.after J
  |next=>exact False.elim J
  |brk=>exact False.elim J
  |cont=>exact False.elim J
theorem i4(F:dG X.prog X.w X.K X.mg X.base CX k f fd ps sp)(hr:cb k X.A)(hg:Gl X x)(hm:X.mg x=some (.ref f))(hk:PySem.W.keepIn X.K (.ref f)=true)(hb:Binds X.K fd ps ds)(hd:Vals dvs ds)(hx:Passes CX X E)
  (ha:PA X (e::es) t)(J:(x==("__debug__":Str))=false:=by decide)(he:starEach (e::es) X.env=(false,eval e X.env)::starEach es X.env:=by rfl)(U:(backTo pos (starEach es X.env)).any (·.1)=false:=by rfl):
  PE X (.Call (.Name x p) (e::es) [] pos) (Mf sp dvs E t):=by intro pins s σ H Q I h;refine WZ (FK I hg hm ?_ J);refine PySem.W.callWith_K (h₀:=X.base) I.ok.mod.kin hk (cf (ha pos pins s σ H _ I h) λ us s1 ⟨vs,H1,I1,r,q⟩=>⟨I1.kIn,?_⟩) he U;exact Jj F hr hb hd hx I1 r q
structure Mk (K:PySem.W.Frag) (C f:Addr):Prop where
 makes:PySem.W.makesIn K C=true
 init:PySem.W.findIn K (.ref C) "__init__" = some (some (.ref f))
 fn:PySem.W.isFn K (.ref f)=true
 kp:PySem.W.keepIn K (.ref C)=true
end
structure cz (N P:List Str) (sc:Scope):Prop where
 kind:sc.kind=.function
 co:sc.isCoroutine=false
 gen:sc.isGenerator=false
 nd:N.Nodup
 pre:N.take P.length=P
 par:∀x ∈ P,sc.names.lookup x=some .local ∨ sc.names.lookup x=some .cell
 nofree:∀y ∈ sc.names,y.2 ≠ .free
theorem m9{kindOf:Str->Option NameKind}{x:Str}:∀{binds:List (Str×Value)}{m:Str->Option Value},(∀v,(x,v)∉binds)->bindL kindOf binds m x=m x
 |[],_,_=>rfl
 |(n,v)::r,m,h=>by
  unfold bindL;rw[m9 λ w hw=>h w (wV _ hw)];split;. grind
  rfl
theorem mL{kindOf:Str->Option NameKind}{x:Str}:∀{binds:List (Str×Value)}{m:Str->Option Value},(∀v,(x,v)∉binds)->bindC kindOf binds m x=m x
 |[],_,_=>rfl
 |(n,v)::r,m,h=>by
  unfold bindC;rw[mL λ w hw=>h w (wV _ hw)];split;. rfl
  grind
theorem nV{kindOf:Str->Option NameKind}{x:Str}{v:Value}:∀{P:List Str}{vs:List Value}{i:Nat}{m:Str->Option Value},P.Nodup->P[i]?=some x->vs[i]?=some v->kindOf x=some .local->
  bindL kindOf (P.zip vs) m x=some v
 |[],_,_,_,_,h,_,_=>by simp at h
 |_::_,[],_,_,_,_,h,_=>by simp at h
 |p::P,w::vs,0,m,nd,h1,h2,I=>by simp at h1 h2;subst h1 h2;show bindL kindOf ((p,w)::P.zip vs) m p=_;unfold bindL;rw[m9 λ v J=>(ZC.mp nd).1 (List.of_mem_zip J).1,gL I];simp
 |p::P,w::vs,i+1,m,nd,h1,h2,I=>by show bindL kindOf ((p,w)::P.zip vs) m x=_;exact nV (i:=i) (ZC.mp nd).2 (by simp_all) (by simp_all) I
theorem ng{kindOf:Str->Option NameKind}{x:Str}{v:Value}:∀{P:List Str}{vs:List Value}{i:Nat}{m:Str->Option Value},P.Nodup->P[i]?=some x->vs[i]?=some v->kindOf x≠some .local->
  bindC kindOf (P.zip vs) m x=some v
 |[],_,_,_,_,h,_,_=>by simp at h
 |_::_,[],_,_,_,_,h,_=>by simp at h
 |p::P,w::vs,0,m,nd,h1,h2,I=>by simp at h1 h2;subst h1 h2;show bindC kindOf ((p,w)::P.zip vs) m p=_;unfold bindC;rw[mL λ v J=>(ZC.mp nd).1 (List.of_mem_zip J).1,QC I];simp
 |p::P,w::vs,i+1,m,nd,h1,h2,I=>by show bindC kindOf ((p,w)::P.zip vs) m x=_;exact ng (i:=i) (ZC.mp nd).2 (by simp_all) (by simp_all) I
noncomputable def start(N:List Str)(vs:List V):St:=vs.map some++List.replicate (N.length-vs.length) none
noncomputable def fP(CX:yM)(P:Program)(w:World)(K:PySem.W.Frag)(mg:Str->Option Value)(base:Heap)(N:List Str)(qual:Str)(scope:Scope)(f:Addr)(cd:Value)(A:Around)(outer:List Env)(s:Shared)(H:Hp)(E:XK):Cx where
 prog:=P
 w:=w
 K:=K
 mg:=mg
 base:=base
 A:=A.deeper (envOfC qual scope s.heap.objs.size f cd)
 N:=N
 s₀:=s
 H₀:=H
 env:=envOfC qual scope s.heap.objs.size f cd
 outer:=outer
 stack:=envOfC qual scope s.heap.objs.size f cd::outer
 ex:=[]
 calm:=true
 fn:= λ _=>true
 pn:=[]
 xe:= λ e s'=>wpAny (model P w) (A.deeper (envOfC qual scope s.heap.objs.size f cd)) (leaving (envOfC qual scope s.heap.objs.size f cd) e) (λ _ I=>CX outer H s E e I) (λ e' I=>CX outer H s E e' I) s'
theorem qT{sc:Scope}{n:Nat}{x:Str}(h:sc.names.lookup x=some .cell):∃c,(cellsFrom n sc.names []).lookup x=some c:=by have q:=W6 sc.names n [] (.inl h);exact YG.mp q
theorem xB{P:Program}{w:World}{K:PySem.W.Frag}{mg:Str->Option Value}{base:Heap}{N ps:List Str}{qual:Str}{scope:Scope}{f:Addr}{cd:Value}{A:Around}{outer:List Env}{s s1:Shared}{H:Hp}{E:XK}{us:List Value}{vs:List V}
  (S:cz N ps scope)(hd:A.handled=none)(I:Ee P w K mg base A outer s H)(hl:vs.length=ps.length)(r:Vals vs us)
  (x:InCallC s s.heap.objs.size (bindL (envOfC qual scope s.heap.objs.size f cd).kindOf (ps.zip us) λ _=>none) (cellsFrom (s.heap.objs.size+1) scope.names []) (bindC (envOfC qual scope s.heap.objs.size f cd).kindOf (ps.zip us) λ _=>none) s1):
  Inv (fP CX P w K mg base N qual scope f cd A outer s H E) [] (start N vs) H s1:=by
 have ab:ps.length<=N.length:=by have:=Z6 List.length S.pre;rw[ZT]at this;omega
 obtain⟨h1,tk,rfl,hk⟩:=x.done;have J:∀b:Addr,b∉(fP CX P w K mg base N qual scope f cd A outer s H E).ex:= λ b z=>absurd (show b∈([]:List Addr)from z) (by simp);refine⟨⟨I.mod,S.kind,rfl,rfl,wF _,λ y z c h1 h2=>?_,λ y U=>?_,λ y c _ h=>?_,λ _=>hd,Around.frames_deeper I.frames,.inr ⟨rfl,rfl⟩,λ b z=>absurd z (J b),I.bs,I.bsz,λ b _ _=>J b,λ b z=>absurd z (J b),I.funs,I.frf,I.tb⟩,
  rfl,I.bare,Un.kept hk,⟨_,x.toInCall.ns,λ i y v h1 h2 h3=>?_⟩,λ y c h=>⟨_,x.cell y c h⟩,I.hok.fresh (wF _),λ y c h=>?_,λ p hp=>absurd (show p∈([]:List (Addr×Obj))from hp) (by simp),I.hok.kept hk,?_⟩;. exact name_of_addr x.apart (YL h1) (YL h2)
 .rcases U with U|U
  .exact qT U
  .exact absurd rfl (S.nofree _ (YL U))
 .exact W3 (x.above y c (YL h))
 .have hi:i<vs.length:=by unfold start at h2;grind
  have ha:vs[i]?=some v:=by unfold start at h2;rw[QF (by simpa using hi),QL]at h2;cases e:vs[i]? with
   |none=>rw[e]at h2;cases h2
   |some a=>rw[e]at h2;cases h2;rfl
  obtain⟨u,hu,rv⟩:=r.get ha;have hp:ps[i]?=some y:=by rw[<- S.pre,QP (by omega)];exact h1
  have aa:ps.Nodup:=by rw[<- S.pre];exact S.nd.sublist (List.take_sublist _ _)
  refine⟨u,rv,?_⟩;rcases S.par y (Y6 hp)with k|k
  .exact .inl ⟨k,nV aa hp hu k⟩
  .obtain⟨c,e⟩:=qT (n:=s.heap.objs.size+1) k;refine .inr ⟨.inl k,c,e,?_⟩;have q:=x.cell y c e;rw[ng aa hp hu (by show scope.names.lookup y≠_;rw[k];decide)]at q;exact q
 .exact I.hok.fresh (W3 (x.above y c (YL h)))
 .unfold start;show _=N.length;rw[fR,fD,VQ];omega
theorem Hy{K:PySem.W.Frag}{mg:Str->Option Value}{base:Heap}{k:Nat}{f:Addr}{name qual:Str}{params:Arguments}{body:List Stmt}{scope:Scope}{dV kV doc pm cdv ct oc:Value}{an od:Option Addr}
  {af:Array (Option Value)}{N ps:List Str}{sp:Sp}(lk:K.lookup f=some ⟨oc,od,.func (PySem.W.fnOf name qual params body scope dV kV doc pm an cdv ct),af⟩)(ag:PySem.W.codeIn K cdv qual=true)(S:cz N ps scope)
  (len:∀vs H Q E,sp vs H Q E->vs.length=ps.length)
  (aa:∀(A:Around)(outer:List Env)(s:Shared)(H:Hp)(vs:List V)(Q:VK)(E:XK),cb k (A.deeper (envOfC qual scope s.heap.objs.size f cdv))->sp vs H Q E->
   ∃t,sG (fP CX P w K mg base N qual scope f cdv A outer s H E) body t/\t { nx:= λ _ H'=>Q .non H',rt:=Q } (start N vs) H):
  dG P w K mg base CX (k+1) f (PySem.W.fnOf name qual params body scope dV kV doc pm an cdv ct) ps sp:=by
 refine⟨len,λ A outer s H args us vs Q E hr e0 hb r ae=>?_⟩;have hl:=len _ _ _ _ ae;have KX:K.In s.heap:=e0.mod.kin.keeps λ b o e=>(e0.bs b o e).1;have lim:s.heap.NoLimit:=e0.mod.nolimit.keeps λ b o e=>(e0.bs b o e).1;have ab:∀y∈ps.zip us,scope.names.lookup y.1=some .local\/(scope.names.lookup y.1=some .cell/\((cellsFrom (s.heap.objs.size+1) scope.names []).lookup y.1).isSome=true):= λ⟨n,v⟩ hy=>by
  rcases S.par n (List.of_mem_zip hy).1 with q|q
  .exact .inl q
  .exact .inr ⟨q,W6 _ _ _ (.inl q)⟩
 refine codeAny_call_function hr.depth (KX _ _ lk) rfl S.co S.gen rfl (PySem.W.codeRec_of KX ag) (hb _ _ _ _ ?_);refine wpAny_newFunctionEnv_cells S.kind ab λ env he s1 x=>?_;subst he;refine⟨lim.keeps x.toInCall.keep,codeAny_func ?_⟩;obtain⟨t,ht,hq⟩:=aa A outer s H vs Q E (hr.deeper _) ae;have I:Inv (fP CX P w K mg base N qual scope f cdv A outer s H E) [] (start N vs) H s1:=xB S hr.hd e0 hl r x;refine QE (ht [] s1 (start N vs) H _ I hq) (λ fl s' hs=>?_) λ e s' hs=>hs;have fin:∀{U:St}{H':Hp}{v:V}{u:Value},Inv (fP CX P w K mg base N qual scope f cdv A outer s H E) [] U H' s'->RelV v u->Q v H'->CE outer P w H s Q u s':=
  λ{U H' v u} J rv q=>⟨v,H',J.os,J.bare,J.base,J.hok,rv,q⟩;cases fl with
 |ret u=>obtain⟨v,U,H',J,rv,q⟩:=hs;exact fin J rv q
 |next=>obtain⟨U,H',J,q⟩:=hs;exact fin (v:=V.non) (u:=Value.none) J rfl q
 |brk=>obtain⟨_,_,_,q⟩:=hs;simp_all
 |cont=>obtain⟨_,_,_,q⟩:=hs;simp_all
section
variable {X:Cx} {x:Str} {p pos:Pos} {e:Expr} {es:List Expr} {t:TA} {id T:String} {r:List V->Hp->VK->Prop}
noncomputable def OE(r:List V->Hp->VK->Prop)(t:TA):TE:= λ σ H Q=>t σ H λ vs H1=>r vs H1 Q
theorem fL(hc:dM X (.builtin id) r)(hg:Gl X x)(hm:X.mg x=none)(hv:bootBuiltins x=some (.builtin id))(ha:PA X (e::es) t)(hn:x≠"__name__":=by decide)(J:(x==("__debug__":Str))=false:=by decide)
  (he:starEach (e::es) X.env=(false,eval e X.env)::starEach es X.env:=by rfl)(U:(backTo pos (starEach es X.env)).any (·.1)=false:=by rfl):PE X (.Call (.Name x p) (e::es) [] pos) (OE r t):=by intro pins s σ H Q I h;refine WZ (gj I hg hm hv ?_ hn J);exact PyProof.Rows.callWith_builtin1 (cf (ha pos pins s σ H _ I h) λ us s1 ⟨vs,H1,I1,r1,q1⟩=>hc pins s1 σ H1 vs us Q I1 r1 q1) he U
theorem fS(hc:dM X (.type T) r)(hg:Gl X x)(hm:X.mg x=none)(hv:bootBuiltins x=some (.type T))(ha:PA X (e::es) t)(hn:x≠"__name__":=by decide)(J:(x==("__debug__":Str))=false:=by decide)
  (he:starEach (e::es) X.env=(false,eval e X.env)::starEach es X.env:=by rfl)(U:(backTo pos (starEach es X.env)).any (·.1)=false:=by rfl):PE X (.Call (.Name x p) (e::es) [] pos) (OE r t):=by intro pins s σ H Q I h;refine WZ (gj I hg hm hv ?_ hn J);exact ZY (cf (ha pos pins s σ H _ I h) λ us s1 ⟨vs,H1,I1,r1,q1⟩=>hc pins s1 σ H1 vs us Q I1 r1 q1) he U
end
end L2
namespace HT
open PySem PyProof.Rows
section
variable {prog:Program} {w:World} {A:Around} {E:Value->Shared->Prop} {s:Shared}
theorem cat_tup(ht:IsTup s.heap t vs.toArray)(hb:IsTup s.heap b ws.toArray)(hv:vs≠[])
  (h1:ws=[]->Q (.ref t) s)(h2:ws≠[]->Q (.ref s.heap.objs.size) { s with heap:=s.heap.push { cls:= .type "tuple",data:= .seq (vs++ws).toArray } })
  (hsz:vs.length+ws.length<=sizeLine):wpAny (model prog w) A (binaryOp .Add (.ref t) (.ref b)) Q E s:=by
 obtain⟨⟨cls,dd,data,sl⟩,ho,hc,n,hd⟩:=id ht;obtain⟨⟨ab,J,data2,U⟩,I,aa,n2,hd2⟩:=id hb;simp at hc hd aa hd2;subst hc hd aa hd2;by_cases hw:ws=[]
 .exact concat_meets ⟨_,ho,rfl⟩ ⟨_,I,rfl⟩ YO WQ VJ VE (Z8 _ _)
   (tuple_addW1 t b vs.toArray ws.toArray n n2 dd J sl U (by simpa using hv) (by simp[hw])) ⟨ho,I,h1 hw⟩
 .refine concat_meets ⟨_,ho,rfl⟩ ⟨_,I,rfl⟩ YO WQ VJ VE (Z8 _ _)
   (tuple_addW2 t b vs.toArray ws.toArray n n2 dd J sl U (by simpa using hv) (by simpa using hw) (by omega)) ⟨ho,I,?_⟩;grind
noncomputable def sIx(n d:Nat):Option Int->Nat
 |none=>d
 |some v=>if v<0 then(v+(n:Int)).toNat else min v.toNat n
theorem sIx_nat(n d k:Nat):sIx n d (some k)=min k n:=by rfl
theorem vv(v:Int)(n d:Nat):(if v<0 then max (v+n) 0 else min v n)=((sIx n d (some v):Nat):Int):=by show(if v<0 then max (v+n) 0 else min v n)=(((if v<0 then(v+n).toNat else min v.toNat n):Nat):Int);grind
theorem t8(lo I:Option Int)(n:Nat):Builtin.Slice.sliceAdjust lo I 1 n=(((sIx n 0 lo:Nat):Int),((sIx n n I:Nat):Int)):=by
 refine Prod.ext ?_ ?_;. cases lo with
  |none=>rfl
  |some v=>exact vv v n 0
 .cases I with
  |none=>rfl
  |some v=>exact vv v n n
theorem uG(i j:Nat):Builtin.Slice.slicePlaces i j 1=j-i:=by unfold Builtin.Slice.slicePlaces;omega
theorem lY {v:Value} {o:Option Int} {Q:Option Int->Shared->Prop} (p:IsPart v o) (h:Q o s):wpAny (model prog w) A (Builtin.Slice.slicePartIndex v) Q E s:= by
 cases p with
 | none=>exact slicePart_none h
 | int i t=>exact slicePart_int h
theorem sliceApplied_gen{lo I:Option Int}{n:Nat}{Q:Int×Int×Nat->Shared->Prop}(hs:s.heap.IsSliceOf sl vl vu .none)(pl:IsPart vl lo)(pu:IsPart vu I)
  (h:Q (((sIx n 0 lo:Nat):Int),1,sIx n n I-sIx n 0 lo) s):wpAny (model prog w) A (Builtin.Slice.sliceApplied (.ref sl) (pure n)) Q E s:=by obtain⟨os,J,aa,U⟩:=id hs;refine zN (zN (VM J U (x:=vl) rfl (zN (VM J U (x:=vu) rfl (zN (VM J U (x:= .none) rfl (kT ?_)))))));refine zN (slicePart_none ?_);refine zN (lY pl (zN (lY pu (zN (kT ?_)))));show wpAny _ _ (match Builtin.Slice.sliceAdjust lo I 1 n with|(lo,I)=>pure (lo,(1:Int),Builtin.Slice.slicePlaces lo I 1)) _ _ s;rw[t8 lo I n];show wpAny _ _ (pure (((sIx n 0 lo:Nat):Int),1,Builtin.Slice.slicePlaces ((sIx n 0 lo:Nat):Int) ((sIx n n I:Nat):Int) 1)) _ _ s;rw[uG];exact kT h
theorem CT(xs:Array Value)(i k:Nat):((List.range k).filterMap λ(m:Nat)=>xs[((i:Int)+m*1).toNat]?).toArray=((xs.toList.drop i).take k).toArray:=by
 have e:(λ(m:Nat)=>xs[((i:Int)+m*1).toNat]?)= λ m=>xs[i+m]?:=by
  funext m;have:((i:Int)+m*1).toNat=i+m:=by omega
  rw[this]
 have:=pick_run xs i k;have I:((λ x=>xs[x]?)∘ λ x=>i+x)= λ m=>xs[i+m]?:=rfl;simp_all
theorem getItem_tuple_cut{items:Array Value}{vl vu:Value}{lo J:Option Int}{Q:Value->Shared->Prop}(U:IsTup s.heap t items)(hs:s.heap.IsSliceOf sl vl vu .none)(pl:IsPart vl lo)(pu:IsPart vu J)
  (hw: ¬(sIx items.size 0 lo=0/\sIx items.size items.size J=items.size))
  (h:Q (.ref s.heap.objs.size) { s with heap:=s.heap.push { cls:= .type "tuple",data:= .seq ((items.toList.drop (sIx items.size 0 lo)).take (sIx items.size items.size J-sIx items.size 0 lo)).toArray } })
  (hsz:items.size<=sizeLine):wpAny (model prog w) A (getItem (.ref t) (.ref sl)) Q E s:=by
 have I:sizeOk (.seq ((items.toList.drop (sIx items.size 0 lo)).take (sIx items.size items.size J-sIx items.size 0 lo)).toArray):=by show((items.toList.drop (sIx items.size 0 lo)).take (sIx items.size items.size J-sIx items.size 0 lo)).toArray.size<=sizeLine;rw[gA,ZT,List.length_drop,YJ];omega
 obtain⟨os,aa,ab,ag⟩:=id hs;have ae:s.TypeIs (.ref sl) "slice":=⟨os,aa,ab⟩;unfold getItem;try with_reducible refine QZ ?_
 refine zN (wpAny_sequenceKey U.typeIs (by decide) ?_);refine zN (ZK (name:=Str.ofString "__getitem__") U.typeIs VP
  (ZN VP U.typeIs entry_tuple_getitem ?_ (args_tuple_getitem _ _)));show wpAny _ _ (Builtin.Tuple.tupleItemsOf (.ref t) >>= _) _ _ s;refine zN (tupleItemsOf_ U ?_);refine zN (W5 ae ?_);refine zN (sliceApplied_gen hs pl pu ?_);have af: ¬((((sIx items.size 0 lo:Nat):Int)==0&&(1:Int)==1&&(sIx items.size items.size J-sIx items.size 0 lo)==items.size)=true):=by grind
 show wpAny _ _ (if(((sIx items.size 0 lo:Nat):Int)==0&&1==1&&(sIx items.size items.size J-sIx items.size 0 lo)==items.size)=true then _ else _) _ _ s;rw[QC af,CT];first
  |exact zN (m:=Builtin.Tuple.tupleExact _) (QN (kT ⟨_,rfl,kT h⟩) I)
  |exact zN (m:=Builtin.Tuple.tupleExact _) (QN (zN (kT (kT ⟨_,rfl,kT h⟩))) I)
  |exact zN (zN (m:=Builtin.Tuple.tupleExact _) (QN (kT (kT ⟨_,rfl,kT h⟩)) I))
  |exact zN (zN (m:=Builtin.Tuple.tupleExact _) (QN (kT ⟨_,rfl,kT h⟩) I))
end
end HT
namespace L2
open PySem PySem.Spec PyProof.Rows
noncomputable abbrev TO:=St->Hp->(Option Int->Hp->Prop)->Prop
noncomputable def PO(X:Cx)(e:Option Expr)(t:TO):Prop:=
 ∀(pins:List (Addr×Obj))(s:Shared)(σ:St)(H:Hp)(Q:Option Int->Hp->Prop),Inv X pins σ H s->t σ H Q->
  wpAny (model X.prog X.w) X.A (evalPart e X.env) (λ u s'=>∃o H',Inv X pins σ H' s'/\IsPart u o/\Q o H') X.xe s
noncomputable def Dg:TO:= λ _ H Q=>Q none H
noncomputable def KJ(t:TE):TO:= λ σ H Q=>t σ H λ x H1=>∃i,x= .int i/\Q (some i) H1
theorem intsAre_of:∀{us:List Value},Vals (ns.map V.int) us->IntsAre us ns:=by induction ns with
 |nil=>intro us r;cases r;exact .nil
 |cons n ns I=>intro us r;cases r with
  |cons J U=>obtain⟨t,e⟩:=J;subst e;exact .cons n t (I U)
section
variable {X:Cx} {e:Expr} {te:TE} {lo hi:Option Expr} {tl th:TO} {pos p2:Pos}
theorem FE:PO X none Dg:=by intro pins s σ H Q I h;exact kT ⟨none,H,I,.none,h⟩
theorem En(h:PE X e te):PO X (some e) (KJ te):=by intro pins s σ H Q I hw;refine cf (h pins s σ H _ I hw) λ u s1 ⟨x,H1,J,U,q1⟩=>?_;obtain⟨i,rfl,q⟩:=q1;obtain⟨t,rfl⟩:=U;exact⟨some i,H1,J,.int i t,q⟩
noncomputable def GU(X:Cx)(r:V->Option Int->Option Int->Hp->VK->Prop):Prop:=
 ∀(pins:List (Addr×Obj))(s:Shared)(σ:St)(H:Hp)(x:V)(v I J:Value)(lo hi:Option Int)(sl:Addr)(Q:VK),Inv X pins σ H s->RelV x v->s.heap.IsSliceOf sl I J .none->IsPart I lo->IsPart J hi->r x lo hi H Q->
  ∃T id,typeLookup (.type T) "__getitem__"=pure (some (.builtin id))/\s.TypeIs v T/\wpAny (model X.prog X.w) X.A (getItem v (.ref sl)) (EP X pins σ Q) X.xe s
theorem GU.or(h:GU X r)(h':GU X r'):GU X (λ x lo hi H Q=>r x lo hi H Q\/r' x lo hi H Q):=by
 intro pins s σ H x v J U lo hi sl Q I rx hs pl pu q;rcases q with q|q
 .exact h pins s σ H x v J U lo hi sl Q I rx hs pl pu q
 .exact h' pins s σ H x v J U lo hi sl Q I rx hs pl pu q
noncomputable def Qb(r:V->Option Int->Option Int->Hp->VK->Prop)(te:TE)(tl th:TO):TE:= λ σ H Q=>te σ H λ x H1=>tl σ H1 λ l H2=>th σ H2 λ u I=>r x l u I Q
theorem z5(hr:GU X r)(he:PE X e te)(hl:PO X lo tl)(hu:PO X hi th):PE X (.Subscript e (.Slice lo hi none p2) pos) (Qb r te tl th):=by intro pins s σ H Q I h;refine Subscript_ (cf (he pins s σ H _ I h) λ v s1 ⟨x,H1,I1,r1,q1⟩=>?_);refine wpAny_Slice (cf (hl pins s1 σ H1 _ I1 q1) λ J s2 ⟨l,H2,I2,pl,q2⟩=>cf (hu pins s2 σ H2 _ I2 q2) λ U s3 ⟨u,H3,I3,pu,q3⟩=>?_);refine kT ?_;have I4:Inv X pins σ H3 { s3 with heap:=s3.heap.push { cls:= .type "slice",data:= .fields #[J,U,.none] } }:=I3.kept (t':=s3.toks) λ b ob q=>zS _ q;obtain⟨T,id,hT,ht,hg⟩:=hr pins { s3 with heap:=s3.heap.push { cls:= .type "slice",data:= .fields #[J,U,.none] } } σ H3 x v J U l u s3.heap.objs.size Q I4 r1 (Heap.IsSliceOf.new ..) pl pu q3;exact tail_any (ops:=[.ref s3.heap.objs.size,v]) ht hT hg (by rfl)
noncomputable def oY(xs:List V)(lo hi:Option Int):List V:=(xs.drop (HT.sIx xs.length 0 lo)).take (HT.sIx xs.length xs.length hi-HT.sIx xs.length 0 lo)
theorem jZ(xs:List V)(lo hi:Option Int):(oY xs lo hi).length<=xs.length:=by unfold oY;grind
noncomputable def O2(K:PySem.W.Frag):V->Option Int->Option Int->Hp->VK->Prop:= λ x lo hi H Q=>∃a xs,x= .ref a/\i0 K H a xs/\
 ¬(HT.sIx xs.length 0 lo=0/\HT.sIx xs.length xs.length hi=xs.length)/\∀p,H p=none->Q (.ref p) (upd H p (.tup (oY xs lo hi)))
theorem IJ:GU X (O2 X.K):=by intro pins s σ H x v vl vu lo hi sl Q I rx hs pl pu h;obtain⟨a,xs,rfl,hx,hw,q⟩:=h;cases rx;obtain⟨its,r,U,hz⟩:=I.tuple hx;have hlen:its.toArray.size=xs.length:=r.length.symm;refine⟨"tuple",_,PyProof.Rows.slot_tuple_getitem.lookup,U.typeIs,?_⟩;refine HT.getItem_tuple_cut U hs pl pu (by grind) ?_ (by rw[hlen];exact hz);rw[hlen];refine⟨.ref s.heap.objs.size,_,I.laid (t':=s.toks) (o:= .tup (oY xs lo hi)) (λ b ob q=>zS _ q) (wF _) ?_,rfl,q _ (I.hok.fresh (wF _))⟩;exact⟨Q1 (jZ xs lo hi) hz,_,(r.drop (HT.sIx xs.length 0 lo)).take (HT.sIx xs.length xs.length hi-HT.sIx xs.length 0 lo),rL.new _ _⟩
noncomputable def yL(K:PySem.W.Frag):R2:= λ x y H Q=>∃a b xs ys,x= .ref a/\y= .ref b/\i0 K H a xs/\i0 K H b ys/\xs≠[]/\xs.length+ys.length<=sizeLine/\
 (ys=[]->Q (.ref a) H)/\(ys≠[]->∀p,H p=none->Q (.ref p) (upd H p (.tup (xs++ys))))
theorem Vals.nil_iff(r:Vals xs us):us=[]↔xs=[]:=by cases r with
 |nil=>simp
 |cons _ _=>simp
theorem FF:iu X (binaryOp .Add) (yL X.K):=by intro pins s σ H x y v u Q I rx ry h;obtain⟨a,b,xs,ys,rfl,rfl,ha,hb,hx,hz,q1,q2⟩:=h;cases rx;cases ry;obtain⟨its,U,p1,_⟩:=I.tuple ha;obtain⟨aa,J,p2,_⟩:=I.tuple hb;refine HT.cat_tup p1 p2 (λ z=>hx (U.nil_iff.mp z)) (λ z=>⟨.ref a,H,I,rfl,q1 (J.nil_iff.mp z)⟩) (λ z=>?_) (by rw[<- U.length,<- J.length];omega);refine⟨.ref s.heap.objs.size,_,I.laid (t':=s.toks) (o:= .tup (xs++ys)) (λ b ob q=>zS _ q) (wF _) ?_,rfl,q2 (λ w=>z (J.nil_iff.mpr w)) _ (I.hok.fresh (wF _))⟩;exact⟨by rw[fR];exact hz,_,U.append J,rL.new _ _⟩
end
noncomputable def rH(n:Nat)(i:Int):Option Nat:=if 0<=i then(if i<n then some i.toNat else none)else if-(n:Int)<=i then some (i+n).toNat else none
noncomputable def jw{α:Type}(xs:List α)(i:Int):Option α:=(rH xs.length i).bind λ j=>xs[j]?
theorem vC(h:rH n i=some j):seqIndex? i n=some j/\j<n/\ -n<=i/\i<n:=by
 unfold rH at h;by_cases h0:0<=i
 .rw[gL h0]at h;by_cases h1:i<n
  .rw[gL h1]at h;have e:i.toNat=j:=Q9 h;exact⟨by rw[seqIndex_of h0 h1,e],by omega,by omega,h1⟩
  .rw[QC h1]at h;cases h
 .rw[QC h0]at h;by_cases h1: -n<=i;. rw[gL h1]at h;have e:(i+n).toNat=j:=Q9 h;exact⟨by rw[seqIndex_neg (by omega) h1,e],by omega,h1,by omega⟩
  simp_all
theorem oE(h:jw xs i=some v):∃j,seqIndex? i xs.length=some j/\xs[j]?=some v/\j<xs.length/\ -xs.length<=i/\i<xs.length:=by unfold jw at h;cases e:rH xs.length i with
 |none=>rw[e]at h;cases h
 |some j=>obtain⟨h1,h2,I,J⟩:=vC e;grind
theorem g8{j:Nat}{v:α}(h:xs[j]?=some v):jw xs j=some v:=by
 have I:j<xs.length:=(xZ.mp h).1;have e:rH xs.length j=some j:=by unfold rH;rw[gL (by omega),gL (by omega)];simp
 unfold jw;grind
noncomputable def g9(b:Expr):Prop:=∀o i,subscripted b false o i=operate [o,i] (getItem o i)
noncomputable def va(X:Cx)(r:R2):Prop:=
 ∀(value slice:Expr)(pins:List (Addr×Obj))(s:Shared)(σ:St)(H:Hp)(x y:V)(v u:Value)(Q:VK),Inv X pins σ H s->RelV x v->RelV y u->r x y H Q->
  subscripted slice false v u=operate [v,u] (getItem v u)->wpAny (model X.prog X.w) X.A (subscriptTail value slice v u) (EP X pins σ Q) X.xe s
noncomputable def PK(X:Cx)(id:String)(r:V->List V->Hp->VK->Prop):Prop:=
 ∀(pins:List (Addr×Obj))(s:Shared)(σ:St)(H:Hp)(x:V)(xs:List V)(v:Value)(us:List Value)(Q:VK),Inv X pins σ H s->RelV x v->Vals xs us->r x xs H Q->
  wpAny (model X.prog X.w) X.A (call (.builtin id) (v::us)) (EP X pins σ Q) X.xe s
section
variable {X:Cx} {a b:Expr} {ta tb:TE} {pos:Pos}
theorem va.or(h:va X r)(h':va X r'):va X (λ x y H Q=>r x y H Q\/r' x y H Q):=by
 intro value slice pins s σ H x y v u Q I J U q hs;rcases q with q|q
 .exact h value slice pins s σ H x y v u Q I J U q hs
 .exact h' value slice pins s σ H x y v u Q I J U q hs
theorem GX(J:va X r)(U:PE X a ta)(hb:PE X b tb)(hs:g9 b):PE X (.Subscript a b pos) (GY r ta tb):=by intro pins s σ H Q I h;exact Subscript_ (HZ U hb I h λ v u s2 x y H2 I2 rx ry q=>J a b pins s2 σ H2 x y v u Q I2 rx ry q (hs _ _))
noncomputable def KU(K:PySem.W.Frag):R2:= λ x y H Q=>∃p xs i v,x= .ref p/\y= .int i/\iK K H p xs/\jw xs i=some v/\Q v H
noncomputable def Lp(K:PySem.W.Frag):R2:= λ x y H Q=>∃p xs i v,x= .ref p/\y= .int i/\i0 K H p xs/\jw xs i=some v/\Q v H
noncomputable def KZ:R2:= λ x y H Q=>∃z i c,x= .str z/\y= .int i/\z.length<=sizeLine/\jw z.cps.toList i=some c/\Q (.str ⟨#[c]⟩) H
theorem wd:va X (KU X.K):=by
 intro value slice pins s σ H x y v u Q I rx ry h hs;obtain⟨p,xs,i,z,rfl,rfl,hq,he,q⟩:=h;cases rx;obtain⟨t,rfl⟩:=ry;obtain⟨its,r,pl,hz⟩:=I.list hq;obtain⟨j,h1,h2,h3,h4,h5⟩:=oE he;obtain⟨w,ew,J⟩:=r.get h2;have hl:=r.length;have hn:=jN;have fin:EP X pins σ Q w s:=⟨z,H,I,J,q⟩;by_cases h0:0<=i
 .have U:i.toNat=j:=by
   rw[seqIndex_of h0 h5]at h1;exact Q9 h1
  exact item_listR pl.isList h0 (by omega) (by rw[U];simpa using ew) fin hs
 .have U:(i+its.toArray.size).toNat=j:=by rw[seqIndex_neg (by omega) h4]at h1;rw[gA,<- hl];exact Q9 h1
  exact subscriptTail_builtinR (x:=w) pl.isList.typeIs slot_list_getitem.lookup
   (wpAny_getItem_list_neg (Q:= λ r s'=>r=w/\EP X pins σ Q r s') pl.isList (by omega) (by rw[gA] <;> omega) (by omega) (by rw[U];simpa using ew) ⟨rfl,fin⟩) hs
theorem Kd:va X (Lp X.K):=by
 intro value slice pins s σ H x y v u Q I U ry h hs;obtain⟨p,xs,i,z,rfl,rfl,hq,he,q⟩:=h;cases U;obtain⟨t,rfl⟩:=ry;obtain⟨its,r,pl,hz⟩:=I.tuple hq;obtain⟨j,h1,h2,h3,h4,h5⟩:=oE he;obtain⟨w,ew,J⟩:=r.get h2;have hl:=r.length;have hn:=jN;have fin:EP X pins σ Q w s:=⟨z,H,I,J,q⟩;exact subscriptTail_builtinR (x:=w) pl.typeIs slot_tuple_getitem.lookup
  (getItem_tuple (j:=j) (Q:= λ r s'=>r=w/\EP X pins σ Q r s') pl (by omega) (by omega) (by simp_all) (by simpa using ew) ⟨rfl,fin⟩) hs
theorem JM:va X KZ:= by
 intro value slice pins s σ H x y v u Q I rx ry h hs
 obtain ⟨z,i,c,rfl,rfl,hz,he,q⟩:=h
 obtain ⟨t,rfl⟩:=rx
 obtain ⟨t',rfl⟩:=ry
 obtain ⟨j,h1,h2,h3,h4,h5⟩:=oE he
 have hl:z.cps.toList.length=z.length:=by simp [Str.length]
 rw [hl] at h1 h4 h5
 have hn:=jN
 exact tail_any (typeIs_str s z t) slot_str_getitem.lookup (getItem_str (c:=c) (by
  grind) (by rw [h1];simpa using h2) ⟨.str ⟨#[c]⟩,H,I.tok _,⟨_,rfl⟩,q⟩) hs
noncomputable def OH(K:PySem.W.Frag):R2:= λ x y H Q=>KU K x y H Q\/Lp K x y H Q\/KZ x y H Q
theorem tp:va X (OH X.K):=wd.or (Kd.or JM)
theorem uj(its:List Value)(n j:Nat)(u:Value):Obj.mapSeq (·.setIfInBounds j u) { cls:= .type "list",data:= .seq its.toArray n }={ cls:= .type "list",data:= .seq (its.set j u).toArray n }:=by simp[Obj.mapSeq]
theorem Inv.lst{pins:List (Addr×Obj)}{σ:St}{H:Hp}{s:Shared}{p:Addr}{xs:List V}(I:Inv X pins σ H s)(h:H p=some (.lst xs)):
  ∃(its:List Value) (n:Nat),Vals xs its/\s.heap.get? p=some { cls:= .type "list",data:= .seq its.toArray n }/\xs.length<=sizeLine:=by obtain⟨z,its,n,r,e⟩:=I.hok p _ h;grind
theorem Inv.lstUpd{σ:St}{H:Hp}{s:Shared}{p:Addr}{xs ys:List V}{its its':List Value}{n J:Nat}{f:Obj->Obj}(I:Inv X pins σ H s)(h:H p=some (.lst xs))
  (U:s.heap.get? p=some { cls:= .type "list",data:= .seq its.toArray n })(hf:f { cls:= .type "list",data:= .seq its.toArray n }={ cls:= .type "list",data:= .seq its'.toArray J })(r:Vals ys its')(hz:ys.length<=sizeLine)(t:Nat):
  Inv X pins σ (upd H p (.lst ys)) { s with heap:=s.heap.update p f,toks:=t }:=by
 have e:(s.heap.update p f).get? p=some { cls:= .type "list",data:= .seq its'.toArray J }:=by rw[ZJ f U (by rw[hf] <;> rfl),hf]
 refine I.write (x:=p) (e:=p) (by rw[h];trivial) (.inl rfl) (λ b u hb q=>(V6 _ _ (Ne.symm hb)).trans q) ⟨_,e⟩ ?_;exact⟨hz,its',J,r,e⟩
noncomputable def MA:V->V->V->Hp->(Hp->Prop)->Prop:= λ o i v H Q=>∃p xs k j,o= .ref p/\i= .int k/\H p=some (.lst xs)/\rH xs.length k=some j/\Q (upd H p (.lst (xs.set j v)))
theorem set_list:MD X MA:=by
 intro pins s σ H o i v ov iv u Q I ro ri rv h;obtain⟨p,xs,k,j,rfl,rfl,hp,hj,q⟩:=h;cases ro;obtain⟨t,rfl⟩:=ri;obtain⟨its,n,r,J,hz⟩:=I.lst hp;obtain⟨h1,h2,h3,h4⟩:=vC hj;have hl:=r.length;have hn:=jN;have I':Inv X pins σ (upd H p (.lst (xs.set j v))) { s with heap:=s.heap.update p (Obj.mapSeq (·.setIfInBounds j u)) }:=
  I.lstUpd hp J (uj its n j u) (r.set rv j) (by rw[List.length_set];exact hz) s.toks;by_cases h0:0<=k
 .have U:k.toNat=j:=by rw[seqIndex_of h0 h4]at h1;exact Q9 h1
  exact PySem.W.ki_setAt J h0 (by omega) (by rw[gA,<- hl];exact h4) (by rw[U];exact⟨_,I',q⟩)
 .have U:(k+its.toArray.size).toNat=j:=by rw[seqIndex_neg (by omega) h3]at h1;simp_all
  exact PySem.W.ki_setBack J (by omega) (by rw[gA,<- hl];exact h3) (by omega) (by rw[U];exact⟨_,I',q⟩)
theorem o6(lo hi:Option Int)(n:Nat):(sliceBounds lo hi none n).1=((HT.sIx n 0 lo:Nat):Int)/\(sliceBounds lo hi none n).2.1=((HT.sIx n n hi:Nat):Int)/\(sliceBounds lo hi none n).2.2=1:=by
 refine⟨?_,?_,rfl⟩;. cases lo with
  |none=>simp[sliceBounds,HT.sIx]
  |some i=>simp only[sliceBounds,HT.sIx];grind
 .cases hi with
  |none=>simp[sliceBounds,HT.sIx]
  |some i=>simp only[sliceBounds,HT.sIx];grind
theorem ml(its:List Value)(lo hi:Option Int):slicePick its.toArray lo hi none=((its.drop (HT.sIx its.length 0 lo)).take (HT.sIx its.length its.length hi-HT.sIx its.length 0 lo)).toArray:=by obtain⟨h1,h2,J⟩:=o6 lo hi its.toArray.size;unfold slicePick;rw[h1,h2,J];simp only[sliceRange_one,pick_run] <;> rfl
noncomputable def O8(K:PySem.W.Frag):V->Option Int->Option Int->Hp->VK->Prop:= λ x lo hi H Q=>∃a xs,x= .ref a/\iK K H a xs/\∀p,H p=none->Q (.ref p) (upd H p (.lst (oY xs lo hi)))
theorem D2:GU X (O8 X.K):=by intro pins s σ H x v vl vu lo hi sl Q I rx hs pl pu h;obtain⟨a,xs,rfl,hx,q⟩:=h;cases rx;obtain⟨its,r,J,hz⟩:=I.list hx;have hlen:=r.length;refine⟨"list",_,slot_list_getitem.lookup,J.isList.typeIs,?_⟩;refine wpAny_getItem_list_slice J.isList hs pl pu .none (by simp) ?_ (by simp_all);rw[ml,<- hlen];refine⟨.ref s.heap.objs.size,_,I.laid (t':=s.toks) (o:= .lst (oY xs lo hi)) (λ b ob q=>zS _ q) (wF _) ?_,rfl,q _ (I.hok.fresh (wF _))⟩;exact⟨Q1 (jZ xs lo hi) hz,_,0,(r.drop (HT.sIx xs.length 0 lo)).take (HT.sIx xs.length xs.length hi-HT.sIx xs.length 0 lo),wL _ rfl⟩
noncomputable def g0:V->Bool
 | .non=>true
 | .bl _=>true
 | .int _=>true
 | .str _=>true
 |_=>false
noncomputable def x4:V->V->Bool
 | .non,.non=>true
 | .bl a,.bl b=>a==b
 | .bl a,.int b=>(if a then 1 else 0)==b
 | .int a,.bl b=>a==(if b then 1 else 0)
 | .int a,.int b=>a==b
 | .str a,.str b=>a==b
 |_,_=>false
theorem Aq {A:Around} {s:Shared} {y x:V} {u v:Value} (ry:RelV y u) (rx:RelV x v) (fy:g0 y=true) (fx:g0 x=true):SeqAt.EqAt A s u v (x4 y x):= by
 cases y with
 | non=>
  cases ry
  cases x with
  | non=>cases rx;exact SeqAt.EqAt.same _
  | bl b=>cases rx;exact SeqAt.EqAt.none_bool b
  | int b=>obtain ⟨t,rfl⟩:=rx;exact SeqAt.EqAt.none_int b t
  | str b=>obtain ⟨t,rfl⟩:=rx;exact SeqAt.EqAt.none_str b t
  | _=>exact absurd (show false=true from fx) fN
 | bl a=>
  cases ry
  cases x with
  | non=>cases rx;exact SeqAt.EqAt.bool_none a
  | bl b=>cases rx;exact SeqAt.EqAt.bool_bool a b
  | int b=>obtain ⟨t,rfl⟩:=rx;exact SeqAt.EqAt.bool_int a b t
  | str b=>obtain ⟨t,rfl⟩:=rx;exact SeqAt.EqAt.bool_str a b t
  | _=>exact absurd (show false=true from fx) fN
 | int a=>
  obtain ⟨t',rfl⟩:=ry
  cases x with
  | non=>cases rx;exact SeqAt.EqAt.int_none a t'
  | bl b=>cases rx;exact SeqAt.EqAt.int_bool a t' b
  | int b=>obtain ⟨t,rfl⟩:=rx;exact SeqAt.EqAt.int_int a t' b t
  | str b=>obtain ⟨t,rfl⟩:=rx;exact SeqAt.EqAt.int_str a t' b t
  | _=>exact absurd (show false=true from fx) fN
 | str a=>
  obtain ⟨t',rfl⟩:=ry
  cases x with
  | non=>cases rx;exact SeqAt.EqAt.str_none a t'
  | bl b=>cases rx;exact SeqAt.EqAt.str_bool a t' b
  | int b=>obtain ⟨t,rfl⟩:=rx;exact SeqAt.EqAt.str_int a t' b t
  | str b=>obtain ⟨t,rfl⟩:=rx;exact SeqAt.EqAt.str_str a t' b t
  | _=>exact absurd (show false=true from fx) fN
 | _=>exact absurd (show false=true from fy) fN
noncomputable def tj(x:V)(u:Value):Bool:=match u with
 | .none=>x4 .non x
 | .bool b=>x4 (.bl b) x
 | .int i _=>x4 (.int i) x
 | .str z _=>x4 (.str z) x
 |_=>false
theorem zm{x y:V}{u:Value}(r:RelV y u)(f:g0 y=true):tj x u=x4 y x:=by cases y with
 |non=>cases r;rfl
 |bl b=>cases r;rfl
 |int i=>obtain⟨t,rfl⟩:=r;rfl
 |str z=>obtain⟨t,rfl⟩:=r;rfl
 |_=>exact absurd (show false=true from f) fN
theorem jt:∀{xs:List V}{us:List Value},Vals xs us->xs.all g0=true->us.any (tj x)=xs.any λ y=>x4 y x
 |_,_,.nil,_=>rfl
 |y::xs,u::us,.cons r t,f=>by rw[WR,QI]at f;rw[XH,XH,zm r f.1,jt t f.2]
theorem gD{x:V}{v:Value}(J:RelV x v)(fx:g0 x=true):∀{xs:List V}{us:List Value},Vals xs us->xs.all g0=true->∀u∈us,SeqAt.EqAt A s u v (tj x u)
 |_,_,.nil,_=> λ u I=>by grind
 |y::xs,u::us,.cons r t,f=> λ U I=>by
  rw[WR,QI]at f;rcases uS.mp I with rfl|I
  .rw[zm r f.1];exact Aq r J f.1 fx
  .exact gD J fx t f.2 U I
noncomputable def KD(x:V)(xs:List V):Bool:=xs.any λ y=>x4 y x
noncomputable def Ov(K:PySem.W.Frag)(neg:Bool):R2:= λ x y H Q=>∃p xs,y= .ref p/\(iK K H p xs\/i0 K H p xs)/\g0 x=true/\xs.all g0=true/\Q (.bl (if neg then !KD x xs else KD x xs)) H
theorem mU:iu X (compareOp .In) (Ov X.K false):=by
 intro pins s σ H x y v u Q I U ry h;obtain⟨p,xs,rfl,J,fx,fs,q⟩:=h;cases ry;rcases J with J|J
 .obtain⟨its,r,pl,hz⟩:=I.list J;refine SeqAt.in_listAt (tj x) pl.isList (λ w hw=>gD U fx r fs w (by simpa using hw)) ⟨.bl _,H,I,rfl,?_⟩;rw[show its.toArray.any (tj x)=its.any (tj x)by simp,jt r fs];exact q
 .obtain⟨its,r,pl,hz⟩:=I.tuple J;refine SeqAt.in_tupleAt (tj x) pl (λ w hw=>gD U fx r fs w (by simpa using hw)) ⟨.bl _,H,I,rfl,?_⟩;rw[show its.toArray.any (tj x)=its.any (tj x)by simp,jt r fs];exact q
theorem oW:iu X (compareOp .NotIn) (Ov X.K true):=by
 intro pins s σ H x y v u Q I U ry h;obtain⟨p,xs,rfl,J,fx,fs,q⟩:=h;cases ry;rcases J with J|J
 .obtain⟨its,r,pl,hz⟩:=I.list J;refine SeqAt.notIn_listAt (tj x) pl.isList (λ w hw=>gD U fx r fs w (by simpa using hw)) ⟨.bl _,H,I,rfl,?_⟩;rw[show its.toArray.any (tj x)=its.any (tj x)by simp,jt r fs];exact q
 .obtain⟨its,r,pl,hz⟩:=I.tuple J;refine SeqAt.notIn_tupleAt (tj x) pl (λ w hw=>gD U fx r fs w (by simpa using hw)) ⟨.bl _,H,I,rfl,?_⟩;rw[show its.toArray.any (tj x)=its.any (tj x)by simp,jt r fs];exact q
theorem i6:dM X (.builtin "len") (λ xs H Q=>∃p ys,xs=[.ref p]/\(iK X.K H p ys\/i0 X.K H p ys)/\Q (.int ys.length) H):=by
 intro pins s σ H xs us Q I r h;obtain⟨p,ys,rfl,J,q⟩:=h;obtain⟨u,rfl,rx⟩:=vals1 r;cases rx;have hn:=jN;rcases J with J|J
 .obtain⟨its,U,pl,hz⟩:=I.list J;have hlen:=U.length;exact Calls.call_len_list pl.isList (by simp <;> omega) ⟨.int ys.length,H,I.tok _,⟨s.toks+1,by rw[gA,hlen]⟩,q⟩
 .obtain⟨its,U,pl,hz⟩:=I.tuple J;have hlen:=U.length;exact len_tuple pl (by simp <;> omega) ⟨.int ys.length,H,I.tok _,⟨s.toks+1,by rw[gA,hlen]⟩,q⟩
theorem iB:dM X (.type "tuple") (λ xs H Q=>∃p ys,xs=[.ref p]/\((iK X.K H p ys/\∀l,H l=none->Q (.ref l) (upd H l (.tup ys)))\/(i0 X.K H p ys/\Q (.ref p) H))):=by
 intro pins s σ H xs us Q I r h;obtain⟨p,ys,rfl,h⟩:=h;obtain⟨u,rfl,rx⟩:=vals1 r;cases rx;rcases h with⟨J,q⟩|⟨J,q⟩
 .obtain⟨its,U,pl,hz⟩:=I.list J;have hlen:=U.length;refine call_tuple_list pl.isList (λ h' kp=>?_) (by simp_all);have I1:Inv X pins σ H { s with heap:=h' }:=I.kept (t':=s.toks) kp;have I2:Inv X pins σ (upd H h'.objs.size (.tup ys)) { s with heap:=h'.push { cls:= .type "tuple",data:= .seq its.toArray } }:=
   I1.laid (t':=s.toks) (λ b o e=>zS _ e) (wF _) (show cg X.prog X.w _ _ _ (.tup ys)from⟨hz,its,U,rL.new _ _⟩);exact⟨.ref h'.objs.size,_,I2,rfl,q _ (I1.hok.fresh (wF _))⟩
 .obtain⟨its,U,pl,hz⟩:=I.tuple J;exact call_tuple_same pl ⟨.ref p,H,I,rfl,q⟩
noncomputable def Pj(K:PySem.W.Frag)(T:String)(x:V)(H:Hp):Prop:=match x with
 | .str _=>T="str"
 | .int _=>T="int"
 | .ref p=>(T="list"/\∃xs,iK K H p xs)\/(T="tuple"/\∃o,K.lookup p=some o/\o.cls= .type "tuple"/\o.dict=none)\/
   (T="dict"/\((∃kvs,H p=some (.dK kvs))\/ ∃kvs,H p=some (.dT kvs)))\/(T="set"/\∃S n,H p=some (.set S n))
 |_=>False
theorem I_{σ:St}{H:Hp}{s:Shared}{T:String}{x:V}{v:Value}(I:Inv X pins σ H s)(r:RelV x v)(ty:Pj X.K T x H):
  s.TypeIs v T/\∀a,v= .ref a->∃ob,s.heap.get? a=some ob/\ob.dict=none:=by cases x with
 |str z=>obtain⟨t,rfl⟩:=r;cases(show T="str" from ty);exact⟨typeIs_str s z t,λ _ e=>nomatch e⟩
 |int i=>obtain⟨t,rfl⟩:=r;cases(show T="int" from ty);exact⟨typeIs_int s i t,λ _ e=>nomatch e⟩
 |ref p=>
  cases r;rcases ty with⟨rfl,xs,hq⟩|⟨rfl,o,J,hc,hd⟩|⟨rfl,J⟩|⟨rfl,S,n,J⟩
  .obtain⟨its,_,pl,_⟩:=I.list hq;refine⟨pl.isList.typeIs,λ a e=>?_⟩;obtain⟨o,n,e,c,hd,_⟩:=pl;simp_all
  .refine⟨⟨o,I.kIn p o J,hc⟩,λ a e=>?_⟩;cases e;exact⟨o,I.kIn _ o J,hd⟩
  .have z:∃o,s.heap.get? p=some o/\o.ExactDict:=by
    rcases J with⟨kvs,J⟩|⟨kvs,J⟩
    .obtain⟨_,_,_,_,o,_,_,e,ex,_⟩:=I.hok p _ J;exact⟨o,e,ex⟩
    .obtain⟨_,_,_,_,o,_,_,e,ex,_⟩:=I.hok p _ J;exact⟨o,e,ex⟩
   obtain⟨o,e,ex⟩:=z;refine⟨⟨o,e,ex.1⟩,λ a U=>?_⟩;cases U;exact⟨o,e,ex.2.1⟩
  .obtain⟨o,_,_,_,e,ex,_⟩:=I.hok p _ J;refine⟨⟨o,e,ex.1⟩,λ a U=>?_⟩;cases U;exact⟨o,e,ex.2.1⟩
 |_=>exact False.elim ty
noncomputable def P6(K:PySem.W.Frag)(T:String)(r:V->List V->Hp->VK->Prop)(to:TE)(t:TA):TE:= λ σ H Q=>to σ H λ x H1=>Pj K T x H1/\t σ H1 λ xs H2=>r x xs H2 Q
variable {o e:Expr} {es:List Expr} {to:TE} {t:TA} {name:Str} {apos cpos:Pos} {T id:String} {r:V->List V->Hp->VK->Prop}
theorem Ht(pa:PlainAttrs T)(slot:Slot T name id)(ae:typeOf (.builtin id)=pure (.type "method_descriptor"))(hm:PK X id r)(ho:PE X o to)(ha:PA X (e::es) t)
  (J:attributeBase o name X.env (eval o X.env)=eval o X.env:=by rfl)
  (aa:((backTo cpos (starEach (e::es) X.env)).all (λ x=> !x.1)&&(backToKw cpos (keywordEach [] X.env)).all (λ x=>x.1.isSome)
   &&decide ((e::es).length+([]:List Keyword).length+(if([]:List Keyword).isEmpty then 0 else 1)<30))=true:=by rfl)
  (U:(apos.endLine==cpos.line)=true:=by rfl)(hs:starEach (e::es) X.env=(false,eval e X.env)::starEach es X.env:=by rfl)(ab:(backTo cpos (starEach es X.env)).any (·.1)=false:=by rfl):
  PE X (.Call (.Attribute o name apos) (e::es) [] cpos) (P6 X.K T r to t):=by intro pins s σ H Q I h;refine wpAny_Call_method_late J aa U rfl (cf (ho pins s σ H _ I h) λ v s1 ⟨x,H1,I1,r1,ty,q1⟩=>?_);obtain⟨h1,h2⟩:=I_ I1 r1 ty;refine⟨T,id,pa,slot,ae,h1,h2,?_⟩;have hA:=ha cpos pins s1 σ H1 _ I1 q1;rw[hs]at hA|-;refine Calls.callWith_builtin (by grind) (Calls.evalArgs_plain ?_);exact cf hA λ us s2 ⟨vs,H2,I2,r2,q2⟩=>hm pins s2 σ H2 x vs v us Q I2 r1 r2 q2
end
noncomputable def M_(X:Cx)(id:String)(r:V->List V->Hp->VK->Prop):Prop:=
 ∀(pins:List (Addr×Obj))(s:Shared)(σ:St)(H:Hp)(x:V)(xs:List V)(v:Value)(us:List Value)(Q:VK),Inv X pins σ H s->RelV x v->Vals xs us->r x xs H Q->
  wpAny (model X.prog X.w) X.A (call (.builtin id) (v::us)) (EP X pins σ Q) X.xe s
theorem Vals.one:∀{x:V}{us:List Value},Vals [x] us->∃u,us=[u]/\RelV x u
 |_,_,.cons r .nil=>⟨_,rfl,r⟩
theorem Vals.two{x y:V}{us:List Value}(h:Vals [x,y] us):∃u v,us=[u,v]/\RelV x u/\RelV y v:=by cases h with|cons r t=>cases t with|cons q t=>cases t;exact⟨_,_,rfl,r,q⟩
theorem Vals.eraseIdx:∀{xs:List V}{us:List Value}(i:Nat),Vals xs us->Vals (xs.eraseIdx i) (us.eraseIdx i)
 |_,_,_,.nil=> .nil
 |_,_,0,.cons _ t=>t
 |_,_,i+1,.cons r t=> .cons r (Vals.eraseIdx i t)
section
variable {X:Cx} {pins:List (Addr × Obj)} {σ:St} {H:Hp} {s:Shared} {l:Addr} {xs ys:List V}
theorem Inv.lset{its its':List Value}{n:Nat}{f:Array Value->Array Value}{t':Nat}(I:Inv X pins σ H s)(J:H l=some (.lst xs))
  (e:s.heap.get? l=some { cls:= .type "list",data:= .seq its.toArray n })(hf:f its.toArray=its'.toArray)(U:Vals ys its')(hz:ys.length<=sizeLine):
  Inv X pins σ (upd H l (.lst ys)) { s with heap:=s.heap.update l (Obj.mapSeq f),toks:=t' }:=by have q:=PySem.IsL.update e f;rw[hf]at q;refine I.write (x:=l) (e:=l) (by rw[J];exact trivial) (.inl rfl) (λ b' u hb hu=>(V6 s.heap (Obj.mapSeq f) (Ne.symm hb)).trans hu) ⟨_,q⟩ ?_;exact⟨hz,its',_,U,q⟩
theorem Inv.lnew(I:Inv X pins σ H s)(J:Vals ys its)(hz:ys.length<=sizeLine):
  Inv X pins σ (upd H s.heap.objs.size (.lst ys)) { s with heap:=s.heap.push { cls:= .type "list",data:= .seq its.toArray },toks:=t' }:=
 I.laid (λ _ _ q=>zS _ q) (wF _) ⟨hz,its,0,J,wL _ rfl⟩
theorem Inv.fresh(I:Inv X pins σ H s):H s.heap.objs.size=none:=I.hok.fresh (wF _)
theorem Inv.lstM(I:Inv X pins σ H s)(J:H l=some (.lst xs)):xs.length<=sizeLine/\∃(its:List Value) (n:Nat),Vals xs its/\xs.length=its.length/\s.heap.get? l=some { cls:= .type "list",data:= .seq its.toArray n }:=by obtain⟨z,its,n,r,e⟩:=I.hok l _ J;exact⟨z,its,n,r,r.length,e⟩
end
section
variable {X:Cx}
noncomputable def D4:V->List V->Hp->VK->Prop:= λ x vs H Q=>∃l xs y,x= .ref l/\vs=[y]/\H l=some (.lst xs)/\xs.length<sizeLine/\Q .non (upd H l (.lst (xs++[y])))
theorem ny:M_ X "list.append" D4:=by intro pins s σ H x vs v us Q I U rv h;obtain⟨l,xs,y,rfl,rfl,J,hz,q⟩:=h;cases U;obtain⟨u,rfl,ru⟩:=rv.one;obtain⟨z,its,n,r,hl,e⟩:=I.lstM J;refine call_meets F.slot_list_append ⟨_,e,rfl⟩ F.entry_list_append (F.args_list_append_2 _ _) (PySem.list_append l its.toArray n u (by rw[gA];omega)) ⟨e,?_⟩;refine⟨.non,_,I.lset (its':=its++[u]) J e (by simp) (r.append (.cons ru .nil)) ?_,rfl,q⟩;grind
noncomputable def Kb:V->List V->Hp->VK->Prop:= λ x vs H Q=>∃l xs i k y,x= .ref l/\vs=[.int i]/\H l=some (.lst xs)/\ -(2^63)<=i/\i<2^63/\seqIndex? i xs.length=some k/\xs[k]?=some y/\Q y (upd H l (.lst (xs.eraseIdx k)))
theorem BC:M_ X "list.pop" Kb:=by
 intro pins s σ H x vs v us Q I rx rv h;obtain⟨l,xs,i,k,y,rfl,rfl,U,h1,h2,hk,hy,q⟩:=h;cases rx;obtain⟨u,rfl,ru⟩:=rv.one;obtain⟨t,rfl⟩:=ru;obtain⟨z,its,n,r,hl,e⟩:=I.lstM U;obtain⟨w,hw,J⟩:=r.get hy;refine call_meets F.slot_list_pop ⟨_,e,rfl⟩ F.entry_list_pop (F.args_list_pop_2 _ _)
  (MeetsSeq.list_pop_at l its.toArray n i t k w (fitsIndex_both h1 h2) (by rw[gA,<- hl];exact hk) (by rw[<- QQ];exact hw) (by rw[gA];omega)) ⟨e,?_⟩;refine⟨y,_,I.lset (its':=its.eraseIdx k) U e ?_ (r.eraseIdx k) ?_,J,q⟩;. rw[List.eraseIdxIfInBounds_toArray]
 grind
end
section
set_option maxRecDepth 100000 in
end
end L2
namespace Att
open PySem PySem.W PySem.Calls PyProof.Rows
theorem j_:∀(ns:List Int)(vs:List Value),WellAll P h vs (ns.map WData.int)->IntsAre vs ns:=by intro ns;induction ns with
 |nil=>intro vs w;cases w;exact .nil
 |cons n ns I=>intro vs w;cases w with
  |cons a b=>cases a;exact .cons _ _ (I _ b)
theorem script_of{l:OpenLaw}{n:Nat}(hn:l.most=some n){P:Params}{h:Heap}{args:List WData}{vals:List Value}
  (I:l.row.toRowW.claim.pre args=true)(aa:WellAll P h vals args):
  ∃a vs ns,vals=[Value.ref a]/\args=[WData.list (ns.map WData.int)]/\h.get? a=some { cls:= .type "list",data:= .seq vs.toArray }/\IntsAre vs ns/\ns.length<=n:=by
 have ab:WShape.hasAll [] args [.list .int]=true:=(pre_splitW I).1;have hc:l.pre.holds [] { args:=args }=true:=(pre_splitW I).2;obtain⟨d,r,rfl,h1,h2⟩:=hasAllW_cons ab;obtain rfl:=hasAllW_nil h2;obtain⟨xs,rfl,h3⟩:=hasW_list h1;obtain⟨ns,rfl⟩:=items_int h3;have hlen:ns.length<=n:=by
  have U:(WTm.not (.lt (.lit (.int n)) (.len (.arg 0)))).holds [] { args:=[.list (ns.map .int)] }=true:=by have U:=(holds_andW hc).1;rw[hn]at U;exact U
  have h5:=condW_of U (w_not (w_lt w_lit (w_len_list (w_arg rfl))));simp_all
 cases aa with
 |cons w1 w2=>cases w2;cases w1 with
  |list ho J=>exact⟨_,_,ns,rfl,rfl,ho,j_ ns _ J,hlen⟩
theorem post_true(l:OpenLaw)(args:List WData):l.row.toRowW.claim.post args (.bool true) args=true:=
 postW_of (r:=l.row.toRowW) (X:=(true==true))
  (show WShape.has [] (.bool true) .bool=true by rfl)
  (show(WTm.eq .res (.lit (.bool true))).value [] { args:=args,res:=some (.bool true),after:=args }=some (.bool (true==true))from w_eq_bool (w_res rfl) w_lit) rfl
end Att
namespace L2
open PySem PySem.Spec PyProof.Rows
theorem ie:∀{vs:List Value}{ns:List Int},IntsAre vs ns->Vals (ns.map V.int) vs
 |_,_,.nil=> .nil
 |_,_,.cons n t h=> .cons ⟨t,rfl⟩ (ie h)
noncomputable def eC(s:Stmt):Arguments:=match s with
 | .FunctionDef _ a _ _ _ _ _ _ _ _=>a
 |_=>{ posonlyargs:=[],args:=[],vararg:=none,kwonlyargs:=[],kw_defaults:=[],kwarg:=none,defaults:=[] }
noncomputable def bT(s:Stmt):List Stmt:=match s with
 | .FunctionDef _ _ b _ _ _ _ _ _ _=>b
 |_=>[]
noncomputable def aZ(s:Stmt):Scope:=match s with
 | .FunctionDef _ _ _ _ _ _ sc _ _ _=>sc
 |_=>{ kind:= .function,names:=[],isGenerator:=false,isCoroutine:=false }
noncomputable abbrev dQ:yM:= λ _ _ _ _ _ _=>False
noncomputable abbrev E0:XK:= λ _ _ _=>False
theorem qA:Passes dQ X E0:= λ _ _ _ _ _ _ _ h=>h.elim
structure C_ (K:PySem.W.Frag) (x qual:Str) (st:Stmt) (f:Addr) (fd:FuncData):Prop where
 ex:∃(oc:Value) (od:Option Addr) (kV doc pm:Value) (an:Option Addr) (cdv ct:Value) (osl:Array (Option Value)),
  fd=PySem.W.fnOf x qual (eC st) (bT st) (aZ st) .none kV doc pm an cdv ct∧K.lookup f=some ⟨oc,od,.func fd,osl⟩∧PySem.W.codeIn K cdv qual=true
 kp:PySem.W.keepIn K (.ref f)=true
section
variable {P:Program} {w:World} {K:PySem.W.Frag} {mg:Str->Option Value} {base:Heap}
theorem C_.ok{st:Stmt}{f:Addr}{fd:FuncData}{N ps:List Str}{k:Nat}{sp:Sp}(F:C_ K x qual st f fd)(S:cz N ps (aZ st))(len:∀vs H Q E,sp vs H Q E->vs.length=ps.length)
  (I:∀(cdv:Value)(A:Around)(outer:List Env)(s:Shared)(H:Hp)(vs:List V)(Q:VK)(E:XK),cb k (A.deeper (envOfC qual (aZ st) s.heap.objs.size f cdv))->sp vs H Q E->
   ∃t,sG (fP dQ P w K mg base N qual (aZ st) f cdv A outer s H E).nox (bT st) t/\t { nx:= λ _ H'=>Q .non H',rt:=Q } (start N vs) H):dG P w K mg base dQ (k+1) f fd ps sp:=by obtain⟨oc,od,kV,doc,pm,an,cdv,ct,aa,rfl,lk,J⟩:=F.ex;refine Hy lk J S len λ A outer s H vs Q E hr U=>?_;obtain⟨t,h,q⟩:=I cdv A outer s H vs Q E hr U;exact⟨t,h.nox,q⟩
theorem C_.binds{st:Stmt}{f:Addr}{fd:FuncData}{ps:List Str}(F:C_ K x qual st f fd)
  (h:∀(kV doc pm:Value)(an:Option Addr)(cdv I:Value)(us:List Value),us.length=ps.length->bindArgs (PySem.W.fnOf x qual (eC st) (bT st) (aZ st) .none kV doc pm an cdv I) ⟨us,[]⟩=pure (ps.zip us)):Binds K fd ps []:=by obtain⟨oc,od,kV,doc,pm,an,cdv,I,J,rfl,lk,U⟩:=F.ex;exact .all (h kV doc pm an cdv I)
theorem AZ{st:Stmt}{f:Addr}{U:Value}{od an:Option Addr}{I:Array (Option Value)}{kV doc pm cdv J:Value}(l:K.lookup f=some ⟨U,od,.func (PySem.W.fnOf x qual (eC st) (bT st) (aZ st) .none kV doc pm an cdv J),I⟩)
  (c:PySem.W.codeIn K cdv qual=true)(k:PySem.W.keepIn K (.ref f)=true):C_ K x qual st f (PySem.W.fnOf x qual (eC st) (bT st) (aZ st) .none kV doc pm an cdv J):=⟨⟨U,od,kV,doc,pm,an,cdv,J,I,rfl,l,c⟩,k⟩
end
theorem E7{A B:Prop}(h:B):if false=true then A else B:=by grind
theorem Dp{A B:Prop}(h:A):if true=true then A else B:=by grind
noncomputable def Cu(H H':Hp):Prop:=∀b o,H b=some o->H' b=some o
end L2
namespace L2
open PySem
theorem oZ{elt target iter:Expr}{ifs:List Expr}{scope:Scope}{pos:Pos}{it acc:Value}{env:Env}(I:Nat->Shared->Prop)
  (turn:∀n s,I n s->wpAny (model prog w) A (pyNext it) (λ r s1=>match r with
   |none=>R (.ok .next) s1
   |some v=>wpAny (model prog w) A (letOwnedTupleGo target it v) (λ _ s2=>wpAny (model prog w) A (assign target env v) (λ _ s3=>
     wpAny (model prog w) A (forIn ifs true λ c r=>if r=true then do let ok<- isTrue c env (eval c env);pure (ForInStep.yield ok)else pure (ForInStep.yield r)) (λ ok s4=>
      if ok=true then wpAny (model prog w) A (eval elt env) (λ x s5=>
       wpAny (model prog w) A (call (.builtin "list.append") [acc,x]) (λ _ s6=>∃m,m<n/\I m s6) (λ _ _=>False) s5) (λ _ _=>False) s4
      else∃m,m<n/\I m s4) (λ _ _=>False) s3) (λ _ _=>False) s2) (λ _ _=>False) s1) (λ _ _=>False) s)
  (n:Nat)(h:I n s):
  codeAny (model prog w) A (.compLoop (.ListComp elt [⟨target,iter,ifs,0⟩] scope pos) 0 it acc env) R s:=by refine codeAny_loop rfl I (λ n s hI=>?_) n h;show wpAny _ A ((compTurn (.ListComp elt [⟨target,iter,ifs,0⟩] scope pos) 0 it acc env).onRaise (λ x=>do noteFrame x env;theTreesLotGoes x)) _ _ s;refine wpAny_noted ?_;rw[compTurn_list];refine zN (Z7 (zN (QE (turn n s hI) (λ r ae o=>?_) λ _ _ h'=>h'.elim)));cases r with
 |none=>exact kT o
 |some v=>refine zN (QE o (λ _ af J=>?_) λ _ _ h'=>h'.elim);refine zN (QE J (λ _ ag U=>zN (QE U (λ ok ah C=>?_) λ _ _ h'=>h'.elim)) λ _ _ h'=>h'.elim);cases ok with
  |false=>exact kT ⟨rfl,C⟩
  |true=>exact zN (zN (QE C (λ x ai aa=>zN (QE aa (λ _ aj ab=>kT (kT ⟨rfl,ab⟩)) λ _ _ h'=>h'.elim)) λ _ _ h'=>h'.elim))
noncomputable def dg(cells:List (Str×Addr)):List (Str×NameKind)->List (Str×Addr)->List (Str×Addr)
 |[],acc=>acc
 |(n,k)::r,acc=>if k== .free then(match cells.lookup n with|some c=>dg cells r ((n,c)::acc)|none=>dg cells r acc)else dg cells r acc
theorem dZ(h:∀n,(n,NameKind.free)∈scope.names->∃c,env.cells.lookup n=some c):closureFor scope env=pure (dg env.cells scope.names []):=by
 have gen:∀(names:List (Str×NameKind))(acc:List (Str×Addr)),(∀n,(n,NameKind.free)∈names->∃c,env.cells.lookup n=some c)->
   (forIn names acc (λ x r=>match x with
    |(name,kind)=>if(kind== .free)=true then do let a<- cellOf env name;pure (ForInStep.yield ((name,a)::r))else pure (ForInStep.yield r)):Sem (List (Str×Addr)))=pure (dg env.cells names acc):=by intro names;induction names with
  |nil=>intro acc _;rfl
  |cons x r C=>
   intro acc hx;obtain⟨n,k⟩:=x;rw[List.forIn_cons];unfold dg;by_cases I:(k==NameKind.free)=true
   .have e:k= .free:=by simpa using I
    subst e;obtain⟨c,o⟩:=hx n xS;dsimp only;rw[o];have:cellOf env n=pure c:=by unfold cellOf;rw[o]
    rw[this];exact C _ λ m hm=>hx m (wV _ hm)
   grind
 unfold closureFor;grind
theorem gR:∀{names:List (Str×NameKind)}{acc:List (Str×Addr)}{x:Str}{c:Addr},(x,c)∈dg cells names acc->(x,c)∈acc\/(cells.lookup x=some c/\(x,NameKind.free)∈names)
 |[],_,_,_,h=> .inl h
 |(n,k)::r,acc,x,c,h=>by
  unfold dg at h;split at h
  .rename_i I;have e:k=NameKind.free:=by simpa using I
   subst e;split at h
   .rename_i d hd;rcases gR h with h|⟨o,C⟩
    .rcases uS.mp h with e|h
     .cases e;exact .inr ⟨hd,xS⟩
     .exact .inl h
    simp_all
   .rcases gR h with h|⟨o,C⟩
    .exact .inl h
    .exact .inr ⟨o,wV _ C⟩
  .rcases gR h with h|⟨o,C⟩
   .exact .inl h
   .exact .inr ⟨o,wV _ C⟩
theorem fQ:∀{names:List (Str×NameKind)}{acc:List (Str×Addr)}{x:Str},((x,NameKind.free)∈names/\(cells.lookup x).isSome=true)\/(acc.lookup x).isSome=true->((dg cells names acc).lookup x).isSome=true
 |[],_,_,h=>h.elim (λ z=>nomatch z.1) id
 |(n,k)::r,acc,x,h=>by
  unfold dg;by_cases o:(k==NameKind.free)=true;. rw[gL o];cases hd:cells.lookup n with
   |none=>refine fQ ?_;grind
   |some d=>refine fQ ?_;grind
  .rw[QC o];refine fQ ?_;rcases h with⟨C,I⟩|h
   .rcases uS.mp C with e|C
    .cases e;simp at o
    .exact .inl ⟨C,I⟩
   .exact .inr h
theorem di:∀(names:List (Str×NameKind))(n:Nat)(acc:List (Str×Addr)),cellsFrom n names acc=cellsFrom n names []++acc
 |[],_,_=>rfl
 |(x,k)::r,n,acc=>by
  unfold cellsFrom;split;. rw[di r (n+1) ((x,n)::acc),di r (n+1) [(x,n)],Q4];rfl
  .exact di r n acc
theorem eW:∀(names:List (Str×NameKind))(n:Nat)(x:Str)(c:Addr),(x,c)∈cellsFrom n names []->(x,NameKind.cell)∈names
 |[],_,_,_,h=>nomatch h
 |(y,k)::r,n,x,c,h=>by
  unfold cellsFrom at h;split at h
  .rw[di]at h;rcases uT.mp h with h|h
   .exact wV _ (eW r (n+1) x c h)
   simp_all
  .exact wV _ (eW r n x c h)
theorem gu{s:Shared}{scope:Scope}{globals:Addr}{cl:List (Str×Addr)}{qual:Str}{outer:Env}{Q:Env->Shared->Prop}
  (o:Q (newEnv scope s.heap.objs.size globals (cellsFrom (s.heap.objs.size+1) scope.names cl) qual none .none (some outer) builtinsNs) { s with heap:=pushCells (s.heap.push { cls:= .type "dict",data:= .dict #[] }) scope.names }):
  wpAny M A (newFunctionEnv scope globals cl [] qual none .none (some outer)) Q E s:=by simp only[newFunctionEnv,Option.isSome_some,YM];refine zN (wpAny_alloc ?_);refine zN (wpAny_layCells _ (λ name kind cells=>by rfl) _ _ _ _ ?_);rw[show({ s with heap:=s.heap.push { cls:= .type "dict",data:= .dict #[] } }:Shared).heap.objs.size=s.heap.objs.size+1 from QM ..];exact zN (kT (kT o))
end L2
namespace L2
open PySem PySem.Spec PyProof.Rows
noncomputable def cT(N own:List Str)(o scope:Scope):Bool:=
 scope.names.all (λ x=> !(x.2== .local)||(scope.names.lookup x.1==some .local))&&
 (scope.names.all (λ x=> !(x.2== .free)||(o.names.lookup x.1==some .cell||o.names.lookup x.1==some .free))&&
 (scope.names.all (λ x=> !(x.2== .local||x.2== .cell)|| !(N.contains x.1))&&
 (own.all (λ x=>scope.names.all λ y=> !(y.1==x)|| !(y.2== .free))&&
 scope.names.all (λ x=> !(x.2== .free)||scope.names.all λ y=> !(y.1==x.1)||(y.2== .free)))))
structure jR (N own:List Str) (sc0 scope:Scope):Prop where
 loc:∀x ∈ scope.names,x.2=.local->scope.names.lookup x.1=some .local
 free:∀n,(n,NameKind.free) ∈ scope.names->sc0.names.lookup n=some .cell ∨ sc0.names.lookup n=some .free
 out:∀n k,(n,k) ∈ scope.names->(k=.local ∨ k=.cell)->n ∉ N
 own:∀x ∈ own,(x,NameKind.free) ∉ scope.names
 one:∀n k,(n,NameKind.free) ∈ scope.names->(n,k) ∈ scope.names->k=.free
theorem hX(h:cT N own C scope=true):jR N own C scope:=by
 unfold cT at h;simp only[QI,QT,VN,V0,beq_iff_eq,Bool.or_eq_false_iff]at h;obtain⟨U,h2,h3,h4,h5⟩:=h;refine⟨λ x hx e=>?_,λ n o=>?_,λ n k o e hN=>?_,λ x hx o=>?_,λ n k o hk=>?_⟩
 .rcases U x hx with z|z
  .rw[e]at z;simp at z
  .exact z
 .rcases h2 _ o with z|z
  .simp at z
  .exact z
 .rcases h3 _ o with⟨I,J⟩|z
  .rcases e with e|e
   .rw[e]at I;simp at I
   .rw[e]at J;simp at J
  .have:N.contains n=true:=by simpa using hN
   rw[this]at z;cases z
 .rcases h4 x hx _ o with z|z
  .simp at z
  .simp at z
 grind
noncomputable def cQ(N N':List Str)(scope:Scope):Bool:=(N'.length==N.length)&&(N'.zip N).all λ p=>p.1==p.2||(scope.names.lookup p.1).isNone
structure pG (N N':List Str) (scope:Scope):Prop where
 len:N'.length=N.length
 same:∀(i:Nat) x,N'[i]? = some x->N[i]? = some x ∨ scope.names.lookup x=none
theorem ia(h:cQ N N' scope=true):pG N N' scope:=by
 unfold cQ at h;simp only[QI,beq_iff_eq,QT,VN,Option.isNone_iff_eq_none]at h;refine⟨h.1,λ i x e=>?_⟩;have C:i<N'.length:=(xZ.mp e).1;have o:i<N.length:=by rw[<- h.1];exact C
 have I:(N'.zip N)[i]?=some (x,N[i]):=by rw[List.getElem?_zip_eq_some];exact⟨e,kW o⟩
 grind
noncomputable def blk(X:Cx)(N' own:List Str)(scope:Scope)(s:Shared)(H:Hp)(fp:List Addr)(pins:List (Addr×Obj)):Cx where
 prog:=X.prog
 w:=X.w
 K:=X.K
 mg:=X.mg
 base:=X.base
 A:=X.A
 N:=N'++own
 s₀:=s
 H₀:=H
 env:={ newEnv scope s.heap.objs.size X.env.globals (cellsFrom (s.heap.objs.size+1) scope.names (dg X.env.cells scope.names [])) X.env.qual none .none (some X.env) builtinsNs with scope:=relabel scope X.env }
 outer:=X.stack
 stack:=X.stack
 ex:=fp
 fn:= λ x=>own.contains x
 calm:=X.calm
 pn:=X.pn++pins
 xe:= λ _ _=>False
theorem gQ{env:Env}:∀{names:List (Str×NameKind)}{x:Str},
  (names.map λ(n,k)=>if(k==NameKind.free&&env.scope.kind== .function&&env.kindOf n==some .cell)then(n,NameKind.cell)else(n,k)).lookup x=
   (names.lookup x).map λ k=>if(k==NameKind.free&&env.scope.kind== .function&&env.kindOf x==some .cell)then NameKind.cell else k
 |[],_=>rfl
 |(n,k)::r,x=>by have o:=@gQ env r x;grind
theorem c8(h:(relabel scope env).names.lookup x=some o):∃k,scope.names.lookup x=some k/\(o=k\/(k= .free/\o= .cell)):=by have h':(scope.names.map λ(n,k)=>if(k==NameKind.free&&env.scope.kind== .function&&env.kindOf n==some .cell)then(n,NameKind.cell)else(n,k)).lookup x=some o:=h;rw[gQ]at h';cases e:scope.names.lookup x with
 |none=>grind
 |some k=>grind
section
variable {X:Cx} {pins:List (Addr × Obj)} {σ:St} {H:Hp} {s:Shared} {N' own:List Str} {scope:Scope} {fp:List Addr}
theorem hO(I:Inv X pins σ H s)(S:jR N' own X.env.scope scope):∀x c,(cellsFrom (s.heap.objs.size+1) scope.names (dg X.env.cells scope.names [])).lookup x=some c->
  ((x,c)∈cellsFrom (s.heap.objs.size+1) scope.names []/\(pushCells (s.heap.push { cls:= .type "dict",data:= .dict #[] }) scope.names).IsCell c none/\s.heap.objs.size+1<=c/\(x,NameKind.cell)∈scope.names)\/
   (X.env.cells.lookup x=some c/\(x,NameKind.free)∈scope.names/\c<s.heap.objs.size):=by
 intro x c h;have ok:=cellsFrom_ok scope.names (s.heap.push { cls:= .type "dict",data:= .dict #[] }) (s.heap.objs.size+1) [] ⟨λ _ _ hm=>(nomatch hm),List.Pairwise.nil⟩ (by simp);rw[QM]at ok;have hm:=mem_of_lookup h;rw[di]at hm;rcases uT.mp hm with hm|hm
 .exact .inl ⟨hm,(ok.empty x c hm).1,(ok.empty x c hm).2,eW _ _ _ _ hm⟩
 .rcases gR hm with z|⟨o,C⟩
  .exact nomatch z
  .obtain⟨v,q⟩:=I.cell x c o;exact .inr ⟨o,C,q.lt⟩
theorem Inv.blkKeep{s:Shared}{scope:Scope}:∀(b:Addr)(o:Obj),s.heap.get? b=some o->(pushCells (s.heap.push { cls:= .type "dict",data:= .dict #[] }) scope.names).get? b=some o:= λ b o e=>
 pushCells_keeps _ _ b o (zS _ e)
theorem Inv.blk(I:Inv X pins σ H s)(hf:∀b∈fp,dz X pins H b)(ho:∀b∈fp,b<s.heap.objs.size)(hk:scope.kind= .function)(S:jR N' own X.env.scope scope)(Mk:pG X.N N' scope):
  Inv (blk X N' own scope s H fp pins) [] (σ++List.replicate own.length none) H { s with heap:=pushCells (s.heap.push { cls:= .type "dict",data:= .dict #[] }) scope.names }:=by
 have C:=hO I S;have keep:=@Inv.blkKeep s scope;have aa:∀x,((relabel scope X.env).names.lookup x=some .cell\/(relabel scope X.env).names.lookup x=some .free)->∃c,(cellsFrom (s.heap.objs.size+1) scope.names (dg X.env.cells scope.names [])).lookup x=some c:=by
  intro x hx;have:∃k,scope.names.lookup x=some k/\(k= .cell\/k= .free):=by
   rcases hx with hx|hx
   .obtain⟨k,e,z⟩:=c8 hx;rcases z with z|⟨z,_⟩
    .exact⟨k,e,.inl z.symm⟩
    .exact⟨k,e,.inr z⟩
   .obtain⟨k,e,z⟩:=c8 hx;rcases z with z|⟨z,_⟩
    .exact⟨k,e,.inr z.symm⟩
    .exact⟨k,e,.inr z⟩
  obtain⟨k,e,z⟩:=this;refine YG.mp (W6 scope.names _ _ ?_);rcases z with z|z
  .subst z;exact .inl e
  .subst z;have hm:=mem_of_lookup e;obtain⟨c,hc⟩:=I.ok.has x (S.free x hm);exact .inr (fQ (.inl ⟨hm,by rw[hc];rfl⟩))
 have sub:∀b,b∈yI X.stack->b∈X.env.locals::X.fs:=I.stkSub;refine⟨⟨I.ok.mod,hk,I.ok.glob,I.ok.blt,wF _,λ x y c h1 h2=>?_,λ x hx=>aa x hx,λ x c hx h=>?_,I.ok.hd,I.ok.frames,.inl rfl,λ b hb=>⟨?_,λ x c h=>?_⟩,λ b o e=>I.bs b o e,?_,λ b o e hb=>?_,λ b hb hs=>?_,I.stack,I.stkFree,I.tb⟩,
  rfl,I.bare,Un.kept keep,⟨_,(Heap.Ns.new s.heap (.type "dict")).keeps (pushCells_keeps _ _),λ i x v h1 h2 J=>?_⟩,λ x c h=>?_,I.hok.fresh (wF _),λ x c h=>?_,λ p hp=>?_,I.hok.kept keep,?_⟩;. -- inj
  have ok:=cellsFrom_ok scope.names (s.heap.push { cls:= .type "dict",data:= .dict #[] }) (s.heap.objs.size+1) [] ⟨λ _ _ hm=>(nomatch hm),List.Pairwise.nil⟩ (by rw[QM];exact wF _);rw[QM]at ok;rcases C x c h1 with⟨a1,_,a3,_⟩|⟨a1,_,a3⟩ <;> rcases C y c h2 with⟨b1,_,b3,_⟩|⟨b1,_,b3⟩
  .exact name_of_addr ok.apart a1 b1
  .exact absurd b3 (Y5.mpr (VH a3))
  .exact absurd a3 (Y5.mpr (VH b3))
  .exact I.ok.inj x y c a1 b1
 .rcases C x c h with⟨_,_,a3,_⟩|⟨_,a2,_⟩
  .exact VH a3
  .have aj:own.contains x=true:=hx;exact absurd a2 (S.own x (by simpa using aj))
 .exact QB (ho b hb)
 .rcases C x c h with⟨_,_,a3,_⟩|⟨a1,_,_⟩
  .intro z;subst z;exact absurd (ho _ hb) (Y5.mpr (VH a3))
  .exact(hf b hb).2.2.2.2.1 x c a1
 .exact Q1 I.ok.bsz I.sz
 .rcases(hf b hb).2.2.2.1 with z|z
  .exact I.ok.noex b o e z
  .exact absurd (wN e) (Y5.mpr (Q1 I.ok.bsz z))
 .rcases uS.mp (sub b hs)with z|z
  .exact(hf b hb).2.1 z
  .exact(hf b hb).2.2.1 z
 .
  have hi:i<σ.length:=by
   by_cases hi:i<σ.length;. exact hi
   .rw[Q2 (by omega),VF]at h2;split at h2 <;> cases h2
  rw[QF hi]at h2;have ah:N'[i]?=some x:=by have:(N'++own)[i]?=some x:=h1;rwa [QF (by rw[Mk.len,<- I.len];exact hi)]at this
  have ab:x∈N':=Y6 ah;have ae:∃k,scope.names.lookup x=some k:=by rcases J with J|J|J <;> (obtain⟨k,e,_⟩:=c8 J;exact⟨k,e⟩)
  have hN:X.N[i]?=some x:=by
   rcases Mk.same i x ah with z|z
   .exact z
   .obtain⟨k,e⟩:=ae;rw[z]at e;cases e
  have U:scope.names.lookup x=some .free/\((relabel scope X.env).names.lookup x=some .cell\/(relabel scope X.env).names.lookup x=some .free):=by
   rcases J with J|J|J
   .obtain⟨k,e,z⟩:=c8 J;rcases z with z|⟨_,z⟩
    .exact absurd ab (S.out x k (mem_of_lookup e) (.inl z.symm))
    .cases z
   .obtain⟨k,e,z⟩:=c8 J;rcases z with z|⟨z,_⟩
    .exact absurd ab (S.out x k (mem_of_lookup e) (.inr z.symm))
    .rw[z]at e;exact⟨e,.inl J⟩
   .obtain⟨k,e,z⟩:=c8 J;rcases z with z|⟨z,_⟩
    .rw[<- z]at e;exact⟨e,.inr J⟩
    .rw[z]at e;exact⟨e,.inr J⟩
  have hm:=mem_of_lookup U.1;have af:=S.free x hm;obtain⟨m,hn,hl⟩:=I.loc;obtain⟨u,r,l⟩:=hl i x v hN h2 (.inr af);refine⟨u,r,.inr ⟨U.2,?_⟩⟩;rcases l with⟨k,_⟩|⟨_,c,hc,ag⟩
  .have k':X.env.scope.names.lookup x=some .local:=k;rw[k']at af;rcases af with z|z <;> cases z
  .obtain⟨c2,ai⟩:=aa x U.2;refine⟨c2,ai,?_⟩;rcases C x c2 ai with⟨_,_,_,a4⟩|⟨a1,_,_⟩
   .have:=S.one x _ hm a4;cases this
   .rw[hc]at a1;cases a1;exact ag.keeps keep
 .rcases C x c h with⟨_,a2,_,_⟩|⟨a1,_,_⟩
  .exact⟨_,a2⟩
  .obtain⟨v,q⟩:=I.cell x c a1;exact⟨v,q.keeps keep⟩
 .rcases C x c h with⟨_,_,a3,_⟩|⟨a1,_,_⟩
  .exact I.hok.fresh (by omega)
  .exact I.freeC x c a1
 .have ak:p∈X.pn++pins:=by
   rcases uT.mp hp with z|z
   .exact z
   .exact nomatch z
  obtain⟨e,n,ne,nf,d⟩:=I.pin p ak;refine⟨keep _ _ e,n,QB (wN e),λ z=>?_,d⟩;rcases uS.mp (sub p.1 z)with z|z
  .exact ne z
  grind
 .show(σ++List.replicate own.length none).length=(N'++own).length;rw[fR,fR,VQ,I.len,Mk.len]
theorem Inv.unblk(I:Inv X pins σ H s)(hf:∀b∈fp,dz X pins H b){pins':List (Addr×Obj)}{C:St}{H':Hp}{s':Shared}(J:Inv (L2.blk X N' own scope s H fp pins) pins' C H' s'):Inv X pins σ H' s':=
 I.call' (ch:=fp) J.os J.base J.hok J.bare λ b o=>⟨(hf b o).2.2.2.1,(hf b o).2.1,(hf b o).2.2.2.2.1,(hf b o).2.2.2.2.2⟩
end
noncomputable def pg(X:Cx)(ifs:List Expr)(t:TT):Prop:=
 ∀(pins:List (Addr×Obj))(s:Shared)(σ:St)(H:Hp)(Q:Bool->Hp->Prop),Inv X pins σ H s->t σ H Q->
  wpAny (model X.prog X.w) X.A (forIn ifs true λ c r=>if r=true then do let ok<- isTrue c X.env (eval c X.env);pure (ForInStep.yield ok)else pure (ForInStep.yield r)) (TP X pins σ Q) X.xe s
noncomputable def Oc:TT:= λ _ H Q=>Q true H
theorem Du:pg X [] Oc:= λ pins s σ H Q I h=>wpAny_tests_nil ⟨H,I,h⟩
theorem Fy(h:PT X c t):pg X [c] t:= λ pins s σ H Q I q=>wpAny_tests_one (h pins s σ H Q I q)
structure K4 (cal:Cx->Prop) (P:Program) (w:World) (K:PySem.W.Frag) (tg:Expr) (J:It) (fp:List Addr) (it:Addr) (tn:Nat->Heap->Prop):Prop where
 obj:∀i h,tn i h->∀b ∈ fp,∃o,h.get? b=some o∧∀v,o.data ≠ .cell v
 keep:∀i h h',tn i h->(∀b ∈ fp,∀o,h.get? b=some o->h'.get? b=some o)->tn i h'
 item:∀(X:Cx),X.prog=P->X.w=w->X.K=K->cal X->∀(i:Nat) (pins:List (Addr × Obj)) (s:Shared) (σ:St) (H:Hp) (E:Value->Shared->Prop),Inv X pins σ H s->(∀b ∈ fp,dz X pins H b)->tn i s.heap->J.go i H ->
  wpAny (model P w) X.A (pyNext (.ref it)) (fun r s1=>∃u,r=some u ∧
   wpAny (model P w) X.A (letOwnedTupleGo tg (.ref it) u) (fun _ s2=>∃x H',Inv X pins σ H' s2∧RelV x u∧J.yld i H x H' ∧ tn (i + 1) s2.heap∧∀b ∈ fp,H' b=none) E s1) E s
 done:∀(X:Cx),X.prog=P->X.w=w->X.K=K->cal X->∀(i:Nat) (pins:List (Addr × Obj)) (s:Shared) (σ:St) (H:Hp) (E:Value->Shared->Prop),Inv X pins σ H s->(∀b ∈ fp,dz X pins H b)->tn i s.heap->J.stop i H ->
  wpAny (model P w) X.A (pyNext (.ref it)) (fun r s1=>r=none∧Inv X pins σ H s1) E s
 self:∀(A:Around) (i:Nat) (s:Shared) (Q:Value->Shared->Prop) (E:Value->Shared->Prop),tn i s.heap->Q (.ref it) s->wpAny (model P w) A (pyIter (.ref it)) Q E s
noncomputable def Nf(cal:Cx->Prop)(X:Cx)(tg iter:Expr)(I:TI):Prop:=
 ∀(pins:List (Addr×Obj))(s:Shared)(σ:St)(H:Hp)(R:It->Hp->Prop),Inv X pins σ H s->I σ H R->
  wpAny (model X.prog X.w) X.A (eval iter X.env) (λ v s1=>wpAny (model X.prog X.w) X.A (pyIter v) (λ o s2=>∃(it:Addr) (fp:List Addr) (C:Nat->Heap->Prop) (J:It) (H':Hp),o= .ref it/\Inv X pins σ H' s2/\K4 cal X.prog X.w X.K tg J fp it C/\C 0 s2.heap/\(∀b∈fp,dz X pins H' b)/\R J H') X.xe s1) X.xe s
theorem PI.g(h:PI X tg iter o):Nf (λ X=>X.calm=true) X tg iter o:= λ pins s σ H R I q=>
 cf (h pins s σ H R I q) λ _ _ h=>cf h λ _ _ ⟨it,fp,C,J,H',e,U,T,r⟩=>⟨it,fp,C,J,H',e,U,⟨T.obj,T.keep,T.item,T.done,T.self⟩,r⟩
noncomputable def wB(wi:TI)(own:Nat)(g:TG)(tt:TT)(te:TE):TE:= λ σ H Q=>wi σ H λ J H1=>∀l,H1 l=none->∃W:Nat->Nat->List V->Hp->Prop,(∃m,W 0 m [] (upd H1 l (.lst [])))/\∀i m acc H,W i m acc H->
 H l=some (.lst acc)/\((J.stop i H/\Q (.ref l) H)\/(J.go i H/\∀x H',J.yld i H x H'->g x (σ++List.replicate own none) H' λ o H2=>o.take σ.length=σ/\tt o H2 λ b I=>
  if b=true then te o I λ v U=>U l=some (.lst acc)/\acc.length<sizeLine/\∃C,C<m/\W (i+1) C (acc++[v]) (upd U l (.lst (acc++[v])))
  else∃C,C<m/\W (i+1) C acc I))
noncomputable abbrev Pl:=Env->Addr->Value->(Shared->Prop)->Shared->Prop
noncomputable abbrev P0(P:Program)(w:World)(A:Around)(tg:Expr)(ifs:List Expr)(elt:Expr)(n:String):Pl:= λ env l v K s=>wpAny (model P w) A (assign tg env v) (λ _ s=>wpAny (model P w) A (forIn ifs true λ c r=>if r=true then do let ok<- isTrue c env (eval c env);pure (ForInStep.yield ok)else pure (ForInStep.yield r)) (λ ok s=>
 if ok=true then wpAny (model P w) A (eval elt env) (λ y s=>wpAny (model P w) A (call (.builtin n) [.ref l,y]) (λ _=>K) (λ _ _=>False) s) (λ _ _=>False) s else K s) (λ _ _=>False) s) (λ _ _=>False) s
section
variable {X:Cx} {elt tg iter:Expr} {ifs:List Expr} {scope:Scope} {pos pos':Pos} {N' own:List Str} {wi:TI} {g:TG} {tt:TT} {te:TE}
theorem yD{gs:List Comprehension}(hc:∀s H fp pins,cal (blk X N' own scope s H fp pins))(hi:Nf cal X tg iter wi)(hk:scope.kind= .function)(hS:cT N' own X.env.scope scope=true)(hM:cQ X.N N' scope=true)(hs:∀x,foldedSetIterable iter X.env x=pure x)
  {nw:Obj}{ob:Addr->HO}(bd:Pl)(hl:clausesOf Ce=⟨tg,iter,ifs,0⟩::gs){use:Option (Value->Sem Unit)}{Q0:Value->Shared->Prop}{pins:List (Addr×Obj)}{Q:VK}{M:It->Hp->Prop}(I:Inv X pins σ H s)(h:wi σ H M)
  (nN:∀{s P},P (.ref s.heap.objs.size) { s with heap:=s.heap.push nw }->wpAny (model X.prog X.w) X.A mk P X.xe s)
  (nI:∀{H s},Inv X pins σ H s->Inv X pins σ (upd H s.heap.objs.size (ob s.heap.objs.size)) { s with heap:=s.heap.push nw })
  (lp:∀{env it l R s}(I:Nat->Shared->Prop),(∀n s,I n s->wpAny (model X.prog X.w) X.A (pyNext it) (λ r s1=>match r with
   |none=>R (.ok .next) s1
   |some v=>wpAny (model X.prog X.w) X.A (letOwnedTupleGo tg it v) (λ _=>bd env l v λ s=>∃m,m<n/\I m s) (λ _ _=>False) s1) (λ _ _=>False) s)->∀n,I n s->codeAny (model X.prog X.w) X.A (.compLoop Ce 0 it (.ref l) env) R s)
  (sl:∀{env it l R s},codeAny (model X.prog X.w) X.A (.compLoop Ce 0 it (.ref l) env) R s->(∀E,wpAny (model X.prog X.w) X.A (pyIter it) (λ o=>codeAny (model X.prog X.w) X.A (.compLoop Ce 0 o (.ref l) env) R) E s)->codeAny (model X.prog X.w) X.A (.compStart Ce 0 it (.ref l) env) R s)
  (bo:∀J H1 l,M J H1->H1 l=none->∃W:Nat->Nat->Hp->Prop,(∃m,W 0 m (upd H1 l (ob l)))/\∀i m H,W i m H->(J.stop i H/\Q (.ref l) H)\/(J.go i H/\∀x H',J.yld i H x H'->∀s3 H3 fp ps s u K,Inv (blk X N' own scope s3 H3 fp pins) ps (σ++List.replicate own.length none) H' s->RelV x u->
   (∀{o H s C},Inv (blk X N' own scope s3 H3 fp pins) ps o H s->o.take σ.length=σ->C<m->W (i+1) C H->K s)->bd (blk X N' own scope s3 H3 fp pins).env l u K s))
  (fin:∀(l:Addr)(H':Hp)(s':Shared)(C:Addr)(m:Str->Option Value),Inv X pins σ H' s'->Q (.ref l) H'->s'.heap.Ns C m->H' C=none->C≠X.env.locals->X.s₀.heap.objs.size<=C->(∀x c,X.env.cells.lookup x=some c->c≠C)->(∀p∈X.pn++pins,p.1≠C)->
   compPost (model X.prog X.w) X.A X.xe use Q0 (.ref l) C (.ok .next) s'):
  wpAny (model X.prog X.w) X.A (comprehension Ce scope X.env pos' mk false (eval iter X.env) use) Q0 X.xe s:=by
 have S:=hX hS;have Mk:=ia hM;refine WS hl hs (dZ λ n hn=>I.ok.has n (S.free n hn)) hk S.loc (cf (hi pins s σ H _ I h) λ xv s1 h1=>cf h1 λ aN s2 h2=>?_);obtain⟨it,fp,tn,J,H2,e,I2,T,ak,f2,q2⟩:=h2;subst e;refine nN ?_;have I3:=nI I2;obtain⟨W,⟨m0,w0⟩,turn⟩:=bo _ _ _ q2 I2.fresh;generalize hl:s2.heap.objs.size=l at*;have ao:∀b∈fp,b<l:= λ b U=>by obtain⟨o,e,_⟩:=T.obj _ _ ak b U;rw[<- hl];exact wN e
 have aq:tn 0 (s2.heap.push nw):=T.keep _ _ _ ak λ b _ o e=>zS _ e;have ar:l<(s2.heap.push nw).objs.size:=by rw[QM,hl];exact VR _
 have f3:∀b∈fp,dz X pins (upd H2 l (ob l)) b:= λ b U=>⟨by rw[aY (QB (ao b U))];exact(f2 b U).1,(f2 b U).2⟩;generalize aB:({ s2 with heap:=s2.heap.push nw }:Shared)=s3 at I3 |-;have aC:s3.heap=s2.heap.push nw:=by rw[<- aB]
 rw[<- aC]at aq ar;have ah:∀b∈fp,b<s3.heap.objs.size:= λ b U=>Nat.lt_trans (ao b U) ar;generalize upd H2 l (ob l)=H3 at*;refine gu ?_;have IY:=I3.blk f3 ah hk S Mk;have aw:tn 0 (pushCells (s3.heap.push { cls:= .type "dict",data:= .dict #[] }) scope.names):=T.keep _ _ _ aq λ b _ o e=>@Inv.blkKeep s3 scope b o e;have ae:=hO I3 S;have aa:∀{H':Hp},(∀b∈fp,H' b=none)->∀b∈fp,dz (blk X N' own scope s3 H3 fp pins) [] H' b:= λ hn b U=>by
  refine⟨hn b U,QB (ah b U),λ z=>?_,.inl U,λ x c h=>?_,λ p hp=>?_⟩
  .rcases uS.mp (I3.stkSub b z)with z|z
   .exact(f3 b U).2.1 z
   .exact(f3 b U).2.2.1 z
  .rcases ae x c h with⟨_,_,a3,_⟩|⟨a1,_,_⟩
   .intro z;subst z;exact absurd (ah _ U) (Y5.mpr (VH a3))
   .exact(f3 b U).2.2.2.2.1 x c a1
  .have aD:p∈X.pn++pins:=by
    rcases uT.mp hp with z|z
    .exact z
    .exact nomatch z
   exact(f3 b U).2.2.2.2.2 p aD
 have loop:codeAny (model X.prog X.w) X.A (.compLoop Ce 0 (.ref it) (.ref l) (blk X N' own scope s3 H3 fp pins).env)
   (compPost (model X.prog X.w) X.A X.xe use Q0 (.ref l) s3.heap.objs.size) { s3 with heap:=pushCells (s3.heap.push { cls:= .type "dict",data:= .dict #[] }) scope.names }:=by
  refine lp (λ n s'=>∃i ab H',Inv (blk X N' own scope s3 H3 fp pins) [] ab H' s'/\ab.take σ.length=σ/\tn i s'.heap/\(∀b∈fp,H' b=none)/\W i n H') ?_ m0
   ⟨0,_,H3,IY,by rw[YB] <;> rfl,aw,λ b U=>(f3 b U).1,w0⟩;rintro n s5 ⟨i,ax,H5,I5,e5,ay,az,w5⟩;rcases turn i n H5 w5 with⟨stop,q⟩|⟨go,step⟩
  .refine QE (T.done (blk X N' own scope s3 H3 fp pins) rfl rfl rfl (hc _ _ _ _) i [] s5 ax H5 (λ _ _=>False) I5 (aa az) ay stop) (λ r s6 hr=>?_) λ _ _ z=>z;obtain⟨rfl,I6⟩:=hr;obtain⟨m,hn,_⟩:=id I6.loc;refine fin l H5 s6 _ m (I3.unblk f3 I6) q hn I6.free (VG I3.lt) I3.sz (λ x c e z=>?_) λ p hp z=>?_;. obtain⟨v,qc⟩:=I3.cell x c e;exact absurd qc.lt (by rw[z];exact Q8 _)
   .exact absurd (wN (I3.pin p hp).1) (by rw[z];exact Q8 _)
  .have ai:ax.length=(σ++List.replicate own.length none).length:=by rw[I5.len,fR,VQ,I.len];show(N'++own).length=_;rw[fR,Mk.len]
   have aE:Inv (blk X N' own scope s3 H3 fp pins) [] (σ++List.replicate own.length none) H5 s5:=I5.weak ai.symm λ j v e=>by
    have hj:j<σ.length:=by
     by_cases hj:j<σ.length;. exact hj
     .rw[Q2 (by omega),VF]at e;split at e <;> cases e
    rw[QF hj]at e;rw[<- e5,QP hj]at e;exact e
   refine QE (T.item (blk X N' own scope s3 H3 fp pins) rfl rfl rfl (hc _ _ _ _) i [] s5 _ H5 (λ _ _=>False) aE (aa az) ay go) (λ r s6 hr=>?_) λ _ _ z=>z;obtain⟨u,rfl,h6⟩:=hr;refine cf h6 λ _ s7 ⟨x,H7,I7,r7,y7,aj,aF⟩=>step x H7 y7 _ _ _ _ s7 u _ (I7.pinned (aa aF) (T.obj _ _ aj)) r7 λ {af Ha sa m'} Ia e8 hm wa=>?_
   refine⟨m',hm,i+1,af,Ha,Ia.unpinned,e8,T.keep _ _ _ aj λ b U o e=>(Ia.pin (b,o) (uP _ (uP _ (cG U e)))).1,λ b U=>?_,wa⟩;obtain⟨o,e,d⟩:=T.obj _ _ aj b U;exact(Ia.pin (b,o) (uP _ (uP _ (cG U e)))).2.1
 exact sl loop λ E=>T.self _ 0 _ _ _ aw loop
theorem vT(hc:∀s H fp pins,cal (blk X N' own scope s H fp pins))(hi:Nf cal X tg iter wi)(hk:scope.kind= .function)(hS:cT N' own X.env.scope scope=true)(hM:cQ X.N N' scope=true)
  (hg:∀s H fp pins,PG (blk X N' own scope s H fp pins) tg g)(ht:∀s H fp pins,pg (blk X N' own scope s H fp pins) ifs tt)(he:∀s H fp pins,PE (blk X N' own scope s H fp pins) elt te)
  (hs:∀x,foldedSetIterable iter X.env x=pure x){use:Option (Value->Sem Unit)}{Q0:Value->Shared->Prop}{pins:List (Addr×Obj)}{s:Shared}{σ:St}{H:Hp}{Q:VK}(I:Inv X pins σ H s)(h:wB wi own.length g tt te σ H Q)
  (fin:∀(l:Addr)(H':Hp)(s':Shared)(C:Addr)(m:Str->Option Value),Inv X pins σ H' s'->Q (.ref l) H'->s'.heap.Ns C m->H' C=none->C≠X.env.locals->X.s₀.heap.objs.size<=C->(∀x c,X.env.cells.lookup x=some c->c≠C)->(∀p∈X.pn++pins,p.1≠C)->
   compPost (model X.prog X.w) X.A X.xe use Q0 (.ref l) C (.ok .next) s'):
  wpAny (model X.prog X.w) X.A (comprehension (.ListComp elt [⟨tg,iter,ifs,0⟩] scope pos) scope X.env pos' (newList []) false (eval iter X.env) use) Q0 X.xe s:=by
 refine yD (Q:=Q) (ob:= λ _=> .lst []) hc hi hk hS hM hs (P0 X.prog X.w X.A tg ifs elt "list.append") rfl I h (λ h=>QN h) (λ I=>I.lnew (its:=[]) .nil (QV _)) (λ I h=>oZ I h) (λ h k=>codeAny_compStart_list h (k _)) (λ J H1 l q hn=>?_) fin
 obtain⟨W,⟨m0,w0⟩,turn⟩:=q l hn;refine⟨λ i m H=>∃C,W i m C H,⟨m0,_,w0⟩,λ i m H⟨acc,w⟩=>(turn i m acc H w).2.imp_right λ⟨go,step⟩=>⟨go,λ x H' y s3 H3 fp ps s u K I r ag=>?_⟩⟩
 refine cf (hg s3 H3 fp pins _ s _ H' x u _ I r (step x H' y)) λ _ s8 ⟨o,H8,I8,e8,q8⟩=>cf (ht s3 H3 fp pins _ s8 o H8 _ I8 q8) λ b s9 ⟨H9,I9,q9⟩=>?_;cases b with
 |false=>obtain⟨m',hm,wa⟩:=q9;exact ag I9 e8 hm ⟨_,wa⟩
 |true=>exact cf (he s3 H3 fp pins _ s9 o H9 _ I9 q9) λ y s10 ⟨v,H10,I10,rv,a10,z10,m',hm,wa⟩=>cf (ny _ s10 o H10 (.ref l) [v] (.ref l) [y] (λ _ Hb=>Hb=upd H10 l (.lst (acc++[v]))) I10 rfl (.cons rv .nil) ⟨l,acc,v,rfl,rfl,a10,z10,rfl⟩) λ _ s11 ⟨_,Hb,Ib,_,eb⟩=>by subst eb;exact ag Ib e8 hm ⟨_,wa⟩
theorem EL(J:PI X tg iter wi)(U:∀s H fp pins,PG (blk X N' own scope s H fp pins) tg g)(ht:∀s H fp pins,pg (blk X N' own scope s H fp pins) ifs tt)(he:∀s H fp pins,PE (blk X N' own scope s H fp pins) elt te)
  (hS:cT N' own X.env.scope scope=true:=by rfl)(hM:cQ X.N N' scope=true:=by rfl)(hk:scope.kind= .function:=by rfl)(hc:X.calm=true:=by rfl)(hs:∀x,foldedSetIterable iter X.env x=pure x:=by intro _;rfl):
  PE X (.ListComp elt [⟨tg,iter,ifs,0⟩] scope pos) (wB wi own.length g tt te):=by intro pins s σ H Q I h;refine vT (use:=none) (cal:= λ X=>X.calm=true) (λ _ _ _ _=>hc) J.g hk hS hM U ht he hs I h λ l H' s' C m I' q hn h1 h2 h3 h4 h5=>?_;refine⟨m,hn,λ h' sb=>⟨.ref l,H',?_,rfl,q⟩⟩;exact I'.turned (t':=s'.toks) (λ b o hb e=>(sb.2 b hb).trans e) h1 h2 (.inr h3) h4 h5
theorem FV{J U:Pos}(hN:X.N.Nodup)(aa:X.N[i]?=some x)(hx:X.env.scope.names.lookup x=some .local)
  (hi:PI X tg iter wi)(hg:∀s H fp pins,PG (blk X N' own scope s H fp pins) tg g)(ht:∀s H fp pins,pg (blk X N' own scope s H fp pins) ifs tt)(he:∀s H fp pins,PE (blk X N' own scope s H fp pins) elt te)
  (ab:swapsWith (.ListComp elt [⟨tg,iter,ifs,0⟩] scope pos) (some (.Name x J)) U.line X.env=pure true:=by rfl)
  (hS:cT N' own X.env.scope scope=true:=by rfl)(hM:cQ X.N N' scope=true:=by rfl)(hk:scope.kind= .function:=by rfl)(hc:X.calm=true:=by rfl)(hs:∀x,foldedSetIterable iter X.env x=pure x:=by intro _;rfl):
  PS X (.Assign [.Name x J] (.ListComp elt [⟨tg,iter,ifs,0⟩] scope pos) U) (CU (wB wi own.length g tt te) (qE i)):=by
 intro pins s σ H D I h;rw[exec_Assign_Name_used _ _ _ _ ab];refine zN (Z7 (zN ?_));refine zN (QE (Q:= λ _ s'=>SP X pins D .next s') ?_ (λ _ s' hq=>kT (kT hq)) λ _ _ e=>e);refine vT (use:=some (assign (.Name x J) X.env)) (cal:= λ X=>X.calm=true) (λ _ _ _ _=>hc) hi.g hk hS hM hg ht he hs I h λ l H' s' C m I' q hn h1 h2 h3 h4 h5=>?_;refine wpAny_assign_Name (mN I' hN aa (.inl hx) (v:= .ref l) (u:= .ref l) rfl (λ ae af ag=>?_) (.inr hx));obtain⟨a,sb,ha⟩:=ag;have ah:C≠a:=by grind
 refine⟨m,hn.sameBut sb ah,λ h' ai=>⟨σ.set i (some (.ref l)),H',?_,q⟩⟩;exact af.turned (t':=ae.toks) (λ b o hb e=>(ai.2 b hb).trans e) h1 h2 (.inr h3) h4 h5
end
end L2
namespace Jt
open PySem L2
inductive D where
 | non | bl (b:Bool) | int (i:Int) | str (x:Str) | tup (xs:List D) | lst (xs:List D) | dct | dic (kvs:List (Int × Int)) | dip (kvs:List ((Int × Int) × Int))
noncomputable def Cm(a:Addr):HO:= .ext λ h=>a≠sysModules/\∃o n,h.get? a=some o/\o.cls= .type "dict"/\o.data= .dict #[] n
noncomputable abbrev i9(kvs:List (Int×Int)):HO:= .dK (kvs.map λ p=>(.inl p.1,.int p.2))
noncomputable abbrev ff(kvs:List ((Int×Int)×Int)):HO:= .dT (kvs.map λ p=>([.inl p.1.1,.inl p.1.2],.int p.2))
mutual
noncomputable def R (H:Hp):D->V->Prop
 | .non,v=>v=.non
 | .bl b,v=>v=.bl b
 | .int i,v=>v=.int i
 | .str x,v=>v=.str x
 | .tup ds,v=>∃a vs,v=.ref a∧H a=some (.tup vs)∧Rs H ds vs
 | .lst ds,v=>∃a vs,v=.ref a∧Rd H a (.lst vs)∧Rs H ds vs
 | .dct,v=>∃a,v=.ref a∧H a=some (Cm a)
 | .dic kvs,v=>∃a,v=.ref a∧H a=some (i9 kvs)
 | .dip kvs,v=>∃a,v=.ref a∧H a=some (ff kvs)
noncomputable def Rs (H:Hp):List D->List V->Prop
 | [],vs=>vs=[]
 | d :: ds,vs=>∃v r,vs=v :: r∧R H d v∧Rs H ds r
end
theorem Rd.mono(m:∀b o,H b=some o->H' b=some o)(h:Rd H a u):Rd H' a u:=by
 rcases h with h|⟨o,h⟩
 .exact .inl (m _ _ h)
 .exact .inr ⟨o,m _ _ h⟩
mutual
theorem R.mono {H H':Hp} (m:∀b o,H b=some o->H' b=some o):∀(d:D) (v:V),R H d v->R H' d v
 | .non,v,h=>by unfold R at *;exact h
 | .bl b,v,h=>by unfold R at *;exact h
 | .int i,v,h=>by unfold R at *;exact h
 | .str x,v,h=>by unfold R at *;exact h
 | .tup ds,v,h=>by
  unfold R at *
  obtain ⟨a,vs,e,h1,h2⟩:=h
  exact ⟨a,vs,e,m _ _ h1,Rs.mono m ds vs h2⟩
 | .lst ds,v,h=>by
  unfold R at *
  obtain ⟨a,vs,e,h1,h2⟩:=h
  exact ⟨a,vs,e,Rd.mono m h1,Rs.mono m ds vs h2⟩
 | .dct,v,h=>by
  unfold R at *
  obtain ⟨a,e,h1⟩:=h
  exact ⟨a,e,m _ _ h1⟩
 | .dic kvs,v,h=>by
  unfold R at *
  obtain ⟨a,e,h1⟩:=h
  exact ⟨a,e,m _ _ h1⟩
 | .dip kvs,v,h=>by
  unfold R at *
  obtain ⟨a,e,h1⟩:=h
  exact ⟨a,e,m _ _ h1⟩
theorem Rs.mono {H H':Hp} (m:∀b o,H b=some o->H' b=some o):∀(ds:List D) (vs:List V),Rs H ds vs->Rs H' ds vs
 | [],vs,h=>by unfold Rs at *;exact h
 | d :: ds,vs,h=>by
  unfold Rs at *
  obtain ⟨v,r,e,h1,h2⟩:=h
  exact ⟨v,r,e,R.mono m d v h1,Rs.mono m ds r h2⟩
end
theorem Rs.nil:Rs H [] []:=by rfl
theorem Rs.cons{H:Hp}{d:D}{v:V}{ds:List D}{vs:List V}(h:R H d v)(t:Rs H ds vs):Rs H (d::ds) (v::vs):=⟨v,vs,rfl,h,t⟩
theorem Rs.inv(h:Rs H (d::ds) vs):∃v r,vs=v::r/\R H d v/\Rs H ds r:=h
theorem Rs.inv0(h:Rs H [] vs):vs=[]:=h
theorem Rs.head (h:Rs H (d :: ds) (v :: vs)):R H d v:= by
 obtain ⟨v',r,e,h1,h2⟩:=h.inv;simp_all
theorem Rs.tail (h:Rs H (d :: ds) (v :: vs)):Rs H ds vs:= by
 obtain ⟨v',r,e,h1,h2⟩:=h.inv;simp_all
theorem Rs.length:∀{ds:List D}{vs:List V},Rs H ds vs->vs.length=ds.length
 |[],vs,h=>by rw[h.inv0];rfl
 |d::ds,vs,h=>by obtain⟨v,r,e,_,o⟩:=h.inv;subst e;simp[Rs.length o]
theorem Rs.append:∀{ds es:List D}{vs us:List V},Rs H ds vs->Rs H es us->Rs H (ds++es) (vs++us)
 |[],es,vs,us,h,t=>by rw[h.inv0];exact t
 |d::ds,es,vs,us,h,t=>by obtain⟨v,r,e,o,C⟩:=h.inv;subst e;exact .cons o (Rs.append C t)
theorem Rs.left:∀{ds es:List D}{vs us:List V},vs.length=ds.length->Rs H (ds++es) (vs++us)->Rs H ds vs
 |[],es,[],us,_,h=> .nil
 |d::ds,es,v::vs,us,l,h=> .cons h.head (Rs.left (by simp_all) h.tail)
 |[],_,_::_,_,l,_=>by cases l
 |_::_,_,[],_,l,_=>by cases l
theorem Rs.right:∀{ds es:List D}{vs us:List V},vs.length=ds.length->Rs H (ds++es) (vs++us)->Rs H es us
 |[],es,[],us,_,h=>h
 |d::ds,es,v::vs,us,l,h=>Rs.right (ds:=ds) (vs:=vs) (by simpa using l) h.tail
 |[],_,_::_,_,l,_=>by cases l
 |_::_,_,[],_,l,_=>by cases l
theorem Rs.get:∀{ds:List D}{vs:List V}{i:Nat}{d:D},Rs H ds vs->ds[i]?=some d->∃v,vs[i]?=some v/\R H d v
 |[],_,_,_,_,e=>by simp at e
 |d::ds,vs,0,d',h,e=>by obtain⟨v,r,o,C,I⟩:=h.inv;subst o;simp at e;subst e;exact⟨v,rfl,C⟩
 |d::ds,vs,i+1,d',h,e=>by obtain⟨v,r,o,C,I⟩:=h.inv;obtain⟨J,e2,U⟩:=Rs.get (i:=i) I (by simpa using e);exact⟨J,by simp_all,U⟩
theorem R.tup{H:Hp}{ds:List D}{v:V}(h:R H (.tup ds) v):∃a vs,v= .ref a/\H a=some (.tup vs)/\Rs H ds vs:=h
theorem R.lst{H:Hp}{ds:List D}{v:V}(h:R H (.lst ds) v):∃a vs,v= .ref a/\Rd H a (.lst vs)/\Rs H ds vs:=h
theorem R.dct(h:R H .dct v):∃a,v= .ref a/\H a=some (Cm a):=h
theorem R.dic(h:R H (.dic kvs) v):∃a,v= .ref a/\H a=some (i9 kvs):=h
theorem R.mkDic(h:H a=some (i9 kvs)):R H (.dic kvs) (.ref a):=⟨a,rfl,h⟩
theorem R.dip(h:R H (.dip kvs) v):∃a,v= .ref a/\H a=some (ff kvs):=h
theorem R.mkDip(h:H a=some (ff kvs)):R H (.dip kvs) (.ref a):=⟨a,rfl,h⟩
theorem R.int(h:R H (.int i) v):v= .int i:=h
theorem R.bl(h:R H (.bl i) v):v= .bl i:=h
theorem R.str(h:R H (.str i) v):v= .str i:=h
theorem R.non(h:R H .non v):v= .non:=h
theorem R.mkI:R H (.int i) (.int i):=by rfl
theorem R.mkB:R H (.bl i) (.bl i):=by rfl
theorem R.mkN:R H .non .non:=by rfl
theorem R.mkT{ds:List D}{vs:List V}(h:H a=some (.tup vs))(t:Rs H ds vs):R H (.tup ds) (.ref a):=⟨a,vs,rfl,h,t⟩
theorem R.mkL{vs:List V}(h:Rd H a (.lst vs))(t:Rs H ds vs):R H (.lst ds) (.ref a):=⟨a,vs,rfl,h,t⟩
inductive Slot where
 | un | pu (d:D) | ow (b:Bool) (xs:List D) | od (ks:List (List Int))
noncomputable abbrev DS:=List Slot
structure Ct where
 Z:Hp
 B:List Addr
 H0:Hp
noncomputable def P5(o:DS)(σ:St)(a:Addr):Prop:=∃(i:Nat) (b:Bool) (xs:List D),o[i]?=some (.ow b xs)/\σ[i]?=some (some (.ref a))
noncomputable abbrev PV(ks:List (List Int)):HO:= .dT (ks.map λ k=>(k.map .inl,.bl true))
noncomputable def PJ(o:DS)(σ:St)(a:Addr):Prop:=∃(i:Nat) (ks:List (List Int)),o[i]?=some (.od ks)/\σ[i]?=some (some (.ref a))
noncomputable def Oa(o:DS)(σ:St)(a:Addr):Prop:=P5 o σ a\/PJ o σ a
open Classical in
noncomputable def FX(p:Addr->Prop)(H:Hp):Hp:= λ a=>if p a then none else H a
noncomputable def Hd(c:Ct)(C:DS)(σ:St)(a:Addr):Prop:=(∃o,c.Z a=some o)\/Oa C σ a
noncomputable abbrev fv(c:Ct)(o:DS)(σ:St)(H:Hp):Hp:=FX (Hd c o σ) H
theorem cN:FX p H a=some o↔ ¬p a/\H a=some o:=by unfold FX;simp
theorem bK{p q:Addr->Prop}{H H':Hp}(J:∀a o,H a=some o->q a->p a)(U:∀a o,¬p a->H a=some o->H' a=some o):∀b o,FX p H b=some o->FX q H' b=some o:= λ b o h=>by obtain⟨C,I⟩:=cN.mp h;exact cN.mpr ⟨λ z=>C (J b o I z),U b o C I⟩
noncomputable def Ku(Z H:Hp):Prop:=∀a o,Z a=some o->H a=some o/\∀xs,o≠ .tup xs
structure Sl (c:Ct) (δ:DS) (S:List D) (σ:St) (T:List V) (H:Hp):Prop where
 len:δ.length=σ.length
 pu:∀(i:Nat) d,δ[i]? = some (.pu d)->∃v,σ[i]? = some (some v)∧R (fv c δ σ H) d v
 ow:∀(i:Nat) b xs,δ[i]? = some (.ow b xs)->∃a vs,σ[i]? = some (some (.ref a))∧H a=some (.lst vs)∧Rs (fv c δ σ H) xs vs∧(b=true->a ∈ c.B)∧(b=false->a ∉ c.B∧c.H0 a=none)∧c.Z a=none
 ne:∀(i j:Nat) b b' xs ys a,δ[i]? = some (.ow b xs)->δ[j]? = some (.ow b' ys)->σ[i]? = some (some (.ref a))->σ[j]? = some (some (.ref a))->i=j
 st:Rs (fv c δ σ H) S T
 keep:∀b o,b ∉ c.B->c.H0 b=some o->H b=some o
 bb:∀b ∈ c.B,∃o,H b=some o
 zk:Ku c.Z H
 od:∀(i:Nat) ks,δ[i]? = some (.od ks)->∃a,σ[i]? = some (some (.ref a))∧H a=some (PV ks)∧a ∉ c.B∧c.H0 a=none∧c.Z a=none
 nd:∀(i j:Nat) ks ls a,δ[i]? = some (.od ks)->δ[j]? = some (.od ls)->σ[i]? = some (some (.ref a))->σ[j]? = some (some (.ref a))->i=j
section
variable {c:Ct} {δ:DS} {S:List D} {σ:St} {T:List V} {H:Hp}
theorem Sl.zz(s:Sl c δ S σ T H):∀a o,c.Z a=some o->H a=some o:= λ a o h=>(s.zk a o h).1
theorem Sl.hdSome(s:Sl c δ S σ T H){a:Addr}(h:Hd c δ σ a):∃o,H a=some o:=by
 rcases h with⟨o,h⟩|⟨i,b,xs,C,I⟩|⟨i,ks,C,I⟩
 .exact⟨o,s.zz _ _ h⟩
 .obtain⟨U,vs,e,J,_⟩:=s.ow i b xs C;simp_all
 .obtain⟨U,e,J,_⟩:=s.od i ks C;rw[I]at e;cases e;exact⟨_,J⟩
theorem Sl.stk(s:Sl c δ S σ T H){S':List D}{T':List V}(h:Rs (fv c δ σ H) S' T'):Sl c δ S' σ T' H:=⟨s.len,s.pu,s.ow,s.ne,h,s.keep,s.bb,s.zk,s.od,s.nd⟩
theorem Sl.pop(s:Sl c δ (d::S) σ (v::T) H):Sl c δ S σ T H:=s.stk s.st.tail
theorem Sl.grow(s:Sl c δ S σ T H){H':Hp}(g:Cu H H'):Sl c δ S σ T H':=by
 have m:∀b o,fv c δ σ H b=some o->fv c δ σ H' b=some o:=bK (λ _ _ _ z=>z) λ a o _ h=>g a o h;refine⟨s.len,λ i d h=>?_,λ i b xs h=>?_,s.ne,s.st.mono m,λ b o C I=>g _ _ (s.keep b o C I),λ b U=>?_,λ a o hz=>⟨g _ _ (s.zz a o hz),(s.zk a o hz).2⟩,λ i ks h=>?_,s.nd⟩;. obtain⟨v,e,r⟩:=s.pu i d h;exact⟨v,e,r.mono m⟩
 .obtain⟨a,vs,e,C,I,J⟩:=s.ow i b xs h;exact⟨a,vs,e,g _ _ C,I.mono m,J⟩
 .obtain⟨o,h⟩:=s.bb b U;exact⟨o,g _ _ h⟩
 .obtain⟨a,e,C,J⟩:=s.od i ks h;exact⟨a,e,g _ _ C,J⟩
theorem fK(h:H p=none)(o:HO):Cu H (upd H p o):= λ b u q=>by rw[aY (bC q h)];exact q
theorem Sl.hdNew(s:Sl c δ S σ T H){p:Addr}(h:H p=none): ¬Hd c δ σ p:= λ z=>by obtain⟨o,e⟩:=s.hdSome z;simp_all
theorem Sl.fresh(s:Sl c δ S σ T H){p:Addr}(h:H p=none):c.Z p=none/\p∉c.B/\c.H0 p=none:=by
 have hB:p∉c.B:= λ z=>by obtain⟨o,e⟩:=s.bb p z;simp_all
 refine⟨?_,hB,?_⟩;. cases e:c.Z p with
  |none=>rfl
  |some o=>have:=s.zz p o e;rw[h]at this;cases this
 .cases e:c.H0 p with
  |none=>rfl
  |some o=>have:=s.keep p o hB e;rw[h]at this;cases this
theorem Sl.newTup(s:Sl c δ (ds++S) σ (vs++T) H)(l:vs.length=ds.length){p:Addr}(h:H p=none):Sl c δ (.tup ds::S) σ (.ref p::T) (upd H p (.tup vs)):=by have o:=s.grow (fK h (.tup vs));exact o.stk (.cons (.mkT (cN.mpr ⟨s.hdNew h,bj⟩) (o.st.left l)) (o.st.right l))
theorem Sl.hide(s:Sl c δ S σ T H){p:Addr}{o:HO}(h:H p=none)(hn:∀xs,o≠ .tup xs:=by exact λ _ h=>nomatch h):Sl { c with Z:=upd c.Z p o } δ S σ T (upd H p o):=by
 have g:=fK h o;have m:∀b u,fv c δ σ H b=some u->fv { c with Z:=upd c.Z p o } δ σ (upd H p o) b=some u:=bK (λ a u e z=>by
  rcases z with⟨w,z⟩|z
  .have:a≠p:= λ q=>by rw[q,h]at e;cases e
   exact .inl ⟨w,(show c.Z a=upd c.Z p o a from(aY this).symm).trans z⟩
  .exact .inr z) λ a u _ e=>g a u e;refine⟨s.len,λ i d e=>?_,λ i b xs e=>?_,s.ne,s.st.mono m,λ b u I J=>g _ _ (s.keep b u I J),λ b hb=>?_,λ a u hz=>?_,λ i ks e=>?_,s.nd⟩;. obtain⟨v,e,r⟩:=s.pu i d e;exact⟨v,e,r.mono m⟩
 .obtain⟨a,vs,e,I,J,U,h4,h5⟩:=s.ow i b xs e;refine⟨a,vs,e,g _ _ I,J.mono m,U,h4,?_⟩;show upd c.Z p o a=none;rw[aY λ q=>by rw[q,h]at I;cases I];omega
 .obtain⟨u,e⟩:=s.bb b hb;exact⟨u,g _ _ e⟩
 .have C:upd c.Z p o a=some u:=hz;by_cases q:a=p;. subst q;rw[bj]at C|-;exact⟨C,by cases C;exact hn⟩
  .rw[aY q]at C|-;exact s.zk a u C
 .obtain⟨a,e,I,U,h4,h5⟩:=s.od i ks e;refine⟨a,e,g _ _ I,U,h4,?_⟩;show upd c.Z p o a=none;rw[aY λ q=>by rw[q,h]at I;cases I];exact h5
theorem Sl.noOw(s:Sl { c with Z:=upd c.Z p o } δ S σ T H): ¬Oa δ σ p:= λ z=>by
 rcases z with⟨i,b,xs,I,J⟩|⟨i,ks,I,J⟩
 .obtain⟨a,vs,e,_,_,_,_,U⟩:=s.ow i b xs I;rw[J]at e;cases e;have C:upd c.Z p o p=none:=U;rw[bj]at C;grind
 .obtain⟨a,e,_,_,_,U⟩:=s.od i ks I;rw[J]at e;cases e;have C:upd c.Z p o p=none:=U;rw[bj]at C;cases C
theorem Sl.hideSet(J:HO)(s:Sl { c with Z:=upd c.Z p o } δ S σ T H)(hB:p∉c.B)(h0:c.H0 p=none)(hn:∀xs,J≠ .tup xs:=by exact λ _ h=>nomatch h):Sl { c with Z:=upd c.Z p J } δ S σ T (upd H p J):=by
 have npow:=s.noOw;have m:∀b u,fv { c with Z:=upd c.Z p o } δ σ H b=some u->fv { c with Z:=upd c.Z p J } δ σ (upd H p J) b=some u:=bK (λ a u e z=>by
  rcases z with⟨w,z⟩|z
  .have z':upd c.Z p J a=some w:=z;by_cases q:a=p;. subst q;exact .inl ⟨o,bj⟩
   .rw[aY q]at z';exact .inl ⟨w,by show upd c.Z p o a=some w;rw[aY q];exact z'⟩
  .exact .inr z) λ a u ha e=>by have:a≠p:= λ z=>ha (.inl ⟨o,by rw[z];exact bj⟩);rw[aY this];exact e
 refine⟨s.len,λ i d e=>?_,λ i b xs e=>?_,s.ne,s.st.mono m,λ b u h1 h2=>?_,λ b hb=>?_,λ a u hz=>?_,λ i ks e=>?_,s.nd⟩;. obtain⟨v,e,r⟩:=s.pu i d e;exact⟨v,e,r.mono m⟩
 .have hx:=e;obtain⟨a,vs,e,h1,h2,h3,h4,h5⟩:=s.ow i b xs e;have C:a≠p:= λ z=>npow (.inl ⟨i,b,xs,hx,by rw[e,z]⟩);refine⟨a,vs,e,by rw[aY C];exact h1,h2.mono m,h3,h4,?_⟩;have U:upd c.Z p o a=none:=h5;show upd c.Z p J a=none;rw[aY C]at U|-;omega
 .have:b≠p:= λ z=>by have aa:c.H0 b=some u:=h2;rw[z,h0]at aa;cases aa
  rw[aY this];exact s.keep b u h1 h2
 .have:b≠p:= λ z=>hB (z▸hb);rw[aY this];exact s.bb b hb
 .have I:upd c.Z p J a=some u:=hz;by_cases q:a=p;. subst q;rw[bj]at I|-;exact⟨I,by cases I;exact hn⟩
  .rw[aY q]at I|-;exact s.zk a u (by show upd c.Z p o a=some u;rw[aY q];exact I)
 .have hx:=e;obtain⟨a,e,h1,h3,h4,h5⟩:=s.od i ks e;have C:a≠p:= λ z=>npow (.inr ⟨i,ks,hx,by rw[e,z]⟩);refine⟨a,e,by rw[aY C];exact h1,h3,h4,?_⟩;have U:upd c.Z p o a=none:=h5;show upd c.Z p J a=none;rw[aY C]at U|-;exact U
theorem Sl.unhideL{vs:List V}(s:Sl { c with Z:=upd c.Z p (.lst vs) } δ (xs++S) σ (vs++T) H)(l:vs.length=xs.length)(C:c.Z p=none):Sl c δ (.lst xs::S) σ (.ref p::T) H:=by
 have I:H p=some (.lst vs):=s.zz p _ bj;have npow:=s.noOw;have zc:∀a u,c.Z a=some u->upd c.Z p (.lst vs) a=some u:= λ a u h=>by rw[aY λ q=>by rw[q,C]at h;cases h];exact h
 have m:∀b u,fv { c with Z:=upd c.Z p (.lst vs) } δ σ H b=some u->fv c δ σ H b=some u:=bK (λ a u e z=>by
  rcases z with⟨w,z⟩|z
  .exact .inl ⟨w,zc a w z⟩
  .exact .inr z) λ a u ha e=>e;refine⟨s.len,λ i d e=>?_,λ i b xs e=>?_,s.ne,.cons (.mkL (.inl (cN.mpr ⟨λ z=>?_,I⟩)) ((s.st.left l).mono m)) ((s.st.right l).mono m),s.keep,s.bb,λ a u hz=>s.zk a u (zc a u hz),λ i ks e=>?_,s.nd⟩;. obtain⟨v,e,r⟩:=s.pu i d e;exact⟨v,e,r.mono m⟩
 .obtain⟨a,J,e,U,h2,h3,h4,h5⟩:=s.ow i b xs e;refine⟨a,J,e,U,h2.mono m,h3,h4,?_⟩;have o:upd c.Z p (.lst vs) a=none:=h5;by_cases q:a=p;. rw[q];exact C
  .rwa [aY q]at o
 .rcases z with⟨u,z⟩|z
  .rw[C]at z;cases z
  .exact npow z
 .obtain⟨a,e,U,h3,h4,h5⟩:=s.od i ks e;refine⟨a,e,U,h3,h4,?_⟩;have o:upd c.Z p (.lst vs) a=none:=h5;by_cases q:a=p;. rw[q];exact C
  .rwa [aY q]at o
theorem Sl.setPu(s:Sl c δ (d::S) σ (v::T) H)(hi:i<δ.length):Sl c (δ.set i (.pu d)) S (σ.set i (some v)) T H:=by
 have aa:∀a,Oa (δ.set i (.pu d)) (σ.set i (some v)) a->Oa δ σ a:= λ a z=>by
  rcases z with⟨j,b,xs,o,C⟩|⟨j,ks,o,C⟩ <;> by_cases e:i=j
  .subst e;rw[wW hi]at o;cases o
  .rw[uN e]at o C;exact .inl ⟨j,b,xs,o,C⟩
  .subst e;rw[wW hi]at o;cases o
  .rw[uN e]at o C;exact .inr ⟨j,ks,o,C⟩
 have m:∀b u,fv c δ σ H b=some u->fv c (δ.set i (.pu d)) (σ.set i (some v)) H b=some u:=bK (λ a u e z=>z.elim .inl λ z=> .inr (aa a z)) λ a u _ e=>e;refine⟨by simpa using s.len,λ j d' h=>?_,λ j b xs h=>?_,λ j k b b' xs ys a o C I U=>?_,s.st.tail.mono m,s.keep,s.bb,s.zk,λ j ks h=>?_,λ j k ks ls a o C I U=>?_⟩
 .by_cases e:i=j
  .subst e;rw[wW hi]at h;cases h;exact⟨v,by rw[wW (by rw[<- s.len];exact hi)],s.st.head.mono m⟩
  .rw[uN e]at h|-;obtain⟨v',J,r⟩:=s.pu j d' h;exact⟨v',J,r.mono m⟩
 .by_cases e:i=j;. subst e;rw[wW hi]at h;cases h
  .rw[uN e]at h|-;obtain⟨a,vs,e,o,C,I⟩:=s.ow j b xs h;exact⟨a,vs,e,o,C.mono m,I⟩
 .by_cases e:i=j;. subst e;rw[wW hi]at o;cases o
  .by_cases J:i=k;. subst J;rw[wW hi]at C;cases C
   .rw[uN e]at o I;rw[uN J]at C U;exact s.ne j k b b' xs ys a o C I U
 .by_cases e:i=j;. subst e;rw[wW hi]at h;cases h
  .rw[uN e]at h|-;exact s.od j ks h
 .by_cases e:i=j;. subst e;rw[wW hi]at o;cases o
  .by_cases J:i=k;. subst J;rw[wW hi]at C;cases C
   .rw[uN e]at o I;rw[uN J]at C U;exact s.nd j k ks ls a o C I U
theorem Sl.setOw{vs:List V}{i:Nat}(s:Sl { c with Z:=upd c.Z p (.lst vs) } δ (xs++S) σ (vs++T) H)(l:vs.length=xs.length)(hp:c.Z p=none)(hB:p∉c.B)(h0:c.H0 p=none)(hi:i<δ.length):
  Sl c (δ.set i (.ow false xs)) S (σ.set i (some (.ref p))) T H:=by
 have ab:H p=some (.lst vs):=s.zz p _ bj;have npow:∀(j:Nat) b ys,δ[j]?=some (.ow b ys)->σ[j]?≠some (some (.ref p)):= λ j b ys o C=>s.noOw (.inl ⟨j,b,ys,o,C⟩);have zc:∀a u,c.Z a=some u->upd c.Z p (.lst vs) a=some u:= λ a u h=>by rw[aY λ q=>by rw[q,hp]at h;cases h];exact h
 have I:i<σ.length:=by rw[<- s.len];exact hi
 have m:∀b u,fv { c with Z:=upd c.Z p (.lst vs) } δ σ H b=some u->fv c (δ.set i (.ow false xs)) (σ.set i (some (.ref p))) H b=some u:=bK (λ a u e z=>by
  rcases z with⟨w,z⟩|⟨j,b,ys,o,C⟩|⟨j,ks,o,C⟩
  .exact .inl ⟨w,zc a w z⟩
  .by_cases e:i=j
   .subst e;rw[wW I]at C;cases C;exact .inl ⟨_,bj⟩
   .rw[uN e]at o C;exact .inr (.inl ⟨j,b,ys,o,C⟩)
  .by_cases e:i=j;. subst e;rw[wW hi]at o;cases o
   .rw[uN e]at o C;exact .inr (.inr ⟨j,ks,o,C⟩)) λ a u _ e=>e;refine⟨by simpa using s.len,λ j d' h=>?_,λ j b ys h=>?_,λ j k b b' ys zs a o C U J=>?_,(s.st.right l).mono m,s.keep,s.bb,λ a u hz=>s.zk a u (zc a u hz),λ j ks h=>?_,λ j k ks ls a o C U J=>?_⟩
 .by_cases e:i=j;. subst e;rw[wW hi]at h;cases h
  .rw[uN e]at h|-;obtain⟨v',e',r⟩:=s.pu j d' h;exact⟨v',e',r.mono m⟩
 .by_cases e:i=j;. subst e;rw[wW hi]at h;cases h;exact⟨p,vs,by rw[wW I],ab,(s.st.left l).mono m,(λ z=>absurd z fN),(λ _=>⟨hB,h0⟩),hp⟩
  .rw[uN e]at h|-;have hx:=h;obtain⟨a,ws,e,o,C,U,J,h5⟩:=s.ow j b ys h;refine⟨a,ws,e,o,C.mono m,U,J,?_⟩;have aa:upd c.Z p (.lst vs) a=none:=h5;rwa [aY λ q=>npow j b ys hx (by rw[e,q])]at aa
 .by_cases e:i=j
  .subst e;rw[wW I]at U;cases U;by_cases e':i=k;. exact e'
   .rw[uN e']at C J;exact absurd J (npow k b' zs C)
  .rw[uN e]at o U;by_cases e':i=k;. subst e';rw[wW I]at J;cases J;exact absurd U (npow j b ys o)
   .rw[uN e']at C J;exact s.ne j k b b' ys zs a o C U J
 .by_cases e:i=j;. subst e;rw[wW hi]at h;cases h
  .rw[uN e]at h|-;have hx:=h;obtain⟨a,e,o,U,J,h5⟩:=s.od j ks h;refine⟨a,e,o,U,J,?_⟩;have aa:upd c.Z p (.lst vs) a=none:=h5;rwa [aY λ q=>s.noOw (.inr ⟨j,ks,hx,by rw[e,q]⟩)]at aa
 .by_cases e:i=j;. subst e;rw[wW hi]at o;cases o
  .by_cases e':i=k;. subst e';rw[wW hi]at C;cases C
   .rw[uN e]at o U;rw[uN e']at C J;exact s.nd j k ks ls a o C U J
theorem Sl.giveOw{xs:List D}{i:Nat}(s:Sl c δ S σ T H)(hi:δ[i]?=some (.ow false xs))(ha:σ[i]?=some (some (.ref a))):
  ∃vs,vs.length=xs.length/\Sl { c with Z:=upd c.Z a (.lst vs) } (δ.set i .un) (xs++S) σ (vs++T) H/\c.Z a=none/\a∉c.B/\c.H0 a=none:=by
 have o:i<δ.length:=(xZ.mp hi).1;obtain⟨a',vs,e,hH,hv,_,hB,hZ⟩:=s.ow i false xs hi;rw[ha]at e;cases e;have od':∀(j:Nat) ks x,δ[j]?=some (.od ks)->σ[j]?=some (some (.ref x))->x≠a:= λ j ks x C I q=>by
  obtain⟨x',e,J,_⟩:=s.od j ks C;rw[I]at e;cases e;rw[q,hH]at J;cases J
 have aa:∀b,Oa (δ.set i .un) σ b->Oa δ σ b/\b≠a:= λ b z=>by
  rcases z with⟨j,bb,ys,C,I⟩|⟨j,ks,C,I⟩ <;> by_cases e:i=j
  .subst e;rw[wW o]at C;cases C
  .rw[uN e]at C;exact⟨.inl ⟨j,bb,ys,C,I⟩,λ q=>e (s.ne i j _ _ _ _ a hi C ha (by rw[I,q]))⟩
  .subst e;rw[wW o]at C;cases C
  .rw[uN e]at C;exact⟨.inr ⟨j,ks,C,I⟩,od' j ks b C I⟩
 have m:∀b u,fv c δ σ H b=some u->fv { c with Z:=upd c.Z a (.lst vs) } (δ.set i .un) σ H b=some u:=bK (λ b u e z=>by
  rcases z with⟨w,z⟩|z
  .by_cases q:b=a;. subst q;exact .inr (.inl ⟨i,false,xs,hi,ha⟩)
   .exact .inl ⟨w,(show c.Z b=upd c.Z a (.lst vs) b from(aY q).symm).trans z⟩
  .exact .inr (aa b z).1) λ b u _ e=>e;refine⟨vs,hv.length,⟨by simpa using s.len,λ j d h=>?_,λ j b ys h=>?_,λ j k b b' ys zs x C I J h4=>?_,(hv.append s.st).mono m,s.keep,s.bb,λ x u hz=>?_,λ j ks h=>?_,λ j k ks ls x C I J h4=>?_⟩,hZ,(hB rfl).1,(hB rfl).2⟩
 .have e:i≠j:= λ e=>by subst e;rw[wW o]at h;cases h
  rw[uN e]at h;obtain⟨v',e',r⟩:=s.pu j d h;exact⟨v',e',r.mono m⟩
 .have e:i≠j:= λ e=>by subst e;rw[wW o]at h;cases h
  rw[uN e]at h;obtain⟨b1,ws,e',C,I,J,h4,h5⟩:=s.ow j b ys h;refine⟨b1,ws,e',C,I.mono m,J,h4,?_⟩;show upd c.Z a (.lst vs) b1=none;rw[aY λ q=>e (s.ne i j _ _ _ _ a hi h ha (by rw[e',q]))];omega
 .have g:∀(j:Nat) b ys,(δ.set i Slot.un)[j]?=some (.ow b ys)->δ[j]?=some (.ow b ys):= λ j b ys h=>by
   have e:i≠j:= λ e=>by subst e;rw[wW o]at h;cases h
   rwa [uN e]at h
  exact s.ne j k b b' ys zs x (g _ _ _ C) (g _ _ _ I) J h4
 .have U:upd c.Z a (.lst vs) x=some u:=hz;by_cases q:x=a;. subst q;rw[bj]at U;cases U;exact⟨hH,λ _ h=>nomatch h⟩
  .rw[aY q]at U;exact s.zk x u U
 .have e:i≠j:= λ e=>by subst e;rw[wW o]at h;cases h
  rw[uN e]at h;obtain⟨b1,e',C,J,h4,h5⟩:=s.od j ks h;refine⟨b1,e',C,J,h4,?_⟩;show upd c.Z a (.lst vs) b1=none;rw[aY (od' j ks b1 h e')];exact h5
 .have g:∀(j:Nat) ks,(δ.set i Slot.un)[j]?=some (.od ks)->δ[j]?=some (.od ks):= λ j ks h=>by
   have e:i≠j:= λ e=>by subst e;rw[wW o]at h;cases h
   rwa [uN e]at h
  exact s.nd j k ks ls x (g _ _ C) (g _ _ I) J h4
theorem Sl.mut{U:Bool}{xs J:List D}{aa:List V}{i:Nat}(s:Sl c δ S σ T H)(hi:δ[i]?=some (.ow U xs))(ha:σ[i]?=some (some (.ref a)))(hv:Rs (fv c δ σ H) J aa):
  Sl c (δ.set i (.ow U J)) S σ T (upd H a (.lst aa)):=by
 have C:i<δ.length:=(xZ.mp hi).1;obtain⟨a',vs,e,hH,_,hB,ab,hZ⟩:=s.ow i U xs hi;rw[ha]at e;cases e;have ae:∀b,Oa (δ.set i (.ow U J)) σ b->Oa δ σ b:= λ b z=>by
  rcases z with⟨j,bb,ys,o,I⟩|⟨j,ks,o,I⟩ <;> by_cases e:i=j
  .subst e;exact .inl ⟨i,U,xs,hi,I⟩
  .rw[uN e]at o;exact .inl ⟨j,bb,ys,o,I⟩
  .subst e;rw[wW C]at o;cases o
  .rw[uN e]at o;exact .inr ⟨j,ks,o,I⟩
 have m:∀b u,fv c δ σ H b=some u->fv c (δ.set i (.ow U J)) σ (upd H a (.lst aa)) b=some u:=bK (λ b u e z=>z.elim .inl λ z=> .inr (ae b z)) λ b u hb e=>by have:b≠a:= λ z=>hb (.inr (.inl ⟨i,U,xs,hi,by rw[z];exact ha⟩));rw[aY this];exact e
 refine⟨by simpa using s.len,λ j d' h=>?_,λ j b ys h=>?_,λ j k b b' ys zs x o I h3 h4=>?_,s.st.mono m,λ b u o I=>?_,λ b hb=>?_,λ x u hz=>?_,λ j ks h=>?_,λ j k ks ls x o I h3 h4=>?_⟩
 .have e:i≠j:= λ e=>by subst e;rw[wW C]at h;cases h
  rw[uN e]at h;obtain⟨v',e',r⟩:=s.pu j d' h;exact⟨v',e',r.mono m⟩
 .by_cases e:i=j;. subst e;rw[wW C]at h;cases h;exact⟨a,aa,ha,bj,hv.mono m,hB,ab,hZ⟩
  .rw[uN e]at h;obtain⟨b1,ws,e',o,I,h3⟩:=s.ow j b ys h;have:b1≠a:= λ z=>e (s.ne i j _ _ xs ys a hi h ha (by rw[e',z]));exact⟨b1,ws,e',by rw[aY this];exact o,I.mono m,h3⟩
 .have g:∀(j:Nat) b ys,(δ.set i (.ow U J))[j]?=some (.ow b ys)->∃b ys,δ[j]?=some (.ow b ys):= λ j b ys h=>by
   by_cases e:i=j;. subst e;exact⟨U,xs,hi⟩
   .rw[uN e]at h;exact⟨b,ys,h⟩
  obtain⟨c1,af,o⟩:=g j b ys o;obtain⟨c2,ag,I⟩:=g k b' zs I;exact s.ne j k c1 c2 af ag x o I h3 h4
 .have:b≠a:= λ z=>by subst z;cases U with
   |true=>exact o (hB rfl)
   |false=>rw[(ab rfl).2]at I;cases I
  rw[aY this];exact s.keep b u o I
 .by_cases e:b=a;. subst e;exact⟨_,bj⟩
  .rw[aY e];exact s.bb b hb
 .have:x≠a:= λ e=>by rw[e,hZ]at hz;cases hz
  rw[aY this];exact s.zk x u hz
 .have e:i≠j:= λ e=>by subst e;rw[wW C]at h;cases h
  rw[uN e]at h;obtain⟨x,e',o,h3⟩:=s.od j ks h;have:x≠a:= λ z=>by rw[z,hH]at o;cases o
  exact⟨x,e',by rw[aY this];exact o,h3⟩
 .have g:∀(j:Nat) ks,(δ.set i (.ow U J))[j]?=some (.od ks)->δ[j]?=some (.od ks):= λ j ks h=>by
   have e:i≠j:= λ e=>by subst e;rw[wW C]at h;cases h
   simp_all
  exact s.nd j k ks ls x (g _ _ o) (g _ _ I) h3 h4
theorem Sl.ext(s:Sl c δ S σ T H)(k:Nat):Sl c (δ++List.replicate k .un) S (σ++List.replicate k none) T H:=by
 have g:∀(i:Nat) x,(δ++List.replicate k Slot.un)[i]?=some x->x≠ .un->δ[i]?=some x:= λ i x h n=>by
  by_cases hi:i<δ.length;. rwa [QF hi]at h
  .rw[Q2 (by omega),VF]at h;split at h;. exact absurd (Q9 h).symm n
   .cases h
 have C:∀(i:Nat) x,δ[i]?=some x->(σ++List.replicate k none)[i]?=σ[i]?:= λ i x h=>by rw[QF (by rw[<- s.len];exact(xZ.mp h).1)]
 have aa:∀a,Oa (δ++List.replicate k .un) (σ++List.replicate k none) a->Oa δ σ a:= λ a z=>by
  rcases z with⟨j,b,xs,J,U⟩|⟨j,ks,J,U⟩ <;> have o:=g j _ J (by simp) <;> rw[C j _ o]at U
  .exact .inl ⟨j,b,xs,o,U⟩
  .exact .inr ⟨j,ks,o,U⟩
 have m:∀b u,fv c δ σ H b=some u->fv c (δ++List.replicate k .un) (σ++List.replicate k none) H b=some u:=bK (λ a u e z=>z.elim .inl λ z=> .inr (aa a z)) λ a u _ e=>e;refine⟨by simp[s.len],λ j d' h=>?_,λ j b xs h=>?_,λ j l b b' xs ys a J U h3 h4=>?_,s.st.mono m,s.keep,s.bb,s.zk,λ j ks h=>?_,λ j l ks ls a J U h3 h4=>?_⟩;. have h':=g j _ h (by simp);obtain⟨v,e,r⟩:=s.pu j d' h';exact⟨v,by rw[C j _ h'];exact e,r.mono m⟩
 .have h':=g j _ h (by simp);obtain⟨a,vs,e,J,U,h3⟩:=s.ow j b xs h';exact⟨a,vs,by rw[C j _ h'];exact e,J,U.mono m,h3⟩
 .have o:=g j _ J (by simp);have I:=g l _ U (by simp);rw[C j _ o]at h3;rw[C l _ I]at h4;exact s.ne j l b b' xs ys a o I h3 h4
 .have h':=g j _ h (by simp);obtain⟨a,e,J⟩:=s.od j ks h';exact⟨a,by rw[C j _ h'];exact e,J⟩
 .have o:=g j _ J (by simp);have I:=g l _ U (by simp);rw[C j _ o]at h3;rw[C l _ I]at h4;exact s.nd j l ks ls a o I h3 h4
theorem Sl.cut(s:Sl c δ S σ T H)(n:Nat):Sl c (δ.take n) S (σ.take n) T H:=by
 have g:∀(i:Nat) x,(δ.take n)[i]?=some x->i<n/\δ[i]?=some x:= λ i x h=>by
  have hi:i<n:=by have:=(xZ.mp h).1;rw[ZT]at this;omega
  simp_all
 have ab:∀a,Oa (δ.take n) (σ.take n) a->Oa δ σ a:= λ a z=>by
  rcases z with⟨j,b,xs,I,J⟩|⟨j,ks,I,J⟩ <;> obtain⟨C,o⟩:=g j _ I <;> rw[QP C]at J
  .exact .inl ⟨j,b,xs,o,J⟩
  .exact .inr ⟨j,ks,o,J⟩
 have m:∀b u,fv c δ σ H b=some u->fv c (δ.take n) (σ.take n) H b=some u:=bK (λ a u e z=>z.elim .inl λ z=> .inr (ab a z)) λ a u _ e=>e;refine⟨by simp[s.len],λ j d' h=>?_,λ j b xs h=>?_,λ j l b b' xs ys a I J U h4=>?_,s.st.mono m,s.keep,s.bb,s.zk,λ j ks h=>?_,λ j l ks ls a I J U h4=>?_⟩;. obtain⟨C,h'⟩:=g j _ h;obtain⟨v,e,r⟩:=s.pu j d' h';exact⟨v,by rw[QP C];exact e,r.mono m⟩
 .obtain⟨C,h'⟩:=g j _ h;obtain⟨a,vs,e,I,J,U⟩:=s.ow j b xs h';exact⟨a,vs,by rw[QP C];exact e,I,J.mono m,U⟩
 .obtain⟨C,o⟩:=g j _ I;obtain⟨hl,aa⟩:=g l _ J;rw[QP C]at U;rw[QP hl]at h4;exact s.ne j l b b' xs ys a o aa U h4
 .obtain⟨C,h'⟩:=g j _ h;obtain⟨a,e,I⟩:=s.od j ks h';exact⟨a,by rw[QP C];exact e,I⟩
 .obtain⟨C,o⟩:=g j _ I;obtain⟨hl,aa⟩:=g l _ J;rw[QP C]at U;rw[QP hl]at h4;exact s.nd j l ks ls a o aa U h4
theorem Sl.seeT(s:Sl c δ S σ T H){b:Addr}{vs:List V}(h:H b=some (.tup vs)):fv c δ σ H b=some (.tup vs):=by
 refine cN.mpr ⟨λ z=>?_,h⟩;rcases z with⟨o,z⟩|⟨i,bb,xs,C,I⟩|⟨i,ks,C,I⟩
 .obtain⟨C,I⟩:=s.zk b o z;rw[h]at C;cases C;exact I vs rfl
 .obtain⟨a,ws,e,J,_⟩:=s.ow i bb xs C;simp_all
 .obtain⟨a,e,J,_⟩:=s.od i ks C;rw[I]at e;cases e;rw[h]at J;cases J
end
noncomputable def M(α:Type):=DS->Option (α×DS)
noncomputable instance:Monad M where
 pure a:=fun s=>some (a,s)
 bind x f:=fun s=>match x s with
  | none=>none
  | some (a,s')=>f a s'
noncomputable def lift{α:Type}(o:Option α):M α:= λ s=>match o with
 |none=>none
 |some a=>some (a,s)
theorem M.bind_def(x:M α)(f:α->M β)(s:DS):(x >>= f) s=(match x s with|none=>none|some (a,s')=>f a s'):=rfl
theorem M.pure_def(a:α)(s:DS):(pure a:M α) s=some (a,s):=rfl
inductive Pf {α β:Type} (x:M α) (f:α->M β) (s:DS) (b:β) (s2:DS):Prop
 | mk (a:α) (s1:DS) (e1:x s=some (a,s1)) (e2:f a s1=some (b,s2)):Pf x f s b s2
theorem bind_some (h:(x >>= f) s=some (b,s2)):Pf x f s b s2:= by
 rw [M.bind_def] at h
 cases e:x s with
 | none=>simp_all
 | some p=>obtain ⟨a,s1⟩:=p;rw [e] at h;exact ⟨a,s1,e,h⟩
theorem aW (h:(pure a:M α) s=some (b,s')):a=b∧s=s':= by
 rw [M.pure_def] at h;grind
theorem bc (h:lift o s=some (b,s')):o=some b∧s=s':= by
 unfold lift at h
 grind
theorem bB:∀b o,FX p H b=some o->H b=some o:= λ b o h=>(cN.mp h).2
inductive tM (f:M D) (σ:St) (H:Hp) (Q:VK):Prop
 | mk (c:Ct) (δ:DS) (S:List D) (T:List V) (d:D) (δ':DS) (s:Sl c δ S σ T H) (e:f δ=some (d,δ')) (q:∀v H',Sl c δ' (d :: S) σ (v :: T) H' -> Q v H'):tM f σ H Q
inductive pJ (f:M Bool) (σ:St) (H:Hp) (Q:Bool->Hp->Prop):Prop
 | mk (c:Ct) (δ:DS) (S:List D) (T:List V) (b:Bool) (δ':DS) (s:Sl c δ S σ T H) (e:f δ=some (b,δ')) (q:∀H',Sl c δ' S σ T H' -> Q b H'):pJ f σ H Q
inductive OB (f:M (List D)) (σ:St) (H:Hp) (Q:List V->Hp->Prop):Prop
 | mk (c:Ct) (δ:DS) (S:List D) (T:List V) (ds:List D) (δ':DS) (s:Sl c δ S σ T H) (e:f δ=some (ds,δ')) (q:∀vs H',vs.length=ds.length->Sl c δ' (ds ++ S) σ (vs ++ T) H' -> Q vs H'):OB f σ H Q
inductive MX (f:M (List D)) (σ:St) (H:Hp) (Q:VK):Prop
 | mk (c:Ct) (δ:DS) (S:List D) (T:List V) (xs:List D) (δ':DS) (s:Sl c δ S σ T H) (e:f δ=some (xs,δ')) (q:∀l vs H',vs.length=xs.length->Sl { c with Z:=upd c.Z l (.lst vs) } δ' (xs ++ S) σ (vs ++ T) H' -> c.Z l=none->l ∉ c.B->c.H0 l=none->Q (.ref l) H'):MX f σ H Q
noncomputable abbrev DE(X:Cx)(e:Expr)(f:M D):Prop:=PE X e (tM f)
noncomputable abbrev DT(X:Cx)(e:Expr)(f:M Bool):Prop:=PT X e (pJ f)
noncomputable abbrev DW(X:Cx)(e:Expr)(f:M Bool):Prop:=PW X e (pJ f)
noncomputable abbrev DA(X:Cx)(es:List Expr)(f:M (List D)):Prop:=PA X es (OB f)
noncomputable abbrev DF(X:Cx)(e:Expr)(f:M (List D)):Prop:=PE X e (MX f)
theorem cC(h:PE X e t)(w:∀σ H Q,t' σ H Q->t σ H Q):PE X e t':= λ pins s σ H Q I q=>h pins s σ H Q I (w σ H Q q)
theorem EJ(h:PT X e t)(w:∀σ H Q,t' σ H Q->t σ H Q):PT X e t':= λ pins s σ H Q I q=>h pins s σ H Q I (w σ H Q q)
theorem K6(h:PW X e t)(w:∀σ H Q,t' σ H Q->t σ H Q):PW X e t':= λ wh pins s σ H Q I q=>h wh pins s σ H Q I (w σ H Q q)
theorem Ft(h:PA X e t)(w:∀σ H Q,t' σ H Q->t σ H Q):PA X e t':= λ ps pins s σ H Q I q=>h ps pins s σ H Q I (w σ H Q q)
section
variable {X:Cx} {a b e:Expr} {fa fb:M D} {pos:Pos}
noncomputable def bZ(i:Nat):M D:= λ o=>match o[i]? with
 |some (.pu d)=>some (d,o)
 |_=>none
theorem jz (h:bZ i δ=some (d,δ')):δ[i]? = some (.pu d)∧δ=δ':= by
 unfold bZ at h
 grind
theorem aQ(i:Nat){x:Str}{pos:Pos}(C:X.N[i]?=some x:=by rfl)(I:uw X.env.scope x:=by first | exact Or.inl rfl | exact Or.inr (Or.inl rfl) | exact Or.inr (Or.inr rfl))(hd:(x==("__debug__":Str))=false:=by decide)
  (o:(x==("__classdict__":Str))=false:=by decide):DE X (.Name x pos) (bZ i):=cC (eU C I hd o) λ σ H Q ⟨c,δ,S,T,d,J,s,e,k⟩=>by obtain⟨U,rfl⟩:=jz e;obtain⟨v,ev,r⟩:=s.pu i d U;exact⟨v,ev,k v H (s.stk (.cons r s.st))⟩
theorem NQ(h:PE X e (tC v))(r:∀H,R H d v):DE X e (pure d):=cC h λ σ H Q ⟨c,C,S,T,d',o,s,e,k⟩=>by obtain⟨rfl,rfl⟩:=aW e;exact k v H (s.stk (.cons (r _) s.st))
theorem a_{j pos}:DE X (.Constant (.int i) j pos) (pure (.int i)):=NQ tw λ _=> .mkI
theorem iJ{j pos}:DE X (.Constant (.bool i) j pos) (pure (.bl i)):=NQ Mh λ _=> .mkB
theorem dD{j pos}:DE X (.Constant .none j pos) (pure .non):=NQ Ke λ _=> .mkN
theorem bp(h:DF X e f):DE X e (do let xs<- f;pure (.lst xs)):=cC h λ σ H Q ⟨c,C,S,T,d,I,s,e,k⟩=>by obtain⟨xs,o,J,U⟩:=bind_some e;obtain⟨rfl,rfl⟩:=aW U;exact⟨c,C,S,T,xs,o,s,J,λ l vs H' hl s' hz _ _=>k _ _ (s'.unhideL hl hz)⟩
noncomputable def md(r:R2)(f:D->D->Option D):Prop:=∀(c:Ct)(o:DS)(S:List D)(σ:St)(T:List V)(H:Hp)(x y:D)(v u:V)(d:D)(Q:VK),Sl c o (y::x::S) σ (u::v::T) H->f x y=some d->(∀z H',Sl c o (d::S) σ (z::T) H'->Q z H')->r v u H Q
noncomputable def m2(f:D->D->Option D)(fa fb:M D):M D:=do
 let x<- fa
 let y<- fb
 lift (f x y)
theorem wU(hd:md r f):∀σ H Q,tM (m2 f fa fb) σ H Q->GY r (tM fa) (tM fb) σ H Q:= λ σ H Q ⟨c,I,S,T,d,J,s,e,k⟩=>by obtain⟨x,o,U,e⟩:=bind_some e;obtain⟨y,C,e2,e⟩:=bind_some e;obtain⟨e3,rfl⟩:=bc e;exact⟨c,I,S,T,x,o,s,U,λ v H1 s1=>⟨c,o,x::S,v::T,y,C,s1,e2,λ u H2 s2=>hd _ _ _ _ _ _ _ _ _ _ _ _ s2 e3 k⟩⟩
theorem nu(o:iu X (binaryOp op) r)(hd:md r f)(C:DE X a fa)(I:DE X b fb):DE X (.BinOp a op b pos) (m2 f fa fb):=cC (GP o C I) (wU hd)
theorem iY(o:iu X (compareOp op) r)(hd:md r f)(C:DE X a fa)(I:DE X b fb)(hm:behindInMarks op b=false:=by first | exact uc _ | rfl):DE X (.Compare a [op] [b] pos) (m2 f fa fb):=cC (Dz o C I hm) (wU hd)
theorem CB(o:va X r)(hd:md r f)(C:DE X a fa)(I:DE X b fb)(hs:g9 b:=by exact fun _ _=>rfl):DE X (.Subscript a b pos) (m2 f fa fb):=cC (GX o C I hs) (wU hd)
noncomputable def c9(C:Int->Int->Bool)(g:Int->Int->D):D->D->Option D
 | .int i,.int j=>if C i j=true then some (g i j)else none
 |_,_=>none
theorem fX(h:c9 C g x y=some d):∃i j,x= .int i/\y= .int j/\C i j=true/\d=g i j:=by unfold c9 at h;grind
theorem yW{o:Int->Int->Bool}{g:Int->Int->V}{g':Int->Int->D}(I:∀i j,o i j=true->C i j)(J:∀H i j,R H (g' i j) (g i j)):md (rI C g) (c9 o g'):= λ c δ S σ T H x y v u d Q s e k=>by obtain⟨i,j,rfl,rfl,U,rfl⟩:=fX e;have h1:=s.st.head.int;have h2:=s.st.tail.head.int;exact⟨i,j,h2,h1,I i j U,k _ _ (s.stk (.cons (J _ _ _) s.st.tail.tail))⟩
theorem oV{g':Int->Int->D}(o:∀H i j,R H (g' i j) (g i j)):md (C3 g) (c9 (λ _ _=>true) g'):= λ c J S σ T H x y v u d Q s e k=>by obtain⟨i,j,rfl,rfl,U,rfl⟩:=fX e;have C:=s.st.head.int;have I:=s.st.tail.head.int;exact⟨i,j,I,C,k _ _ (s.stk (.cons (o _ _ _) s.st.tail.tail))⟩
noncomputable def jA:=c9 (λ _ _=>true) λ i j=> .int (i+j)
noncomputable def yz:=c9 (λ _ _=>true) λ i j=> .int (i-j)
noncomputable def oh:=c9 (λ i j=>(decide (-(2^64)<i)&&decide (i<2^64))||(decide (-(2^64)<j)&&decide (j<2^64))) λ i j=> .int (i*j)
noncomputable def EK:=c9 (λ _ j=>decide (0<j)) λ i j=> .int (i%j)
noncomputable def JV:=c9 (λ _ j=>decide (0<j)&&decide (j<1073741824)) λ i j=> .int (i/j)
noncomputable def JB:=c9 (λ _ _=>true) λ i j=> .bl (decide (i<j))
noncomputable def N_:=c9 (λ _ _=>true) λ i j=> .bl (decide (i<=j))
noncomputable def NR:=c9 (λ _ _=>true) λ i j=> .bl (decide (j<i))
theorem d_(o:DE X a fa)(C:DE X b fb):DE X (.BinOp a .Add b pos) (m2 jA fa fb):=nu HQ (oV λ _ _ _=> .mkI) o C
theorem ui(o:DE X a fa)(C:DE X b fb):DE X (.BinOp a .Sub b pos) (m2 yz fa fb):=nu Iq (oV λ _ _ _=> .mkI) o C
theorem jL(o:DE X a fa)(C:DE X b fb):DE X (.BinOp a .Mult b pos) (m2 oh fa fb):=nu JU (yW (λ i j h=>by simp at h;exact h) λ _ _ _=> .mkI) o C
theorem kK(o:DE X a fa)(C:DE X b fb):DE X (.BinOp a .Mod b pos) (m2 EK fa fb):=nu IB (yW (λ i j h=>ZV h) λ _ _ _=> .mkI) o C
theorem Ae(o:DE X a fa)(C:DE X b fb):DE X (.BinOp a .FloorDiv b pos) (m2 JV fa fb):=nu ES (yW (λ i j h=>by simp at h;exact h) λ _ _ _=> .mkI) o C
noncomputable def j9:D->D->Option D
 | .tup ds,.int i=>jw ds i
 | .lst ds,.int i=>jw ds i
 |_,_=>none
theorem t6(h:Rs H ds vs)(e:jw ds i=some d):∃v,jw vs i=some v/\R H d v:=by unfold jw at*;rw[h.length];cases q:rH ds.length i with
 |none=>simp_all
 |some j=>rw[q]at e;exact h.get e
theorem zd:md (OH K) j9:= λ c U S σ T H x y v u d Q s e k=>by cases x with
 |tup ds=>cases y with
  |int i=>have o:jw ds i=some d:=e;obtain⟨p,vs,rfl,C,I⟩:=s.st.tail.head.tup;obtain⟨z,J,r⟩:=t6 I o;exact .inr (.inl ⟨p,vs,i,z,rfl,s.st.head.int,.of (bB _ _ C),J,k _ _ (s.stk (.cons r s.st.tail.tail))⟩)
  |_=>cases e
 |lst ds=>cases y with
  |int i=>have o:jw ds i=some d:=e;obtain⟨p,vs,rfl,C,I⟩:=s.st.tail.head.lst;obtain⟨z,J,r⟩:=t6 I o;exact .inl ⟨p,vs,i,z,rfl,s.st.head.int,.inl (Rd.mono bB C),J,k _ _ (s.stk (.cons r s.st.tail.tail))⟩
  |_=>cases e
 |_=>cases e
theorem bw(o:DE X a fa)(C:DE X b fb)(hs:g9 b:=by exact fun _ _=>rfl):DE X (.Subscript a b pos) (m2 j9 fa fb):=CB tp zd o C hs
noncomputable def lP:D->M Bool
 | .bl b=>pure b
 |_=>lift none
theorem k7{b:Bool}{C o:DS}(h:lP d C=some (b,o)):d= .bl b/\C=o:=by
 unfold lP at h;split at h;. obtain⟨rfl,rfl⟩:=aW h;simp
 .cases h
theorem fZ(C:iu X (compareOp op) r)(hd:md r f)(I:DE X a fa)(J:DE X b fb)(hm:behindInMarks op b=false:=by first | exact uc _ | rfl):DT X (.Compare a [op] [b] pos) (m2 f fa fb >>= lP):=
 EJ (vG C I J hm) λ σ H Q ⟨c,U,S,T,d,aa,s,e,k⟩=>by obtain⟨x,o,e1,e⟩:=bind_some e;obtain⟨rfl,rfl⟩:=k7 e;exact wU hd σ H _ ⟨c,U,S,T,.bl d,o,s,e1,λ v H' s'=>⟨d,s'.st.head.bl,k _ s'.pop⟩⟩
theorem Gy (ha:DE X a fa) (hb:DE X b fb):DT X (.Compare a [.Lt] [b] pos) (m2 JB fa fb >>= lP):=fZ G4 (oV fun _ _ _=>.mkB) ha hb
theorem GR (ha:DE X a fa) (hb:DE X b fb):DT X (.Compare a [.Gt] [b] pos) (m2 NR fa fb >>= lP):=fZ KL (oV fun _ _ _=>.mkB) ha hb
noncomputable def c_:D->Option Bool
 | .non=>some false
 | .bl b=>some b
 | .int i=>some (i !=0)
 | .str y=>if y.length<=16777216 then some ((y.length:Int)!=0)else none
 | .tup ds=>some (!ds.isEmpty)
 | .lst ds=>some (!ds.isEmpty)
 | .dct=>none
 | .dic _=>none
 | .dip _=>none
theorem kC(h:Rs H ds vs):(!ds.isEmpty)= !vs.isEmpty:=by cases ds with
 |nil=>rw[h.inv0];rfl
 |cons d ds=>obtain⟨v,r,e,_⟩:=h.inv;grind
theorem vH{J H:Hp}{d:D}{v:V}{b:Bool}(m:∀b o,J b=some o->H b=some o)(r:R J d v)(e:c_ d=some b):Kg K v H b:=by cases d with
 |non=>cases r.non;cases e;rfl
 |bl x=>cases r.bl;cases e;rfl
 |int i=>cases r.int;cases e;rfl
 |str x=>cases r.str;have e:(if x.length<=16777216 then some ((x.length:Int)!=0)else none)=some b:=e;split at e;(cases e;exact⟨by rw[PySem.sizeLine_eq];assumption,rfl⟩);cases e
 |dct=>cases e
 |dic _=>cases e
 |dip _=>cases e
 |tup ds=>obtain⟨p,vs,rfl,C,I⟩:=r.tup;cases e;exact .inr (.inl ⟨vs,.of (m _ _ C),kC I⟩)
 |lst ds=>obtain⟨p,vs,rfl,C,I⟩:=r.lst;cases e;exact .inl ⟨vs,.inl (Rd.mono m C),kC I⟩
theorem bL(C:DE X a fa)(he:∀whole,isTrue a X.env whole=(do let v<- whole;standAt a.pos;holding [v] (truthy v)):=by intro _;rfl):DT X a (do let x<- fa;lift (c_ x)):=
 EJ (CJ C he) λ σ H Q ⟨c,I,S,T,d,J,s,e,k⟩=>by obtain⟨x,o,U,e⟩:=bind_some e;obtain⟨e2,rfl⟩:=bc e;exact⟨c,I,S,T,x,o,s,U,λ v H' s'=>⟨d,vH bB s'.st.head e2,k _ s'.pop⟩⟩
noncomputable def uJ(fa fb:M Bool):M Bool:=do
 let x<- fa
 if x=true then fb else pure false
noncomputable def NC(fa fb:M Bool):M Bool:=do
 let x<- fa
 if x=true then pure true else fb
noncomputable def Gd(fa:M Bool):M Bool:=do
 let x<- fa
 pure (!x)
variable {ta tb:M Bool} {rest:List Expr}
theorem ij(o:DT X a ta):DW X (.BoolOp .And [a] pos) ta:=Fp o
theorem uy(o:DT X a ta):DW X (.BoolOp .Or [a] pos) ta:=Jb o
theorem iR(I:DT X a ta)(J:DW X (.BoolOp .And (b::rest) pos) tb):DW X (.BoolOp .And (a::b::rest) pos) (uJ ta tb):=K6 (Jv I J) λ σ H Q ⟨c,U,S,T,d,C,s,e,k⟩=>by obtain⟨x,o,e1,e⟩:=bind_some e;refine⟨c,U,S,T,x,o,s,e1,λ H' s'=>?_⟩;cases x with
 |true=>exact⟨c,o,S,T,d,C,s',e,k⟩
 |false=>obtain⟨rfl,rfl⟩:=aW e;simp_all
theorem CN(I:DT X a ta)(J:DW X (.BoolOp .Or (b::rest) pos) tb):DW X (.BoolOp .Or (a::b::rest) pos) (NC ta tb):=K6 (Mg I J) λ σ H Q ⟨c,U,S,T,d,C,s,e,k⟩=>by obtain⟨x,o,e1,e⟩:=bind_some e;refine⟨c,U,S,T,x,o,s,e1,λ H' s'=>?_⟩;cases x with
 |false=>exact⟨c,o,S,T,d,C,s',e,k⟩
 |true=>obtain⟨rfl,rfl⟩:=aW e;simp_all
theorem oJ(h:DW X a ta):DT X a ta:=h.pt
theorem dH(C:DT X a ta):DT X (.UnaryOp .Not a pos) (Gd ta):=EJ (J0 C) λ σ H Q ⟨c,I,S,T,d,J,s,e,k⟩=>by obtain⟨x,o,U,e⟩:=bind_some e;obtain⟨rfl,rfl⟩:=aW e;exact⟨c,I,S,T,x,o,s,U,λ H' s'=>k _ s'⟩
noncomputable def Eb(fa fb:M D):M D:=do
 let x<- fa
 match x with
 | .bl true=>fb
 | .bl false=>pure (.bl false)
 |_=>lift none
noncomputable def M4(fa fb:M D):M D:=do
 let x<- fa
 match x with
 | .bl true=>pure (.bl true)
 | .bl false=>fb
 |_=>lift none
noncomputable def JY(fa:M D):M D:=do
 let x<- fa
 match x with
 | .bl b=>pure (.bl (!b))
 |_=>lift none
theorem eT(h:DE X a fa):DE X (.BoolOp op [a] pos) fa:=HS h
theorem gX(I:DE X a fa)(J:DE X (.BoolOp .And (b::rest) pos) fb):DE X (.BoolOp .And (a::b::rest) pos) (Eb fa fb):=cC (HN I J) λ σ H Q ⟨c,U,S,T,d,C,s,e,k⟩=>by obtain⟨x,o,e1,e⟩:=bind_some e;refine⟨c,U,S,T,x,o,s,e1,λ v H' s'=>?_⟩;cases x with
 |bl q=>cases q with
  |true=>exact⟨true,s'.st.head.bl,Dp ⟨c,o,S,T,d,C,s'.pop,e,k⟩⟩
  |false=>obtain⟨rfl,rfl⟩:=aW e;exact⟨false,s'.st.head.bl,E7 (k _ _ (s'.stk (.cons .mkB s'.st.tail)))⟩
 |_=>cases e
theorem z_(I:DE X a fa)(J:DE X (.BoolOp .Or (b::rest) pos) fb):DE X (.BoolOp .Or (a::b::rest) pos) (M4 fa fb):=cC (Me I J) λ σ H Q ⟨c,U,S,T,d,C,s,e,k⟩=>by obtain⟨x,o,e1,e⟩:=bind_some e;refine⟨c,U,S,T,x,o,s,e1,λ v H' s'=>?_⟩;cases x with
 |bl q=>cases q with
  |false=>exact⟨false,s'.st.head.bl,E7 ⟨c,o,S,T,d,C,s'.pop,e,k⟩⟩
  |true=>obtain⟨rfl,rfl⟩:=aW e;exact⟨true,s'.st.head.bl,Dp (k _ _ (s'.stk (.cons .mkB s'.st.tail)))⟩
 |_=>cases e
theorem IC(C:DE X a fa):DE X (.UnaryOp .Not a pos) (JY fa):=cC (JO C) λ σ H Q ⟨c,I,S,T,d,J,s,e,k⟩=>by obtain⟨x,o,U,e⟩:=bind_some e;refine⟨c,I,S,T,x,o,s,U,λ v H' s'=>?_⟩;cases x with
 |bl q=>obtain⟨rfl,rfl⟩:=aW e;exact⟨q,s'.st.head.bl,k _ _ (s'.stk (.cons .mkB s'.st.tail))⟩
 |_=>cases e
noncomputable def wH{α:Type}(t:M Bool)(fa fb:M α):M α:=do
 let x<- t
 if x=true then fa else fb
theorem L0(I:DT X t ta)(J:DE X a fa)(U:DE X b fb):DE X (.IfExp t a b pos) (wH ta fa fb):=cC (AV I J U) λ σ H Q ⟨c,δ,S,T,d,C,s,e,k⟩=>by obtain⟨x,o,e1,e⟩:=bind_some e;refine⟨c,δ,S,T,x,o,s,e1,λ H' s'=>?_⟩;cases x with
 |true=>exact⟨c,o,S,T,d,C,s',e,k⟩
 |false=>exact⟨c,o,S,T,d,C,s',e,k⟩
variable {es:List Expr} {fs:M (List D)}
theorem aU:DA X [] (pure []):=Ft d8 λ σ H Q ⟨c,C,S,T,d,o,s,e,k⟩=>by obtain⟨rfl,rfl⟩:=aW e;exact k [] H rfl s
noncomputable def du(fa:M D)(fs:M (List D)):M (List D):=do
 let x<- fa
 let xs<- fs
 pure (x::xs)
theorem aR(J:DE X a fa)(U:DA X es fs)(hs:starEach (a::es) X.env=(false,eval a X.env)::starEach es X.env:=by rfl):DA X (a::es) (du fa fs):=Ft (cX J U hs) λ σ H Q ⟨c,δ,S,T,d,aa,s,e,k⟩=>by obtain⟨x,o,e1,e⟩:=bind_some e;obtain⟨xs,C,e2,e⟩:=bind_some e;obtain⟨rfl,rfl⟩:=aW e;refine⟨c,δ,S,T,x,o,s,e1,λ v H1 s1=>⟨c,o,x::S,v::T,xs,C,s1,e2,λ vs H2 l s2=>k (v::vs) H2 (by grind) (s2.stk ?_)⟩⟩;have h1:=s2.st.left l;have I:=s2.st.right l;exact .cons I.head (h1.append I.tail)
noncomputable def few(n:Nat):Option Unit:=if n<=100000 then some ()else none
theorem gP(h:few n=some u):n<=sizeLine/\n<sizeLine:=by
 unfold few at h;split at h
 .have:100000<sizeLine:=by decide
  omega
 grind
noncomputable def xo(fs:M (List D)):M D:=do
 let ds<- fs
 let _<- lift (few ds.length)
 pure (.tup ds)
noncomputable def AE(fs:M (List D)):M (List D):=do
 let ds<- fs
 let _<- lift (few ds.length)
 pure ds
theorem cU(h:DA X es fs):DE X (.Tuple es x1 pos) (xo fs):=cC (Ir h) λ σ H Q ⟨c,C,S,T,d,I,s,e,k⟩=>by obtain⟨ds,o,J,e⟩:=bind_some e;obtain⟨_,U,e2,e⟩:=bind_some e;obtain⟨e3,rfl⟩:=bc e2;obtain⟨rfl,rfl⟩:=aW e;exact⟨c,C,S,T,ds,o,s,J,λ vs H1 l s1=>⟨by rw[l];exact(gP e3).1,λ p hp=>k _ _ (s1.newTup l hp)⟩⟩
theorem c6(h:DA X es fs):DF X (.List es pos) (AE fs):=cC (Kr h) λ σ H Q ⟨c,I,S,T,d,J,s,e,k⟩=>by obtain⟨ds,o,U,e⟩:=bind_some e;obtain⟨_,aa,e2,e⟩:=bind_some e;obtain⟨e3,rfl⟩:=bc e2;obtain⟨rfl,rfl⟩:=aW e;refine⟨c,I,S,T,ds,o,s,U,λ vs H1 l s1=>⟨by rw[l];exact(gP e3).1,λ p C=>?_⟩⟩;obtain⟨f1,f2,f3⟩:=s1.fresh C;exact k p vs _ l (s1.hide C) f1 f2 f3
noncomputable def jW(r:List V->Hp->VK->Prop)(f:List D->Option D):Prop:=∀(c:Ct)(o:DS)(S:List D)(σ:St)(T:List V)(H:Hp)(ds:List D)(vs:List V)(d:D)(Q:VK),vs.length=ds.length->Sl c o (ds++S) σ (vs++T) H->f ds=some d->(∀z H',Sl c o (d::S) σ (z::T) H'->Q z H')->r vs H Q
noncomputable def mC{α:Type}(f:List D->Option α)(fs:M (List D)):M α:=do
 let ds<- fs
 lift (f ds)
variable {x:Str} {p:Pos} {id T:String} {r:List V->Hp->VK->Prop} {f:List D->Option D}
theorem Gx(hd:jW r f):∀σ H Q,tM (mC f fs) σ H Q->OE r (OB fs) σ H Q:= λ σ H Q ⟨c,C,S,T,d,I,s,e,k⟩=>by obtain⟨ds,o,J,e⟩:=bind_some e;obtain⟨U,rfl⟩:=bc e;exact⟨c,C,S,T,ds,o,s,J,λ vs H1 l s1=>hd _ _ _ _ _ _ _ _ _ _ l s1 U k⟩
noncomputable def eD:List D->Option D
 |[.tup ds]=>some (.int ds.length)
 |[.lst ds]=>some (.int ds.length)
 |_=>none
theorem x9(h:Rs H [d] vs):∃v,vs=[v]/\R H d v:=by obtain⟨v,r,e,C,o⟩:=h.inv;rw[o.inv0]at e;grind
theorem NV(h:Rs H [d,d'] vs):∃v u,vs=[v,u]/\R H d v/\R H d' u:=by obtain⟨v,r,e,C,o⟩:=h.inv;obtain⟨u,rfl,I⟩:=x9 o;grind
theorem Ij:jW (λ xs H Q=>∃p ys,xs=[.ref p]/\(iK K H p ys\/i0 K H p ys)/\Q (.int ys.length) H) eD:= λ c J S σ T H ds vs d Q l s e k=>by
 have h:=s.st.left l;have I:=s.st.right l;unfold eD at e;split at e;. obtain⟨v,rfl,r⟩:=x9 h;obtain⟨p,ws,rfl,o,C⟩:=r.tup;cases e;exact⟨p,ws,rfl,.inr (.of (bB _ _ o)),k _ _ (s.stk (.cons (by rw[C.length];exact .mkI) I))⟩
 .obtain⟨v,rfl,r⟩:=x9 h;obtain⟨p,ws,rfl,o,C⟩:=r.lst;cases e;exact⟨p,ws,rfl,.inl (.inl (Rd.mono bB o)),k _ _ (s.stk (.cons (by rw[C.length];exact .mkI) I))⟩
 grind
theorem fT(I:dM X (.builtin id) r)(hd:jW r f)(J:Gl X x)(hm:X.mg x=none)(U:bootBuiltins x=some (.builtin id))(ha:DA X (a::es) fs)(hn:x≠"__name__":=by decide)(o:(x==("__debug__":Str))=false:=by decide)
  (he:starEach (a::es) X.env=(false,eval a X.env)::starEach es X.env:=by rfl)(C:(backTo pos (starEach es X.env)).any (·.1)=false:=by rfl):DE X (.Call (.Name x p) (a::es) [] pos) (mC f fs):=
 cC (fL I J hm U ha hn o he C) (Gx hd)
end
inductive Fl where
 | nx | bk | ct | rt (d:D) | rf (xs:List D)
noncomputable def Fin(c:Ct)(o:DS)(S:List D)(T:List V)(C:Fl)(E:Ends):Prop:=
 match C with
 | .nx=>∀σ H,Sl c o S σ T H->E.nx σ H
 | .bk=>∀σ H,Sl c o S σ T H->E.bk σ H
 | .ct=>∀σ H,Sl c o S σ T H->E.ct σ H
 | .rt d=>∀v σ H,Sl c o (d::S) σ (v::T) H->E.rt v H
 | .rf xs=>∀l vs σ H,vs.length=xs.length->Sl { c with Z:=upd c.Z l (.lst vs) } o (xs++S) σ (vs++T) H->c.Z l=none->l∉c.B->c.H0 l=none->E.rt (.ref l) H
inductive K_ (f:M Fl) (E:Ends) (σ:St) (H:Hp):Prop
 | mk (c:Ct) (δ:DS) (S:List D) (T:List V) (fl:Fl) (δ':DS) (s:Sl c δ S σ T H) (e:f δ=some (fl,δ')) (q:Fin c δ' S T fl E):K_ f E σ H
noncomputable abbrev mr(X:Cx)(st:Stmt)(f:M Fl):Prop:=PS X st (K_ f)
noncomputable abbrev l9(X:Cx)(st:List Stmt)(f:M Fl):Prop:=sG X st (K_ f)
theorem i8(h:PS X e t)(w:∀E σ H,t' E σ H->t E σ H):PS X e t':= λ pins s σ H Q I q=>h pins s σ H Q I (w Q σ H q)
theorem Hr(h:sG X e t)(w:∀E σ H,t' E σ H->t E σ H):sG X e t':= λ pins s σ H Q I q=>h pins s σ H Q I (w Q σ H q)
section
variable {X:Cx} {a b e:Expr} {fa:M D} {fF:M (List D)} {pos:Pos} {st:Stmt} {rest:List Stmt} {f g:M Fl} {tt:M Bool}
theorem bH:l9 X [] (pure .nx):=Hr Ep λ E σ H ⟨c,C,S,T,I,o,s,e,k⟩=>by obtain⟨rfl,rfl⟩:=aW e;exact k σ H s
noncomputable def dU(f g:M Fl):M Fl:=do
 let o<- f
 match o with
 | .nx=>g
 |o=>pure o
theorem aV(J:mr X st f)(U:l9 X rest g):l9 X (st::rest) (dU f g):=Hr (BA J U) λ E σ H ⟨c,δ,S,T,fl,I,s,e,k⟩=>by obtain⟨o,C,e1,e⟩:=bind_some e;refine⟨c,δ,S,T,o,C,s,e1,?_⟩;cases o with
 |nx=>exact λ aa H' s'=>⟨c,C,S,T,fl,I,s',e,k⟩
 |bk=>obtain⟨rfl,rfl⟩:=aW e;exact k
 |ct=>obtain⟨rfl,rfl⟩:=aW e;exact k
 |rt d=>obtain⟨rfl,rfl⟩:=aW e;exact k
 |rf xs=>obtain⟨rfl,rfl⟩:=aW e;exact k
theorem aX(o:mr X st f):l9 X [st] f:=Eg o
theorem bq(he:DE X e fa):mr X (.Return (some e) pos) (do let d<- fa;pure (.rt d)):=i8 (Cc he) λ E σ H ⟨c,C,S,T,U,I,s,e,k⟩=>by obtain⟨d,o,J,e⟩:=bind_some e;obtain⟨rfl,rfl⟩:=aW e;exact⟨c,C,S,T,d,o,s,J,λ v H' s'=>k v σ H' s'⟩
theorem h8(he:DF X e fF):mr X (.Return (some e) pos) (do let d<- fF;pure (.rf d)):=i8 (Cc he) λ E σ H ⟨c,C,S,T,fl,I,s,e,k⟩=>by obtain⟨d,o,J,e⟩:=bind_some e;obtain⟨rfl,rfl⟩:=aW e;exact⟨c,C,S,T,d,o,s,J,λ l vs H' U h2 h3 h4 h5=>k l vs σ H' U h2 h3 h4 h5⟩
noncomputable def nF(i:Nat):M (List D):= λ o=>match o[i]? with
 |some (.ow false xs)=>some (xs,o.set i .un)
 |_=>none
theorem tX(i:Nat){x:Str}{pos:Pos}(J:X.N[i]?=some x:=by rfl)(U:uw X.env.scope x:=by first | exact Or.inl rfl | exact Or.inr (Or.inl rfl) | exact Or.inr (Or.inr rfl))(hd:(x==("__debug__":Str))=false:=by decide)
  (o:(x==("__classdict__":Str))=false:=by decide):DF X (.Name x pos) (nF i):=cC (eU J U hd o) λ σ H Q ⟨c,δ,S,T,xs,aa,s,e,k⟩=>by
 unfold nF at e;split at e;. rename_i ys C;cases e;obtain⟨a,ab,I,_⟩:=s.ow i _ _ C;obtain⟨vs,h1,h2,h3,h4,h5⟩:=s.giveOw C I;exact⟨_,I,k a vs H h1 h2 h3 h4 h5⟩
 grind
theorem cu(J:DT X t tt)(U:l9 X as f)(hb:l9 X bs g):mr X (.If t as bs pos) (wH tt f g):=i8 (Md J U hb) λ E σ H ⟨c,δ,S,T,I,C,s,e,k⟩=>by obtain⟨x,o,e1,e⟩:=bind_some e;refine⟨c,δ,S,T,x,o,s,e1,λ H' s'=>?_⟩;cases x with
 |true=>exact⟨c,o,S,T,I,C,s',e,k⟩
 |false=>exact⟨c,o,S,T,I,C,s',e,k⟩
theorem u5(he:DE X e fa)(hs:swapsWith e none pos.line X.env=pure false:=by rfl):mr X (.Expr e pos) (do let _<- fa;pure .nx):=i8 (wC he hs) λ E σ H ⟨c,C,S,T,U,I,s,e,k⟩=>by obtain⟨x,o,J,e⟩:=bind_some e;obtain⟨rfl,rfl⟩:=aW e;exact⟨c,C,S,T,x,o,s,J,λ v H' s'=>k _ _ s'.pop⟩
noncomputable def ji(i:Nat)(d:D):M Unit:= λ o=>if i<o.length then some ((),o.set i (.pu d))else none
noncomputable def Av(i:Nat)(xs:List D):M Unit:= λ o=>if i<o.length then some ((),o.set i (.ow false xs))else none
theorem eN{u:Unit}(h:ji i d C=some (u,o)):i<C.length/\o=C.set i (.pu d):=by unfold ji at h;grind
theorem mZ{u:Unit}(h:Av i d C=some (u,o)):i<C.length/\o=C.set i (.ow false d):=by unfold Av at h;grind
noncomputable def q5(i:Nat)(fa:M D):M Fl:=do
 let d<- fa
 ji i d
 pure .nx
noncomputable def KC(i:Nat)(fF:M (List D)):M Fl:=do
 let d<- fF
 Av i d
 pure .nx
theorem Ly(w:∀σ H Q,tM fa σ H Q->te σ H Q):∀E σ H,K_ (q5 i fa) E σ H->CU te (qE i) E σ H:= λ E σ H ⟨c,C,S,T,fl,I,s,e,k⟩=>by obtain⟨d,o,J,e⟩:=bind_some e;obtain⟨u,U,e2,e⟩:=bind_some e;obtain⟨rfl,rfl⟩:=aW e;obtain⟨hi,rfl⟩:=eN e2;exact w _ _ _ ⟨c,C,S,T,d,o,s,J,λ v H' s'=>k _ _ (s'.setPu hi)⟩
theorem Oo(w:∀σ H Q,MX fF σ H Q->te σ H Q):∀E σ H,K_ (KC i fF) E σ H->CU te (qE i) E σ H:= λ E σ H ⟨c,C,S,T,fl,I,s,e,k⟩=>by obtain⟨d,o,J,e⟩:=bind_some e;obtain⟨u,U,e2,e⟩:=bind_some e;obtain⟨rfl,rfl⟩:=aW e;obtain⟨hi,rfl⟩:=mZ e2;exact w _ _ _ ⟨c,C,S,T,d,o,s,J,λ l vs H' h1 h2 h3 h4 h5=>k _ _ (h2.setOw h1 h3 h4 h5 hi)⟩
theorem br(i:Nat){x:Str}{pos':Pos}(o:X.N.Nodup)(he:DE X e fa)(C:X.N[i]?=some x:=by rfl)(hx:Loc X.env.scope x:=by first | exact Or.inl rfl | exact Or.inr rfl)(hs:swapsWith e (some (.Name x pos')) pos.line X.env=pure false:=by rfl)
  (hf:X.fn x=true\/X.env.scope.names.lookup x=some .local:=by first | exact .inl rfl | exact .inr rfl | assumption):mr X (.Assign [.Name x pos'] e pos) (q5 i fa):=i8 (Az o C hx he hs hf) (Ly λ _ _ _ h=>h)
theorem eA(i:Nat){x:Str}{pos':Pos}(o:X.N.Nodup)(he:DF X e fF)(C:X.N[i]?=some x:=by rfl)(hx:Loc X.env.scope x:=by first | exact Or.inl rfl | exact Or.inr rfl)(hs:swapsWith e (some (.Name x pos')) pos.line X.env=pure false:=by rfl)
  (hf:X.fn x=true\/X.env.scope.names.lookup x=some .local:=by first | exact .inl rfl | exact .inr rfl | assumption):mr X (.Assign [.Name x pos'] e pos) (KC i fF):=i8 (Az o C hx he hs hf) (Oo λ _ _ _ h=>h)
inductive IV (lo:Nat) (f:D->M Unit) (v:V) (σ:St) (H:Hp) (Q:St->Hp->Prop):Prop
 | mk (c:Ct) (δ:DS) (S:List D) (T:List V) (d:D) (δ':DS) (s:Sl c δ (d :: S) σ (v :: T) H) (e:f d δ=some ((),δ')) (q:∀σ' H',(∀n,n ≤ lo->σ'.take n=σ.take n)->Sl c δ' S σ' T H' -> Q σ' H'):IV lo f v σ H Q
inductive My (lo:Nat) (f:List D->M Unit) (vs:List V) (σ:St) (H:Hp) (Q:St->Hp->Prop):Prop
 | mk (c:Ct) (δ:DS) (S:List D) (T:List V) (ds:List D) (δ':DS) (l:vs.length=ds.length) (s:Sl c δ (ds ++ S) σ (vs ++ T) H) (e:f ds δ=some ((),δ')) (q:∀σ' H',(∀n,n ≤ lo->σ'.take n=σ.take n)->Sl c δ' S σ' T H' -> Q σ' H'):My lo f vs σ H Q
noncomputable abbrev DG(X:Cx)(lo:Nat)(tg:Expr)(f:D->M Unit):Prop:=PG X tg (IV lo f)
noncomputable abbrev Nk(X:Cx)(lo:Nat)(tg:List Expr)(f:List D->M Unit):Prop:=Jd X tg (My lo f)
theorem KN(h:PG X e t)(w:∀v σ H Q,t' v σ H Q->t v σ H Q):PG X e t':= λ pins s σ H v u Q I r q=>h pins s σ H v u Q I r (w v σ H Q q)
theorem Ho{e:List Expr}{t t':Gz}(h:Jd X e t)(w:∀v σ H Q,t' v σ H Q->t v σ H Q):Jd X e t':= λ pins s σ H v u Q I r q=>h pins s σ H v u Q I r (w v σ H Q q)
theorem bG(i:Nat){x:Str}{pos:Pos}(I:X.N.Nodup)(o:lo<=i:=by decide)(C:X.N[i]?=some x:=by rfl)(hx:Loc X.env.scope x:=by first | exact Or.inl rfl | exact Or.inr rfl)
  (hf:X.fn x=true\/X.env.scope.names.lookup x=some .local:=by first | exact .inl rfl | exact .inr rfl | assumption):DG X lo (.Name x pos) (ji i):=KN (Ew I C hx hf) λ v σ H Q ⟨c,δ,S,T,d,J,s,e,k⟩=>by obtain⟨C,rfl⟩:=eN e;exact k _ _ (λ n U=>List.take_set_of_le (Q1 U o)) (s.setPu C)
noncomputable def jY:List D->M Unit
 |[]=>pure ()
 |_=>lift none
noncomputable def f9(f:D->M Unit)(g:List D->M Unit):List D->M Unit
 |d::ds=>do
  f d
  g ds
 |_=>lift none
theorem d4:Nk X lo [] jY:=Ho Gr λ v σ H Q ⟨c,C,S,T,ds,o,l,s,e,k⟩=>by cases ds with
 |nil=>obtain⟨_,rfl⟩:=aW e;have:v=[]:=VW l;subst this;exact⟨rfl,k σ H (λ _ _=>rfl) s⟩
 |cons d ds=>cases e
theorem bR{e:Expr}{es:List Expr}{f:D->M Unit}{g:List D->M Unit}(U:DG X lo e f)(h2:Nk X lo es g)
  (hs:(assignEach (e::es) X.env).map (·.2)=assign e X.env::(assignEach es X.env).map (·.2):=by rfl):Nk X lo (e::es) (f9 f g):=Ho (zR U h2 hs) λ vs σ H Q ⟨c,δ,S,T,ds,C,l,s,e,k⟩=>by cases ds with
 |nil=>cases e
 |cons d ds=>cases vs with
  |nil=>cases l
  |cons v vs=>obtain⟨u,o,e1,e2⟩:=bind_some e;exact⟨v,vs,rfl,c,δ,ds++S,vs++T,d,o,s,e1,λ aa H1 t1 s1=>⟨c,o,S,T,ds,C,by grind,s1,e2,λ I H2 t2 s2=>k I H2 (λ n J=>(t2 n J).trans (t1 n J)) s2⟩⟩
noncomputable def iC(n:Nat)(g:List D->M Unit):D->M Unit
 | .tup ds=>if ds.length=n then g ds else lift none
 |_=>lift none
theorem fB{k:Nat}{g:List D->M Unit}{n:Nat}(h:Nk X lo es g)(hc:X.calm=true:=by rfl)
  (hn:(assignEach es X.env).length=n:=by rfl)(C:(assignEach es X.env).findIdx? (·.1)=none:=by rfl):DG X lo (.Tuple es k pos) (iC n g):=KN (IZ hc h hn C) λ v σ H Q ⟨c,U,S,T,d,o,s,e,k⟩=>by cases d with
 |tup ds=>
  have I:(if ds.length=n then g ds else lift none) U=some ((),o):=e;split at I;. obtain⟨p,vs,rfl,h1,J⟩:=s.st.head.tup;exact⟨p,vs,rfl,.of (bB _ _ h1),by rw[J.length];omega,c,U,S,T,ds,o,J.length,s.stk (J.append s.st.tail),I,k⟩
  .cases I
 |_=>cases e
theorem sO{g:D->M Unit}(he:DE X e fa)(I:DG X 0 tg g)(hs:swapsWithSole [tg] e pos.line X.env=pure false:=by rfl)(hw:swappedStores [tg] e X.env=pure none:=by rfl)
  (J:(assignEach [tg] X.env).map (·.2)=[assign tg X.env]:=by rfl):mr X (.Assign [tg] e pos) (do let d<- fa;g d;pure .nx):=i8 (Bk he I hs hw J) λ E σ H ⟨c,U,S,T,fl,aa,s,e,k⟩=>by obtain⟨d,o,e1,e⟩:=bind_some e;obtain⟨u,C,e2,e⟩:=bind_some e;obtain⟨rfl,rfl⟩:=aW e;exact⟨c,U,S,T,d,o,s,e1,λ v H' s'=>⟨c,o,S,T,d,C,s',e2,λ ab H2 _ s2=>k _ _ s2⟩⟩
noncomputable abbrev iW:=List (DS->Option D)×(DS->Bool)
noncomputable def JK(J:It)(its:iW)(C:List D)(I:List V):Prop:=∀(c:Ct)(o:DS)(S:List D)(σ:St)(T:List V)(H:Hp)(i:Nat),Sl c o (C++S) σ (I++T) H->
 (∀act d,its.1[i]?=some act->act o=some d->J.go i H/\∀x H',J.yld i H x H'->Sl c o (d::(C++S)) σ (x::(I++T)) H')/\(i=its.1.length->its.2 o=true->J.stop i H)
inductive Nz (f:M iW) (σ:St) (H:Hp) (R:It->Hp->Prop):Prop
 | mk (c:Ct) (δ:DS) (S:List D) (T:List V) (it:iW) (δ':DS) (s:Sl c δ S σ T H) (e:f δ=some (it,δ')) (q:∀J Sx Tx H',Tx.length=Sx.length->JK J it Sx Tx->Sl c δ' (Sx ++ S) σ (Tx ++ T) H' -> R J H'):Nz f σ H R
noncomputable abbrev DI(X:Cx)(tg iter:Expr)(f:M iW):Prop:=PI X tg iter (Nz f)
theorem q_{tg e:Expr}{t t':TI}(h:PI X tg e t)(w:∀σ H Q,t' σ H Q->t σ H Q):PI X tg e t':= λ pins s σ H Q I q=>h pins s σ H Q I (w σ H Q q)
noncomputable def bz(ds:List D):iW:=(ds.map λ d _=>some d,λ _=>true)
theorem eL{i:Nat}{act:DS->Option D}{o:DS}{d:D}(h:(bz ds).1[i]?=some act)(e:act o=some d):ds[i]?=some d:=by unfold bz at h;grind
theorem FP{X:Cx}(hK:X.K=K){a:Addr}{ds:List D}:JK (OA K a) (bz ds) [.tup ds] [.ref a]:= λ c δ S σ T H i s=>by obtain⟨p,vs,e,J,C⟩:=s.st.head.tup;cases e;have o:i0 K H a vs:= .of (bB _ _ J);refine⟨λ act d U hd=>?_,λ e _=>⟨vs,o,by rw[C.length,e];simp[bz]⟩⟩;obtain⟨v,I,r⟩:=C.get (eL U hd);refine⟨⟨vs,v,o,I⟩,λ x H' y=>?_⟩;obtain⟨rfl,y⟩:=y;have:=y vs o;rw[I]at this;cases this;exact s.stk (.cons r s.st)
theorem Ey{a:Addr}{ds:List D}:JK (Nh K a) (bz ds) [.lst ds] [.ref a]:= λ c δ S σ T H i s=>by obtain⟨p,vs,e,J,C⟩:=s.st.head.lst;cases e;have o:iK K H a vs:= .inl (Rd.mono bB J);refine⟨λ act d U hd=>?_,λ e _=>⟨vs,o,by rw[C.length,e];simp[bz]⟩⟩;obtain⟨v,I,r⟩:=C.get (eL U hd);refine⟨⟨vs,v,o,I⟩,λ x H' y=>?_⟩;obtain⟨rfl,y⟩:=y;have:=y vs o;rw[I]at this;cases this;exact s.stk (.cons r s.st)
noncomputable def ck:D->Option iW
 | .tup ds=>some (bz ds)
 | .lst ds=>some (bz ds)
 |_=>none
theorem Ji{tg l:Expr}{U:TE}(hl:PE X l U):PI X tg l (λ σ H R=>U σ H λ x H1=>∃a,x= .ref a/\(((∃xs,iK X.K H1 a xs)/\R (Nh X.K a) H1)\/((∃xs,i0 X.K H1 a xs)/\R (OA X.K a) H1))):=by
 intro pins s σ H R I h;refine cf (hl pins s σ H _ I h) λ v s1 ⟨x,H1,C,r1,q1⟩=>?_;obtain⟨a,e,q⟩:=q1;subst e;cases r1;rcases q with⟨⟨xs,J⟩,q⟩|⟨⟨xs,J⟩,q⟩
 .obtain⟨its,rv,p,hz⟩:=C.list J;refine VY p.isList ?_;refine⟨s1.heap.objs.size,[s1.heap.objs.size],_,_,H1,rfl,C.kept (t':=s1.toks) λ b o e=>zS _ e,nc a _,⟨_,wL _ rfl,rfl,rfl⟩,λ b hb=>?_,q⟩;have e:b=s1.heap.objs.size:=by simp_all
  subst e;exact C.fpOk (wF _) (C.hok.fresh (wF _))
 .obtain⟨its,rv,p,hz⟩:=C.tuple J;refine wpAny_pyIter_tuple (show s1.heap.IsTuple a its.toArray from p) ?_;refine⟨s1.heap.objs.size,[s1.heap.objs.size],_,_,H1,rfl,C.kept (t':=s1.toks) λ b o e=>zS _ e,sL a _,⟨_,wL _ rfl,rfl,rfl⟩,λ b hb=>?_,q⟩;have e:b=s1.heap.objs.size:=by simpa using hb
  subst e;exact C.fpOk (wF _) (C.hok.fresh (wF _))
theorem bO{tg l:Expr}(J:DE X l fa):DI X tg l (do let x<- fa;lift (ck x)):=q_ (Ji J) λ σ H R ⟨c,U,S,T,it,aa,s,e,k⟩=>by obtain⟨x,o,e1,e⟩:=bind_some e;obtain⟨C,rfl⟩:=bc e;refine⟨c,U,S,T,x,o,s,e1,λ v H' s'=>?_⟩;cases x with
 |tup ds=>cases C;obtain⟨p,vs,rfl,I,h2⟩:=s'.st.head.tup;exact⟨p,rfl,.inr ⟨⟨vs,.of (bB _ _ I)⟩,k _ [.tup ds] [.ref p] H' rfl (FP rfl) s'⟩⟩
 |lst ds=>cases C;obtain⟨p,vs,rfl,I,h2⟩:=s'.st.head.lst;exact⟨p,rfl,.inl ⟨⟨vs,.inl (Rd.mono bB I)⟩,k _ [.lst ds] [.ref p] H' rfl Ey s'⟩⟩
 |_=>cases C
noncomputable def cq(lo:Int)(n:Nat):List D:=(List.range n).map λ(i:Nat)=>D.int (lo+(i:Int))
theorem vN:JK (Mr lo n) (bz (cq lo n)) [] []:= λ c I S σ T H i s=>by
 refine⟨λ act d C hd=>?_,λ e _=>by
  have:(bz (cq lo n)).1.length=n:=by simp[bz,cq]
  show n<=i;omega⟩;have h:=eL C hd;unfold cq at h;rw[QL]at h;have o:i<n:=by grind
 rw[V4 o]at h;cases h;refine⟨o,λ x H' y=>?_⟩;obtain⟨rfl,rfl⟩:=y;exact s.stk (.cons .mkI s.st)
noncomputable def cj(i:Int):Bool:=decide (-(2^62)<=i)&&decide (i<2^62)
noncomputable def ju:List D->Option iW
 |[.int j]=>if cj j=true then some (bz (cq 0 j.toNat))else none
 |_=>none
noncomputable def Iu:List D->Option iW
 |[.int i,.int j]=>if(cj i&&cj j)=true then some (bz (cq i (j-i).toNat))else none
 |_=>none
theorem cM{tg a:Expr}{p:Pos}{fs:M (List D)}(J:Gl X "range")(hm:X.mg "range"=none)(U:DA X [a] fs)(hs:starEach [a] X.env=[(false,eval a X.env)]:=by rfl):DI X tg (.Call (.Name "range" p) [a] [] pos) (mC ju fs):=
 q_ (yn J hm U hs) λ σ H R ⟨c,δ,S,T,it,aa,s,e,k⟩=>by
  obtain⟨ds,C,e1,e⟩:=bind_some e;obtain⟨o,rfl⟩:=bc e;refine⟨c,δ,S,T,ds,C,s,e1,λ vs H' l s'=>?_⟩;unfold ju at o;split at o
  .split at o;. rename_i j I;cases o;obtain⟨v,rfl,r⟩:=x9 (s'.st.left l);cases r.int;simp[cj]at I;exact⟨j,rfl,I.1,I.2,k _ [] [] H' rfl vN (s'.stk (s'.st.right l))⟩
   .cases o
  grind
theorem xO{tg a b:Expr}{p:Pos}{fs:M (List D)}(U:Gl X "range")(hm:X.mg "range"=none)(ha:DA X [a,b] fs)(hs:starEach [a,b] X.env=[(false,eval a X.env),(false,eval b X.env)]:=by rfl)(I:starEach [b] X.env=[(false,eval b X.env)]:=by rfl):
  DI X tg (.Call (.Name "range" p) [a,b] [] pos) (mC Iu fs):=
 q_ (yd U hm ha hs I) λ σ H R ⟨c,δ,S,T,it,aa,s,e,k⟩=>by
  obtain⟨ds,J,e1,e⟩:=bind_some e;obtain⟨o,rfl⟩:=bc e;refine⟨c,δ,S,T,ds,J,s,e1,λ vs H' l s'=>?_⟩;unfold Iu at o;split at o
  .split at o
   .rename_i i j C;cases o;obtain⟨v,u,rfl,r1,r2⟩:=NV (s'.st.left l);cases r1.int;cases r2.int;simp[cj]at C;exact⟨i,j,rfl,⟨C.1.1,C.1.2,C.2.1,C.2.2⟩,k _ [] [] H' rfl vN (s'.stk (s'.st.right l))⟩
   .cases o
  grind
noncomputable def df(i n:Nat):iW:=((List.range n).map λ(j:Nat) (o:DS)=>match o[i]? with
 |some (.ow _ xs)=>if xs.length=n then xs[j]? else none
 |_=>none,λ o=>match o[i]? with
 |some (.ow _ xs)=>decide (xs.length=n)
 |_=>false)
noncomputable def dv(i:Nat):M (List D):= λ o=>match o[i]? with
 |some (.ow _ xs)=>some (xs,o)
 |_=>none
theorem b7{C o:DS}(h:dv i C=some (xs,o)):(∃b,C[i]?=some (.ow b xs))/\C=o:=by unfold dv at h;grind
end
section
variable {X:Cx} {a b e tg iter elt:Expr} {te:M D} {pos:Pos} {st:Stmt} {f body:M Fl} {tt:M Bool} {fi:M iW} {gt:D->M Unit}
theorem Sl.drop(s:Sl c o (A++S) σ (P++T) H)(l:P.length=A.length):Sl c o S σ T H:=s.stk (s.st.right l)
theorem Sl.rot(s:Sl c C (A++(B++S)) σ (P++(Q++T)) H)(l:P.length=A.length)(o:Q.length=B.length):Sl c C (B++(A++S)) σ (Q++(P++T)) H:=
 s.stk (((s.st.right l).left o).append ((s.st.left l).append ((s.st.right l).right o)))
noncomputable def forM(gt:D->M Unit)(body:M Fl)(fin:DS->Bool):List (DS->Option D)->M Fl
 |[]=> λ o=>if fin o=true then some (.nx,o)else none
 |a::r=> λ o=>match a o with
  |none=>none
  |some d=>(do
   gt d
   let C<- body
   match C with
   | .nx=>forM gt body fin r
   | .ct=>forM gt body fin r
   | .bk=>pure .nx
   | .rt d=>pure (.rt d)
   | .rf d=>pure (.rf d)) o
theorem fA(hi:DI X tg iter fi)(hg:DG X 0 tg gt)(hb:l9 X ag body)(hp:PassesOwn (model X.prog X.w) X.A X.env X.xe:=by exact PassesOwn.never)(hc:X.calm=true:=by rfl)
  (hs:∀x,foldedSetIterable iter X.env x=pure x:=by intro _;rfl):mr X (.For tg iter ag [] pos) (do let it<- fi;forM gt body it.2 it.1):=i8 (JR hp hc hi hg hb hs) λ E ak H0 ⟨c,ah,S,T,fl,aa,s0,e,k⟩=>by
 obtain⟨it,ab,e1,e⟩:=bind_some e;refine⟨c,ah,S,T,it,ab,s0,e1,λ J Sx Tx H1 l hJ s1=>?_⟩;obtain⟨items,fin⟩:=it;refine⟨λ i m σ H=>∃o,m=items.length-i/\i<=items.length/\Sl c o (Sx++S) σ (Tx++T) H/\forM gt body fin (items.drop i) o=some (fl,aa),⟨_,ab,rfl,QV _,s1,e⟩,?_⟩;rintro i m σ H ⟨o,rfl,hi,s,em⟩;by_cases I:i<items.length;. rw[QG I]at em;unfold forM at em;cases ea:items[i] o with
  |none=>rw[ea]at em;cases em
  |some d=>rw[ea]at em;obtain⟨u,ae,e2,em⟩:=bind_some em;obtain⟨af,U,e3,em⟩:=bind_some em;obtain⟨go,ai⟩:=(hJ c o S σ T H i s).1 items[i] d (kW I) ea;refine .inr ⟨go,λ C H'=>∃o,Sl c o (Sx++S) C (Tx++T) H'/\forM gt body fin (items.drop (i+1)) o=some (fl,aa),λ C H' ⟨aj,sj,ej⟩=>⟨items.length-(i+1),by omega,aj,rfl,I,sj,ej⟩,λ x H' y=>?_⟩;refine⟨c,o,Sx++S,Tx++T,d,ae,ai x H' y,e2,λ ao H2 _ s2=>⟨c,ae,Sx++S,Tx++T,af,U,s2,e3,?_⟩⟩;cases af with
   |nx=>exact λ C H' s'=>⟨U,s',em⟩
   |ct=>exact λ C H' s'=>⟨U,s',em⟩
   |bk=>obtain⟨rfl,rfl⟩:=aW em;exact λ C H' s'=>k _ _ (s'.drop l)
   |rt d'=>obtain⟨rfl,rfl⟩:=aW em;exact λ v C H' s'=>k v C H' (s'.stk (.cons s'.st.head (s'.st.tail.right l)))
   |rf xs=>obtain⟨rfl,rfl⟩:=aW em;exact λ q vs C H' h1 h2 h3 h4 h5=>k q vs C H' h1 (h2.stk ((h2.st.left h1).append ((h2.st.right h1).right l))) h3 h4 h5
 .have ei:i=items.length:=by omega
  subst ei;rw[ZU]at em;unfold forM at em;by_cases hf:fin o=true;. rw[gL hf]at em;cases em;exact .inl ⟨(hJ c _ S σ T H _ s).2 rfl hf,k _ _ (s.drop l)⟩
  simp_all
noncomputable def PQ(J:It)(its:iW)(C:List D)(I:List V)(σ:St):Prop:=∀(c:Ct)(o:DS)(S:List D)(T:List V)(H:Hp)(i:Nat),Sl c o (C++S) σ (I++T) H->
 (∀act d,its.1[i]?=some act->act o=some d->J.go i H/\∀x H',J.yld i H x H'->Sl c o (d::(C++S)) σ (x::(I++T)) H')/\(i=its.1.length->its.2 o=true->J.stop i H)
inductive KY (f:M iW) (σ:St) (H:Hp) (R:It->Hp->Prop):Prop
 | mk (c:Ct) (δ:DS) (S:List D) (T:List V) (it:iW) (δ':DS) (s:Sl c δ S σ T H) (e:f δ=some (it,δ')) (q:∀J Sx Tx H',Tx.length=Sx.length->PQ J it Sx Tx σ->Sl c δ' (Sx ++ S) σ (Tx ++ T) H' -> R J H'):KY f σ H R
noncomputable abbrev DC(X:Cx)(tg iter:Expr)(f:M iW):Prop:=PI X tg iter (KY f)
theorem bU(h:DI X tg iter fi):DC X tg iter fi:=q_ h λ σ H R ⟨c,o,S,T,it,C,s,e,k⟩=>⟨c,o,S,T,it,C,s,e,λ J I U H' l hJ s'=>k J I U H' l (λ c o S T H i=>hJ c o S σ T H i) s'⟩
theorem JD(i:Nat){x:Str}{pos:Pos}(hN:X.N[i]?=some x:=by rfl)(hv:uw X.env.scope x:=by first|exact Or.inl rfl|exact Or.inr (Or.inl rfl)|exact Or.inr (Or.inr rfl))(hd:(x==("__debug__":Str))=false:=by decide)
  (aa:(x==("__classdict__":Str))=false:=by decide):DC X tg (.Name x pos) (do let xs<- dv i;pure (df i xs.length)):=q_ (Ea (eU hN hv hd aa)) λ σ H R ⟨c,δ,S,T,it,ab,s,e,k⟩=>by
 obtain⟨xs,ae,e1,e⟩:=bind_some e;obtain⟨rfl,rfl⟩:=aW e;obtain⟨⟨b,hi⟩,rfl⟩:=b7 e1;obtain⟨a,vs,ea,hH,hv,_⟩:=s.ow i b xs hi;refine⟨_,ea,a,rfl,⟨vs,.of hH⟩,k _ [] [] H rfl ?_ s⟩;intro c δ S T H j s;refine⟨λ act d J hd=>?_,λ ej hf=>?_⟩
 .unfold df at J;rw[QL]at J;have hj:j<xs.length:=by
   by_cases hj:j<xs.length;. exact hj
   .rw[KW (by simp;omega)]at J;cases J
  rw[V4 hj]at J;cases J;dsimp only at hd;split at hd
  .rename_i b' ys hy;split at hd
   .obtain⟨a',ws,o,C,I,_⟩:=s.ow i b' ys hy;rw[ea]at o;cases o;obtain⟨v,U,r⟩:=I.get hd;refine⟨⟨ws,v,.of C,U⟩,λ x H' y=>?_⟩;obtain⟨rfl,y⟩:=y;have:=y ws (.of C);rw[U]at this;cases this;exact s.stk (.cons r s.st)
   .cases hd
  simp_all
 .unfold df at hf ej;dsimp only at hf;split at hf;. rename_i b' ys hy;obtain⟨a',ws,o,C,I,_⟩:=s.ow i b' ys hy;rw[ea]at o;cases o;have hl:ys.length=xs.length:=ZV hf;refine⟨ws,.of C,?_⟩;rw[I.length,ej];simp;omega
  .cases hf
noncomputable def gS(gt:D->M Unit)(tt:M Bool)(te:M D)(d:D):M (Option D):=do
 gt d
 let b<- tt
 if b=true then do
  let x<- te
  pure (some x)
 else pure none
noncomputable def eP(own:Nat)(turn:D->M (Option D))(fin:DS->Bool):List (DS->Option D)->M (List D)
 |[]=> λ C=>if fin C=true then some ([],C)else none
 |a::r=> λ C=>match a C with
  |none=>none
  |some d=>match turn d (C++List.replicate own .un)with
   |none=>none
   |some (o,I)=>match eP own turn fin r (I.take C.length)with
    |none=>none
    |some (xs,J)=>some (o.toList++xs,J)
noncomputable def gB(n:Nat):M Unit:= λ o=>if o.length=n then some ((),o)else none
noncomputable def gG(lo own:Nat)(fi:M iW)(turn:D->M (Option D)):M (List D):=do
 gB lo
 let it<- fi
 let _<- lift (few it.1.length)
 eP own turn it.2 it.1
theorem q0:∀σ H Q,MX (gG lo own fi (gS gt tt te)) σ H Q->wB (KY fi) own (IV lo gt) (pJ tt) (tM te) σ H Q:= λ σ H Q ⟨c,ah,S,T,xs,au,s0,e,k⟩=>by
 obtain⟨u,av,e0,e⟩:=bind_some e;have ae:σ.length=lo/\ah=av:=by
  unfold gB at e0;split at e0;. cases e0;exact⟨by rw[<- s0.len];assumption,rfl⟩
  .cases e0
 obtain⟨ae,rfl⟩:=ae;obtain⟨it,ai,e1,e⟩:=bind_some e;obtain⟨u',aw,e2,e⟩:=bind_some e;obtain⟨e3,rfl⟩:=bc e2;have aj:=(gP e3).2;refine⟨c,ah,S,T,it,ai,s0,e1,λ J Sx Tx H1 l hJ s1 q hq=>?_⟩;obtain⟨items,fin⟩:=it;dsimp only at e aj;obtain⟨f1,f2,f3⟩:=s1.fresh hq;refine⟨λ i m acc H=>∃I C af,m=items.length-i/\i<=items.length/\acc.length=C.length/\acc.length<=i/\Sl { c with Z:=upd c.Z q (.lst acc) } I (C++(Sx++S)) σ (acc++(Tx++T)) H/\
  eP own (gS gt tt te) fin (items.drop i) I=some (af,au)/\C++af=xs,⟨_,ai,[],xs,rfl,QV _,rfl,wF _,s1.hide hq,e,rfl⟩,?_⟩;rintro i m acc H ⟨I,C,af,rfl,hi,la,li,s,em,ex⟩;have ak:H q=some (.lst acc):=s.zz q _ bj;refine⟨ak,?_⟩;have sr:=s.rot la l;by_cases aa:i<items.length;. rw[QG aa]at em;unfold eP at em;cases ea:items[i] I with
  |none=>rw[ea]at em;cases em
  |some d=>rw[ea]at em;dsimp only at em;cases U:gS gt tt te d (I++List.replicate own .un)with
   |none=>rw[U]at em;cases em
   |some p=>obtain⟨o,ax⟩:=p;rw[U]at em;dsimp only at em;cases ec:eP own (gS gt tt te) fin (items.drop (i+1)) (ax.take I.length)with
    |none=>rw[ec]at em;cases em
    |some p=>
     obtain⟨ao,aw⟩:=p;rw[ec]at em;cases em;obtain⟨u1,aq,ay,U⟩:=bind_some U;obtain⟨b,ag,az,U⟩:=bind_some U;obtain⟨go,aA⟩:=(hJ { c with Z:=upd c.Z q (.lst acc) } I (C++S) (acc++T) H i sr).1 items[i] d (kW aa) ea;refine .inr ⟨go,λ x H' y=>?_⟩;refine⟨{ c with Z:=upd c.Z q (.lst acc) },I++List.replicate own .un,Sx++(C++S),Tx++(acc++T),d,aq,(aA x H' y).ext own,ay,λ aB H2 hn s2=>?_⟩;have ht:aB.take σ.length=σ:=by rw[hn _ (W7 ae)];exact YB rfl
     refine⟨ht,{ c with Z:=upd c.Z q (.lst acc) },aq,Sx++(C++S),Tx++(acc++T),b,ag,s2,az,λ H3 s3=>?_⟩;have ab:I.length=σ.length:=s.len;cases b with
     |true=>obtain⟨y1,ar,ey,U⟩:=bind_some U;obtain⟨rfl,rfl⟩:=aW U;refine⟨{ c with Z:=upd c.Z q (.lst acc) },ag,Sx++(C++S),Tx++(acc++T),y1,ar,s3,ey,λ v H4 s4=>?_⟩;refine⟨s4.zz q _ bj,by omega,items.length-(i+1),by omega,ar.take I.length,C++[y1],ao,rfl,aa,by simp[la],by simp;omega,?_,ec,by rw[<- ex];simp⟩;have s5:=s4.cut σ.length;rw[ht,<- ab]at s5;have s6:=Sl.hideSet (.lst (acc++[v])) s5 f2 f3;refine s6.stk ?_;have h1:=s6.st.head;have h2:=s6.st.tail.left l;have h3:=s6.st.tail.right l;have h4:=h3.left la;have h5:=h3.right la;exact(h4.append (.cons h1 .nil)).append (h2.append h5)
     |false=>obtain⟨rfl,rfl⟩:=aW U;refine⟨items.length-(i+1),by omega,ag.take I.length,C,ao,rfl,aa,la,by omega,?_,ec,ex⟩;have s5:=s3.cut σ.length;rw[ht,<- ab]at s5;exact s5.rot l la
 .have ei:i=items.length:=by omega
  subst ei;rw[ZU]at em;unfold eP at em;by_cases hf:fin I=true;. rw[gL hf]at em;cases em;rw[ZA]at ex;subst ex;refine .inl ⟨(hJ { c with Z:=upd c.Z q (.lst acc) } _ (C++S) (acc++T) H _ sr).2 rfl hf,k q acc H la ?_ f1 f2 f3⟩;exact s.stk ((s.st.left la).append ((s.st.right la).right l))
  .rw[QC hf]at em;cases em
theorem f6:pg X [] (pJ (pure true)):= λ pins s σ H Q I ⟨c,C,S,T,b,o,sl,e,k⟩=>by obtain⟨rfl,rfl⟩:=aW e;exact Du pins s σ H Q I (k H sl)
theorem wb(h:DT X t tt):pg X [t] (pJ tt):=Fy h
variable {N' own:List Str} {scope:Scope} {ifs:List Expr} {lo:Nat}
theorem FL(o:DC X tg iter fi)(C:∀s H fp pins,DG (blk X N' own scope s H fp pins) lo tg gt)(I:∀s H fp pins,pg (blk X N' own scope s H fp pins) ifs (pJ tt))(he:∀s H fp pins,DE (blk X N' own scope s H fp pins) elt te)
  (J:cT N' own X.env.scope scope=true:=by rfl)(U:cQ X.N N' scope=true:=by rfl)(hk:scope.kind= .function:=by rfl)(hc:X.calm=true:=by rfl)(hs:∀x,foldedSetIterable iter X.env x=pure x:=by intro _;rfl):
  DF X (.ListComp elt [⟨tg,iter,ifs,0⟩] scope pos) (gG lo own.length fi (gS gt tt te)):=cC (EL o C I he J U hk hc hs) q0
theorem Qa{te:TE}{f:M (List D)}(w:∀σ H Q,MX f σ H Q->te σ H Q):∀σ H Q,tM (do let xs<- f;pure (.lst xs)) σ H Q->te σ H Q:= λ σ H Q ⟨c,C,S,T,d,I,s,e,k⟩=>by obtain⟨xs,o,J,U⟩:=bind_some e;obtain⟨rfl,rfl⟩:=aW U;exact w _ _ _ ⟨c,C,S,T,xs,o,s,J,λ l vs H' hl s' hz _ _=>k _ _ (s'.unhideL hl hz)⟩
theorem Ah(i:Nat){x:Str}{o C:Pos}(U:X.N.Nodup)(hi:DC X tg iter fi)(hg:∀s H fp pins,DG (blk X N' own scope s H fp pins) lo tg gt)(ht:∀s H fp pins,pg (blk X N' own scope s H fp pins) ifs (pJ tt))(he:∀s H fp pins,DE (blk X N' own scope s H fp pins) elt te)
  (I:X.N[i]?=some x:=by rfl)(hx:X.env.scope.names.lookup x=some .local:=by rfl)
  (J:swapsWith (.ListComp elt [⟨tg,iter,ifs,0⟩] scope pos) (some (.Name x o)) C.line X.env=pure true:=by rfl)
  (hS:cT N' own X.env.scope scope=true:=by rfl)(hM:cQ X.N N' scope=true:=by rfl)(hk:scope.kind= .function:=by rfl)(hc:X.calm=true:=by rfl)(hs:∀x,foldedSetIterable iter X.env x=pure x:=by intro _;rfl):
  mr X (.Assign [.Name x o] (.ListComp elt [⟨tg,iter,ifs,0⟩] scope pos) C) (q5 i (do let xs<- gG lo own.length fi (gS gt tt te);pure (.lst xs))):=
 i8 (FV U I hx hi hg ht he J hS hM hk hc hs) (Ly (Qa q0))
end
noncomputable def hz(Z H:Hp):Hp:=FX (λ a=>∃o,Z a=some o) H
noncomputable def mE(n:Nat)(o:List D->Option D):Sp:= λ vs H Q _=>vs.length=n/\∃(Z:Hp) (ds:List D) (d:D),Ku Z H/\Rs (hz Z H) ds vs/\o ds=some d/\∀v H',Cu H H'->R (hz Z H') d v->Q v H'
noncomputable def Ky(n:Nat)(o:List D->Option (List D)):Sp:= λ vs H Q _=>vs.length=n/\∃(Z:Hp) (ds:List D) (xs:List D),Ku Z H/\Rs (hz Z H) ds vs/\o ds=some xs/\
 ∀l ws H',Cu H H'->H l=none->H' l=some (.lst ws)->Rs (hz (upd Z l (.lst ws)) H') xs ws->Q (.ref l) H'
noncomputable def KA(n:Nat)(J:List D->List D->Option (D×List D)):Sp:= λ vs H Q _=>vs.length=n/\∃(Z:Hp) (a:Addr) (ws:List V) (xs:List D) (us:List V) (ds:List D) (d:D) (I:List D),vs= .ref a::us/\Ku Z H/\Z a=none/\H a=some (.lst ws)/\
 Rs (hz (upd Z a (.lst ws)) H) xs ws/\Rs (hz (upd Z a (.lst ws)) H) ds us/\J xs ds=some (d,I)/\
 ∀v C H',(∀b o,b≠a->H b=some o->H' b=some o)->H' a=some (.lst C)->Rs (hz (upd Z a (.lst C)) H') I C->R (hz (upd Z a (.lst C)) H') d v->Q v H'
section
variable {c:Ct} {δ:DS} {S:List D} {σ:St} {T:List V} {H:Hp}
open Classical in
noncomputable def DP(c:Ct)(δ:DS)(σ:St)(H:Hp):Hp:= λ a=>if Hd c δ σ a then H a else none
theorem hU(s:Sl c δ S σ T H)(a:Addr):(∃o,DP c δ σ H a=some o)↔Hd c δ σ a:=by
 unfold DP;by_cases h:Hd c δ σ a;. rw[gL h];exact Iff.intro (λ _=>h) λ _=>s.hdSome h
 simp_all
theorem uK(s:Sl c δ S σ T H):Ku (DP c δ σ H) H:= λ a o h=>by
 unfold DP at h;split at h
 .rename_i hd;refine⟨h,λ xs e=>?_⟩;subst e;rcases hd with⟨o,z⟩|⟨i,bb,ys,C,I⟩|⟨i,ks,C,I⟩
  .obtain⟨C,I⟩:=s.zk a o z;rw[h]at C;cases C;exact I xs rfl
  .obtain⟨U,ws,e,J,_⟩:=s.ow i bb ys C;rw[I]at e;cases e;rw[h]at J;cases J
  .obtain⟨U,e,J,_⟩:=s.od i ks C;rw[I]at e;cases e;rw[h]at J;cases J
 grind
end
section
variable {X:Cx} {a b e:Expr} {fs:M (List D)} {pos p:Pos} {es:List Expr} {x:Str} {k:Nat} {f:Addr} {fd:FuncData} {ps:List Str}
theorem E9{n:Nat}(F:dG X.prog X.w X.K X.mg X.base dQ k f fd ps (mE n mf))(hr:cb k X.A)(hm:X.mg x=some (.ref f))(hk:PySem.W.keepIn X.K (.ref f)=true)(hb:Binds X.K fd ps [])(ha:DA X (a::es) fs)
  (hg:Gl X x:=by rfl)(I:(x==("__debug__":Str))=false:=by decide)(he:starEach (a::es) X.env=(false,eval a X.env)::starEach es X.env:=by rfl)(J:(backTo pos (starEach es X.env)).any (·.1)=false:=by rfl):
  DE X (.Call (.Name x p) (a::es) [] pos) (mC (λ ds=>if ds.length=n then mf ds else none) fs):=cC (i4 F hr hg hm hk hb .nil qA ha I he J) λ σ H Q ⟨c,δ,S,T,d,aa,s,e,k⟩=>by
 obtain⟨ds,C,e1,e⟩:=bind_some e;obtain⟨U,rfl⟩:=bc e;refine⟨c,δ,S,T,ds,C,s,e1,λ vs H1 l s1=>?_⟩;dsimp only at U|-;split at U;. rename_i hn;rw[ZA];refine⟨l.trans hn,DP c C σ H1,ds,d,uK s1,(s1.st.left l).mono (bK (λ a o _ z=>(hU s1 a).mp z) λ _ _ _ h=>h),U,λ v H' g r=>k v H' ?_⟩;have s2:=s1.grow g;exact s2.stk (.cons (r.mono (bK (λ a o _ z=>(hU s1 a).mpr z) λ _ _ _ h=>h)) (s2.st.right l))
 simp_all
theorem Fz{n:Nat}(F:dG X.prog X.w X.K X.mg X.base dQ k f fd ps (Ky n mf))(hr:cb k X.A)(hm:X.mg x=some (.ref f))(hk:PySem.W.keepIn X.K (.ref f)=true)(J:Binds X.K fd ps [])(ha:DA X (a::es) fs)
  (hg:Gl X x:=by rfl)(U:(x==("__debug__":Str))=false:=by decide)(he:starEach (a::es) X.env=(false,eval a X.env)::starEach es X.env:=by rfl)(aa:(backTo pos (starEach es X.env)).any (·.1)=false:=by rfl):
  DF X (.Call (.Name x p) (a::es) [] pos) (mC (λ ds=>if ds.length=n then mf ds else none) fs):=cC (i4 F hr hg hm hk J .nil qA ha U he aa) λ σ H Q ⟨c,δ,S,T,d,ae,s,e,k⟩=>by
 obtain⟨ds,C,e1,e⟩:=bind_some e;obtain⟨e2,rfl⟩:=bc e;refine⟨c,δ,S,T,ds,C,s,e1,λ vs H1 l s1=>?_⟩;dsimp only at e2|-;split at e2
 .rename_i hn;rw[ZA];refine⟨l.trans hn,DP c C σ H1,ds,d,uK s1,(s1.st.left l).mono (bK (λ a o _ z=>(hU s1 a).mp z) λ _ _ _ h=>h),e2,λ q ws H' g hq ab r=>?_⟩;obtain⟨f1,f2,f3⟩:=s1.fresh hq
  have s2:Sl { c with Z:=upd c.Z q (.lst ws) } C S σ T H':=by
   have h0:=(s1.drop l).hide (o:= .lst ws) hq;refine h0.grow λ b o J=>?_;by_cases eb:b=q;. subst eb;rw[bj]at J;cases J;exact ab
   .rw[aY eb]at J;exact g b o J
  refine k q ws H' r.length (s2.stk ((r.mono (bK (λ a o ha z=>?_) λ _ _ _ h=>h)).append s2.st)) f1 f2 f3;rcases z with⟨w,z⟩|z
  .have z':upd c.Z q (.lst ws) a=some w:=z;by_cases I:a=q;. subst I;exact⟨_,bj⟩
   .rw[aY I]at z';obtain⟨o',h'⟩:=(hU s1 a).mpr (.inl ⟨w,z'⟩);exact⟨o',by rw[aY I];exact h'⟩
  .have I:a≠q:= λ I=>s1.hdNew hq (.inr (by rw[<- I];exact z));obtain⟨o',h'⟩:=(hU s1 a).mpr (.inr z);exact⟨o',by rw[aY I];exact h'⟩
 simp_all
noncomputable def oH(i n:Nat)(I:List D->List D->Option (D×List D))(fs:M (List D)):M D:= λ δ=>match fs δ with
 |none=>none
 |some (ds,o)=>match o[i]? with
  |some (.ow b xs)=>if ds.length+1=n then(match I xs ds with
   |none=>none
   |some (d,C)=>some (d,o.set i (.ow b C)))else none
  |_=>none
theorem xq(i:Nat){mf:List D->List D->Option (D×List D)}{n:Nat}{y:Str}{py:Pos}(F:dG X.prog X.w X.K X.mg X.base dQ k f fd ps (KA n mf))(hr:cb k X.A)(hm:X.mg x=some (.ref f))(hk:PySem.W.keepIn X.K (.ref f)=true)(hb:Binds X.K fd ps [])(ha:DA X es fs)
  (hN:X.N[i]?=some y:=by rfl)(hv:uw X.env.scope y:=by first|exact Or.inl rfl|exact Or.inr (Or.inl rfl)|exact Or.inr (Or.inr rfl))(hd:(y==("__debug__":Str))=false:=by decide)(aa:(y==("__classdict__":Str))=false:=by decide)
  (hg:Gl X x:=by rfl)(ab:(x==("__debug__":Str))=false:=by decide)(he:starEach (.Name y py::es) X.env=(false,eval (.Name y py) X.env)::starEach es X.env:=by rfl)(ae:(backTo pos (starEach es X.env)).any (·.1)=false:=by rfl):
  DE X (.Call (.Name x p) (.Name y py::es) [] pos) (do let _<- dv i;oH i n mf fs):=cC (i4 F hr hg hm hk hb .nil qA (cX (eU hN hv hd aa) ha he) ab he ae) λ σ H Q ⟨c,δ,S,T,d,ak,s,e,k⟩=>by obtain⟨af,ao,e0,e⟩:=bind_some e;obtain⟨⟨b0,ag⟩,rfl⟩:=b7 e0;obtain⟨a,aq,ea,_⟩:=s.ow i b0 af ag;unfold oH at e;cases e1:fs δ with
 |none=>rw[e1]at e;cases e
 |some q=>
  obtain⟨ds,C⟩:=q;rw[e1]at e;dsimp only at e;split at e
  .rename_i b xs hi;split at e;. cases e2:mf xs ds with
    |none=>rw[e2]at e;cases e
    |some q=>
     obtain⟨d',ah⟩:=q;rw[e2]at e;cases e;refine⟨_,ea,c,δ,S,T,ds,C,s,e1,λ vs H1 l s1=>?_⟩;dsimp only;rw[ZA];obtain⟨a',ws,J,hH,ai,hB,ar,hZ⟩:=s1.ow i b xs hi;rw[ea]at J;cases J;have aj:Hd c C σ a:= .inr (.inl ⟨i,b,xs,hi,ea⟩);have zi:∀(o:HO)(y:Addr),(∃u,upd (λ z=>if z=a then none else DP c C σ H1 z) a o y=some u)↔Hd c C σ y:= λ o y=>by
      by_cases I:y=a;. subst I;rw[bj];exact Iff.intro (λ _=>aj) λ _=>⟨o,rfl⟩
      .rw[aY I,QC I];exact hU s1 y
     refine⟨by simp[l];omega,λ z=>if z=a then none else DP c C σ H1 z,a,ws,xs,vs,ds,d,ah,rfl,λ b o h=>?_,gL rfl,hH,ai.mono (bK (λ y o _ z=>(zi _ y).mp z) λ _ _ _ h=>h),
      (s1.st.left l).mono (bK (λ y o _ z=>(zi _ y).mp z) λ _ _ _ h=>h),e2,λ v U H' g ga r1 r2=>k v H' ?_⟩
     .dsimp only at h;split at h;. cases h
      .exact uK s1 _ _ h
     .have gr:Cu H1 (upd H' a (.lst ws)):= λ y o hy=>by
       by_cases I:y=a;. subst I;rw[hH]at hy;cases hy;exact bj
       .rw[aY I];exact g y o I hy
      have s2:=(s1.drop l).grow gr;have m2:∀y o,hz (upd (λ z=>if z=a then none else DP c C σ H1 z) a (.lst U)) H' y=some o->fv c C σ (upd H' a (.lst ws)) y=some o :=
       bK (λ y o _ z=>(zi _ y).mpr z) λ y o hy h=>by have:y ≠ a:=λ I=>hy (by rw [I];exact ⟨_,bj⟩);rw [aY this];exact h
      have s3:=(s2.stk (.cons (r2.mono m2) s2.st)).mut hi ea (r1.mono m2);have eH:upd (upd H' a (.lst ws)) a (.lst U)=H':= by
       rw [EU];funext y;by_cases I:y=a;. subst I;rw [bj,ga]
       .rw [aY I]
      rw [eH] at s3;exact s3
   grind
  grind
end
noncomputable def entry(N:List Str)(ds:List D):DS:=ds.map .pu++List.replicate (N.length-ds.length) .un
noncomputable def bP(N:List Str)(body:M Fl)(ds:List D):Option D:=match body (entry N ds)with
 |some (.rt d,_)=>some d
 |some (.nx,_)=>some .non
 |_=>none
noncomputable def ip(N:List Str)(body:M Fl)(ds:List D):Option (List D):=match body (entry N ds)with
 |some (.rf xs,_)=>some xs
 |_=>none
noncomputable def dP(N:List Str)(xs ds:List D):DS:= .ow true xs::(ds.map .pu++List.replicate (N.length-(ds.length+1)) .un)
noncomputable def jq(N:List Str)(body:M Fl)(xs ds:List D):Option (D×List D):=match body (dP N xs ds)with
 |some (.rt d,δ)=>(match(show DS from δ)[0]? with
  |some (Slot.ow true o)=>some (d,o)
  |_=>none)
 |_=>none
theorem c5{ds:List D}{n:Nat}{i:Nat}{x:Slot}(h:(ds.map Slot.pu++List.replicate n .un)[i]?=some x):(∃d,x= .pu d/\ds[i]?=some d)\/x= .un:=by
 by_cases hi:i<ds.length;. rw[QF (by simpa using hi),QL]at h;simp_all
 .rw[Q2 (by simpa using hi),VF]at h;simp_all
theorem l4{ds:List D}{vs:List V}(U:Ku Z H)(r:Rs (hz Z H) ds vs)(hl:vs.length<=N.length):Sl ⟨Z,[],H⟩ (entry N ds) [] (L2.start N vs) [] H:=by
 have C:∀a,¬Oa (entry N ds) (L2.start N vs) a:= λ a z=>by rcases z with⟨i,b,xs,I,_⟩|⟨i,ks,I,_⟩ <;> rcases c5 I with⟨d,e,_⟩|e <;> cases e
 have m:∀b o,hz Z H b=some o->fv ⟨Z,[],H⟩ (entry N ds) (L2.start N vs) H b=some o:=bK (λ a o _ z=>z.elim (λ z=>z) λ z=>absurd z (C a)) λ _ _ _ h=>h;refine⟨?_,λ i d h=>?_,λ i b xs h=>?_,λ i j b b' xs ys a h=>?_,.nil,λ b o _ h=>h,λ b hb=>(nomatch hb),U,λ i ks h=>?_,λ i j ks ls a h=>?_⟩;. have:=r.length;simp[entry,L2.start];omega
 .rcases c5 h with⟨d',e,hd⟩|e
  .cases e;obtain⟨v,J,rv⟩:=r.get hd;refine⟨v,?_,rv.mono m⟩;have hi:i<vs.length:=(xZ.mp J).1;unfold L2.start;rw[QF (by simpa using hi),QL,J];rfl
  grind
 .rcases c5 h with⟨d',e,hd⟩|e <;> cases e
 .rcases c5 h with⟨d',e,hd⟩|e <;> cases e
 .rcases c5 h with⟨d',e,hd⟩|e <;> cases e
 .rcases c5 h with⟨d',e,hd⟩|e <;> cases e
section
variable {P:Program} {w:World} {K:PySem.W.Frag} {mg:Str->Option Value} {base:Heap} {x qual:Str} {st:Stmt} {f:Addr} {fd:FuncData} {N ps:List Str} {k:Nat} {body:M Fl}
theorem Pw(F:C_ K x qual st f fd)(S:cz N ps (aZ st))(U:∀(cdv:Value)(A:Around)(outer:List Env)(s:Shared)(H:Hp)(E:XK),cb k (A.deeper (PyProof.Rows.envOfC qual (aZ st) s.heap.objs.size f cdv))->l9 (fP dQ P w K mg base N qual (aZ st) f cdv A outer s H E).nox (bT st) body):
  dG P w K mg base dQ (k+1) f fd ps (mE ps.length (bP N body)):=by
 refine F.ok S (λ vs H Q E h=>h.1) (λ cdv A outer s H vs Q E hr h=>⟨_,U cdv A outer s H E hr,?_⟩);obtain⟨hl,Z,ds,d,hZ,r,e,q⟩:=h;have aa:ps.length<=N.length:=by have:=Z6 List.length S.pre;grind
 have s0:=l4 (N:=N) hZ r (by rw[hl];exact aa);have fin:∀{C:DS}{I:St}{v:V}{H':Hp},Sl ⟨Z,[],H⟩ C [d] I [v] H'->Q v H':= λ{C I v H'} J=>
  q v H' (λ b o U=>J.keep b o (by simp) U) (J.st.head.mono (bK (λ a o _ z=> .inl z) λ _ _ _ h=>h));unfold bP at e;split at e;. rename_i d' C eb;cases e;exact⟨_,_,_,_,_,_,s0,eb,λ v I H' J=>fin J⟩
 .rename_i C eb;cases e;exact⟨_,_,_,_,_,_,s0,eb,λ I H' J=>fin (v:= .non) (J.stk (.cons .mkN .nil))⟩
 .cases e
theorem PH(F:C_ K x qual st f fd)(S:cz N ps (aZ st))(C:∀(cdv:Value)(A:Around)(outer:List Env)(s:Shared)(H:Hp)(E:XK),cb k (A.deeper (PyProof.Rows.envOfC qual (aZ st) s.heap.objs.size f cdv))->l9 (fP dQ P w K mg base N qual (aZ st) f cdv A outer s H E).nox (bT st) body):
  dG P w K mg base dQ (k+1) f fd ps (Ky ps.length (ip N body)):=by
 refine F.ok S (λ vs H Q E h=>h.1) (λ cdv A outer s H vs Q E hr h=>⟨_,C cdv A outer s H E hr,?_⟩);obtain⟨hl,Z,ds,d,hZ,r,e,q⟩:=h;have I:ps.length<=N.length:=by have:=Z6 List.length S.pre;grind
 have s0:=l4 (N:=N) hZ r (by rw[hl];exact I);unfold ip at e;split at e;. rename_i d' aa eb;cases e;refine⟨_,_,_,_,_,_,s0,eb,λ l J ab H' h1 U h3 h4 h5=>?_⟩;refine q l J H' (λ b o C=>U.keep b o (by simp) C) h5 (U.zz l _ bj) ?_;exact(U.st.left h1).mono (bK (λ a o _ z=> .inl z) λ _ _ _ h=>h)
 .cases e
theorem PD(F:C_ K x qual st f fd)(S:cz N ps (aZ st))(hb:∀(cdv:Value)(A:Around)(outer:List Env)(s:Shared)(H:Hp)(E:XK),cb k (A.deeper (PyProof.Rows.envOfC qual (aZ st) s.heap.objs.size f cdv))->l9 (fP dQ P w K mg base N qual (aZ st) f cdv A outer s H E).nox (bT st) body):
  dG P w K mg base dQ (k+1) f fd ps (KA ps.length (jq N body)):=by
 refine F.ok S (λ vs H Q E h=>h.1) (λ cdv A outer s H vs Q E hr h=>⟨_,hb cdv A outer s H E hr,?_⟩);obtain⟨hl,Z,a,ws,xs,us,ds,d,au,rfl,hZ,aa,hH,ag,ab,e,q⟩:=h;have ae:ps.length<=N.length:=by have:=Z6 List.length S.pre;rw[ZT]at this;omega
 have aw:us.length+1<=N.length:=by rw[<- hl]at ae;simpa using ae
 have ld:=ab.length;have C:∀(i:Nat) ks,(dP N xs ds)[i]?≠some (.od ks):= λ i ks U=>by cases i with
  |zero=>cases U
  |succ i=>
   have I:(ds.map Slot.pu++List.replicate (N.length-(ds.length+1)) .un)[i]?=some (.od ks):=by simpa[dP]using U
   rcases c5 I with⟨d,e,_⟩|e <;> cases e
 have ah:∀b,Oa (dP N xs ds) (L2.start N (.ref a::us)) b->b=a:= λ b z=>by
  rcases z with⟨i,bb,ys,U,h2⟩|⟨i,ks,U,h2⟩
  .cases i with
   |zero=>cases h2;rfl
   |succ i=>
    have I:(ds.map Slot.pu++List.replicate (N.length-(ds.length+1)) .un)[i]?=some (.ow bb ys):=by simpa[dP]using U
    rcases c5 I with⟨d,e,_⟩|e <;> cases e
  .exact absurd U (C i ks)
 have m:∀b o,hz (upd Z a (.lst ws)) H b=some o->fv ⟨Z,[a],H⟩ (dP N xs ds) (L2.start N (.ref a::us)) H b=some o:=bK (λ b o _ z=>by
  rcases z with⟨o',z⟩|z
  .have z':Z b=some o':=z;by_cases J:b=a;. rw[J,aa]at z';cases z'
   .exact⟨o',by rw[aY J];exact z'⟩
  .rw[ah b z];exact⟨_,bj⟩) λ _ _ _ h=>h;have s0:Sl ⟨Z,[a],H⟩ (dP N xs ds) [] (L2.start N (.ref a::us)) [] H:=by
  refine⟨?_,λ i d h=>?_,λ i b ys h=>?_,λ i j b b' ys zs y h h'=>?_,.nil,λ b o _ h=>h,λ b hb=>?_,hZ,λ i ks h=>absurd h (C i ks),λ i j ks ls y h=>absurd h (C i ks)⟩
  .simp only[dP,L2.start,fR,fD,VQ,gT];omega
  .cases i with
   |zero=>cases h
   |succ i=>
    have h':(ds.map Slot.pu++List.replicate (N.length-(ds.length+1)) .un)[i]?=some (.pu d):=by simpa[dP]using h
    rcases c5 h' with⟨d',e,hd⟩|e
    .cases e;obtain⟨v,hv,rv⟩:=ab.get hd;refine⟨v,?_,rv.mono m⟩;have hi:i<us.length:=(xZ.mp hv).1;have:(L2.start N (.ref a::us))[i+1]?=some (some v):=by
      unfold L2.start;rw[QF (by simpa using hi),QL,ZL,hv];rfl
     exact this
    .cases e
  .cases i with
   |zero=>
    cases h;exact⟨a,ws,rfl,hH,ag.mono m,(λ _=>jP.mpr rfl),(λ z=>absurd z (by simp)),aa⟩
   |succ i=>
    have h':(ds.map Slot.pu++List.replicate (N.length-(ds.length+1)) .un)[i]?=some (.ow b ys):=by simpa[dP]using h
    rcases c5 h' with⟨d',e,hd⟩|e <;> cases e
  .intro _ _;have z:∀(i:Nat) b ys,(dP N xs ds)[i]?=some (.ow b ys)->i=0:= λ i b ys h=>by cases i with
    |zero=>rfl
    |succ i=>
     have h':(ds.map Slot.pu++List.replicate (N.length-(ds.length+1)) .un)[i]?=some (.ow b ys):=by simpa[dP]using h
     rcases c5 h' with⟨d',e,hd⟩|e <;> cases e
   rw[z i b ys h,z j b' zs h']
  .rw[jP.mp hb];exact⟨_,hH⟩
 unfold jq at e;split at e
 .rename_i d' ai J;split at e
  .rename_i ys hy;cases e;refine⟨_,_,_,_,_,_,s0,J,λ v aj H' s'=>?_⟩;obtain⟨a',af,ea,ak,ao,aq,_,_⟩:=s'.ow 0 true _ hy;have ar:a'=a:=jP.mp (aq rfl);subst ar;have m':∀b o,fv ⟨Z,[a'],H⟩ ai aj H' b=some o->hz (upd Z a' (.lst af)) H' b=some o:=bK (λ b o _ z=>by
    obtain ⟨o',z⟩:=z;by_cases J:b=a';. subst J;exact .inr (.inl ⟨0,true,_,hy,ea⟩)
    .rw [aY J] at z;exact .inl ⟨o',z⟩) λ _ _ _ h=>h;exact q v af H' (λ b o hb h=>s'.keep b o (λ z=>hb (jP.mp z)) h) ak (ao.mono m') (s'.st.head.mono m')
  .cases e
 .cases e
end
section
variable {X:Cx} {a b e:Expr} {fa fb:M D} {fs:M (List D)} {pos p apos cpos:Pos} {es:List Expr} {x:Str}
theorem Sl.own (s:Sl c δ S σ T H) {i:Nat} {b:Bool} (hi:δ[i]? = some (.ow b xs)):∃a vs,σ[i]? = some (some (.ref a))∧H a=some (.lst vs)∧Rs (fv c δ σ H) xs vs:= by
 obtain ⟨a,vs,h1,h2,h3,_⟩:=s.ow i b xs hi
 grind
noncomputable def setOw(i:Nat)(xs:List D):M Unit:= λ o=>match o[i]? with
 |some (.ow b _)=>some ((),o.set i (.ow b xs))
 |_=>none
theorem gi{u:Unit}(h:setOw i xs C=some (u,o)):∃b ys,C[i]?=some (.ow b ys)/\o=C.set i (.ow b xs):=by unfold setOw at h;grind
noncomputable def jv(i:Nat)(fs:M (List D)):M Fl:=do
 let _<- dv i
 let ds<- fs
 match ds with
 |[d]=>do
  let xs<- dv i
  let _<- lift (few xs.length)
  setOw i (xs++[d])
  pure .nx
 |_=>lift none
theorem eJ(i:Nat)(ha:DA X [a] fs)(hN:X.N[i]?=some x:=by rfl)(hv:uw X.env.scope x:=by first | exact Or.inl rfl | exact Or.inr (Or.inl rfl) | exact Or.inr (Or.inr rfl))(hd:(x==("__debug__":Str))=false:=by decide)(aa:(x==("__classdict__":Str))=false:=by decide)
  (I:((backTo cpos (starEach [a] X.env)).all (λ x=> !x.1)&&(backToKw cpos (keywordEach [] X.env)).all (λ x=>x.1.isSome)
   &&decide (([a]:List Expr).length+([]:List Keyword).length+(if([]:List Keyword).isEmpty then 0 else 1)<30))=true:=by rfl)
  (o:(apos.endLine==cpos.line)=true:=by rfl)(hs:starEach [a] X.env=[(false,eval a X.env)]:=by rfl)(ab:swapsWith (.Call (.Attribute (.Name x p) "append" apos) [a] [] cpos) none pos.line X.env=pure false:=by rfl):
  mr X (.Expr (.Call (.Attribute (.Name x p) "append" apos) [a] [] cpos) pos) (jv i fs):=
 i8 (wC (Ht PySem.F.plainAttrs_list PySem.F.slot_list_append PySem.F.type_list_append ny (eU hN hv hd aa) ha rfl I o hs rfl) ab) λ E σ H ⟨c,δ,S,T,fl,ai,s,e,k⟩=>by
  obtain⟨aj,ak,e0,e⟩:=bind_some e;obtain⟨⟨b0,ae⟩,rfl⟩:=b7 e0;obtain⟨q,af,eq,hq,_⟩:=s.own ae;obtain⟨ds,ag,e1,e⟩:=bind_some e;refine⟨_,eq,.inl ⟨rfl,af,.of hq⟩,c,δ,S,T,ds,ag,s,e1,λ vs H1 l s1=>?_⟩;split at e;. obtain⟨xs,ao,e2,e⟩:=bind_some e;obtain⟨⟨b1,C⟩,rfl⟩:=b7 e2;obtain⟨_,aq,e3,e⟩:=bind_some e;obtain⟨e4,rfl⟩:=bc e3;obtain⟨_,ar,e5,e⟩:=bind_some e;obtain⟨rfl,rfl⟩:=aW e;obtain⟨b2,ys,J,rfl⟩:=gi e5;rw[C]at J;cases J;obtain⟨q',ws,U,ah,hx⟩:=s1.own C;rw[eq]at U;cases U;obtain⟨v,rfl,r⟩:=x9 (s1.st.left l);refine⟨q,ws,v,rfl,rfl,ah,by rw[hx.length];exact(gP e4).2,k _ _ ?_⟩;exact(s1.drop l).mut C eq (hx.append (.cons r .nil))
  .cases e
noncomputable def Gk(i:Nat)(fs:M (List D)):M D:=do
 let _<- dv i
 let ds<- fs
 match ds with
 |[.int j]=>do
  let xs<- dv i
  let d<- lift (if 0<=j/\j<100000 then xs[j.toNat]? else none)
  setOw i (xs.eraseIdx j.toNat)
  pure d
 |_=>lift none
theorem Rs.erase:∀{ds:List D}{vs:List V}(i:Nat),Rs H ds vs->Rs H (ds.eraseIdx i) (vs.eraseIdx i)
 |[],vs,i,h=>by rw[h.inv0];simpa using Rs.nil
 |d::ds,vs,0,h=>by obtain⟨v,r,e,_,o⟩:=h.inv;simp_all
 |d::ds,vs,i+1,h=>by obtain⟨v,r,e,C,o⟩:=h.inv;subst e;exact .cons C (Rs.erase i o)
theorem B1(i:Nat)(ha:DA X [a] fs)(hN:X.N[i]?=some x:=by rfl)(hv:uw X.env.scope x:=by first|exact Or.inl rfl|exact Or.inr (Or.inl rfl)|exact Or.inr (Or.inr rfl))(hd:(x==("__debug__":Str))=false:=by decide)(aa:(x==("__classdict__":Str))=false:=by decide)
  (I:((backTo cpos (starEach [a] X.env)).all (λ x=> !x.1)&&(backToKw cpos (keywordEach [] X.env)).all (λ x=>x.1.isSome)
   &&decide (([a]:List Expr).length+([]:List Keyword).length+(if([]:List Keyword).isEmpty then 0 else 1)<30))=true:=by rfl)
  (o:(apos.endLine==cpos.line)=true:=by rfl)(hs:starEach [a] X.env=[(false,eval a X.env)]:=by rfl):
  DE X (.Call (.Attribute (.Name x p) "pop" apos) [a] [] cpos) (Gk i fs):=
 cC (Ht PySem.F.plainAttrs_list PySem.F.slot_list_pop PySem.F.type_list_pop BC (eU hN hv hd aa) ha rfl I o hs rfl) λ σ H Q ⟨c,δ,S,T,fl,ah,s,e,k⟩=>by
  obtain⟨ai,aj,e0,e⟩:=bind_some e;obtain⟨⟨b0,ab⟩,rfl⟩:=b7 e0;obtain⟨q,ae,eq,hq,_⟩:=s.own ab;obtain⟨ds,af,e1,e⟩:=bind_some e;refine⟨_,eq,.inl ⟨rfl,ae,.of hq⟩,c,δ,S,T,ds,af,s,e1,λ vs H1 l s1=>?_⟩;split at e
  .rename_i j;obtain⟨xs,ak,e2,e⟩:=bind_some e;obtain⟨⟨b1,C⟩,rfl⟩:=b7 e2;obtain⟨d,ao,e3,e⟩:=bind_some e;obtain⟨e4,rfl⟩:=bc e3;obtain⟨_,aq,e5,e⟩:=bind_some e;obtain⟨rfl,rfl⟩:=aW e;obtain⟨b2,ys,J,rfl⟩:=gi e5;rw[C]at J;cases J;obtain⟨q',ws,U,ag,hx⟩:=s1.own C;rw[eq]at U;cases U;obtain⟨v,rfl,r⟩:=x9 (s1.st.left l);cases r.int;split at e4
   .obtain⟨y,hy,ry⟩:=hx.get e4;have ar:j.toNat<ws.length:=(xZ.mp hy).1;refine⟨q,ws,j,j.toNat,y,rfl,rfl,ag,by omega,by omega,?_,hy,k _ _ ?_⟩
    .unfold seqIndex?;have h1: ¬j<0:=by omega
     simp only[h1,YQ];rw[gL];simp;omega
    .have s2:=s1.drop l;exact(s2.stk (.cons ry s2.st)).mut C eq (hx.erase j.toNat)
   simp_all
  .cases e
noncomputable def uh(i:Nat)(fa:M D)(k:Int):M Fl:=do
 let d<- fa
 let xs<- dv i
 let j<- lift (rH xs.length k)
 setOw i (xs.set j d)
 pure .nx
theorem Rs.set(r:R H d v):∀{ds:List D}{vs:List V}(i:Nat),Rs H ds vs->Rs H (ds.set i d) (vs.set i v)
 |[],vs,i,h=>by rw[h.inv0];rfl
 |d::ds,vs,0,h=>by obtain⟨v,q,e,_,o⟩:=h.inv;subst e;exact .cons r o
 |d::ds,vs,i+1,h=>by obtain⟨v,q,e,C,o⟩:=h.inv;subst e;exact .cons C (Rs.set r i o)
theorem Cq(i:Nat){k:Int}{j:Nat}{pc o:Pos}(he:DE X e fa)(hN:X.N[i]?=some x:=by rfl)(hv:uw X.env.scope x:=by first | exact Or.inl rfl | exact Or.inr (Or.inl rfl) | exact Or.inr (Or.inr rfl))(hd:(x==("__debug__":Str))=false:=by decide)(U:(x==("__classdict__":Str))=false:=by decide)
  (ha:∀v,assign (.Subscript (.Name x p) (.Constant (.int k) j pc) o) X.env v=(do
   let J<- holding [v] (eval (.Name x p) X.env)
   let iv<- holding [v,J] (eval (.Constant (.int k) j pc) X.env)
   standAt o
   holding [v,J,iv] (setItem J iv v)
   release [v,J,iv] []):=by intro _;rfl)
  (hs:swapsWithSole [.Subscript (.Name x p) (.Constant (.int k) j pc) o] e pos.line X.env=pure false:=by rfl)(hw:swappedStores [.Subscript (.Name x p) (.Constant (.int k) j pc) o] e X.env=pure none:=by rfl)
  (h1:(assignEach [.Subscript (.Name x p) (.Constant (.int k) j pc) o] X.env).map (·.2)=[assign (.Subscript (.Name x p) (.Constant (.int k) j pc) o) X.env]:=by rfl):
  mr X (.Assign [.Subscript (.Name x p) (.Constant (.int k) j pc) o] e pos) (uh i fa k):=
 i8 (Bk he (JC (eU hN hv hd U) tw set_list ha) hs hw h1) λ E σ H ⟨c,δ,S,T,fl,ab,s,e,kk⟩=>by obtain⟨d,aa,e1,e⟩:=bind_some e;obtain⟨xs,ae,e2,e⟩:=bind_some e;obtain⟨⟨b1,C⟩,rfl⟩:=b7 e2;obtain⟨jj,af,e3,e⟩:=bind_some e;obtain⟨e4,rfl⟩:=bc e3;obtain⟨_,ag,e5,e⟩:=bind_some e;obtain⟨rfl,rfl⟩:=aW e;obtain⟨b2,ys,I,rfl⟩:=gi e5;rw[C]at I;cases I;refine⟨c,δ,S,T,d,aa,s,e1,λ v H1 s1=>?_⟩;obtain⟨q,ws,eq,hq,hx⟩:=s1.own C;refine⟨_,eq,q,ws,k,jj,rfl,rfl,hq,by rw[hx.length];omega,kk _ _ ?_⟩;exact s1.pop.mut C eq (hx.set s1.st.head jj)
noncomputable def F3(i:Nat)(fb:M D):M D:=do
 let _<- dv i
 let y<- fb
 let xs<- dv i
 lift (j9 (.lst xs) y)
theorem lK(i:Nat){px:Pos}(hb:DE X b fb)(hN:X.N[i]?=some x:=by rfl)(hv:uw X.env.scope x:=by first | exact Or.inl rfl | exact Or.inr (Or.inl rfl) | exact Or.inr (Or.inr rfl))(hd:(x==("__debug__":Str))=false:=by decide)(C:(x==("__classdict__":Str))=false:=by decide)
  (hs:g9 b:=by exact fun _ _=>rfl):DE X (.Subscript (.Name x px) b pos) (F3 i fb):=cC (GX wd (eU hN hv hd C) hb hs) λ σ H Q ⟨c,δ,S,T,fl,ab,s,e,k⟩=>by obtain⟨ae,af,e0,e⟩:=bind_some e;obtain⟨⟨b0,I⟩,rfl⟩:=b7 e0;obtain⟨q,ag,eq,hq,_⟩:=s.own I;obtain⟨y,J,e1,e⟩:=bind_some e;obtain⟨xs,ah,e2,e⟩:=bind_some e;obtain⟨⟨b1,U⟩,rfl⟩:=b7 e2;obtain⟨e3,rfl⟩:=bc e;refine⟨_,eq,c,δ,S,T,y,J,s,e1,λ u H2 s2=>?_⟩;obtain⟨q',ws,o,aa,hx⟩:=s2.own U;rw[eq]at o;cases o;cases y with
 |int j=>have e':jw xs j=some fl:=e3;obtain⟨z,e4,r⟩:=t6 hx e';exact⟨q,ws,j,z,rfl,s2.st.head.int,.of aa,e4,k _ _ (s2.stk (.cons r s2.st.tail))⟩
 |_=>cases e3
noncomputable def qq(i:Nat):M D:=do
 let xs<- dv i
 pure (.int xs.length)
theorem kn(i:Nat){px:Pos}(hm:X.mg "len"=none)(I:Gl X "len":=by rfl)(J:X.N[i]?=some x:=by rfl)(U:uw X.env.scope x:=by first | exact Or.inl rfl | exact Or.inr (Or.inl rfl) | exact Or.inr (Or.inr rfl))(hd:(x==("__debug__":Str))=false:=by decide)(o:(x==("__classdict__":Str))=false:=by decide):
  DE X (.Call (.Name "len" p) [.Name x px] [] pos) (qq i):=cC (fL i6 I hm PySem.boot_len (cX (eU J U hd o) d8) (by decide) (by decide) rfl rfl) λ σ H Q ⟨c,δ,S,T,fl,aa,s,e,k⟩=>by obtain⟨xs,ab,e1,e⟩:=bind_some e;obtain⟨rfl,rfl⟩:=aW e;obtain⟨⟨b1,C⟩,rfl⟩:=b7 e1;obtain⟨q,ws,eq,hq,hx⟩:=s.own C;refine⟨_,eq,q,ws,rfl,.inl (.of hq),k _ _ (s.stk (.cons ?_ s.st))⟩;rw[hx.length];rfl
theorem c7(hm:X.mg "len"=none)(o:DA X [a] fs)(C:Gl X "len":=by rfl)(he:starEach [a] X.env=[(false,eval a X.env)]:=by rfl):DE X (.Call (.Name "len" p) [a] [] pos) (mC eD fs):=
 fT i6 Ij C hm PySem.boot_len o (by decide) (by rfl) he rfl
theorem nU:∀{bs:List Bool}{its:List Value}{i:Nat}{v:Value},Vals (bs.map V.bl) its->its[i]?=some v->∃b,bs[i]?=some b/\v= .bool b:= λ{bs its i v} h e=>by
 have o:=h.length;rw[fD]at o;have I:i<bs.length:=by rw[o];exact(xZ.mp e).1
 obtain⟨u,C,r⟩:=h.get (i:=i) (x:=V.bl bs[i]) (by grind);rw[e]at C;cases C;exact⟨bs[i],kW I,r⟩
theorem tF(bs:List Bool):((List.range bs.length).all λ i=>(bs[i]?).getD true)=bs.all id:=by
 rw[Z1,QT,QT];constructor;. intro h b I;obtain⟨i,C,rfl⟩:=ZS I;simpa[kW C]using h i (uL.mpr C)
 .intro h i C;have o:=uL.mp C;simpa[kW o]using h _ (QH o)
theorem sR(bs:List Bool):((List.range bs.length).any λ i=>(bs[i]?).getD false)=bs.any id:=by
 rw[Z1,QY,QY];constructor;. rintro⟨i,C,e⟩;have o:=uL.mp C;exact⟨_,QH o,by simpa[kW o]using e⟩
 .rintro⟨b,I,e⟩;obtain⟨i,C,rfl⟩:=ZS I;exact⟨i,uL.mpr C,by simpa[kW C]using e⟩
theorem zf(hc:X.calm=true):dM X (.builtin "all") (λ xs H Q=>∃(p:Addr) (bs:List Bool),xs=[.ref p]/\iK X.K H p (bs.map V.bl)/\Q (.bl (bs.all id)) H):=by
 intro pins s σ H xs us Q I r h;obtain⟨p,bs,rfl,hq,q⟩:=h;obtain⟨u,rfl,rx⟩:=r.one;cases rx;obtain⟨its,J,pl,hz⟩:=I.list hq;have C:p<s.heap.objs.size:=by obtain⟨_,e,_⟩:=pl.isList;exact wN e
 refine call_all_walk (VY pl.isList ?_);refine⟨s.heap.objs.size,[s.heap.objs.size,p],[s.heap.objs.size],its.toArray.size,_,_,λ i=>(bs[i]?).getD true,rfl,Walks.list (A:=X.A.in1) (I.ok.hd hc) _ p (QB C) its.toArray,
  ⟨⟨_,wL _ rfl,rfl,rfl⟩,pl.isList.push _⟩,λ i v s' Q' E' hP U=>?_,λ h' tk hk=>?_⟩;. obtain⟨b,e,rfl⟩:=nU J (by simpa using hP);simp[e]at U;exact VI U
 .have e:((List.range its.toArray.size).all λ i=>(bs[i]?).getD true)=bs.all id:=by rw[gA,<- J.length,fD];exact tF bs
  rw[e];exact⟨.bl _,H,I.kept λ b o eb=>hk b o (λ hm=>absurd (wN eb) (by simp_all)) (zS _ eb),rfl,q⟩
theorem AR(hc:X.calm=true):dM X (.builtin "any") (λ xs H Q=>∃(p:Addr) (bs:List Bool),xs=[.ref p]/\iK X.K H p (bs.map V.bl)/\Q (.bl (bs.any id)) H):=by
 intro pins s σ H xs us Q I r h;obtain⟨p,bs,rfl,hq,q⟩:=h;obtain⟨u,rfl,rx⟩:=r.one;cases rx;obtain⟨its,J,pl,hz⟩:=I.list hq;have C:p<s.heap.objs.size:=by obtain⟨_,e,_⟩:=pl.isList;exact wN e
 refine call_any_walk (VY pl.isList ?_);refine⟨s.heap.objs.size,[s.heap.objs.size,p],[s.heap.objs.size],its.toArray.size,_,_,λ i=>(bs[i]?).getD false,rfl,Walks.list (A:=X.A.in1) (I.ok.hd hc) _ p (QB C) its.toArray,
  ⟨⟨_,wL _ rfl,rfl,rfl⟩,pl.isList.push _⟩,λ i v s' Q' E' hP U=>?_,λ h' tk hk=>?_⟩;. obtain⟨b,e,rfl⟩:=nU J (by simpa using hP);simp[e]at U;exact VI U
 .have e:((List.range its.toArray.size).any λ i=>(bs[i]?).getD false)=bs.any id:=by rw[gA,<- J.length,fD];exact sR bs
  rw[e];exact⟨.bl _,H,I.kept λ b o eb=>hk b o (λ hm=>absurd (wN eb) (by simp_all)) (zS _ eb),rfl,q⟩
noncomputable def boolsOf:List D->Option (List Bool)
 |[]=>some []
 | .bl b::r=>(boolsOf r).map (b:: .)
 |_=>none
theorem qe:∀{ds:List D}{vs:List V}{bs:List Bool},Rs H ds vs->boolsOf ds=some bs->vs=bs.map V.bl
 |[],vs,bs,h,e=>by cases e;exact h.inv0
 |d::ds,vs,bs,h,e=>by obtain⟨v,r,ev,o,C⟩:=h.inv;cases d with
  |bl b=>unfold boolsOf at e;cases q:boolsOf ds with
   |none=>simp_all
   |some I=>rw[q]at e;cases e;rw[ev,o.bl,qe C q];rfl
  |_=>cases e
noncomputable def o4:List D->Option D
 |[.lst ds]=>(boolsOf ds).map λ bs=> .bl (bs.all id)
 |_=>none
noncomputable def t9:List D->Option D
 |[.lst ds]=>(boolsOf ds).map λ bs=> .bl (bs.any id)
 |_=>none
theorem qS(g:List Bool->Bool)(f:List D->Option D)(hf:∀ds d,f ds=some d->∃es bs,ds=[.lst es]/\boolsOf es=some bs/\d= .bl (g bs)):
  jW (λ xs H Q=>∃(p:Addr) (bs:List Bool),xs=[.ref p]/\iK K H p (bs.map V.bl)/\Q (.bl (g bs)) H) f:= λ c U S σ T H ds vs d Q l s e k=>by obtain⟨es,bs,rfl,o,rfl⟩:=hf _ _ e;have h:=s.st.left l;have C:=s.st.right l;obtain⟨v,rfl,r⟩:=x9 h;obtain⟨p,ws,rfl,I,J⟩:=r.lst;have:=qe J o;subst this;exact⟨p,bs,rfl,.inl (Rd.mono bB I),k _ _ (s.stk (.cons .mkB C))⟩
theorem xG(ds:List D)(d:D)(h:o4 ds=some d):∃es bs,ds=[.lst es]/\boolsOf es=some bs/\d= .bl (bs.all id):=by
 unfold o4 at h;split at h;. rename_i es;cases q:boolsOf es with
  |none=>rw[q]at h;cases h
  |some bs=>rw[q]at h;cases h;exact⟨es,bs,rfl,q,rfl⟩
 grind
theorem yp(ds:List D)(d:D)(h:t9 ds=some d):∃es bs,ds=[.lst es]/\boolsOf es=some bs/\d= .bl (bs.any id):=by
 unfold t9 at h;split at h;. rename_i es;cases q:boolsOf es with
  |none=>rw[q]at h;cases h
  |some bs=>rw[q]at h;cases h;exact⟨es,bs,rfl,q,rfl⟩
 grind
theorem o8(hm:X.mg "all"=none)(o:DA X [a] fs)(C:Gl X "all":=by rfl)(I:X.calm=true:=by rfl)(he:starEach [a] X.env=[(false,eval a X.env)]:=by rfl):DE X (.Call (.Name "all" p) [a] [] pos) (mC o4 fs):=
 fT (zf I) (qS _ o4 xG) C hm PyProof.Rows.boot_all o (by decide) (by rfl) he rfl
theorem tG(hm:X.mg "any"=none)(o:DA X [a] fs)(C:Gl X "any":=by rfl)(I:X.calm=true:=by rfl)(he:starEach [a] X.env=[(false,eval a X.env)]:=by rfl):DE X (.Call (.Name "any" p) [a] [] pos) (mC t9 fs):=
 fT (AR I) (qS _ t9 yp) C hm PyProof.Rows.boot_any o (by decide) (by rfl) he rfl
theorem xg(I:dM X (.type T) r)(hd:jW r f)(J:Gl X x)(hm:X.mg x=none)(U:bootBuiltins x=some (.type T))(ha:DA X (a::es) fs)(hn:x≠"__name__":=by decide)(o:(x==("__debug__":Str))=false:=by decide)
  (he:starEach (a::es) X.env=(false,eval a X.env)::starEach es X.env:=by rfl)(C:(backTo pos (starEach es X.env)).any (·.1)=false:=by rfl):DE X (.Call (.Name x p) (a::es) [] pos) (mC f fs):=
 cC (fS I J hm U ha hn o he C) (Gx hd)
noncomputable def fW:D->Option (List D)
 | .tup ds=>some ds
 | .lst ds=>some ds
 |_=>none
noncomputable def cV:List D->Option D
 |[x]=>(fW x).map .tup
 |_=>none
theorem zT:jW (λ xs H Q=>∃p ys,xs=[.ref p]/\((iK K H p ys/\∀l,H l=none->Q (.ref l) (upd H l (.tup ys)))\/(i0 K H p ys/\Q (.ref p) H))) cV:= λ c U S σ T H ds vs d Q l s e k=>by
 unfold cV at e;split at e;. rename_i x;have h:=s.st.left l;have I:=s.st.right l;obtain⟨v,rfl,r⟩:=x9 h;cases x with
  |tup es=>cases e;obtain⟨p,ws,rfl,o,C⟩:=r.tup;exact⟨p,ws,rfl,.inr ⟨.of (bB _ _ o),k _ _ (s.stk (.cons (.mkT o C) I))⟩⟩
  |lst es=>cases e;obtain⟨p,ws,rfl,o,C⟩:=r.lst;exact⟨p,ws,rfl,.inl ⟨.inl (Rd.mono bB o),λ q J=>k _ _ ((s.stk (C.append I)).newTup C.length J)⟩⟩
  |_=>cases e
 grind
theorem bW(hm:X.mg "tuple"=none)(o:DA X [a] fs)(C:Gl X "tuple":=by rfl)(he:starEach [a] X.env=[(false,eval a X.env)]:=by rfl):DE X (.Call (.Name "tuple" p) [a] [] pos) (mC cV fs):=
 xg iB zT C hm (by rfl) o (by decide) (by rfl) he rfl
noncomputable def flat:D->Option V
 | .non=>some .non
 | .bl b=>some (.bl b)
 | .int i=>some (.int i)
 | .str x=>some (.str x)
 |_=>none
theorem d3(r:R H d v)(e:flat d=some u):v=u/\g0 u=true:=by cases d with
 |non=>cases e;exact⟨r.non,rfl⟩
 |bl b=>cases e;exact⟨r.bl,rfl⟩
 |int b=>cases e;exact⟨r.int,rfl⟩
 |str b=>cases e;exact⟨r.str,rfl⟩
 |_=>cases e
noncomputable def lg:List D->Option (List V)
 |[]=>some []
 |d::ds=>match flat d,lg ds with
  |some v,some vs=>some (v::vs)
  |_,_=>none
theorem kM:∀{ds:List D}{vs us:List V},Rs H ds vs->lg ds=some us->vs=us/\us.all g0=true
 |[],vs,us,h,e=>by cases e;exact⟨h.inv0,rfl⟩
 |d::ds,vs,us,h,e=>by
  obtain⟨v,r,ev,o,C⟩:=h.inv;unfold lg at e;split at e;. rename_i w ws I J;cases e;obtain⟨a1,a2⟩:=d3 o I;obtain⟨b1,U⟩:=kM C J;refine⟨by rw[ev,a1,b1],?_⟩;rw[WR,a2,U];rfl
  grind
noncomputable def sD(neg:Bool)(x y:D):Option D:=match flat x,fW y with
 |some v,some ds=>(lg ds).map λ vs=> .bl (if neg then !KD v vs else KD v vs)
 |_,_=>none
theorem s_:md (Ov K neg) (sD neg):= λ c δ S σ T H x y v u d Q s e k=>by
 unfold sD at e;split at e;. rename_i w ds U C;cases o:lg ds with
  |none=>rw[o]at e;cases e
  |some vs=>rw[o]at e;cases e;obtain⟨rfl,f1⟩:=d3 s.st.tail.head U;cases y with
   |tup es=>cases C;obtain⟨p,ws,rfl,I,J⟩:=s.st.head.tup;obtain⟨rfl,f2⟩:=kM J o;exact⟨p,ws,rfl,.inr (.of (bB _ _ I)),f1,f2,k _ _ (s.stk (.cons .mkB s.st.tail.tail))⟩
   |lst es=>cases C;obtain⟨p,ws,rfl,I,J⟩:=s.st.head.lst;obtain⟨rfl,f2⟩:=kM J o;exact⟨p,ws,rfl,.inl (.inl (Rd.mono bB I)),f1,f2,k _ _ (s.stk (.cons .mkB s.st.tail.tail))⟩
   |_=>cases C
 grind
theorem qj(o:DE X a fa)(C:DE X b fb)(hm:behindInMarks .In b=false:=by rfl):DE X (.Compare a [.In] [b] pos) (m2 (sD false) fa fb):=iY mU s_ o C hm
theorem rB(o:DE X a fa)(C:DE X b fb)(hm:behindInMarks .In b=false:=by rfl):DT X (.Compare a [.In] [b] pos) (m2 (sD false) fa fb >>= lP):=fZ mU s_ o C hm
theorem kE(o:DE X a fa)(C:DE X b fb)(hm:behindInMarks .NotIn b=false:=by rfl):DT X (.Compare a [.NotIn] [b] pos) (m2 (sD true) fa fb >>= lP):=fZ oW s_ o C hm
noncomputable def fe(neg:Bool)(x y:D):Option D:=match flat x,flat y with
 |some v,some u=>if j8 v u=true then some (.bl (if neg then !decide (v=u)else decide (v=u)))else none
 |_,_=>none
theorem pe:md OJ (fe false):= λ c I S σ T H x y v u d Q s e k=>by
 unfold fe at e;split at e
 .rename_i w z o C;split at e
  .rename_i hs;cases e;obtain⟨rfl,_⟩:=d3 s.st.tail.head o;obtain⟨rfl,_⟩:=d3 s.st.head C;exact⟨hs,k _ _ (s.stk (.cons .mkB s.st.tail.tail))⟩
  .cases e
 grind
theorem Es:md Oy (fe true):= λ c I S σ T H x y v u d Q s e k=>by
 unfold fe at e;split at e
 .rename_i w z o C;split at e
  .rename_i hs;cases e;obtain⟨rfl,_⟩:=d3 s.st.tail.head o;obtain⟨rfl,_⟩:=d3 s.st.head C;exact⟨hs,k _ _ (s.stk (.cons .mkB s.st.tail.tail))⟩
  .cases e
 grind
theorem tQ(o:DE X a fa)(C:DE X b fb):DE X (.Compare a [.Eq] [b] pos) (m2 (fe false) fa fb):=iY yS pe o C
theorem f_(o:DE X a fa)(C:DE X b fb):DT X (.Compare a [.Eq] [b] pos) (m2 (fe false) fa fb >>= lP):=fZ yS pe o C
end
section
variable {X:Cx} {a b e:Expr} {fa fb:M D} {fs:M (List D)} {pos p:Pos} {rest:List Expr} {x:Str}
noncomputable def oG:List D->Option D
 |[.int i,.int j]=>some (.int (if j<i then j else i))
 |_=>none
noncomputable def n5:List D->Option D
 |[.int i,.int j]=>some (.int (if j>i then j else i))
 |_=>none
theorem GI(g:Int->Int->Int)(f:List D->Option D)(hf:∀ds d,f ds=some d->∃i j,ds=[.int i,.int j]/\d= .int (g i j)):jW (λ xs H Q=>∃i j,xs=[.int i,.int j]/\Q (.int (g i j)) H) f:= λ c I S σ T H ds vs d Q l s e k=>by obtain⟨i,j,rfl,rfl⟩:=hf _ _ e;obtain⟨v,u,rfl,o,C⟩:=NV (s.st.left l);cases o.int;cases C.int;exact⟨i,j,rfl,k _ _ (s.stk (.cons .mkI (s.st.right l)))⟩
theorem xi(ds:List D)(d:D)(h:oG ds=some d):∃i j,ds=[.int i,.int j]/\d= .int (if j<i then j else i):=by unfold oG at h;grind
theorem yA(ds:List D)(d:D)(h:n5 ds=some d):∃i j,ds=[.int i,.int j]/\d= .int (if j>i then j else i):=by unfold n5 at h;grind
theorem n4 (hm:X.mg "min" = none) (ha:DA X [a,b] fs) (hg:Gl X "min":=by rfl) (hc:X.calm=true:=by rfl) (he:starEach [a,b] X.env=(false,eval a X.env) :: starEach [b] X.env:=by rfl) (hp:(backTo pos (starEach [b] X.env)).any (·.1)=false:=by rfl):DE X (.Call (.Name "min" p) [a,b] [] pos) (mC oG fs) :=
 fT (xN hc) (GI _ oG xi) hg hm (by rfl) ha (by decide) (by rfl) he hp
theorem ua (hm:X.mg "max" = none) (ha:DA X [a,b] fs) (hg:Gl X "max":=by rfl) (hc:X.calm=true:=by rfl) (he:starEach [a,b] X.env=(false,eval a X.env) :: starEach [b] X.env:=by rfl) (hp:(backTo pos (starEach [b] X.env)).any (·.1)=false:=by rfl):DE X (.Call (.Name "max" p) [a,b] [] pos) (mC n5 fs) :=
 fT (xH hc) (GI _ n5 yA) hg hm (by rfl) ha (by decide) (by rfl) he hp
noncomputable def N8(fa fb:M D):M D:=do
 let v<- fa
 let t<- lift (c_ v)
 if t=true then pure v else fb
theorem Jy(ha:DE X a fa)(hb:DE X (.BoolOp .Or (b::rest) pos) fb):DE X (.BoolOp .Or (a::b::rest) pos) (N8 fa fb):= λ pins s σ H Q I ⟨c,δ,S,T,d,J,sl,e,k⟩=>by obtain⟨v,o,e1,e⟩:=bind_some e;obtain⟨t,aa,e2,e⟩:=bind_some e;obtain⟨e3,rfl⟩:=bc e2;refine PyProof.Rows.BoolOp_or (cf (ha pins s σ H (λ y H1=>Sl c o (v::S) σ (y::T) H1) I ⟨c,δ,S,T,v,o,sl,e1,λ y H1 s1=>s1⟩) λ u s1 ⟨y,H1,I1,r1,U⟩=>?_);refine cf (zU pins s1 σ H1 y u (λ k' C=>k'=t/\C=H1) I1 r1 ⟨t,vH bB U.st.head e3,rfl,rfl⟩) λ k' s2 ⟨C,I2,ek,eH⟩=>?_;subst ek eH;cases k' with
 |true=>obtain⟨rfl,rfl⟩:=aW e;exact⟨y,C,I2,r1,k _ _ U⟩
 |false=>exact hb pins s2 σ C Q I2 ⟨c,o,S,T,d,J,U.pop,e,k⟩
noncomputable def Hk:D->D->Option D
 | .tup (x::xs),.tup ys=>if xs.length+1+ys.length<=100000 then some (.tup ((x::xs)++ys))else none
 |_,_=>none
theorem Cj:md (yL K) Hk:= λ c δ S σ T H x y v u d Q s e k=>by
 unfold Hk at e;split at e
 .rename_i x xs ys;split at e
  .cases e;obtain⟨p,ws,rfl,J,C⟩:=s.st.tail.head.tup;obtain⟨q,zs,rfl,U,o⟩:=s.st.head.tup;have hl:100000<sizeLine:=by decide
   have I:=C.length;have l2:=o.length;rw[gT]at I;refine⟨p,q,ws,zs,rfl,rfl,.of (bB _ _ J),.of (bB _ _ U),λ z=>(by rw[z]at I;simp at I),by omega,λ z=>?_,λ z r hr=>?_⟩;. rw[z]at o;cases ys with
    |nil=>rw[ZA]at k;exact k _ _ (s.stk (.cons s.st.tail.head s.st.tail.tail))
    |cons y ys=>obtain⟨_,_,e,_⟩:=o.inv;cases e
   .have s1:=s.stk ((C.append o).append s.st.tail.tail);exact k _ _ (s1.newTup (by rw[fR,fR,o.length,C.length]) hr)
  grind
 grind
noncomputable def dy:Nat->D->D->Option Bool
 |0,_,_=>none
 |n+1,.tup xs,.tup ys=>(go n xs ys).map λ b=>b&&xs.length==ys.length
 |n+1,.lst xs,.lst ys=>if xs.length=ys.length then go n xs ys else some false
 |_+1,x,y=>match flat x,flat y with
  |some v,some u=>some (x4 v u)
  |_,_=>none
where
 go(n:Nat):List D->List D->Option Bool
  |x::xs,y::ys=>match dy n x y,go n xs ys with
   |some a,some b=>some (a&&b)
   |_,_=>none
  |_,_=>some true
theorem w6:∀{a b:List (Int×Int)},(a.map λ p=>((.inl p.1,.int p.2):Key×V))=b.map (λ p=>(.inl p.1,.int p.2))->a=b
 |[],[],_=>rfl
 |[],_::_,h=>by cases h
 |_::_,[],h=>by cases h
 |(x,y)::a,(z,w)::b,h=>by simp at h;rw[w6 h.2,h.1.1,h.1.2]
theorem vE:∀{a b:List ((Int×Int)×Int)},(a.map λ p=>(([.inl p.1.1,.inl p.1.2],.int p.2):List Key×V))=b.map (λ p=>([.inl p.1.1,.inl p.1.2],.int p.2))->a=b
 |[],[],_=>rfl
 |[],_::_,h=>by cases h
 |_::_,[],h=>by cases h
 |((x,o),y)::a,((z,C),w)::b,h=>by simp at h;rw[vE h.2,h.1.1.1,h.1.1.2,h.1.2]
mutual
theorem R.inj {H:Hp}:∀(x y:D) (v:V),R H x v->R H y v->x=y
 | .non,y,v,h,g=>by
  cases h.non
  cases y with
  | non=>rfl
  | bl b=>cases g.bl
  | int b=>cases g.int
  | str b=>cases g.str
  | tup b=>obtain ⟨_,_,e,_⟩:=g.tup;cases e
  | lst b=>obtain ⟨_,_,e,_⟩:=g.lst;cases e
  | dct=>obtain ⟨_,e,_⟩:=g.dct;cases e
  | dic _=>obtain ⟨_,e,_⟩:=g.dic;cases e
  | dip _=>obtain ⟨_,e,_⟩:=g.dip;cases e
 | .bl x,y,v,h,g=>by
  cases h.bl
  cases y with
  | non=>cases g.non
  | bl b=>cases g.bl;rfl
  | int b=>cases g.int
  | str b=>cases g.str
  | tup b=>obtain ⟨_,_,e,_⟩:=g.tup;cases e
  | lst b=>obtain ⟨_,_,e,_⟩:=g.lst;cases e
  | dct=>obtain ⟨_,e,_⟩:=g.dct;cases e
  | dic _=>obtain ⟨_,e,_⟩:=g.dic;cases e
  | dip _=>obtain ⟨_,e,_⟩:=g.dip;cases e
 | .int x,y,v,h,g=>by
  cases h.int
  cases y with
  | non=>cases g.non
  | bl b=>cases g.bl
  | int b=>cases g.int;rfl
  | str b=>cases g.str
  | tup b=>obtain ⟨_,_,e,_⟩:=g.tup;cases e
  | lst b=>obtain ⟨_,_,e,_⟩:=g.lst;cases e
  | dct=>obtain ⟨_,e,_⟩:=g.dct;cases e
  | dic _=>obtain ⟨_,e,_⟩:=g.dic;cases e
  | dip _=>obtain ⟨_,e,_⟩:=g.dip;cases e
 | .str x,y,v,h,g=>by
  cases h.str
  cases y with
  | non=>cases g.non
  | bl b=>cases g.bl
  | int b=>cases g.int
  | str b=>cases g.str;rfl
  | tup b=>obtain ⟨_,_,e,_⟩:=g.tup;cases e
  | lst b=>obtain ⟨_,_,e,_⟩:=g.lst;cases e
  | dct=>obtain ⟨_,e,_⟩:=g.dct;cases e
  | dic _=>obtain ⟨_,e,_⟩:=g.dic;cases e
  | dip _=>obtain ⟨_,e,_⟩:=g.dip;cases e
 | .tup xs,y,v,h,g=>by
  obtain ⟨a,vs,rfl,h1,h2⟩:=h.tup
  cases y with
  | non=>cases g.non
  | bl b=>cases g.bl
  | int b=>cases g.int
  | str b=>cases g.str
  | tup ys=>
   obtain ⟨a',vs',e,g1,g2⟩:=g.tup
   cases e
   rw [h1] at g1;cases g1
   rw [Rs.inj xs ys vs h2 g2]
  | lst ys=>
   obtain ⟨a',vs',e,g1,g2⟩:=g.lst
   cases e
   rcases g1 with g1 | ⟨o,g1⟩ <;> (rw [h1] at g1;cases g1)
  | dct=>
   obtain ⟨a',e,g1⟩:=g.dct
   cases e
   rw [h1] at g1;cases g1
  | dic _=>
   obtain ⟨a',e,g1⟩:=g.dic
   cases e
   rw [h1] at g1;cases g1
  | dip _=>
   obtain ⟨a',e,g1⟩:=g.dip
   cases e
   rw [h1] at g1;cases g1
 | .lst xs,y,v,h,g=>by
  obtain ⟨a,vs,rfl,h1,h2⟩:=h.lst
  cases y with
  | non=>cases g.non
  | bl b=>cases g.bl
  | int b=>cases g.int
  | str b=>cases g.str
  | tup ys=>
   obtain ⟨a',vs',e,g1,g2⟩:=g.tup
   cases e
   rcases h1 with h1 | ⟨o,h1⟩ <;> (rw [h1] at g1;cases g1)
  | lst ys=>
   obtain ⟨a',vs',e,g1,g2⟩:=g.lst
   cases e
   have:vs' = vs:= by
    rcases h1 with h1 | ⟨o,h1⟩ <;> rcases g1 with g1 | ⟨o',g1⟩ <;> (rw [h1] at g1;first | (cases g1;rfl) | cases g1)
   subst this
   rw [Rs.inj xs ys _ h2 g2]
  | dct=>
   obtain ⟨a',e,g1⟩:=g.dct
   cases e
   rcases h1 with h1 | ⟨o,h1⟩ <;> (rw [h1] at g1;cases g1)
  | dic _=>
   obtain ⟨a',e,g1⟩:=g.dic
   cases e
   rcases h1 with h1 | ⟨o,h1⟩ <;> (rw [h1] at g1;cases g1)
  | dip _=>
   obtain ⟨a',e,g1⟩:=g.dip
   cases e
   rcases h1 with h1 | ⟨o,h1⟩ <;> (rw [h1] at g1;cases g1)
 | .dct,y,v,h,g=>by
  obtain ⟨a,rfl,h1⟩:=h.dct
  cases y with
  | non=>cases g.non
  | bl b=>cases g.bl
  | int b=>cases g.int
  | str b=>cases g.str
  | tup ys=>
   obtain ⟨a',vs',e,g1,g2⟩:=g.tup
   cases e
   rw [h1] at g1;cases g1
  | lst ys=>
   obtain ⟨a',vs',e,g1,g2⟩:=g.lst
   cases e
   rcases g1 with g1 | ⟨o,g1⟩ <;> (rw [h1] at g1;cases g1)
  | dct=>rfl
  | dic _=>
   obtain ⟨a',e,g1⟩:=g.dic
   cases e
   rw [h1] at g1;cases g1
  | dip _=>
   obtain ⟨a',e,g1⟩:=g.dip
   cases e
   rw [h1] at g1;cases g1
 | .dic xs,y,v,h,g=>by
  obtain ⟨a,rfl,h1⟩:=h.dic
  cases y with
  | non=>cases g.non
  | bl b=>cases g.bl
  | int b=>cases g.int
  | str b=>cases g.str
  | tup ys=>
   obtain ⟨a',vs',e,g1,g2⟩:=g.tup
   cases e
   rw [h1] at g1;cases g1
  | lst ys=>
   obtain ⟨a',vs',e,g1,g2⟩:=g.lst
   cases e
   rcases g1 with g1 | ⟨o,g1⟩ <;> (rw [h1] at g1;cases g1)
  | dct=>
   obtain ⟨a',e,g1⟩:=g.dct
   cases e
   rw [h1] at g1;cases g1
  | dic ys=>
   obtain ⟨a',e,g1⟩:=g.dic
   cases e
   rw [h1] at g1
   rw [w6 (HO.dK.inj (Q9 g1))]
  | dip ys=>
   obtain ⟨a',e,g1⟩:=g.dip
   cases e
   rw [h1] at g1;cases g1
 | .dip xs,y,v,h,g=>by
  obtain ⟨a,rfl,h1⟩:=h.dip
  cases y with
  | non=>cases g.non
  | bl b=>cases g.bl
  | int b=>cases g.int
  | str b=>cases g.str
  | tup ys=>
   obtain ⟨a',vs',e,g1,g2⟩:=g.tup
   cases e
   rw [h1] at g1;cases g1
  | lst ys=>
   obtain ⟨a',vs',e,g1,g2⟩:=g.lst
   cases e
   rcases g1 with g1 | ⟨o,g1⟩ <;> (rw [h1] at g1;cases g1)
  | dct=>
   obtain ⟨a',e,g1⟩:=g.dct
   cases e
   rw [h1] at g1;cases g1
  | dic ys=>
   obtain ⟨a',e,g1⟩:=g.dic
   cases e
   rw [h1] at g1;cases g1
  | dip ys=>
   obtain ⟨a',e,g1⟩:=g.dip
   cases e
   rw [h1] at g1
   rw [vE (HO.dT.inj (Q9 g1))]
theorem Rs.inj {H:Hp}:∀(xs ys:List D) (vs:List V),Rs H xs vs->Rs H ys vs->xs=ys
 | [],ys,vs,h,g=>by
  cases h.inv0
  cases ys with
  | nil=>rfl
  | cons y ys=>obtain ⟨_,_,e,_⟩:=g.inv;cases e
 | x :: xs,ys,vs,h,g=>by
  obtain ⟨v,r,rfl,h1,h2⟩:=h.inv
  cases ys with
  | nil=>cases g.inv0
  | cons y ys=>rw [R.inj x y v h1 g.head,Rs.inj xs ys r h2 g.tail]
end
theorem jB:∀{xs ys:List D}{b:Bool},dy.go n xs ys=some b->∃e:Nat->Bool,(∀(j:Nat) x y,xs[j]?=some x->ys[j]?=some y->dy n x y=some (e j))/\b=(List.range (min xs.length ys.length)).all e
 |[],ys,b,h=>by cases h;exact⟨λ _=>true,λ j x y o=>by simp at o,by simp⟩
 |x::xs,[],b,h=>by cases h;exact⟨λ _=>true,λ j x y o C=>by simp at C,by simp⟩
 |x::xs,y::ys,b,h=>by
  unfold dy.go at h;split at h
  .rename_i b1 U e1 I;cases h;obtain⟨e,he,J⟩:=jB I;refine⟨λ j=>match j with|0=>b1|j+1=>e j,λ j x' y' o C=>?_,?_⟩;. grind
   .rw[gT,gT,Nat.add_min_add_right,YU,WR,XO,J];rfl
  grind
theorem jb(h:g0 v=true):x4 v v=true:=by cases v with
 |non=>rfl
 |bl b=>cases b <;> rfl
 |int i=>exact beq_self_eq_true i
 |str x=>exact beq_self_eq_true x
 |_=>cases h
theorem Ay:∀(n:Nat)(x:D)(b:Bool),dy n x x=some b->b=true:=by intro n;induction n with
 |zero=>intro x b h;simp[dy]at h
 |succ n I=>
  have go:∀(xs:List D)(b:Bool),dy.go n xs xs=some b->b=true:= λ xs b h=>by obtain⟨e,he,C⟩:=jB h;rw[Nat.min_self]at C;subst C;rw[QT];intro j J;have o:=uL.mp J;exact I _ _ (he j _ _ (kW o) (kW o))
  intro x b h;cases x with
  |tup xs=>unfold dy at h;cases q:dy.go n xs xs with
   |none=>rw[q]at h;cases h
   |some U=>rw[q]at h;cases h;rw[go xs U q];simp
  |lst xs=>unfold dy at h;grind
  |non=>simp[dy,flat]at h;rw[<- h];exact jb rfl
  |bl q=>simp[dy,flat]at h;rw[<- h];exact jb rfl
  |int q=>simp[dy,flat]at h;rw[<- h];exact jb rfl
  |str q=>simp[dy,flat]at h;rw[<- h];exact jb rfl
  |dct=>simp[dy,flat]at h
  |dic _=>simp[dy,flat]at h
  |dip _=>simp[dy,flat]at h
open SeqAt in
theorem yQ {pins:List (Addr × Obj)} {σ:St} {H Hh:Hp} {s:Shared} (I:Inv X pins σ H s) (m:∀b o,Hh b=some o->H b=some o):∀(n:Nat) (A:Around),A.units + n < cLine->∀(x y:D) (v w:V) (u z:Value) (b:Bool),R Hh x v->R Hh y w->RelV v u->RelV w z->dy n x y=some b ->
  EqAt A s u z b∧((∃xs,x=.tup xs ∨ x=.lst xs)->RcAt A s u z b):= by
 intro n
 induction n with
 | zero=>intro A _ x y v w u z b _ _ _ _ h;simp [dy] at h
 | succ n ih=>
  intro A hu x y v w u z b rx ry ru rz h
  have hu':A.units < cLine:=by omega
  have items:∀{xs ys:List D} {vs ws:List V} {is js:List Value} {e:Nat->Bool},Rs Hh xs vs->Rs Hh ys ws->Vals vs is->Vals ws js->(∀(j:Nat) x y,xs[j]? = some x->ys[j]? = some y->dy n x y=some (e j)) ->
    ∀j (h1:j < is.toArray.size) (h2:j < js.toArray.size),EqAt A.in1 s is.toArray[j] js.toArray[j] (e j):=fun {xs ys vs ws is js e} r1 r2 v1 v2 he j h1 h2=>by
   have l1:j < xs.length:=by rw [<- r1.length,v1.length];simpa using h1
   have l2:j < ys.length:=by rw [<- r2.length,v2.length];simpa using h2
   obtain ⟨v',e1,q1⟩:=r1.get (kW l1)
   obtain ⟨w',e2,q2⟩:=r2.get (kW l2)
   obtain ⟨u',e3,q3⟩:=v1.get e1
   obtain ⟨z',e4,q4⟩:=v2.get e2
   have:=(ih A.in1 (by show A.units + 1 + n < _;omega) _ _ v' w' u' z' (e j) q1 q2 q3 q4 (he j _ _ (kW l1) (kW l2))).1
   have a1:is.toArray[j]=u':= by
    have:=(xZ.mp e3).2
    simpa using this
   have a2:js.toArray[j]=z':= by
    have:=(xZ.mp e4).2
    simpa using this
   rw [a1,a2];exact this
  have refs:∀{l k:Addr},u=.ref l->z=.ref k->v=.ref l->w=.ref k->RcAt A s u z b->EqAt A s u z b:=fun {l k} eu ez ev ew rc=>by
   by_cases hlk:l=k
   .subst hlk
    rw [ev] at rx;rw [ew] at ry
    have:=R.inj x y _ rx ry
    subst this
    rw [Ay _ _ _ h,eu,ez]
    exact EqAt.same _
   .rw [eu,ez] at rc ⊢;exact EqAt.of_refs hlk rc
  have flatCase:∀{p q:V},flat x=some p->flat y=some q->b=x4 p q->EqAt A s u z b:=fun {p q} e1 e2 eb=>by
   obtain ⟨rfl,f1⟩:=d3 rx e1
   obtain ⟨rfl,f2⟩:=d3 ry e2
   rw [eb];exact Aq ru rz f1 f2
  have flatAll:(∀xs,x ≠ .tup xs)->(∀xs,x ≠ .lst xs)->∀p,flat x=some p->EqAt A s u z b:=fun _ _ p e1=>by
   cases y with
   | tup ys=>cases x <;> first | (simp [dy,flat] at h;done) | (cases e1;done)
   | lst ys=>cases x <;> first | (simp [dy,flat] at h;done) | (cases e1;done)
   | dct=>cases x <;> first | (simp [dy,flat] at h;done) | (cases e1;done)
   | dic _=>cases x <;> first | (simp [dy,flat] at h;done) | (cases e1;done)
   | dip _=>cases x <;> first | (simp [dy,flat] at h;done) | (cases e1;done)
   | non=>exact flatCase e1 rfl (by cases x <;> first | (cases e1;simpa [dy,flat] using h.symm) | cases e1)
   | bl q=>exact flatCase e1 rfl (by cases x <;> first | (cases e1;simpa [dy,flat] using h.symm) | cases e1)
   | int q=>exact flatCase e1 rfl (by cases x <;> first | (cases e1;simpa [dy,flat] using h.symm) | cases e1)
   | str q=>exact flatCase e1 rfl (by cases x <;> first | (cases e1;simpa [dy,flat] using h.symm) | cases e1)
  cases x with
  | dct=>simp [dy,flat] at h
  | dic _=>simp [dy,flat] at h
  | dip _=>simp [dy,flat] at h
  | non=>exact ⟨flatAll (fun _ z=>nomatch z) (fun _ z=>nomatch z) _ rfl,fun ⟨xs,z⟩=>by rcases z with z | z <;> cases z⟩
  | bl q=>exact ⟨flatAll (fun _ z=>nomatch z) (fun _ z=>nomatch z) _ rfl,fun ⟨xs,z⟩=>by rcases z with z | z <;> cases z⟩
  | int q=>exact ⟨flatAll (fun _ z=>nomatch z) (fun _ z=>nomatch z) _ rfl,fun ⟨xs,z⟩=>by rcases z with z | z <;> cases z⟩
  | str q=>exact ⟨flatAll (fun _ z=>nomatch z) (fun _ z=>nomatch z) _ rfl,fun ⟨xs,z⟩=>by rcases z with z | z <;> cases z⟩
  | tup xs=>
   cases y with
   | tup ys=>
    obtain ⟨l,vs,rfl,h1,h2⟩:=rx.tup
    obtain ⟨k,ws,rfl,g1,g2⟩:=ry.tup
    cases ru;cases rz
    obtain ⟨is,v1,p1,_⟩:=I.tuple (.of (m _ _ h1))
    obtain ⟨js,v2,p2,_⟩:=I.tuple (.of (m _ _ g1))
    have s1:is.toArray.size=xs.length:=by rw [gA,<- v1.length,h2.length]
    have s2:js.toArray.size=ys.length:=by rw [gA,<- v2.length,g2.length]
    have rc:RcAt A s (.ref l) (.ref k) b:= by
     unfold dy at h
     cases q:dy.go n xs ys with
     | none=>rw [q] at h;cases h
     | some b'=>
      rw [q] at h;cases h
      obtain ⟨e,he,hb⟩:=jB q
      have:=RcAt.tuples p1 p2 hu' (items h2 g2 v1 v2 he)
      rw [s1,s2,<- hb] at this
      exact this
    exact ⟨refs rfl rfl rfl rfl rc,fun _=>rc⟩
   | _=>simp [dy,flat] at h
  | lst xs=>
   cases y with
   | lst ys=>
    obtain ⟨l,vs,rfl,h1,h2⟩:=rx.lst
    obtain ⟨k,ws,rfl,g1,g2⟩:=ry.lst
    cases ru;cases rz
    obtain ⟨is,v1,p1,_⟩:=I.list (.inl (Rd.mono m h1))
    obtain ⟨js,v2,p2,_⟩:=I.list (.inl (Rd.mono m g1))
    have s1:is.toArray.size=xs.length:=by rw [gA,<- v1.length,h2.length]
    have s2:js.toArray.size=ys.length:=by rw [gA,<- v2.length,g2.length]
    have rc:RcAt A s (.ref l) (.ref k) b:= by
     unfold dy at h
     split at h
     .rename_i hl
      obtain ⟨e,he,hb⟩:=jB h
      have:=RcAt.lists p1.isList p2.isList (by rw [s1,s2,hl]) hu' (items h2 g2 v1 v2 he)
      rw [hb,<- hl,Nat.min_self,<- s1];exact this
     .rename_i hl
      cases h
      exact RcAt.lists_lengths p1.isList p2.isList (by rw [s1,s2];simpa using hl) hu'
    grind
   | _=>simp [dy,flat] at h
theorem gM(o:cb k A):A.units+20<cLine:=by have:=o.un;omega
noncomputable def jk:D->D->Bool
 | .tup _,.tup _=>true
 | .lst _,.lst _=>true
 |_,_=>false
noncomputable def l_(neg:Bool)(x y:D):Option D:=if jk x y=true then(dy 9 x y).map λ b=> .bl (if neg then !b else b)else fe neg x y
noncomputable def KQ:R2:= λ v u H Q=>OJ v u H Q\/ ∃(C:Hp) (x y:D) (b:Bool),(∀b o,C b=some o->H b=some o)/\R C x v/\R C y u/\jk x y=true/\dy 9 x y=some b/\Q (.bl b) H
theorem Aa(hu:X.A.units+20<cLine):iu X (compareOp .Eq) KQ:=by
 intro pins s σ H v w u z Q I o C h;rcases h with h|⟨Hh,x,y,b,m,J,U,hs,e,q⟩
 .exact yS pins s σ H v w u z Q I o C h
 .have:=(yQ I m 9 X.A (by omega) x y v w u z b J U o C e).2 (by cases x <;> first|grind|exact⟨_,.inr rfl⟩|(simp[jk]at hs));exact this _ _ _ _ ⟨.bl b,H,I,rfl,q⟩
theorem wk:md KQ (l_ false):= λ c o S σ T H x y v u d Q s e k=>by
 unfold l_ at e;split at e;. rename_i hs;cases q:dy 9 x y with
  |none=>rw[q]at e;cases e
  |some b=>rw[q]at e;cases e;exact .inr ⟨_,x,y,b,bB,s.st.tail.head,s.st.head,hs,q,k _ _ (s.stk (.cons .mkB s.st.tail.tail))⟩
 .exact .inl (pe c o S σ T H x y v u d Q s e k)
theorem vw(o:cb k X.A)(C:DE X a fa)(I:DE X b fb):DE X (.Compare a [.Eq] [b] pos) (m2 (l_ false) fa fb):=iY (Aa (gM o)) wk C I
theorem vn(o:cb k X.A)(C:DE X a fa)(I:DE X b fb):DT X (.Compare a [.Eq] [b] pos) (m2 (l_ false) fa fb >>= lP):=fZ (Aa (gM o)) wk C I
end
section
variable {X:Cx} {a b e:Expr} {fa fb:M D} {fs:M (List D)} {pos p:Pos} {x:Str}
open SeqAt in
theorem JE{σ:St}{H Hh:Hp}{s:Shared}(I:Inv X pins σ H s)(m:∀b o,Hh b=some o->H b=some o){n:Nat}{A:Around}(hu:A.units+(n+1)<cLine){x y:D}{v w:V}{u z:Value}{b:Bool}(rx:R Hh x v)(ry:R Hh y w)(ru:RelV v u)(rz:RelV w z)
  (hs:jk x y=true)(h:dy (n+1) x y=some b):RcNeAt A s u z (!b):=by
 have U:A.units<cLine:=by omega
 have items:∀{xs ys:List D}{vs ws:List V}{is C:List Value}{e:Nat->Bool},Rs Hh xs vs->Rs Hh ys ws->Vals vs is->Vals ws C->(∀(j:Nat) x y,xs[j]?=some x->ys[j]?=some y->dy n x y=some (e j))->
   ∀j(h1:j<is.toArray.size)(J:j<C.toArray.size),EqAt A.in1 s is.toArray[j] C.toArray[j] (e j):= λ{xs ys vs ws is C e} r1 r2 v1 v2 he j h1 J=>by
  have l1:j<xs.length:=by rw[<- r1.length,v1.length];simpa using h1
  have l2:j<ys.length:=by rw[<- r2.length,v2.length];simpa using J
  obtain⟨v',e1,q1⟩:=r1.get (kW l1);obtain⟨w',e2,q2⟩:=r2.get (kW l2);obtain⟨u',e3,q3⟩:=v1.get e1;obtain⟨z',e4,q4⟩:=v2.get e2;have:=(yQ I m n A.in1 (by show A.units+1+n<_;omega) _ _ v' w' u' z' (e j) q1 q2 q3 q4 (he j _ _ (kW l1) (kW l2))).1;grind
 cases x with
 |tup xs=>cases y with
  |tup ys=>
   obtain⟨l,vs,rfl,h1,J⟩:=rx.tup;obtain⟨k,ws,rfl,g1,g2⟩:=ry.tup;cases ru;cases rz;obtain⟨is,v1,p1,_⟩:=I.tuple (.of (m _ _ h1));obtain⟨C,v2,p2,_⟩:=I.tuple (.of (m _ _ g1));have s1:is.toArray.size=xs.length:=by rw[gA,<- v1.length,J.length]
   have s2:C.toArray.size=ys.length:=by rw[gA,<- v2.length,g2.length]
   unfold dy at h;cases q:dy.go n xs ys with
   |none=>rw[q]at h;cases h
   |some b'=>rw[q]at h;cases h;obtain⟨e,he,hb⟩:=jB q;have:=RcNeAt.tuples p1 p2 U (items J g2 v1 v2 he);rw[s1,s2,<- hb]at this;exact this
  |_=>simp[jk]at hs
 |lst xs=>cases y with
  |lst ys=>
   obtain⟨l,vs,rfl,h1,J⟩:=rx.lst;obtain⟨k,ws,rfl,g1,g2⟩:=ry.lst;cases ru;cases rz;obtain⟨is,v1,p1,_⟩:=I.list (.inl (Rd.mono m h1));obtain⟨C,v2,p2,_⟩:=I.list (.inl (Rd.mono m g1));have s1:is.toArray.size=xs.length:=by rw[gA,<- v1.length,J.length]
   have s2:C.toArray.size=ys.length:=by rw[gA,<- v2.length,g2.length]
   unfold dy at h;split at h;. rename_i hl;obtain⟨e,he,hb⟩:=jB h;have:=RcNeAt.lists p1.isList p2.isList (by rw[s1,s2,hl]) U (items J g2 v1 v2 he);rw[hb,<- hl,Nat.min_self,<- s1];exact this
   .rename_i hl;cases h;exact RcNeAt.lists_lengths p1.isList p2.isList (by rw[s1,s2];simpa using hl) U
  |_=>simp[jk]at hs
 |_=>simp[jk]at hs
noncomputable def MJ:R2:= λ v u H Q=>Oy v u H Q\/ ∃(C:Hp) (x y:D) (b:Bool),(∀b o,C b=some o->H b=some o)/\R C x v/\R C y u/\jk x y=true/\dy 9 x y=some b/\Q (.bl (!b)) H
theorem t7(hu:X.A.units+20<cLine):iu X (compareOp .NotEq) MJ:=by
 intro pins s σ H v w u z Q I o C h;rcases h with h|⟨Hh,x,y,b,m,J,U,hs,e,q⟩
 .exact LB pins s σ H v w u z Q I o C h
 .exact JE I m (n:=8) (A:=X.A) (by omega) J U o C hs e _ _ _ _ ⟨.bl (!b),H,I,rfl,q⟩
theorem vP:md MJ (l_ true):= λ c o S σ T H x y v u d Q s e k=>by
 unfold l_ at e;split at e;. rename_i hs;cases q:dy 9 x y with
  |none=>rw[q]at e;cases e
  |some b=>rw[q]at e;cases e;exact .inr ⟨_,x,y,b,bB,s.st.tail.head,s.st.head,hs,q,k _ _ (s.stk (.cons .mkB s.st.tail.tail))⟩
 .exact .inl (Es c o S σ T H x y v u d Q s e k)
theorem L8(o:cb k X.A)(C:DE X a fa)(I:DE X b fb):DE X (.Compare a [.NotEq] [b] pos) (m2 (l_ true) fa fb):=iY (t7 (gM o)) vP C I
theorem gn(o:cb k X.A)(C:DE X a fa)(I:DE X b fb):DT X (.Compare a [.NotEq] [b] pos) (m2 (l_ true) fa fb >>= lP):=fZ (t7 (gM o)) vP C I
noncomputable def KO(ta:TA):TE:= λ σ H Q=>ta σ H λ vs H1=>∃j:Int,vs=[.int j]/\∀q,H1 q=none->Q (.ref q) (upd H1 q (.rng 0 j))
theorem mV(C:Gl X "range")(hm:X.mg "range"=none)(J:PA X [a] ta)(hs:starEach [a] X.env=[(false,eval a X.env)]:=by rfl):PE X (.Call (.Name "range" p) [a] [] pos) (KO ta):=by intro pins s σ H Q I h;refine PyProof.Rows.Call_ (gj I C hm (show bootBuiltins "range"=some (.type "range")by decide+kernel) (ZY (cf (J pos pins s σ H _ I h) λ us s1 ⟨vs,H1,o,U,q1⟩=>?_) hs rfl));obtain⟨j,e,q⟩:=q1;subst e;cases U with
 |cons r rr=>cases rr;obtain⟨t,rfl⟩:=r;refine call_range_1 ⟨.ref s1.heap.objs.size,upd H1 s1.heap.objs.size (.rng 0 j),o.laid (λ b u e=>zS _ e) (wF _) ?_,rfl,q _ o.fresh⟩;exact⟨_,_,_,wL _ rfl⟩
theorem lX{acc:Array Value}(h:ItemsOf (λ i v=>∃t,v= .int (lo+i*1) t) acc n):Vals ((List.range n).map λ(i:Nat)=>V.int (lo+i)) acc.toList:=by
 obtain⟨U,I⟩:=h;have gen:∀(us:List Value)(k:Nat),(∀(j:Nat) v,us[j]?=some v->∃t,v= .int (lo+((k+j:Nat):Int)) t)->Vals ((List.range us.length).map λ i=>V.int (lo+((k+i:Nat):Int))) us:=by intro us;induction us with
  |nil=>intro k _;exact .nil
  |cons u us J=>
   intro k C;rw[gT,YU];obtain⟨t,e⟩:=C 0 u rfl;refine .cons ⟨t,by simpa using e⟩ ?_;have:=J (k+1) λ j v o=>by obtain⟨t,e⟩:=C (j+1) v (by simpa using o);exact⟨t,by rw[e];congr 2;omega⟩
   have e2:((λ i=>V.int (lo+((k+i:Nat):Int)))∘Nat.succ)= λ i=>V.int (lo+((k+1+i:Nat):Int)):=by funext i;show V.int _=V.int _;congr 2;omega
   simp_all
 have:=gen acc.toList 0 λ j v o=>by obtain⟨t,e⟩:=I j v (by simpa using o);exact⟨t,by rw[e];simp⟩
 grind
theorem uF(J:X.calm=true):dM X (.type "list") (λ xs H Q=>∃q j,xs=[.ref q]/\H q=some (.rng 0 j)/\j<100000/\ -(2^62)<=j/\∀l,H l=none->Q (.ref l) (upd H l (.lst ((List.range j.toNat).map λ(i:Nat)=>V.int (0+i))))):=by
 intro pins s σ H xs us Q I r h;obtain⟨q,j,rfl,U,hj,C,k⟩:=h;obtain⟨u,rfl,rx⟩:=r.one;cases rx;obtain⟨t,u',v,hr⟩:=I.hok q _ U;refine call_list_range (n:=j.toNat) (I.ok.hd J) hr (small_one (by omega) (by omega) C (by omega)) (by rw[rangeSize_one];split <;> omega) (by omega) λ h' tk o c' kp e hi=>?_;refine⟨.ref s.heap.objs.size,_,I.laid (t':=tk) kp (wF _) (show cg X.prog X.w _ h' _ (.lst _)from⟨?_,o.toList,c',lX hi,by simpa using e⟩),rfl,k _ I.fresh⟩;have:100000<sizeLine:=by decide
 grind
noncomputable def mj:List D->Option (List D)
 |[.int j]=>if j<100000/\ -(2^62)<=j then some (cq 0 j.toNat)else none
 |_=>none
theorem oj:Rs H (cq lo n) ((List.range n).map λ(i:Nat)=>V.int (lo+i)):=by unfold cq;induction(List.range n)with
 |nil=>rfl
 |cons i r o=>exact .cons .mkI o
theorem r9{p2 C:Pos}(I:X.mg "list"=none)(J:X.mg "range"=none)(ha:DA X [a] fs)(U:Gl X "list":=by rfl)(aa:Gl X "range":=by rfl)(hc:X.calm=true:=by rfl)(hs:starEach [a] X.env=[(false,eval a X.env)]:=by rfl):
  DF X (.Call (.Name "list" p) [.Call (.Name "range" p2) [a] [] C] [] pos) (mC mj fs):=
 cC (fS (uF hc) U I (by decide+kernel) (cX (mV aa J ha hs) d8) (by decide) (by decide) rfl rfl) λ σ H Q ⟨c,δ,S,T,d,ae,s,e,k⟩=>by
  obtain⟨ds,ab,e1,e⟩:=bind_some e;obtain⟨o,rfl⟩:=bc e;refine⟨c,δ,S,T,ds,ab,s,e1,λ vs H1 l s1=>?_⟩;unfold mj at o;split at o
  .rename_i j;split at o
   .rename_i hj;cases o;obtain⟨v,rfl,r⟩:=x9 (s1.st.left l);cases r.int;refine⟨j,rfl,λ q hq=>⟨q,j,rfl,bj,hj.1,hj.2,λ m hm=>?_⟩⟩;have s2:=(s1.drop l).grow (fK hq (.rng 0 j));obtain⟨f1,f2,f3⟩:=s2.fresh hm;refine k m _ _ (oj (H:=H)).length ((s2.hide hm).stk ?_) f1 f2 f3;exact oj.append (s2.hide hm).st
   .cases o
  .cases o
end
section
variable {prog:Program} {w:World} {A:Around} {E:Value->Shared->Prop} {s:Shared}
theorem mD{r:Addr}{a b c:Int}{t u v:Tok}{n:Nat}(hh:A.handled=none)(hr:IsRange s.heap r a b c t u v)(C:Builtin.Range.small a b c=true)(hn:Builtin.Range.rangeSize a b c=n)(hlen:n<=2^24)
  (hQ:∀h' tk acc,(∀b I,s.heap.get? b=some I->h'.get? b=some I)->ItemsOf (λ i v=>∃t,v= .int (a+i*c) t) acc n->Q acc.toList { s with heap:=h',toks:=tk }):
  wpAny (model prog w) A (collect (.ref r)) Q E s:=by
 refine zN (W4 (Z2 W9 ?_));refine zN (QN ?_);refine kT ⟨WN Y0 _,Z2 F.entry_list_iadd ?_⟩;have hS:(s.heap.push { cls:= .type "list",data:= .seq ([]:List Value).toArray }).get? s.heap.objs.size=some { cls:= .type "list",data:= .seq #[] 0 }:=wL _ rfl;refine QE (wpAny_extend_range (A:=A) (R:= λ q s'=>q= .ok (.ret (.ref s.heap.objs.size))/\∃h' tk acc J,s'={ s with heap:=h',toks:=tk }/\(∀b I,s.heap.get? b=some I->h'.get? b=some I)/\h'.get? s.heap.objs.size=some { cls:= .type "list",dict:=none,data:= .seq acc J,slots:=#[] }/\ItemsOf (λ i v=>∃t,v= .int (a+i*c) t) acc n)
  (s:={ s with heap:=s.heap.push { cls:= .type "list",data:= .seq ([]:List Value).toArray } }) hh (zS _ hr) C hn hlen _ _ 0 hS λ h' tk aa J hk U hi=>⟨rfl,h',tk,aa,J,rfl,λ b o e=>hk b o (QB (wN e)) (zS _ e),U,hi⟩) (λ fin s' h=>?_) (λ e s' h=>?_)
 .have ab:∀s',(∃h' tk acc J,s'={ s with heap:=h',toks:=tk }/\(∀b I,s.heap.get? b=some I->h'.get? b=some I)/\h'.get? s.heap.objs.size=some { cls:= .type "list",dict:=none,data:= .seq acc J,slots:=#[] }/\ItemsOf (λ i v=>∃t,v= .int (a+i*c) t) acc n)->
    wpAny (model prog w) A (match Value.ref s.heap.objs.size with
     |Value.ref a=>do
      match(<- load a).data with
       |Data.seq xs _=>pure xs.toList
       |_=>unsupported "internal:collect"
     |_=>unsupported "internal:collect") Q E s':= λ s' ⟨h',tk,acc,J,e,hk,U,hi⟩=>by
   subst e;refine zN (wpAny_load U ?_);exact kT (hQ h' tk acc hk hi)
  cases fin with
  |done f=>grind
  |again J=>exact⟨h.1,Z9 h.2 λ r ae hr=>by obtain⟨rfl,hr⟩:=hr;exact ab ae hr⟩
 grind
end
theorem i7(r:Addr){a b c:Int}{t u v:Tok}{n:Nat}(o:Builtin.Range.small a b c=true)(hn:Builtin.Range.rangeSize a b c=n)(hlen:n<=100000):
  Meets (Builtin.«tuple.__new__» ⟨[.type "tuple",.ref r],[]⟩)
   (λ A R s=>A.handled=none/\IsRange s.heap r a b c t u v/\∀(h':Heap)(tk:Nat)(acc:Array Value),(∀b U,s.heap.get? b=some U->h'.get? b=some U)->ItemsOf (λ i v=>∃t,v= .int (a+i*c) t) acc n->R (.ok (.ret (.ref h'.objs.size))) { s with heap:=h'.push { cls:= .type "tuple",data:= .seq acc },toks:=tk }):=
 .of_wp λ prog w A R s h=>by
  obtain⟨hp,g,d,tk,os⟩:=s;obtain⟨hh,C,h⟩:=h;have aa:=sub_tuple_self;have I:=init_tuple_lookup;have ab:=madeHere_tuple;have hT:Shared.TypeIs ⟨hp,g,d,tk,os⟩ (.ref r) "range":=⟨_,C,rfl⟩;wp_walk using wpAny_loadPart' C,W5 hT,mD (A:=A.in1) (show A.in1.handled=none from hh) C o hn (show n<=2^24 by omega);intro h' J acc hk hi;show wpAny _ _ (Builtin.Tuple.tupleExact acc.toList.toArray >>=λ v=>ret v) _ _ _;unfold Builtin.Tuple.tupleExact;have hz:acc.size<=sizeLine:=by rw[hi.1,VL];omega
  refine zN (QN ?_ (by show acc.toList.toArray.size<=sizeLine;simpa using hz));refine kT ⟨_,rfl,?_⟩;have e:acc.toList.toArray=acc:=by simp
  rw[e];exact h h' J acc hk hi
section
variable {X:Cx} {a b e:Expr} {fs:M (List D)} {pos p:Pos}
theorem qP(U:X.calm=true):dM X (.type "tuple") (λ xs H Q=>∃q j,xs=[.ref q]/\H q=some (.rng 0 j)/\j<100000/\ -(2^62)<=j/\∀l,H l=none->Q (.ref l) (upd H l (.tup ((List.range j.toNat).map λ(i:Nat)=>V.int (0+i))))):=by
 intro pins s σ H xs us Q I r h;obtain⟨q,j,rfl,hq,hj,C,k⟩:=h;obtain⟨u,rfl,rx⟩:=r.one;cases rx;obtain⟨t,u',v,hr⟩:=I.hok q _ hq;refine callType_new F.called_tuple (by decide) (F.typeCall_tuple_1 _) (F.newCall_tuple_1 _) (λ obj=>F.args_object_init_2 obj _) F.entry_tuple_new
  (i7 q (n:=j.toNat) (small_one (by omega) (by omega) C (by omega)) (by rw[rangeSize_one];split <;> omega) (by omega)) ⟨I.ok.hd U,hr,λ h' tk acc kp hi=>⟨⟨_,wL _ rfl,rfl⟩,?_⟩⟩;have J:Inv X pins σ H { s with heap:=h',toks:=tk }:=I.kept kp;refine⟨.ref h'.objs.size,_,J.laid (t':=tk) (λ b o e=>zS _ e) (wF _) (show cg X.prog X.w _ _ _ (.tup _)from⟨?_,acc.toList,lX hi,by simpa using rL.new _ _⟩),rfl,k _ (J.hok.fresh (wF _))⟩;have:100000<sizeLine:=by decide
 grind
theorem jC{p2 C:Pos}(I:X.mg "tuple"=none)(J:X.mg "range"=none)(ha:DA X [a] fs)(U:Gl X "tuple":=by rfl)(aa:Gl X "range":=by rfl)(hc:X.calm=true:=by rfl)(hs:starEach [a] X.env=[(false,eval a X.env)]:=by rfl):
  DE X (.Call (.Name "tuple" p) [.Call (.Name "range" p2) [a] [] C] [] pos) (do let xs<- mC mj fs;pure (.tup xs)):=
 cC (fS (qP hc) U I (by decide+kernel) (cX (mV aa J ha hs) d8) (by decide) (by decide) rfl rfl) λ σ H Q ⟨c,δ,S,T,d,ae,s,e,k⟩=>by
  obtain⟨xs,af,e0,e⟩:=bind_some e;obtain⟨rfl,rfl⟩:=aW e;obtain⟨ds,ab,e1,e⟩:=bind_some e0;obtain⟨o,rfl⟩:=bc e;refine⟨c,δ,S,T,ds,ab,s,e1,λ vs H1 l s1=>?_⟩;unfold mj at o;split at o
  .rename_i j;split at o;. rename_i hj;cases o;obtain⟨v,rfl,r⟩:=x9 (s1.st.left l);cases r.int;refine⟨j,rfl,λ q hq=>⟨q,j,rfl,bj,hj.1,hj.2,λ m hm=>?_⟩⟩;have s2:=(s1.drop l).grow (fK hq (.rng 0 j));exact k _ _ ((s2.stk (oj.append s2.st)).newTup (oj (H:=H)).length hm)
   .cases o
  .cases o
end
section
variable {X:Cx} {a b e:Expr} {fa:M D} {pos p:Pos}
inductive Ty where
 | int | bool | tup | lst | str
noncomputable def Ty.name:Ty->String
 | .int=>"int"
 | .bool=>"bool"
 | .tup=>"tuple"
 | .lst=>"list"
 | .str=>"str"
noncomputable def n8:Ty->D->Option Bool
 | .int,.int _=>some true
 | .int,.bl _=>some true
 | .bool,.bl _=>some true
 | .tup,.tup _=>some true
 | .lst,.lst _=>some true
 | .str,.str _=>some true
 |_,_=>some false
theorem dictAt {a:Addr} (I:Inv X pins σ H s) (h:H a=some (Cm a)):∃o,s.heap.get? a=some o∧o.cls=.type "dict":= by
 obtain ⟨⟨_,o,_,h1,h2,_⟩,_⟩:=I.hok a _ h
 grind
theorem KS{σ:St}{H:Hp}{s:Shared}{a:Addr}{kvs:List (Int×Int)}(I:Inv X pins σ H s)(h:H a=some (i9 kvs)):∃o,s.heap.get? a=some o/\o.cls= .type "dict":=by obtain⟨_,_,vs,_,o,_,_,C,J,_⟩:=(show cg X.prog X.w H s.heap a (i9 kvs)from I.hok a _ h);exact⟨o,C,J.1⟩
theorem LP{σ:St}{H:Hp}{s:Shared}{a:Addr}{kvs:List ((Int×Int)×Int)}(I:Inv X pins σ H s)(h:H a=some (ff kvs)):∃o,s.heap.get? a=some o/\o.cls= .type "dict":=by obtain⟨_,_,xs,_,o,_,_,C,J,_⟩:=(show cg X.prog X.w H s.heap a (ff kvs)from I.hok a _ h);exact⟨o,C,J.1⟩
theorem CC:dM X (.builtin "isinstance") (λ xs H Q=>∃(Hh:Hp) (d:D) (v:V) (T:Ty) (k:Bool),xs=[v,.ty T.name]/\(∀b o,Hh b=some o->H b=some o)/\R Hh d v/\n8 T d=some k/\Q (.bl k) H):=by intro pins s σ H xs us Q I r h;obtain⟨Hh,d,v,T,k,rfl,m,rd,ek,q⟩:=h;obtain⟨u,z,rfl,ru,rz⟩:=r.two;cases rz;have fin:∀tk,EP X pins σ Q (.bool k) { s with toks:=tk }:= λ tk=>⟨.bl k,H,I.tok _,rfl,q⟩;have U:EP X pins σ Q (.bool k) s:=⟨.bl k,H,I,rfl,q⟩;cases d with
 |non=>
  cases rd.non;cases ru;cases T <;> cases ek;. exact IsiPair.NoneType_int (fin _)
  .exact IsiPair.NoneType_bool (fin _)
  .exact IsiPair.NoneType_tuple (fin _)
  .exact IsiPair.NoneType_list (fin _)
  .exact IsiPair.NoneType_str (fin _)
 |int i=>
  cases rd.int;obtain⟨t,rfl⟩:=ru;cases T <;> cases ek;. exact IsiPair.int_int U
  .exact IsiPair.int_bool (fin _)
  .exact IsiPair.int_tuple (fin _)
  .exact IsiPair.int_list (fin _)
  .exact IsiPair.int_str (fin _)
 |bl i=>
  cases rd.bl;cases ru;cases T <;> cases ek;. exact IsiPair.bool_int U
  .exact IsiPair.bool_bool U
  .exact IsiPair.bool_tuple (fin _)
  .exact IsiPair.bool_list (fin _)
  .exact IsiPair.bool_str (fin _)
 |str i=>
  cases rd.str;obtain⟨t,rfl⟩:=ru;cases T <;> cases ek;. exact IsiPair.str_int (fin _)
  .exact IsiPair.str_bool (fin _)
  .exact IsiPair.str_tuple (fin _)
  .exact IsiPair.str_list (fin _)
  .exact IsiPair.str_str U
 |tup ds=>
  obtain⟨q',vs,rfl,h1,h2⟩:=rd.tup;cases ru;obtain⟨its,_,⟨o,C,J,_⟩,_⟩:=I.tuple (.of (m _ _ h1));cases T <;> cases ek;. exact IsiPair.tuple_int C J (fin _)
  .exact IsiPair.tuple_bool C J (fin _)
  .exact IsiPair.tuple_tuple C J U
  .exact IsiPair.tuple_list C J (fin _)
  .exact IsiPair.tuple_str C J (fin _)
 |lst ds=>
  obtain⟨q',vs,rfl,h1,h2⟩:=rd.lst;cases ru;obtain⟨its,_,pl,_⟩:=I.list (.inl (Rd.mono m h1));obtain⟨o,C,J,_⟩:=pl.isList;cases T <;> cases ek;. exact IsiPair.list_int C J (fin _)
  .exact IsiPair.list_bool C J (fin _)
  .exact IsiPair.list_tuple C J (fin _)
  .exact IsiPair.list_list C J U
  .exact IsiPair.list_str C J (fin _)
 |dct=>
  obtain⟨q',rfl,h1⟩:=rd.dct;cases ru;obtain⟨o,C,J⟩:=dictAt I (m _ _ h1);cases T <;> cases ek;. exact IsiPair.dict_int C J (fin _)
  .exact IsiPair.dict_bool C J (fin _)
  .exact IsiPair.dict_tuple C J (fin _)
  .exact IsiPair.dict_list C J (fin _)
  .exact IsiPair.dict_str C J (fin _)
 |dic kvs=>
  obtain⟨q',rfl,h1⟩:=rd.dic;cases ru;obtain⟨o,C,J⟩:=KS I (m _ _ h1);cases T <;> cases ek;. exact IsiPair.dict_int C J (fin _)
  .exact IsiPair.dict_bool C J (fin _)
  .exact IsiPair.dict_tuple C J (fin _)
  .exact IsiPair.dict_list C J (fin _)
  .exact IsiPair.dict_str C J (fin _)
 |dip kvs=>
  obtain⟨q',rfl,h1⟩:=rd.dip;cases ru;obtain⟨o,C,J⟩:=LP I (m _ _ h1);cases T <;> cases ek;. exact IsiPair.dict_int C J (fin _)
  .exact IsiPair.dict_bool C J (fin _)
  .exact IsiPair.dict_tuple C J (fin _)
  .exact IsiPair.dict_list C J (fin _)
  .exact IsiPair.dict_str C J (fin _)
noncomputable def Gn(T:Ty)(fa:M D):M D:=do
 let d<- fa
 let k<- lift (n8 T d)
 pure (.bl k)
theorem MC(T:Ty){y:Str}{py:Pos}(o:Gl X y)(hm:X.mg y=none)(C:bootBuiltins y=some (.type T.name))(I:y≠"__name__":=by decide)(hd:(y==("__debug__":Str))=false:=by decide):PE X (.Name y py) (tC (.ty T.name)):=E3 o hm C rfl I hd
theorem n9(T:Ty){y:Str}{py:Pos}(o:X.mg "isinstance"=none)(C:X.mg y=none)(ha:DE X a fa)(hv:bootBuiltins y=some (.type T.name):=by decide+kernel)(I:Gl X "isinstance":=by rfl)(J:Gl X y:=by rfl)(hn:y≠"__name__":=by decide)(hd:(y==("__debug__":Str))=false:=by decide)
  (he:starEach [a,.Name y py] X.env=(false,eval a X.env)::starEach [.Name y py] X.env:=by rfl):DE X (.Call (.Name "isinstance" p) [a,.Name y py] [] pos) (Gn T fa):=
 cC (fL CC I o (by decide+kernel) (cX ha (cX (MC T J C hv hn hd) d8) he) (by decide) (by decide) he rfl) λ σ H Q ⟨c,δ,S,TT,d,aa,s,e,k⟩=>by obtain⟨x,U,e1,e⟩:=bind_some e;obtain⟨b,ab,e2,e⟩:=bind_some e;obtain⟨e3,rfl⟩:=bc e2;obtain⟨rfl,rfl⟩:=aW e;exact⟨c,δ,S,TT,x,U,s,e1,λ v H1 s1=>⟨_,x,v,T,b,rfl,bB,s1.st.head,e3,k _ _ (s1.stk (.cons .mkB s1.st.tail))⟩⟩
end
noncomputable def xY(x:Int):List Int->List Int
 |[]=>[x]
 |y::r=>if x<=y then x::y::r else y::xY x r
noncomputable def cW:List Int->List Int
 |[]=>[]
 |x::r=>xY x (cW r)
theorem jy(x:Int):∀l,(xY x l).Perm (x::l)
 |[]=>VT _
 |y::r=>by
  unfold xY;split;. rfl
  .exact((jy x r).cons y).trans (List.Perm.swap _ _ _)
theorem e_:∀l,(cW l).Perm l
 |[]=>VT _
 |x::r=>(jy x _).trans ((e_ r).cons x)
theorem wO(x:Int):∀l:List Int,l.Pairwise (. <= .)->(xY x l).Pairwise (. <= .)
 |[],_=>W2 _ _
 |y::r,h=>by
  obtain⟨o,C⟩:=Z0.mp h;unfold xY;split
  .rename_i hx;refine Z0.mpr ⟨λ z hz=>?_,h⟩;rcases uS.mp hz with e|hz
   .rw[e];exact hx
   .exact Int.le_trans hx (o z hz)
  .refine Z0.mpr ⟨λ z hz=>?_,wO x r C⟩;rcases uS.mp ((jy x r).mem_iff.mp hz)with e|hz
   .omega
   simp_all
theorem kQ:∀l,(cW l).Pairwise (. <= .)
 |[]=>List.Pairwise.nil
 |x::r=>wO x _ (kQ r)
theorem mX:∀{a b:List Int},a.Perm b->a.Pairwise (. <= .)->b.Pairwise (. <= .)->a=b
 |[],b,p,_,_=>(List.nil_perm.mp p).symm
 |x::a,[],p,_,_=>absurd p (by simp)
 |x::a,y::b,p,o,C=>by
  obtain⟨a1,a2⟩:=Z0.mp o;obtain⟨b1,I⟩:=Z0.mp C;have e:x=y:=by have hx:x∈y::b:=p.mem_iff.mp xS;have J:y∈x::a:=p.mem_iff.mpr xS;grind
  subst e;rw[mX ((List.perm_cons x).mp p) a2 I]
theorem CY(p:a.Perm b)(h:a.Pairwise (. <= .)):a=cW b:=mX (p.trans (e_ b).symm) h (kQ b)
noncomputable def gq:List Int->List Int
 |[]=>[]
 |x::r=>if x∈gq r then gq r else x::gq r
theorem dJ:∀{l:List Int},z∈gq l↔z∈l
 |[]=>Iff.rfl
 |x::r=>by
  unfold gq;split;. rename_i h;rw[dJ,uS];exact⟨.inr,λ q=>q.elim (λ e=>e▸dJ.mp h) id⟩
  .rw[uS,uS,dJ]
theorem dN:∀(l:List Int),(gq l).Nodup
 |[]=>YN
 |x::r=>by
  unfold gq;split;. exact dN r
  .rename_i h;exact ZC.mpr ⟨h,dN r⟩
theorem sI(l:List Int):(gq l).length<=l.length:=by induction l with
 |nil=>exact wF _
 |cons x r o=>unfold gq;grind
theorem CV{a b:List Int}(nd:a.Nodup)(h:∀z,z∈a↔z∈b):a.Perm (gq b):=by refine(ZH nd (dN b)).mpr λ z=>?_;rw[h z,dJ]
inductive Pq (K:PySem.W.Frag) (f:M (List D)) (σ:St) (H:Hp) (Q:VK):Prop
 | mk (c:Ct) (δ:DS) (S:List D) (T:List V) (xs:List D) (δ':DS) (s:Sl c δ S σ T H) (e:f δ=some (xs,δ')) (q:∀p vs H',vs.length=xs.length->(iK K H' p vs ∨ i0 K H' p vs)->Sl c δ' (xs ++ S) σ (vs ++ T) H' -> Q (.ref p) H'):Pq K f σ H Q
noncomputable abbrev DQ(X:Cx)(e:Expr)(f:M (List D)):Prop:=PE X e (Pq X.K f)
section
variable {X:Cx} {b e:Expr} {fa:M D} {fq:M (List D)} {pos p:Pos} {x:Str}
theorem wG(h:DE X e fa):DQ X e (do let x<- fa;lift (fW x)):=cC h λ σ H Q ⟨c,U,S,T,xs,aa,s,e,k⟩=>by obtain⟨d,C,e1,e⟩:=bind_some e;obtain⟨I,rfl⟩:=bc e;refine⟨c,U,S,T,d,C,s,e1,λ v H' s'=>?_⟩;cases d with
 |tup ds=>cases I;obtain⟨q,vs,rfl,J,o⟩:=s'.st.head.tup;exact k q vs H' o.length (.inr (.of (bB _ _ J))) (s'.stk (o.append s'.st.tail))
 |lst ds=>cases I;obtain⟨q,vs,rfl,J,o⟩:=s'.st.head.lst;exact k q vs H' o.length (.inl (.inl (Rd.mono bB J))) (s'.stk (o.append s'.st.tail))
 |_=>cases I
theorem Inv.kd{σ:St}{H:Hp}{s:Shared}{h':Heap}{t':Nat}{d':Drawn}(I:Inv X pins σ H s)(k:∀b u,s.heap.get? b=some u->h'.get? b=some u):Inv X pins σ H { s with heap:=h',toks:=t',drawn:=d' }:=by have o:=I.kept (t':=t') k;exact⟨o.ok,o.os,o.bare,o.base,o.loc,o.cell,o.free,o.freeC,o.pin,o.hok,o.len⟩
theorem ie:∀{us:List Value},PyProof.Rows.IntsAre us ns->Vals (ns.map V.int) us:=by induction ns with
 |nil=>intro us h;cases h;exact .nil
 |cons n ns o=>intro us h;cases h with
  |cons _ t h=>exact .cons ⟨t,rfl⟩ (o h)
theorem l3{σ:St}{H:Hp}{s:Shared}{ns ms:List Int}{Q:VK}{C h':Heap}{tk:Nat}{d:Drawn}{out:List Value}{e:Nat}(I:Inv X pins σ H s)(k:∀b o,s.heap.get? b=some o->C.get? b=some o)(k2:∀b o,C.get? b=some o->h'.get? b=some o)
  (hg:h'.get? C.objs.size=some { cls:= .type "list",data:= .seq out.toArray e })(hi:PyProof.Rows.IntsAre out ms)(J:ms.Perm ns)(hu:ms.Pairwise (. <= .))(hl:ns.length<64)(q:∀l,H l=none->Q (.ref l) (upd H l (.lst ((cW ns).map V.int)))):
  EP X pins σ Q (.ref C.objs.size) { s with heap:=h',toks:=tk,drawn:=d }:=by have U:Inv X pins σ H { s with heap:=C,toks:=tk,drawn:=d }:=Inv.kd I k;have em:=CY J hu;refine⟨.ref C.objs.size,_,U.laid (t':=tk) (o:= .lst ((cW ns).map V.int)) k2 (wF _) ⟨?_,out,e,em▸ie hi,hg⟩,rfl,q _ (U.hok.fresh (wF _))⟩;rw[fD,<- em,J.length_eq,VL];omega
theorem ra:dM X (.builtin "sorted") (λ xs H Q=>∃p ns,xs=[.ref p]/\(iK X.K H p (ns.map V.int)\/i0 X.K H p (ns.map V.int))/\ns.length<64/\∀l,H l=none->Q (.ref l) (upd H l (.lst ((cW ns).map V.int)))):=by
 intro pins s σ H xs us Q I r h;obtain⟨p,ns,rfl,C,hl,q⟩:=h;obtain⟨u,rfl,ru⟩:=r.one;cases ru;refine jV (ns:=ns) (λ A' Q' E' hA J=>?_) hl λ h1 h' tk d out ms e k k2 hg hi hp hu=>l3 I k k2 hg hi hp hu hl q;rcases C with C|C
 .obtain⟨its,U,pl,hz⟩:=I.list C;obtain⟨o,ho,hc,n,hd⟩:=pl.isList;exact wpAny_collect_seq p (.inl rfl) ho hc hd (λ h' k=>J _ ns h' s.toks s.drawn (by simpa using intsAre_of U) (VT _) k) (by rw[gA,<- U.length];omega)
 .obtain⟨its,U,⟨o,ho,hc,n,hd⟩,hz⟩:=I.tuple C;exact wpAny_collect_seq p (.inr rfl) ho hc hd (λ h' k=>J _ ns h' s.toks s.drawn (by simpa using intsAre_of U) (VT _) k) (by rw[gA,<- U.length];exact hz)
noncomputable def dF:List D->Option (List Int)
 |[]=>some []
 | .int i::r=>(dF r).map (i:: .)
 |_=>none
theorem h_:∀{ds:List D}{vs:List V}{ns:List Int},Rs H ds vs->dF ds=some ns->vs=ns.map V.int
 |[],vs,ns,h,e=>by cases e;exact h.inv0
 |d::ds,vs,ns,h,e=>by obtain⟨v,r,ev,o,C⟩:=h.inv;cases d with
  |int b=>unfold dF at e;cases q:dF ds with
   |none=>simp_all
   |some I=>rw[q]at e;cases e;rw[ev,o.int,h_ C q];rfl
  |_=>cases e
theorem ic:∀(ns:List Int),Rs H (ns.map D.int) (ns.map V.int)
 |[]=> .nil
 |n::ns=> .cons .mkI (ic ns)
noncomputable def sortI(xs:List D):Option (List D):=match dF xs with
 |some ns=>if ns.length<64 then some ((cW ns).map D.int)else none
 |none=>none
noncomputable def mQ{α:Type}(g:List D->Option α)(f:M (List D)):M α:=do
 let xs<- f
 lift (g xs)
theorem mY(hm:X.mg "sorted"=none)(h:DQ X e fq)(J:Gl X "sorted":=by rfl)(he:starEach [e] X.env=[(false,eval e X.env)]:=by rfl):DF X (.Call (.Name "sorted" p) [e] [] pos) (mQ sortI fq):=
 cC (fL ra J hm PyProof.Rows.boot_sorted (cX h d8 he) (by decide) (by decide) he rfl) λ σ H Q ⟨c,U,S,T,xs,aa,s,e,k⟩=>by
  obtain⟨ds,I,e1,e⟩:=bind_some e;obtain⟨C,rfl⟩:=bc e;refine⟨c,U,S,T,ds,I,s,e1,λ q vs H1 l hq s1=>?_⟩;unfold sortI at C;split at C
  .rename_i ns en;split at C
   .rename_i hn;cases C;have ev:=h_ (s1.st.left l) en;subst ev;refine⟨q,ns,rfl,hq,hn,λ m hm=>?_⟩;obtain⟨f1,f2,f3⟩:=s1.fresh hm;have s2:=(s1.drop l).hide (o:= .lst ((cW ns).map V.int)) hm;exact k m _ _ (by simp) (s2.stk ((ic _).append s2.st)) f1 f2 f3
   .cases C
  grind
noncomputable def lJ(w:World)(S:Addr)(ns:List Int):HO:= .ext λ h=>∃l o t,b_ w h S l o t/\(l.map (·.1)).Perm (gq ns)
theorem Ao(hc:X.calm=true):dM X (.type "set") (λ xs H Q=>∃p ns,xs=[.ref p]/\(iK X.K H p (ns.map V.int)\/i0 X.K H p (ns.map V.int))/\ns.length<4000/\∀l,H l=none->Q (.ref l) (upd H l (lJ X.w l ns))):=by
 intro pins s σ H xs us Q I r h;obtain⟨p,ns,rfl,C,hl,q⟩:=h;obtain⟨u,rfl,ru⟩:=r.one;cases ru;have fin:∀(h':Heap)(tk:Nat)(ls:List (Int×Tok))(J:Nat)(t:SetTable),b_ X.w h' s.heap.objs.size ls J t->(ls.map (·.1)).Nodup->(∀z,z∈ls.map (·.1)↔z∈ns)->(∀b o,s.heap.get? b=some o->h'.get? b=some o)->
   EP X pins σ Q (.ref s.heap.objs.size) { s with heap:=h',toks:=tk }:= λ h' tk ls J t x nd mem k=>by refine⟨.ref s.heap.objs.size,_,I.laid (t':=tk) (o:=lJ X.w s.heap.objs.size ns) k (wF _) ⟨⟨ls,J,t,x,CV nd mem⟩,?_,λ h1 h2 ⟨l,J,t,x,p⟩ k=>⟨l,J,t,x.at k,p⟩⟩,rfl,q _ I.fresh⟩;obtain⟨o,ho,_⟩:=x.obj;simp_all
 rcases C with C|C
 .obtain⟨its,U,pl,hz⟩:=I.list C;have hn:its.toArray.size=ns.length:=by rw[gA,<- U.length,fD]
  exact xw (ns:=ns) (I.ok.hd hc) pl.isList (by simpa using intsAre_of U) (by show _<4096;omega) fin
 .obtain⟨its,U,pl,hz⟩:=I.tuple C;have hn:its.toArray.size=ns.length:=by rw[gA,<- U.length,fD]
  exact xF (ns:=ns) (I.ok.hd hc) (show s.heap.IsTuple p its.toArray from pl) (by simpa using intsAre_of U) (by show _<4096;omega) fin
theorem kY(U:X.calm=true):dM X (.builtin "sorted") (λ xs H Q=>∃p ns,xs=[.ref p]/\H p=some (lJ X.w p ns)/\ns.length<64/\∀l,H l=none->Q (.ref l) (upd H l (.lst ((cW (gq ns)).map V.int)))):=by
 intro pins s σ H xs us Q I r h;obtain⟨p,ns,rfl,hq,hl,q⟩:=h;obtain⟨u,rfl,ru⟩:=r.one;cases ru;obtain⟨⟨l,ep,t,x,pm⟩,_⟩:=I.hok p _ hq;have C:(gq ns).length<64:=Nat.lt_of_le_of_lt (sI ns) hl;refine jV (ns:=gq ns) (λ A' Q' E' hA J=>?_) C λ h1 h' tk d out ms e k k2 hg hi hp hu=>l3 I k k2 hg hi hp hu C q;refine ou (hA.trans (I.ok.hd U)) x λ ord h' tk d po k=>J _ (ord.map (·.1)) h' tk d ?_ ((po.map _).trans pm) k;have:∀o:List (Int×Tok),PyProof.Rows.IntsAre (o.map λ p=>Value.int p.1 p.2) (o.map (·.1)):= λ o=>by induction o with
  |nil=>exact .nil
  |cons x r ih=>exact .cons _ _ ih
 simp_all
theorem rJ:dM X (.builtin "len") (λ xs H Q=>∃p ns,xs=[.ref p]/\H p=some (lJ X.w p ns)/\Q (.int (gq ns).length) H):=by
 intro pins s σ H xs us Q I r h;obtain⟨p,ns,rfl,C,q⟩:=h;obtain⟨u,rfl,J⟩:=r.one;cases J;obtain⟨⟨l,ep,t,x,pm⟩,_⟩:=I.hok p _ C;obtain⟨o,U,hx,hd⟩:=x.obj;have hs:(l.map eo).toArray.size=l.length:=by simp
 have hn:l.length=(gq ns).length:=by rw[<- pm.length_eq,fD]
 have hf:=x.few;have hb:scanBound=4096:=rfl;refine call_len_set U hx hd (by rw[hs];exact x.fits) (by omega) ?_;rw[hs,hn];exact⟨.int _,H,I.tok _,⟨_,rfl⟩,q⟩
noncomputable def kc(xs:List D):Option (List D):=match dF xs with
 |some ns=>if ns.length<64 then some ((cW (gq ns)).map D.int)else none
 |none=>none
noncomputable def tE(xs:List D):Option D:=match dF xs with
 |some ns=>if ns.length<4000 then some (.int (gq ns).length)else none
 |none=>none
noncomputable def L3(K:PySem.W.Frag)(w:World)(te:TE):TE:= λ σ H Q=>te σ H λ x H1=>∃p ns,[x]=[V.ref p]/\(iK K H1 p (ns.map V.int)\/i0 K H1 p (ns.map V.int))/\ns.length<4000/\∀l,H1 l=none->Q (.ref l) (upd H1 l (lJ w l ns))
theorem Aw(hm:X.mg "set"=none)(h:PE X e te)(o:Gl X "set":=by rfl)(C:X.calm=true:=by rfl)(he:starEach [e] X.env=[(false,eval e X.env)]:=by rfl):PE X (.Call (.Name "set" p) [e] [] pos) (L3 X.K X.w te):=
 cC (fS (Ao C) o hm (by rfl) (cX h d8 he) (by decide) (by rfl) he rfl) λ σ H Q h=>h
theorem oI{p2 I:Pos}(hm:X.mg "sorted"=none)(C:X.mg "set"=none)(h:DQ X e fq)(hg:Gl X "sorted":=by rfl)(U:Gl X "set":=by rfl)(hc:X.calm=true:=by rfl)(he:starEach [e] X.env=[(false,eval e X.env)]:=by rfl):
  DF X (.Call (.Name "sorted" p) [.Call (.Name "set" p2) [e] [] I] [] pos) (mQ kc fq):=
 cC (fL (kY hc) hg hm PyProof.Rows.boot_sorted (cX (Aw C h U hc he) d8 rfl) (by decide) (by decide) rfl rfl) λ σ H Q ⟨c,δ,S,T,xs,ab,s,e,k⟩=>by
  obtain⟨ds,aa,e1,e⟩:=bind_some e;obtain⟨J,rfl⟩:=bc e;refine⟨c,δ,S,T,ds,aa,s,e1,λ q vs H1 l hq s1=>?_⟩;unfold kc at J;split at J
  .rename_i ns en;split at J
   .rename_i hn;cases J;have ev:=h_ (s1.st.left l) en;subst ev;refine⟨q,ns,rfl,hq,by omega,λ m hm=>⟨m,ns,rfl,bj,hn,λ m2 C=>?_⟩⟩;have s2:=(s1.drop l).grow (fK hm (lJ X.w m ns));obtain⟨f1,f2,f3⟩:=s2.fresh C;have s3:=s2.hide (o:= .lst ((cW (gq ns)).map V.int)) C;exact k m2 _ _ (by simp) (s3.stk ((ic _).append s3.st)) f1 f2 f3
   .cases J
  grind
theorem ym{p2 o:Pos}(hm:X.mg "len"=none)(I:X.mg "set"=none)(h:DQ X e fq)(hg:Gl X "len":=by rfl)(J:Gl X "set":=by rfl)(hc:X.calm=true:=by rfl)(he:starEach [e] X.env=[(false,eval e X.env)]:=by rfl):
  DE X (.Call (.Name "len" p) [.Call (.Name "set" p2) [e] [] o] [] pos) (mQ tE fq):=
 cC (fL rJ hg hm PySem.boot_len (cX (Aw I h J hc he) d8 rfl) (by decide) (by decide) rfl rfl) λ σ H Q ⟨c,δ,S,T,xs,aa,s,e,k⟩=>by
  obtain⟨ds,U,e1,e⟩:=bind_some e;obtain⟨C,rfl⟩:=bc e;refine⟨c,δ,S,T,ds,U,s,e1,λ q vs H1 l hq s1=>?_⟩;unfold tE at C;split at C
  .rename_i ns en;split at C;. cases C;have ev:=h_ (s1.st.left l) en;subst ev;refine⟨q,ns,rfl,hq,by omega,λ m hm=>⟨m,ns,rfl,bj,?_⟩⟩;have s2:=(s1.drop l).grow (fK hm (lJ X.w m ns));exact k _ _ (s2.stk (.cons .mkI s2.st))
   .cases C
  grind
noncomputable def L9(xs ys:List D):Option (List D):=if xs.length+ys.length<=100000 then some (xs++ys)else none
end
inductive Hn where
 | th (x:D) | ls (j:Nat)
noncomputable def J7(c:Ct)(o:DS)(S:List D)(σ:St)(T:List V)(H:Hp)(v:V):Hn->Prop
 | .th d=>Sl c o (d::S) σ (v::T) H
 | .ls i=>Sl c o S σ T H/\σ[i]?=some (some v)
inductive GQ (f:M Hn) (σ:St) (H:Hp) (Q:VK):Prop
 | mk (c:Ct) (δ:DS) (S:List D) (T:List V) (h:Hn) (δ':DS) (s:Sl c δ S σ T H) (e:f δ=some (h,δ')) (q:∀v H',J7 c δ' S σ T H' v h->Q v H'):GQ f σ H Q
noncomputable abbrev DH(X:Cx)(e:Expr)(f:M Hn):Prop:=PE X e (GQ f)
noncomputable def Hn.ds:Hn->List D
 | .th z=>[z]
 | .ls _=>[]
noncomputable def Hn.vs(v:V):Hn->List V
 | .th _=>[v]
 | .ls _=>[]
theorem Hn.len(v:V)(h:Hn):(h.vs v).length=h.ds.length:=by cases h <;> rfl
noncomputable def pH(h:Hn):M D:= λ o=>match h with
 | .th d=>some (d,o)
 | .ls i=>match o[i]? with
  |some (.ow _ xs)=>some (.lst xs,o)
  |_=>none
theorem J7.sl(k:J7 c o S σ T H v h):Sl c o (h.ds++S) σ (h.vs v++T) H:=by cases h with
 |th d=>exact k
 |ls i=>exact k.1
theorem lQ{S:List D}{σ:St}{T:List V}{H:Hp}{v:V}{h:Hn}{d:D}(s:Sl c o S σ T H)(hs:∀d',h= .th d'->R (fv c o σ H) d' v)(U:∀i,h= .ls i->σ[i]?=some (some v))(e:pH h o=some (d,C)):o=C/\R H d v/\
  (∀xs,d= .lst xs->∃p vs,v= .ref p/\Rd H p (.lst vs)/\Rs (fv c o σ H) xs vs)/\((∀xs,d≠ .lst xs)->R (fv c o σ H) d v):=by cases h with
 |th d0=>cases e;have r:=hs d rfl;refine⟨rfl,r.mono bB,λ xs ex=>?_,λ _=>r⟩;subst ex;obtain⟨p,vs,ev,h1,h2⟩:=r.lst;exact⟨p,vs,ev,Rd.mono bB h1,h2⟩
 |ls i=>
  unfold pH at e;dsimp only at e;split at e;. rename_i b xs hx;cases e;obtain⟨p,vs,ev,I,J⟩:=s.own hx;rw[U i rfl]at ev;cases ev;exact⟨rfl,.mkL (.inl I) (J.mono bB),λ ys ey=>by cases ey;exact⟨p,vs,rfl,.inl I,J⟩,λ z=>absurd rfl (z xs)⟩
  grind
section
variable {X:Cx} {a b e:Expr} {fa fb:M D} {ha' hb':M Hn} {fs:M (List D)} {pos p:Pos} {es:List Expr} {x:Str}
theorem nq(h:DE X e fa):DH X e (do let x<- fa;pure (.th x)):=cC h λ σ H Q ⟨c,C,S,T,h,I,s,e,k⟩=>by obtain⟨d,o,J,e⟩:=bind_some e;obtain⟨rfl,rfl⟩:=aW e;exact⟨c,C,S,T,d,o,s,J,λ v H' s'=>k v H' s'⟩
noncomputable def AH(i:Nat):M Hn:=do
 let _<- dv i
 pure (.ls i)
theorem o7(i:Nat){px:Pos}(C:X.N[i]?=some x:=by rfl)(I:uw X.env.scope x:=by first | exact Or.inl rfl | exact Or.inr (Or.inl rfl) | exact Or.inr (Or.inr rfl))(hd:(x==("__debug__":Str))=false:=by decide)(o:(x==("__classdict__":Str))=false:=by decide):
  DH X (.Name x px) (AH i):=cC (eU C I hd o) λ σ H Q ⟨c,δ,S,T,h,J,s,e,k⟩=>by obtain⟨xs,U,e1,e⟩:=bind_some e;obtain⟨rfl,rfl⟩:=aW e;obtain⟨⟨b,hi⟩,rfl⟩:=b7 e1;obtain⟨q,vs,ev,hq,hx⟩:=s.own hi;exact⟨_,ev,k _ H ⟨s,ev⟩⟩
noncomputable def Fx{α:Type}(g:D->D->Option α)(fa fb:M Hn):M α:=do
 let o<- fa
 let C<- fb
 let x<- pH o
 let y<- pH C
 lift (g x y)
structure Pd (c:Ct) (δ:DS) (S:List D) (σ:St) (T:List V) (H:Hp) (x y:D) (v u:V):Prop where
 sl:Sl c δ S σ T H
 rx:R H x v
 ry:R H y u
 lx:∀xs,x=.lst xs->∃p vs,v=.ref p∧Rd H p (.lst vs)∧Rs (fv c δ σ H) xs vs
 ly:∀xs,y=.lst xs->∃p vs,u=.ref p∧Rd H p (.lst vs)∧Rs (fv c δ σ H) xs vs
theorem K3{g:D->D->Option α}{W:Ct->DS->List D->St->List V->VK->α->Prop}
  (hr:∀c o S σ T H x y v u z Q,Pd c o S σ T H x y v u->g x y=some z->W c o S σ T Q z->r v u H Q):
  ∀σ H Q,(∃c o S T z C,Sl c o S σ T H/\Fx g ha' hb' o=some (z,C)/\W c C S σ T Q z)->GY r (GQ ha') (GQ hb') σ H Q:= λ σ H Q ⟨c,o,S,T,z,C,s,e,k⟩=>by obtain⟨J,U,e1,e⟩:=bind_some e;obtain⟨h2,I,e2,e⟩:=bind_some e;obtain⟨x,aa,e3,e⟩:=bind_some e;obtain⟨y,ab,e4,e⟩:=bind_some e;obtain⟨e5,rfl⟩:=bc e;refine⟨c,o,S,T,J,U,s,e1,λ v H1 k1=>?_⟩;refine⟨c,U,J.ds++S,J.vs v++T,h2,I,k1.sl,e2,λ u H2 k2=>?_⟩;have s2:=k2.sl;have s3:Sl c I S σ T H2:=(s2.drop (Hn.len u h2)).drop (Hn.len v J);obtain⟨rfl,r1,l1,_⟩:=lQ s3 (v:=v) (h:=J) (λ d' ed=>by subst ed;exact(s2.drop (Hn.len u h2)).st.head) (λ i ei=>by subst ei;exact k1.2) e3;obtain⟨rfl,r2,l2,_⟩:=lQ s3 (v:=u) (h:=h2) (λ d' ed=>by subst ed;exact s2.st.head) (λ i ei=>by subst ei;exact k2.2) e4;exact hr c I S σ T H2 x y v u z Q ⟨s3,r1,r2,l1,l2⟩ e5 k
noncomputable def L5:R2:= λ x y H Q=>∃l b xs zs,x= .ref l/\y= .ref b/\Rd H l (.lst xs)/\Rd H b (.lst zs)/\xs.length+zs.length<=sizeLine/\∀p,H p=none->Q (.ref p) (upd H p (.lst (xs++zs)))
theorem EH:iu X (binaryOp .Add) L5:=by intro pins s σ H x y v u Q I J U h;obtain⟨l,b,xs,zs,rfl,rfl,hH,hB,hz,q⟩:=h;cases J;cases U;obtain⟨z,its,n,r,e⟩:=hH.ok I.hok;obtain⟨z2,o,n2,C,e2⟩:=hB.ok I.hok;refine PySem.P.add_list e e2 ?_ (by rw[gA,gA,<- r.length,<- C.length];omega);rw[show its.toArray++o.toArray=(its++o).toArray by simp];exact⟨.ref _,_,I.lnew (t':=s.toks) (r.append C) (by rw[fR];exact hz),rfl,q _ I.fresh⟩
noncomputable def Ma:D->D->Option (List D)
 | .lst xs,.lst ys=>L9 xs ys
 |_,_=>none
theorem HU(ha:DH X a ha')(hb:DH X b hb'):DF X (.BinOp a .Add b pos) (Fx Ma ha' hb'):=cC (GP EH ha hb) λ σ H Q ⟨c,U,S,T,z,o,s,e,k⟩=>by refine K3 (W:= λ c o S σ T Q z=>∀l vs H',vs.length=z.length->Sl { c with Z:=upd c.Z l (.lst vs) } o (z++S) σ (vs++T) H'->c.Z l=none->l∉c.B->c.H0 l=none->Q (.ref l) H') (λ c U S σ T H x y v u z Q t I w=>?_) σ H Q ⟨c,U,S,T,z,o,s,e,k⟩;cases x with
 |lst xs=>cases y with
  |lst ys=>
   have C:(if xs.length+ys.length<=100000 then some (xs++ys)else none)=some z:=I;split at C
   .cases C;obtain⟨p1,vs,rfl,a1,a2⟩:=t.lx xs rfl;obtain⟨p2,us,rfl,b1,J⟩:=t.ly ys rfl;have hl:100000<sizeLine:=by decide
    refine⟨p1,p2,vs,us,rfl,rfl,a1,b1,by rw[a2.length,J.length];omega,λ q hq=>?_⟩;have s1:=t.sl.stk ((a2.append J).append t.sl.st);obtain⟨f1,f2,f3⟩:=s1.fresh hq;exact w q _ _ (by rw[fR,fR,a2.length,J.length]) (s1.hide hq) f1 f2 f3
   grind
  |_=>cases I
 |_=>cases I
noncomputable def Ks(neg:Bool)(x y:D):Option D:=if jk x y=true then(dy 9 x y).map λ b=> .bl (if neg then !b else b)else fe neg x y
theorem Fu{x y:D}{v u:V}{z:D}{Q:VK}{neg:Bool}{r:R2}(t:Pd c I S σ T H x y v u)(o:Ks neg x y=some z)(w:∀v H',Sl c I (z::S) σ (v::T) H'->Q v H')
  (hs:∀(b:Bool),jk x y=true->dy 9 x y=some b->Q (.bl (if neg then !b else b)) H->r v u H Q)(hf:j8 v u=true->Q (.bl (if neg then !decide (v=u)else decide (v=u))) H->r v u H Q):r v u H Q:=by
 unfold Ks at o;split at o;. rename_i J;cases q:dy 9 x y with
  |none=>rw[q]at o;cases o
  |some b=>rw[q]at o;cases o;exact hs b J q (w _ _ (t.sl.stk (.cons .mkB t.sl.st)))
 .unfold fe at o;split at o
  .rename_i w1 z1 U e2;split at o
   .rename_i C;cases o;obtain⟨rfl,_⟩:=d3 t.rx U;obtain⟨rfl,_⟩:=d3 t.ry e2;exact hf C (w _ _ (t.sl.stk (.cons .mkB t.sl.st)))
   .cases o
  grind
theorem PZ(w:∀σ H Q,tM (Fx g ha' hb') σ H Q->GY r (GQ ha') (GQ hb') σ H Q):∀σ H Q,pJ (Fx g ha' hb' >>= lP) σ H Q->GB (GY r (GQ ha') (GQ hb')) σ H Q:= λ σ H Q ⟨c,C,S,T,d,I,s,e,k⟩=>by obtain⟨x,o,J,e⟩:=bind_some e;obtain⟨rfl,rfl⟩:=k7 e;exact w σ H _ ⟨c,C,S,T,.bl d,o,s,J,λ v H' s'=>⟨d,s'.st.head.bl,k _ s'.pop⟩⟩
theorem Af(I:cb k X.A)(J:DH X a ha')(U:DH X b hb'):DT X (.Compare a [.NotEq] [b] pos) (Fx (Ks true) ha' hb' >>= lP):=EJ (vG (t7 (gM I)) J U (uc _)) (PZ λ σ H Q ⟨c,C,S,T,z,o,s,e,k⟩=>
 K3 (W:= λ c o S σ T Q z=>∀v H',Sl c o (z::S) σ (v::T) H'->Q v H') (λ c C S σ T H x y v u z Q t eg w=>Fu t eg w (λ b hs he q=> .inr ⟨H,x,y,b,λ _ _ h=>h,t.rx,t.ry,hs,he,q⟩) λ hs q=> .inl ⟨hs,q⟩) σ H Q ⟨c,C,S,T,z,o,s,e,k⟩)
inductive Lz (f:M (List D)) (σ:St) (H:Hp) (Q:List V->Hp->Prop):Prop
 | mk (c:Ct) (δ:DS) (S:List D) (T:List V) (ds:List D) (δ':DS) (s:Sl c δ S σ T H) (e:f δ=some (ds,δ')) (q:∀vs H',Sl c δ' S σ T H' -> Rs H' ds vs->Q vs H'):Lz f σ H Q
noncomputable abbrev Jx(X:Cx)(es:List Expr)(f:M (List D)):Prop:=PA X es (Lz f)
theorem vS:Jx X [] (pure []):=Ft d8 λ σ H Q ⟨c,C,S,T,d,o,s,e,k⟩=>by obtain⟨rfl,rfl⟩:=aW e;exact k [] H s .nil
noncomputable def oX(fa:M Hn)(fs:M (List D)):M (List D):=do
 let h<- fa
 let xs<- fs
 let x<- pH h
 pure (x::xs)
theorem i3(I:DH X a ha')(J:Jx X es fs)(hs:starEach (a::es) X.env=(false,eval a X.env)::starEach es X.env:=by rfl):Jx X (a::es) (oX ha' fs):=Ft (cX I J hs) λ σ H Q ⟨c,U,S,T,d,aa,s,e,k⟩=>by obtain⟨h,o,e1,e⟩:=bind_some e;obtain⟨xs,C,e2,e⟩:=bind_some e;obtain⟨x,ab,e3,e⟩:=bind_some e;obtain⟨rfl,rfl⟩:=aW e;refine⟨c,U,S,T,h,o,s,e1,λ v H1 k1=>⟨c,o,h.ds++S,h.vs v++T,xs,C,k1.sl,e2,λ vs H2 s2 r2=>?_⟩⟩;have s3:=s2.drop (Hn.len v h);obtain⟨rfl,rv,_⟩:=lQ s3 (v:=v) (h:=h) (λ d' ed=>by subst ed;exact s2.st.head) (λ i ei=>by subst ei;exact k1.2) e3;exact k (v::vs) H2 s3 (.cons rv r2)
noncomputable def flatOnly(d:D):Option D:=match flat d with
 |some _=>some d
 |none=>none
theorem Cy{H H':Hp}(h:(flatOnly d).isSome=true)(r:R H d v):R H' d v:=by cases d with
 |non=>rw[r.non];rfl
 |bl b=>rw[r.bl];rfl
 |int b=>rw[r.int];rfl
 |str b=>rw[r.str];rfl
 |tup _=>cases h
 |lst _=>cases h
 |dct=>cases h
 |dic _=>cases h
 |dip _=>cases h
noncomputable def xR(n:Nat)(mf:List D->Option D)(ds:List D):Option D:=if ds.length=n then(mf ds).bind flatOnly else none
variable {k:Nat} {f:Addr} {fd:FuncData} {ps:List Str}
theorem Ai{n:Nat}(F:dG X.prog X.w X.K X.mg X.base dQ k f fd ps (mE n mf))(hr:cb k X.A)(hm:X.mg x=some (.ref f))(hk:PySem.W.keepIn X.K (.ref f)=true)(hb:Binds X.K fd ps [])(ha:Jx X (a::es) fs)
  (hg:Gl X x:=by rfl)(J:(x==("__debug__":Str))=false:=by decide)(he:starEach (a::es) X.env=(false,eval a X.env)::starEach es X.env:=by rfl)(U:(backTo pos (starEach es X.env)).any (·.1)=false:=by rfl):
  DE X (.Call (.Name x p) (a::es) [] pos) (mC (xR n mf) fs):=cC (i4 F hr hg hm hk hb .nil qA ha J he U) λ σ H Q ⟨c,δ,S,T,d,ab,s,e,k⟩=>by
 obtain⟨ds,aa,e1,e⟩:=bind_some e;obtain⟨C,rfl⟩:=bc e;refine⟨c,δ,S,T,ds,aa,s,e1,λ vs H1 s1 rs=>?_⟩;unfold xR at C;split at C;. rename_i hn;cases q:mf ds with
  |none=>rw[q]at C;cases C
  |some d0=>
   rw[q]at C;have I:flatOnly d0=some d:=C;have ed:d0=d:=by
    unfold flatOnly at I;split at I;. cases I;rfl
    .cases I
   subst ed;rw[ZA];refine⟨rs.length.trans hn,λ _=>none,ds,d0,(λ a o z=>nomatch z),rs.mono λ b o h=>cN.mpr ⟨(λ⟨_,z⟩=>nomatch z),h⟩,q,λ v H' g r=>k v H' ?_⟩;have s2:=s1.grow g;exact s2.stk (.cons (Cy (by rw[I];rfl) r) s2.st)
 grind
noncomputable def cutD(xs:List D)(lo C:Option Int):List D:=(xs.drop (HT.sIx xs.length 0 lo)).take (HT.sIx xs.length xs.length C-HT.sIx xs.length 0 lo)
theorem Bl(h:Rs H ds vs)(lo I:Option Int):Rs H (cutD ds lo I) (oY vs lo I):=by
 unfold cutD oY;rw[h.length];have U:∀(n:Nat){ds:List D}{vs:List V},Rs H ds vs->Rs H (ds.drop n) (vs.drop n):=by intro n;induction n with
  |zero=>intro ds vs h;exact h
  |succ n o=>intro ds vs h;cases ds with
   |nil=>rw[h.inv0];exact .nil
   |cons d ds=>obtain⟨v,r,e,J,C⟩:=h.inv;subst e;exact o C
 have tk:∀(n:Nat){ds:List D}{vs:List V},Rs H ds vs->Rs H (ds.take n) (vs.take n):=by intro n;induction n with
  |zero=>intro ds vs h;exact .nil
  |succ n o=>intro ds vs h;cases ds with
   |nil=>rw[h.inv0];exact .nil
   |cons d ds=>obtain⟨v,r,e,J,C⟩:=h.inv;subst e;exact .cons J (o C)
 grind
theorem rX{items:Array Value}{vl vu:Value}{lo hi:Option Int}{prog:Program}{w:World}{A:Around}{E:Value->Shared->Prop}{s:Shared}{Q:Value->Shared->Prop}(C:PyProof.Rows.IsTup s.heap t items)(hs:s.heap.IsSliceOf sl vl vu .none)(pl:IsPart vl lo)(pu:IsPart vu hi)
  (hw:HT.sIx items.size 0 lo=0/\HT.sIx items.size items.size hi=items.size)(h:Q (.ref t) s):wpAny (model prog w) A (getItem (.ref t) (.ref sl)) Q E s:=by
 obtain⟨os,hos,hcs,hds⟩:=id hs;have hTs:s.TypeIs (.ref sl) "slice":=⟨os,hos,hcs⟩;unfold getItem;try with_reducible refine QZ ?_
 refine zN (wpAny_sequenceKey C.typeIs (by decide) ?_);refine zN (ZK (name:=Str.ofString "__getitem__") C.typeIs VP (ZN VP C.typeIs PyProof.Rows.entry_tuple_getitem ?_ (PyProof.Rows.args_tuple_getitem _ _)));show wpAny (model prog w) _ (Builtin.Tuple.tupleItemsOf (.ref t) >>= _) _ _ s;refine zN (PyProof.Rows.tupleItemsOf_ C (zN (W5 hTs ?_)));refine zN (HT.sliceApplied_gen hs pl pu ?_);have hyes:(((HT.sIx items.size 0 lo:Nat):Int)==0&&(1:Int)==1&&(HT.sIx items.size items.size hi-HT.sIx items.size 0 lo)==items.size)=true:=by rw[hw.1,hw.2];simp
 show wpAny (model prog w) _ (if(((HT.sIx items.size 0 lo:Nat):Int)==0&&1==1&&(HT.sIx items.size items.size hi-HT.sIx items.size 0 lo)==items.size)=true then _ else _) _ _ s;rw[gL hyes];refine zN ?_;refine zN (W5 C.typeIs (kT ?_));exact zN (YF (zN (kT (kT ⟨_,rfl,kT h⟩))))
end
section
variable {X:Cx} {pins:List (Addr × Obj)} {σ:St} {H:Hp} {s:Shared} {h':Heap}
theorem _root_.L2.Inv.turnedN{fp:List Addr}{p:Addr}{o:HO}(I:Inv X pins σ H s)(k:∀b o,b∉fp->s.heap.get? b=some o->h'.get? b=some o)(hf:∀b∈fp,dz X pins H b)(hp:s.heap.objs.size<=p)(new:cg X.prog X.w (upd H p o) h' p o):
  Inv X pins σ (upd H p o) { s with heap:=h',toks:=t' }:=by
 have C:H p=none:=I.hok.fresh hp;have aa:∀b u,H b=some u->b∉fp:= λ b u e z=>by rw[(hf b z).1]at e;cases e
 refine I.step (g':=s.gens) (d':=s.drawn) (ch:=fp) (λ b U=>?_) (λ b o _ _ J e _=>k b o J e) (λ b o _ _ J e _=>⟨o.slots,k b o J e⟩) (λ b o _ e n=>?_)
  (λ b o J e=>⟨o,k b o J e⟩) (λ b xs e=>by rw[aY (bC e C)];exact e) (λ b o u e=>by rw[aY (bC e C)];exact e) (λ b ps e=>⟨#[],by rw[aY (bC e C),e];simp⟩) (λ m hm=>?_) (λ b u e=>?_) I.bare;. obtain⟨_,f1,_,f3,f4,f5⟩:=hf b U;exact⟨f3,f1,f4,f5⟩
 .rw[aY λ z=>by subst z;exact Q8 _ (QJ (wN e) hp)];exact n
 .obtain⟨o',es,ep,ho,r⟩:=hm;exact⟨o',es,ep,k _ o' (λ z=>(hf _ z).2.1 rfl) ho,r⟩
 .by_cases U:b=p;. subst U;rw[bj]at e;cases e;exact new
  .rw[aY U]at e;refine(I.hok b u e).stay (λ c v J q=>k c v ?_ q) (λ c q=>by rw[aY (bC q C)];exact q) (λ c xs q=>by rw[aY (bC q C)];exact q) λ c ob v q=>by rw[aY (bC q C)];exact q
   grind
theorem _root_.L2.Inv.turnedL{fp:List Addr}(I:Inv X pins σ H s)(k:∀b o,b∉fp->s.heap.get? b=some o->h'.get? b=some o)(hf:∀b∈fp,dz X pins H b):Inv X pins σ H { s with heap:=h',toks:=t' }:=by
 have U:∀b u,H b=some u->b∉fp:= λ b u e z=>by rw[(hf b z).1]at e;cases e
 refine I.step (g':=s.gens) (d':=s.drawn) (ch:=fp) (λ b hb=>?_) (λ b o _ _ C e _=>k b o C e) (λ b o _ _ C e _=>⟨o.slots,k b o C e⟩) (λ _ _ _ _ n=>n)
  (λ b o C e=>⟨o,k b o C e⟩) (λ _ _ e=>e) (λ _ _ _ e=>e) (λ b ps e=>⟨#[],by rw[e];simp⟩) (λ m hm=>?_) (λ b u e=>?_) I.bare;. obtain⟨_,f1,_,f3,f4,f5⟩:=hf b hb;grind
 .obtain⟨J,es,ep,ho,r⟩:=hm;exact⟨J,es,ep,k _ J (λ z=>(hf _ z).2.1 rfl) ho,r⟩
 .refine(I.hok b u e).stay (λ c v C q=>k c v ?_ q) (λ _ q=>q) λ _ _ q=>q;grind
noncomputable def Sq(b:Bool)(K:PySem.W.Frag)(H:Hp)(q:Addr)(xs:List V):Prop:=match b with
 |true=>i0 K H q xs
 |false=>iK K H q xs
theorem _root_.L2.Inv.sq(I:Inv X pins σ H s)(h:Sq b X.K H q xs):∃its:List Value,Vals xs its/\vI b s.heap q its.toArray:=by cases b with
 |true=>obtain⟨its,r,p,_⟩:=I.tuple h;exact⟨its,r,p⟩
 |false=>obtain⟨its,r,p,_⟩:=I.list h;exact⟨its,r,p.isList⟩
theorem _root_.L2.Inv.sq_inj(I:Inv X pins σ H s)(h:Sq b X.K H q xs)(h':Sq b X.K H q ys):xs=ys:=by cases b with
 |true=>exact I.tuple_inj h h'
 |false=>exact I.list_inj h h'
noncomputable def OG(K:PySem.W.Frag)(b:Bool)(l:Addr):It:=
 ⟨λ i H=>∃xs x,Sq b K H l xs/\xs[i]?=some x,
   λ i H x H'=>∃p v,x= .ref p/\H p=none/\H'=upd H p (.tup [.int i,v])/\∀xs,Sq b K H l xs->xs[i]?=some v,
   λ i H=>∃xs,Sq b K H l xs/\xs.length<=i⟩
noncomputable def Et(b:Bool)(e it l:Addr)(k:Nat)(h:Heap):Prop:=(∃old,IsEnum h e it k old)/\vO b h it l k
theorem DM{s:Shared}{es:List Expr}{C}{pos:Pos}{e it T:Addr}{i:Int}{v:Value}{Q:Unit->Shared->Prop}(he:IsEnumOut s.heap e it i v T)
  (I:∀h',(∃old,IsEnum h' e it i old)->Heap.SameBut e s.heap h'->Q () { s with heap:=h' }):wpAny (model prog w) A (letOwnedTupleGo (.Tuple es C pos) (.ref e) (.ref T)) Q E s:=by
 refine zN (wpAny_load he ?_);dsimp only;split;. exact ZG he (by simp) λ h' o J=>I h' ⟨v,o⟩ J
 grind
theorem xM(b:Bool){e it l:Addr}(aa:e≠it)(ae:l≠e)(af:l≠it):Turn P w K (.Tuple es x1 pt) (OG K b l) [e,it] e (Et b e it l) where
 mem:=by simp
 obj:= λ i h st c hc=>by
  obtain⟨⟨old,s1⟩,s2⟩:=st;simp only[uS,XD,or_false]at hc;rcases hc with q|q <;> subst q
  .exact⟨_,s1,λ v q=>by cases q⟩
  .cases b with
   |true=>obtain⟨o,e,_,d⟩:=s2;exact⟨o,e,λ v z=>by rw[d]at z;cases z⟩
   |false=>obtain⟨o,e,_,d⟩:=s2;exact⟨o,e,λ v z=>by rw[d]at z;cases z⟩
 keep:= λ i h h' st k=>by obtain⟨⟨old,s1⟩,s2⟩:=st;exact⟨⟨old,k e (by simp) _ s1⟩,s2.at (k it (by simp))⟩
 item:=by
  intro X hP hw hK hc i pins s σ H E I hf st hg;subst hP hw hK;obtain⟨xs,x,C,hx⟩:=hg;obtain⟨ag,r1,p1⟩:=I.sq C;obtain⟨u1,e1,ah⟩:=r1.get hx;obtain⟨s1,s2⟩:=st;refine xE aa ae af ⟨s1,s2,p1⟩ (by simpa using e1) λ h' t1 t2 t3 hp kp=>?_;have ab:e<s.heap.objs.size:=by obtain⟨_,s1⟩:=s1;exact wN s1
  refine⟨.ref s.heap.objs.size,rfl,DM (s:={ s with heap:=h',toks:=s.toks+1 }) t1 λ h2 z2 sb=>?_⟩;have U:IsPair h2 s.heap.objs.size (.int i s.toks) u1:=sb.extBut _ _ (VG ab) hp;refine⟨.ref s.heap.objs.size,upd H s.heap.objs.size (.tup [.int i,x]),I.turnedN (t':=s.toks+1) (fp:=[e,it]) (λ c o J q=>sb.extBut _ _ (λ z=>J (by rw[z];simp)) (kp c o (λ z=>J (by rw[z];simp)) (λ z=>J (by rw[z];simp)) q)) hf (wF _) ⟨by show 2<=_;decide,[.int i s.toks,u1],.cons ⟨_,rfl⟩ (.cons ah .nil),⟨_,U,rfl,_,rfl⟩,_,U,rfl⟩,rfl,
   ⟨_,x,rfl,I.fresh,rfl,λ zs hz=>by rw[I.sq_inj hz C];exact hx⟩,⟨by obtain⟨old,z2⟩:=z2;exact⟨old,by simpa using z2⟩,t2.at λ o q=>sb.extBut _ _ aa.symm q⟩,λ c J=>?_⟩;have ai:=(hf c J).1;rw[aY λ q=>?_];. exact ai
  .have:c<s.heap.objs.size:=by
    simp only[uS,XD,or_false]at J;rcases J with e|e <;> subst e
    .exact ab
    .exact s2.lt
   rw[q]at this;exact Q8 _ this
 done:=by intro X hP hw hK hc i pins s σ H E I hf st hg;subst hP hw hK;obtain⟨xs,C,hx⟩:=hg;obtain⟨ag,r1,p1⟩:=I.sq C;obtain⟨s1,s2⟩:=st;have l1:=r1.length;exact zE (I.ok.hd hc) ⟨s1,s2,p1⟩ (by simp;omega) λ h' kp=>⟨rfl,I.turnedL (t':=s.toks) (fp:=[e,it]) (λ c o J q=>kp c o (λ z=>J (by rw[z];simp)) q) hf⟩
 self:= λ A i s Q E st h=>by obtain⟨⟨old,s1⟩,_⟩:=st;exact wpAny_pyIter_enum s1 h
end
section
variable {X:Cx} {a b c0 e:Expr} {fa fb fc:M D} {fs:M (List D)} {pos p p2 pt:Pos} {es:List Expr} {x:Str} {x1:Nat}
noncomputable def tU:D->Option (Bool × List D)
 | .tup ds=>some (true,ds)
 | .lst ds=>some (false,ds)
 | _=>none
theorem wM {c:Ct} {δ:DS} {σ:St} {H:Hp} {K:PySem.W.Frag} {d:D} {v:V} {b:Bool} {xs:List D} (r:R (fv c δ σ H) d v) (e:tU d=some (b,xs)):∃p vs,v=.ref p∧Sq b K H p vs∧Rs (fv c δ σ H) xs vs:= by
 cases d with
 | tup ds=>
  cases e
  obtain ⟨p,vs,ev,h1,h2⟩:=r.tup
  exact ⟨p,vs,ev,.of (bB _ _ h1),h2⟩
 | lst ds=>
  cases e
  obtain ⟨p,vs,ev,h1,h2⟩:=r.lst
  exact ⟨p,vs,ev,.inl (Rd.mono bB h1),h2⟩
 | _=>cases e
noncomputable def iU:Nat->List D->List D
 | _,[]=>[]
 | n,x :: xs=>.tup [.int n,x] :: iU (n + 1) xs
theorem qG:∀{xs:List D} {n i:Nat} {d:D},(iU n xs)[i]? = some d->∃x,xs[i]? = some x∧d=.tup [.int ((n + i:Nat):Int),x]
 | x :: xs,n,0,d,h=>by cases h;exact ⟨x,rfl,rfl⟩
 | x :: xs,n,i + 1,d,h=>by
  obtain ⟨x',h1,h2⟩:=qG (xs:=xs) (n:=n + 1) (i:=i) (by simpa [iU] using h)
  exact ⟨x',by simpa using h1,by rw [h2];congr 4;omega⟩
 | [],n,i,d,h=>by simp [iU] at h
theorem rF:∀(xs:List D) (n:Nat),(iU n xs).length=xs.length
 | [],_=>rfl
 | x :: xs,n=>by simp [iU,rF xs]
theorem EB {ta:TA} (hg:Gl X "enumerate") (hm:X.mg "enumerate" = none) (ha:PA X [a] ta) (hs:starEach [a] X.env=[(false,eval a X.env)]:=by rfl) :
  PI X (.Tuple es x1 pt) (.Call (.Name "enumerate" p) [a] [] pos) (fun σ H R=>ta σ H fun vs H1=>∃b1 l1 xs,vs=[.ref l1]∧Sq b1 X.K H1 l1 xs∧R (OG X.K b1 l1) H1):= by
 intro pins s σ H R I h
 refine PyProof.Rows.Call_ (gj I hg hm (show bootBuiltins "enumerate" = some (.type "enumerate") by decide +kernel) (ZY (cf (ha pos pins s σ H _ I h) fun us s1 ⟨vs,H1,I1,r1,q1⟩=>?_) hs rfl))
 obtain ⟨b1,l1,xs,e,h1,q⟩:=q1
 subst e
 obtain ⟨u1,rfl,ru1⟩:=r1.one
 cases ru1
 obtain ⟨i1s,rv1,p1⟩:=I1.sq h1
 refine zx p1 fun h' e it n1 n2 n3 st kp f1 f2=>?_
 have I2:Inv X pins σ H1 { s1 with heap:=h' }:=I1.kept (t':=s1.toks) kp
 obtain ⟨⟨old,t1⟩,t2,_⟩:=st
 refine wpAny_pyIter_enum (s:={ s1 with heap:=h' }) t1 ⟨e,[e,it],_,_,H1,rfl,I2,xM b1 n1 n2 n3,⟨⟨old,t1⟩,t2⟩,fun c hc=>?_,q⟩
 have hc':s1.heap.objs.size ≤ c:= by
  simp only [uS,XD,or_false] at hc
  rcases hc with z | z <;> rw [z] <;> assumption
 exact I1.fpOk hc' (I1.hok.fresh hc')
noncomputable def jG:List D->Option iW
 | [x]=>match tU x with
  | some (_,xs)=>some (bz (iU 0 xs))
  | _=>none
 | _=>none
theorem Gs {K:PySem.W.Frag} {b1:Bool} {dx:D} {xs:List D} {l1:Addr} (e1:tU dx=some (b1,xs)):JK (OG K b1 l1) (bz (iU 0 xs)) [dx] [.ref l1]:=fun c δ S σ T H i s=>by
 obtain ⟨p1,vs,q1,h1,r1⟩:=wM (K:=K) s.st.head e1
 cases q1
 refine ⟨fun act d ha hd=>?_,fun ei _=>⟨vs,h1,?_⟩⟩
 .obtain ⟨x,g1,rfl⟩:=qG (eL ha hd)
  obtain ⟨v,gv,rv⟩:=r1.get g1
  refine ⟨⟨vs,v,h1,gv⟩,fun z H' yl=>?_⟩
  obtain ⟨q,v',rfl,hq,rfl,y1⟩:=yl
  have ev:=y1 vs h1
  rw [gv] at ev;cases ev
  rw [XQ]
  exact (s.stk (.cons .mkI (.cons rv s.st))).newTup (ds:=[.int i,x]) (vs:=[.int i,v]) rfl hq
 .rw [r1.length]
  have:(bz (iU 0 xs)).1.length=xs.length:=by simp [bz,rF]
  omega
theorem kg (hm:X.mg "enumerate" = none) (ha:DA X [a] fs) (hg:Gl X "enumerate":=by rfl) (hs:starEach [a] X.env=[(false,eval a X.env)]:=by rfl) :
  DI X (.Tuple es x1 pt) (.Call (.Name "enumerate" p) [a] [] pos) (mC jG fs):=q_ (EB hg hm ha hs) fun σ H Rr ⟨c,δ,S,T,it,δ',s,e,k⟩=>by
 obtain ⟨ds,δ1,e1,e⟩:=bind_some e
 obtain ⟨e2,rfl⟩:=bc e
 refine ⟨c,δ,S,T,ds,δ1,s,e1,fun vs H1 l s1=>?_⟩
 unfold jG at e2
 split at e2
 .rename_i dx
  split at e2
  .rename_i b1 xs q1
   cases e2
   obtain ⟨v,rfl,r1⟩:=x9 (s1.st.left l)
   obtain ⟨p1,vs,rfl,h1,_⟩:=wM (K:=X.K) r1 q1
   exact ⟨b1,p1,vs,rfl,h1,k _ [dx] [.ref p1] H1 rfl (Gs q1) s1⟩
  .cases e2
 .cases e2
noncomputable def b8 (T:Ty) (d:D):Bool:=(n8 T d).getD false
theorem xk (T:Ty) (d:D):n8 T d=some (b8 T d):=by cases T <;> cases d <;> rfl
noncomputable def Lr (r1 r2:D->D->Option D) (fa fb fc:M D):M D:=do
 let x <- fa
 let y <- fb
 let z <- lift (r1 x y)
 match z with
 | .bl true=>do
  let w <- fc
  lift (r2 y w)
 | .bl false=>pure (.bl false)
 | _=>lift none
theorem Bu {op op':CmpOp} {g g':Int->Int->V} {h h':Int->Int->D} (ho:iu X (compareOp op) (C3 g)) (ho':iu X (compareOp op') (C3 g')) (hg:∀H i j,R H (h i j) (g i j)) (hg':∀H i j,R H (h' i j) (g' i j)) (ha:DE X a fa) (hb:DE X b fb) (hc:DE X c0 fc)
  (hm:lastMarks [op,op'] [b,c0]=false:=by with_unfolding_all rfl):DE X (.Compare a [op,op'] [b,c0] pos) (Lr (c9 (fun _ _=>true) h) (c9 (fun _ _=>true) h') fa fb fc):=cC (zZ ho ho' ha hb hc hm) fun σ H Q ⟨c,δ,S,T,d,δ',s,e,k⟩=>by
 obtain ⟨x,δ1,e1,e⟩:=bind_some e
 obtain ⟨y,δ2,e2,e⟩:=bind_some e
 obtain ⟨z,δ3,e3,e⟩:=bind_some e
 obtain ⟨e4,rfl⟩:=bc e3
 obtain ⟨i,j,rfl,rfl,_,rfl⟩:=fX e4
 refine ⟨c,δ,S,T,.int i,δ1,s,e1,fun v H1 s1=>⟨c,δ1,.int i :: S,v :: T,.int j,δ2,s1,e2,fun u H2 s2=>?_⟩⟩
 refine ⟨i,j,s2.st.tail.head.int,s2.st.head.int,?_⟩
 have rg:=hg (fv c δ2 σ H2) i j
 cases hz:h i j with
 | bl q=>
  rw [hz] at e rg
  refine ⟨q,rg.bl,?_⟩
  cases q with
  | true=>
   obtain ⟨w,δ4,e5,e⟩:=bind_some e
   obtain ⟨e6,rfl⟩:=bc e
   rw [gL rfl]
   obtain ⟨i',j',ei,rfl,_,rfl⟩:=fX e6
   cases ei
   exact ⟨c,δ2,.int j :: .int i :: S,u :: v :: T,.int j',δ4,s2,e5,fun w' H4 s4=>⟨j,j',s4.st.tail.head.int,s4.st.head.int,k _ _ (s4.stk (.cons (hg' _ _ _) s4.st.tail.tail.tail))⟩⟩
  | false=>
   obtain ⟨rfl,rfl⟩:=aW e
   rw [QC fN]
   exact k _ _ (s2.stk (.cons .mkB s2.st.tail.tail))
 | _=>rw [hz] at e;cases e
theorem Eu (ha:DE X a fa) (hb:DE X b fb) (hc:DE X c0 fc) (hm:lastMarks [.LtE,.Lt] [b,c0]=false:=by with_unfolding_all rfl):DE X (.Compare a [.LtE,.Lt] [b,c0] pos) (Lr N_ JB fa fb fc):=Bu Mz G4 (fun _ _ _=>.mkB) (fun _ _ _=>.mkB) ha hb hc hm
noncomputable def qU:D->Bool
 | .non=>true
 | _=>false
theorem pV {H:Hp} {d:D} {v:V} (r:R H d v):decide (v=.non)=qU d:= by
 cases d with
 | non=>rw [r.non];rfl
 | bl b=>rw [r.bl];rfl
 | int b=>rw [r.int];rfl
 | str b=>rw [r.str];rfl
 | tup b=>obtain ⟨_,_,rfl,_⟩:=r.tup;rfl
 | lst b=>obtain ⟨_,_,rfl,_⟩:=r.lst;rfl
 | dct=>obtain ⟨_,rfl,_⟩:=r.dct;rfl
 | dic _=>obtain ⟨_,rfl,_⟩:=r.dic;rfl
 | dip _=>obtain ⟨_,rfl,_⟩:=r.dip;rfl
noncomputable def lB (neg:Bool):D->D->Option D
 | x,.non=>some (.bl (if neg then !qU x else qU x))
 | _,_=>none
theorem uY:md (fun x y H Q=>y=.non∧Q (.bl (decide (x=.non))) H) (lB false):=fun c δ S σ T H x y v u d Q s e k=>by
 cases y with
 | non=>
  cases e
  refine ⟨s.st.head.non,?_⟩
  rw [pV s.st.tail.head]
  exact k _ _ (s.stk (.cons .mkB s.st.tail.tail))
 | _=>cases e
theorem r6:md (fun x y H Q=>y=.non∧Q (.bl (!decide (x=.non))) H) (lB true):=fun c δ S σ T H x y v u d Q s e k=>by
 cases y with
 | non=>
  cases e
  refine ⟨s.st.head.non,?_⟩
  rw [pV s.st.tail.head]
  exact k _ _ (s.stk (.cons .mkB s.st.tail.tail))
 | _=>cases e
theorem o5 (ha:DE X a fa) (hb:DE X b fb):DE X (.Compare a [.Is] [b] pos) (m2 (lB false) fa fb):=iY yK uY ha hb
theorem vj (ha:DE X a fa) (hb:DE X b fb):DE X (.Compare a [.IsNot] [b] pos) (m2 (lB true) fa fb):=iY u7 r6 ha hb
theorem H_ (ha:DE X a fa) (hb:DE X b fb):DT X (.Compare a [.Is] [b] pos) (m2 (lB false) fa fb >>= lP):=fZ yK uY ha hb
theorem vz (ha:DE X a fa) (hb:DE X b fb):DT X (.Compare a [.IsNot] [b] pos) (m2 (lB true) fa fb >>= lP):=fZ u7 r6 ha hb
noncomputable def FO (tt:M Bool) (body:M Fl):Nat->M Fl
 | 0=>lift none
 | n + 1=>do
  let b <- tt
  if b=true then do
   let fl <- body
   match fl with
   | .nx=>FO tt body n
   | .ct=>FO tt body n
   | .bk=>pure .nx
   | .rt d=>pure (.rt d)
   | .rf d=>pure (.rf d)
  else pure .nx
theorem p5 {t:Expr} {sts:List Stmt} {tt:M Bool} {body:M Fl} (n:Nat) (ht:DT X t tt) (hb:l9 X sts body) (hp:PassesOwn (model X.prog X.w) X.A X.env X.xe:=by exact PassesOwn.never):mr X (.While t sts [] pos) (FO tt body n) :=
 i8 (BU hp ht hb) fun E σ0 H0 ⟨c,δ0,S,T,fl,δ',s0,e0,k⟩=>by
  refine ⟨fun m σ H=>∃δ,Sl c δ S σ T H∧FO tt body m δ=some (fl,δ'),⟨n,δ0,s0,e0⟩,?_⟩
  rintro m σ H ⟨δ,s,e⟩
  cases m with
  | zero=>cases e
  | succ m=>
   obtain ⟨b,δ1,e1,e⟩:=bind_some e
   refine ⟨c,δ,S,T,b,δ1,s,e1,fun H1 s1=>?_⟩
   cases b with
   | false=>
    rw [QC fN] at e ⊢
    obtain ⟨rfl,rfl⟩:=aW e
    exact k _ _ s1
   | true=>
    rw [gL rfl] at e ⊢
    obtain ⟨fl1,δ2,e2,e⟩:=bind_some e
    refine ⟨fun σ' H'=>∃δi,Sl c δi S σ' T H' ∧ FO tt body m δi=some (fl,δ'),fun σ' H' q=>⟨m,VR m,q⟩,c,δ1,S,T,fl1,δ2,s1,e2,?_⟩
    cases fl1 with
    | nx=>exact fun σ' H' s'=>⟨δ2,s',e⟩
    | ct=>exact fun σ' H' s'=>⟨δ2,s',e⟩
    | bk=>obtain ⟨rfl,rfl⟩:=aW e;exact k
    | rt d'=>obtain ⟨rfl,rfl⟩:=aW e;exact k
    | rf xs=>obtain ⟨rfl,rfl⟩:=aW e;exact k
inductive Pe (f:M (Option Int)) (σ:St) (H:Hp) (Q:Option Int->Hp->Prop):Prop
 | mk (c:Ct) (δ:DS) (S:List D) (T:List V) (o:Option Int) (δ':DS) (s:Sl c δ S σ T H) (e:f δ=some (o,δ')) (q:∀H',Sl c δ' S σ T H' -> Q o H'):Pe f σ H Q
noncomputable abbrev DO (X:Cx) (e:Option Expr) (f:M (Option Int)):Prop:=PO X e (Pe f)
theorem KI {e:Option Expr} {t t':TO} (h:PO X e t) (w:∀σ H Q,t' σ H Q->t σ H Q):PO X e t':=fun pins s σ H Q I q=>h pins s σ H Q I (w σ H Q q)
theorem ig:DO X none (pure none):=KI FE fun σ H Q ⟨c,δ,S,T,o,δ',s,e,k⟩=>by
 obtain ⟨rfl,rfl⟩:=aW e
 exact k _ s
noncomputable def Nj:D->M (Option Int)
 | .int i=>pure (some i)
 | _=>lift none
theorem g_ (h:DE X e fa):DO X (some e) (fa >>= Nj):=KI (En h) fun σ H Q ⟨c,δ,S,T,o,δ',s,e,k⟩=>by
 obtain ⟨d,δ1,e1,e⟩:=bind_some e
 refine ⟨c,δ,S,T,d,δ1,s,e1,fun v H' s'=>?_⟩
 cases d with
 | int i=>
  obtain ⟨rfl,rfl⟩:=aW e
  exact ⟨i,s'.st.head.int,k _ s'.pop⟩
 | _=>cases e
noncomputable def OX (K:PySem.W.Frag):V->Option Int->Option Int->Hp->VK->Prop:=fun x lo hi H Q=>∃a xs,x=.ref a∧i0 K H a xs∧(HT.sIx xs.length 0 lo=0∧HT.sIx xs.length xs.length hi=xs.length)∧Q (.ref a) H
theorem zQ:GU X (OX X.K):= by
 intro pins s σ H x v vl vu lo hi sl Q I rx hs pl pu h
 obtain ⟨a,xs,rfl,hx,hw,q⟩:=h
 cases rx
 obtain ⟨its,r,ht,hz⟩:=I.tuple hx
 have hlen:its.toArray.size=xs.length:=by rw [gA];exact r.length.symm
 refine ⟨"tuple",_,PyProof.Rows.slot_tuple_getitem.lookup,ht.typeIs,?_⟩
 exact rX ht hs pl pu (by rw [hlen];exact hw) ⟨.ref a,H,I,rfl,q⟩
noncomputable def GC (x:D) (lo hi:Option Int):Option D:=match x with
 | .tup xs=>some (.tup (cutD xs lo hi))
 | .lst xs=>some (.lst (cutD xs lo hi))
 | _=>none
noncomputable def Nx (fa:M D) (fl fh:M (Option Int)):M D:=do
 let x <- fa
 let lo <- fl
 let hi <- fh
 lift (GC x lo hi)
theorem xQ {α:Type} (xs:List α) (lo hi:Option Int) (h1:HT.sIx xs.length 0 lo=0) (h2:HT.sIx xs.length xs.length hi=xs.length):(xs.drop (HT.sIx xs.length 0 lo)).take (HT.sIx xs.length xs.length hi - HT.sIx xs.length 0 lo)=xs:= by
 rw [h1,h2];simp
theorem fV {lo hi:Option Expr} {fl fh:M (Option Int)} (he:DE X e fa) (hl:DO X lo fl) (hh:DO X hi fh):DE X (.Subscript e (.Slice lo hi none p2) pos) (Nx fa fl fh):=cC (z5 ((IJ.or zQ).or D2) he hl hh) fun σ H Q ⟨c,δ,S,T,d,δ',s,e,k⟩=>by
 obtain ⟨x,δ1,e1,e⟩:=bind_some e
 obtain ⟨l,δ2,e2,e⟩:=bind_some e
 obtain ⟨h,δ3,e3,e⟩:=bind_some e
 obtain ⟨e4,rfl⟩:=bc e
 refine ⟨c,δ,S,T,x,δ1,s,e1,fun v H1 s1=>⟨c,δ1,x :: S,v :: T,l,δ2,s1,e2,fun H2 s2=>⟨c,δ2,x :: S,v :: T,h,δ3,s2,e3,fun H3 s3=>?_⟩⟩⟩
 cases x with
 | tup xs=>
  cases e4
  obtain ⟨q,vs,rfl,h1,h2⟩:=s3.st.head.tup
  by_cases hw:HT.sIx vs.length 0 l=0∧HT.sIx vs.length vs.length h=vs.length
  .refine .inl (.inr ⟨q,vs,rfl,.of (bB _ _ h1),hw,k _ _ ?_⟩)
   rw [h2.length] at hw
   rw [show cutD xs l h=xs from xQ xs l h hw.1 hw.2]
   exact s3
  .refine .inl (.inl ⟨q,vs,rfl,.of (bB _ _ h1),hw,fun m hm=>k _ _ ?_⟩)
   have rc:=Bl h2 l h
   exact (s3.stk (rc.append s3.st.tail)).newTup rc.length hm
 | lst xs=>
  cases e4
  obtain ⟨q,vs,rfl,h1,h2⟩:=s3.st.head.lst
  refine .inr ⟨q,vs,rfl,.inl (Rd.mono bB h1),fun m hm=>k _ _ ?_⟩
  have rc:=Bl h2 l h
  have s4:=s3.stk (rc.append s3.st.tail)
  obtain ⟨f1,f2,f3⟩:=s4.fresh hm
  exact (s4.hide (o:=.lst (oY vs l h)) hm).unhideL rc.length f1
 | _=>cases e4
end
section
variable {X:Cx} {b e:Expr} {pos p:Pos} {x:Str}
theorem xT(i:Nat){px:Pos}(hm:X.mg "tuple"=none)(C:Gl X "tuple":=by rfl)(I:X.N[i]?=some x:=by rfl)(J:uw X.env.scope x:=by first|exact Or.inl rfl|exact Or.inr (Or.inl rfl)|exact Or.inr (Or.inr rfl))(hd:(x==("__debug__":Str))=false:=by decide)(o:(x==("__classdict__":Str))=false:=by decide):
  DE X (.Call (.Name "tuple" p) [.Name x px] [] pos) (do let xs<- dv i;pure (.tup xs)):=cC (fS iB C hm (by decide+kernel) (cX (eU I J hd o) d8) (by decide) (by decide) rfl rfl) λ σ H Q ⟨c,δ,S,T,fl,U,s,e,k⟩=>by obtain⟨xs,aa,e1,e⟩:=bind_some e;obtain⟨rfl,rfl⟩:=aW e;obtain⟨⟨b,hi⟩,rfl⟩:=b7 e1;obtain⟨q,vs,ev,hq,hx⟩:=s.own hi;exact⟨_,ev,q,vs,rfl,.inl ⟨.of hq,λ m hm=>k _ _ ((s.stk (hx.append s.st)).newTup hx.length hm)⟩⟩
end
noncomputable abbrev bF{α:Type}(n:Nat)(mf:List D->Option α):List D->Option α:= λ ds=>if ds.length=n then mf ds else none
section
variable {P:Program} {w:World} {K:PySem.W.Frag} {mg:Str->Option Value} {base:Heap} {f:Addr} {fd:FuncData} {ps:List Str} {k n:Nat}
theorem Gv:dG P w K mg base dQ k f fd ps (mE n λ _=>none):=by
 have no:∀vs H Q E,¬mE n (λ _=>none) vs H Q E:= λ vs H Q E h=>by obtain⟨_,_,_,_,_,_,e,_⟩:=h;cases e
 exact⟨λ vs H Q E h=>absurd h (no vs H Q E),λ A outer s H args us vs Q E _ _ _ _ h=>absurd h (no vs H Q E)⟩
noncomputable def zr(K:PySem.W.Frag):Bool:=K.all λ p=> !(p.2.cls==Value.type "list")
theorem rd_of(J:zr K=true)(h:iK K H a xs):Rd H a (.lst xs):=by
 rcases h with h|⟨o,its,n,C,hc,_⟩
 .exact h
 .have hm:∃p∈K,p.2=o:=by clear J;induction K with
   |nil=>cases C
   |cons q r U=>
    rw[List.lookup_cons]at C;split at C;. cases C;exact⟨q,xS,rfl⟩
    .obtain⟨p,I,e⟩:=U C;exact⟨p,wV _ I,e⟩
  obtain⟨p,I,e⟩:=hm;have:=QT.mp J p I;simp_all
end
noncomputable def Ok{α:Type}(m:M α)(C:DS)(Q:α->DS->Prop):Prop:=∃a o,m C=some (a,o)/\Q a o
theorem Ok.mono(h:Ok m C Q)(k:∀a o,Q a o->I a o):Ok m C I:=let⟨a,o,e,q⟩:=h;⟨a,o,e,k a o q⟩
section
variable {α:Type} {δ:DS} {Q:α->DS->Prop}
@[simp ↓]theorem bf:Ok (m >>= f) δ Q ↔ Ok m δ fun a δ'=>Ok (f a) δ' Q:= by
 constructor
 .rintro ⟨a,δ',e,q⟩
  obtain ⟨b,δ1,e1,e2⟩:=bind_some e
  exact ⟨b,δ1,e1,a,δ',e2,q⟩
 .rintro ⟨b,δ1,e1,a,δ',e2,q⟩
  exact ⟨a,δ',by rw [M.bind_def,e1];exact e2,q⟩
@[simp ↓]theorem bg:Ok (pure a) δ Q↔Q a δ:=by
 constructor;. rintro⟨b,o,e,q⟩;obtain⟨rfl,rfl⟩:=aW e;exact q
 .exact λ q=>⟨a,δ,rfl,q⟩
@[simp ↓]theorem gc:Ok (lift (some a)) δ Q↔Q a δ:=by
 constructor;. rintro⟨b,o,e,q⟩;obtain⟨C,rfl⟩:=bc e;simp_all
 .exact λ q=>⟨a,δ,rfl,q⟩
@[simp ↓]theorem Di:Ok (lift none) δ Q↔False:=⟨λ⟨_,_,e,_⟩=>(by cases e),False.elim⟩
theorem dk(h:o=some a)(q:Q a δ):Ok (lift o) δ Q:=by simp_all
@[simp ↓]theorem NJ [Decidable c]:Ok (if c then m else n) δ Q ↔ (if c then Ok m δ Q else Ok n δ Q):=by grind
end
section
variable {δ:DS}
@[simp ↓]theorem cY:Ok (bZ i) δ Q↔ ∃d,δ[i]?=some (.pu d)/\Q d δ:=by
 constructor;. rintro⟨d,o,e,q⟩;obtain⟨C,rfl⟩:=jz e;grind
 .rintro⟨d,e,q⟩;exact⟨d,δ,by unfold bZ;rw[e],q⟩
@[simp ↓ high]theorem Nt{d:D}{r:DS}{Q:D->DS->Prop}:Ok (bZ 0) (.pu d::r) Q↔Q d (.pu d::r):=(⟨λ ⟨_,_,e,q⟩=>by cases e;exact q,λ q=>⟨_,_,rfl,q⟩⟩)
@[simp ↓ high]theorem Ni{a0:Jt.Slot}{d:D}{r:DS}{Q:D->DS->Prop}:Ok (bZ 1) (a0::.pu d::r) Q↔Q d (a0::.pu d::r):=(⟨λ ⟨_,_,e,q⟩=>by cases e;exact q,λ q=>⟨_,_,rfl,q⟩⟩)
@[simp ↓ high]theorem Ny{a0 a1:Jt.Slot}{d:D}{r:DS}{Q:D->DS->Prop}:Ok (bZ 2) (a0::a1::.pu d::r) Q↔Q d (a0::a1::.pu d::r):=(⟨λ ⟨_,_,e,q⟩=>by cases e;exact q,λ q=>⟨_,_,rfl,q⟩⟩)
@[simp ↓ high]theorem M8{a0 a1 a2:Jt.Slot}{d:D}{r:DS}{Q:D->DS->Prop}:Ok (bZ 3) (a0::a1::a2::.pu d::r) Q↔Q d (a0::a1::a2::.pu d::r):=(⟨λ ⟨_,_,e,q⟩=>by cases e;exact q,λ q=>⟨_,_,rfl,q⟩⟩)
@[simp ↓ high]theorem Ng{a0 a1 a2 a3:Jt.Slot}{d:D}{r:DS}{Q:D->DS->Prop}:Ok (bZ 4) (a0::a1::a2::a3::.pu d::r) Q↔Q d (a0::a1::a2::a3::.pu d::r):=(⟨λ ⟨_,_,e,q⟩=>by cases e;exact q,λ q=>⟨_,_,rfl,q⟩⟩)
@[simp ↓ high]theorem Nr{a0 a1 a2 a3 a4:Jt.Slot}{d:D}{r:DS}{Q:D->DS->Prop}:Ok (bZ 5) (a0::a1::a2::a3::a4::.pu d::r) Q↔Q d (a0::a1::a2::a3::a4::.pu d::r):=(⟨λ ⟨_,_,e,q⟩=>by cases e;exact q,λ q=>⟨_,_,rfl,q⟩⟩)
@[simp ↓ high]theorem MZ{a0 a1 a2 a3 a4 a5:Jt.Slot}{d:D}{r:DS}{Q:D->DS->Prop}:Ok (bZ 6) (a0::a1::a2::a3::a4::a5::.pu d::r) Q↔Q d (a0::a1::a2::a3::a4::a5::.pu d::r):=(⟨λ ⟨_,_,e,q⟩=>by cases e;exact q,λ q=>⟨_,_,rfl,q⟩⟩)
@[simp ↓ high]theorem M9{a0 a1 a2 a3 a4 a5 a6:Jt.Slot}{d:D}{r:DS}{Q:D->DS->Prop}:Ok (bZ 7) (a0::a1::a2::a3::a4::a5::a6::.pu d::r) Q↔Q d (a0::a1::a2::a3::a4::a5::a6::.pu d::r):=(⟨λ ⟨_,_,e,q⟩=>by cases e;exact q,λ q=>⟨_,_,rfl,q⟩⟩)
@[simp ↓ high]theorem Nc{a0 a1 a2 a3 a4 a5 a6 a7:Jt.Slot}{d:D}{r:DS}{Q:D->DS->Prop}:Ok (bZ 8) (a0::a1::a2::a3::a4::a5::a6::a7::.pu d::r) Q↔Q d (a0::a1::a2::a3::a4::a5::a6::a7::.pu d::r):=(⟨λ ⟨_,_,e,q⟩=>by cases e;exact q,λ q=>⟨_,_,rfl,q⟩⟩)
@[simp ↓ high]theorem L_{a0 a1 a2 a3 a4 a5 a6 a7 a8 a9:Jt.Slot}{d:D}{r:DS}{Q:D->DS->Prop}:Ok (bZ 10) (a0::a1::a2::a3::a4::a5::a6::a7::a8::a9::.pu d::r) Q↔Q d (a0::a1::a2::a3::a4::a5::a6::a7::a8::a9::.pu d::r):=(⟨λ ⟨_,_,e,q⟩=>by cases e;exact q,λ q=>⟨_,_,rfl,q⟩⟩)
@[simp ↓]theorem cx:Ok (ji i d) δ Q↔i<δ.length/\Q () (δ.set i (.pu d)):=by
 constructor;. rintro⟨u,o,e,q⟩;obtain⟨h,rfl⟩:=eN e;simp_all
 .rintro⟨h,q⟩;exact⟨(),_,by unfold ji;rw[gL h],q⟩
@[simp ↓]theorem Nq:Ok (Av i d) δ Q↔i<δ.length/\Q () (δ.set i (.ow false d)):=by
 constructor;. rintro⟨u,o,e,q⟩;obtain⟨h,rfl⟩:=mZ e;simp_all
 .rintro⟨h,q⟩;exact⟨(),_,by unfold Av;rw[gL h],q⟩
@[simp ↓]theorem fM:Ok (dv i) δ Q↔ ∃b xs,δ[i]?=some (.ow b xs)/\Q xs δ:=by
 constructor;. rintro⟨d,o,e,q⟩;obtain⟨⟨b,C⟩,rfl⟩:=b7 e;grind
 .rintro⟨b,d,e,q⟩;exact⟨d,δ,by unfold dv;rw[e],q⟩
@[simp ↓]theorem r_:Ok (setOw i xs) δ Q↔ ∃b ys,δ[i]?=some (.ow b ys)/\Q () (δ.set i (.ow b xs)):=by
 constructor;. rintro⟨u,o,e,q⟩;obtain⟨b,ys,h,rfl⟩:=gi e;grind
 .rintro⟨b,ys,h,q⟩;exact⟨(),_,by unfold setOw;rw[h],q⟩
@[simp ↓]theorem BL:Ok (nF i) δ Q↔ ∃xs,δ[i]?=some (.ow false xs)/\Q xs (δ.set i .un):=by
 constructor;. rintro⟨d,o,e,q⟩;unfold nF at e;grind
 .rintro⟨d,e,q⟩;exact⟨d,_,by unfold nF;rw[e],q⟩
@[simp ↓]theorem dt:Ok (q5 i C) δ Q↔Ok C δ λ d o=>i<o.length/\Q .nx (o.set i (.pu d)):=by unfold q5;simp
@[simp ↓]theorem Jk:Ok (KC i C) δ Q↔Ok C δ λ d o=>i<o.length/\Q .nx (o.set i (.ow false d)):=by unfold KC;simp
@[simp ↓]theorem cy:Ok (dU f g) δ Q↔Ok f δ λ C o=>match C with
  | .nx=>Ok g o Q
  |C=>Q C o:=by
 unfold dU;rw[bf];constructor <;>
 .intro h;refine h.mono λ C o q=>?_;cases C <;> simpa using q
theorem b4(P:DS->Prop)(h:Ok f δ λ C o=>C= .nx/\P o)(k:∀o,P o->Ok g o Q):Ok (dU f g) δ Q:=by rw[cy];refine h.mono λ C o ⟨e,p⟩=>?_;grind
theorem dq{Q:Fl->DS->Prop}(b:Bool)(U:Ok t δ λ C o=>C=b/\o=δ)(h1:b=true->Ok J δ λ I o=>∃d,I= .rt d/\Q (.rt d) o)(h2:b=false->Ok g δ Q):Ok (dU (wH t J (pure .nx)) g) δ Q:=by rw[cy];unfold wH;rw[bf];refine U.mono λ C o ⟨e1,e2⟩=>?_;subst e1 e2;cases C with
 |true=>refine Ok.mono (m:=J) (h1 rfl) λ I aa ⟨d,e,q⟩=>?_;simp_all
 |false=>exact(bg (Q:= λ I o=>_)).mpr (h2 rfl)
theorem qY{Q:α->DS->Prop}(P:Bool->DS->Prop)(C:Ok t δ P)(U:∀o,P true o->Ok I o Q)(h2:∀o,P false o->Ok J o Q):Ok (wH t I J) δ Q:=by unfold wH;rw[bf];refine C.mono λ b o p=>?_;grind
@[simp ↓]theorem Cb{Q:α->DS->Prop}:Ok (wH t C I) δ Q↔Ok t δ λ b o=>if b=true then Ok C o Q else Ok I o Q:=by unfold wH;simp
@[simp ↓]theorem w8:Ok (uJ ta tb) δ Q↔Ok ta δ λ b o=>if b=true then Ok tb o Q else Q false o:=by unfold uJ;simp
@[simp ↓]theorem Jm:Ok (NC ta tb) δ Q↔Ok ta δ λ b o=>if b=true then Q true o else Ok tb o Q:=by unfold NC;simp
@[simp ↓]theorem Dt:Ok (Gd ta) δ Q↔Ok ta δ λ b o=>Q (!b) o:=by unfold Gd;simp
@[simp ↓]theorem iH:Ok (m2 f I J) δ Q↔Ok I δ λ x o=>Ok J o λ y C=>Ok (lift (f x y)) C Q:=by unfold m2;simp
@[simp ↓]theorem eR:Ok (mC f fs) δ Q↔Ok fs δ λ ds o=>Ok (lift (f ds)) o Q:=by unfold mC;simp
@[simp ↓]theorem Au:Ok (mQ f fs) δ Q↔Ok fs δ λ ds o=>Ok (lift (f ds)) o Q:=by unfold mQ;simp
@[simp ↓]theorem b6:Ok (du I fs) δ Q↔Ok I δ λ x o=>Ok fs o λ xs C=>Q (x::xs) C:=by unfold du;simp
@[simp ↓]theorem i5:Ok (xo fs) δ Q↔Ok fs δ λ xs o=>Ok (lift (few xs.length)) o λ _ C=>Q (.tup xs) C:=by unfold xo;simp
@[simp ↓]theorem uX:Ok (AE fs) δ Q↔Ok fs δ λ xs o=>Ok (lift (few xs.length)) o λ _ C=>Q xs C:=by unfold AE;simp
@[simp ↓]theorem eS:Ok (lift (few n)) δ Q↔n<=100000/\Q () δ:=by
 unfold few;split;. simp_all
 .rename_i h;rw[Di];exact⟨False.elim,λ q=>h q.1⟩
@[simp ↓]theorem ur:Ok (lP d) δ Q↔ ∃b,d= .bl b/\Q b δ:=by
 constructor;. rintro⟨b,o,e,q⟩;obtain⟨C,rfl⟩:=k7 e;grind
 .rintro⟨b,rfl,q⟩;exact⟨b,δ,rfl,q⟩
@[simp ↓]theorem HY:Ok (Nj d) δ Q↔ ∃i,d= .int i/\Q (some i) δ:=by cases d <;> simp[Nj]
@[simp ↓]theorem nZ:Ok (F3 i C) δ Q↔(∃b xs,δ[i]?=some (.ow b xs))/\Ok C δ λ y o=>∃b xs,o[i]?=some (.ow b xs)/\Ok (lift (j9 (.lst xs) y)) o Q:=by unfold F3;simp
@[simp ↓]theorem rb:Ok (qq i) δ Q↔ ∃b xs,δ[i]?=some (.ow b xs)/\Q (.int xs.length) δ:=by unfold qq;simp
@[simp ↓]theorem Kx:Ok (uh i I k) δ Q↔Ok I δ λ d o=>∃b xs,o[i]?=some (.ow b xs)/\Ok (lift (rH xs.length k)) o λ j C=>∃b ys,C[i]?=some (.ow b ys)/\Q .nx (C.set i (.ow b (xs.set j d))):=by unfold uh;simp
theorem eY(h0:∃b xs,δ[i]?=some (.ow b xs))(h:Ok fs δ λ ds o=>∃d b xs,ds=[d]/\o[i]?=some (.ow b xs)/\xs.length<=100000/\Q .nx (o.set i (.ow b (xs++[d])))):Ok (jv i fs) δ Q:=by unfold jv;obtain⟨b,xs,e⟩:=h0;simp only[bf,fM];refine⟨b,xs,e,h.mono λ ds o q=>?_⟩;obtain⟨d,C,ys,rfl,I,J,q⟩:=q;simp only[bf,fM,eS,r_,bg];grind
theorem oM(h0:∃b xs,δ[i]?=some (.ow b xs))(h:Ok fs δ λ ds o=>∃(j:Nat) (b:Bool) (xs:List D) (d:D),ds=[.int j]/\o[i]?=some (.ow b xs)/\j<100000/\xs[j]?=some d/\Q d (o.set i (.ow b (xs.eraseIdx j)))):Ok (Gk i fs) δ Q:=by
 unfold Gk;obtain⟨b,xs,e⟩:=h0;simp only[bf,fM];refine⟨b,xs,e,h.mono λ ds o q=>?_⟩;obtain⟨j,C,ys,d,rfl,I,U,J,q⟩:=q;simp only[bf,fM,r_,bg];refine⟨C,ys,I,dk (a:=d) ?_ ⟨C,ys,I,?_⟩⟩;. rw[gL (by omega)];exact J
 .exact q
@[simp ↓]theorem vX:Ok (Eb C I) δ Q↔Ok C δ λ x o=>match x with
  | .bl true=>Ok I o Q
  | .bl false=>Q (.bl false) o
  |_=>False:=by
 unfold Eb;rw[bf];constructor <;>
 .intro h;refine h.mono λ x o q=>?_;cases x with
  |bl b=>cases b <;> simpa using q
  |_=>simp_all
@[simp ↓]theorem BK:Ok (M4 C I) δ Q↔Ok C δ λ x o=>match x with
  | .bl true=>Q (.bl true) o
  | .bl false=>Ok I o Q
  |_=>False:=by
 unfold M4;rw[bf];constructor <;>
 .intro h;refine h.mono λ x o q=>?_;cases x with
  |bl b=>cases b <;> simpa using q
  |_=>simp_all
@[simp ↓]theorem Nd:Ok (JY C) δ Q↔Ok C δ λ x o=>match x with
  | .bl b=>Q (.bl (!b)) o
  |_=>False:=by
 unfold JY;rw[bf];constructor <;>
 .intro h;refine h.mono λ x o q=>?_;cases x <;> simpa using q
@[simp ↓]theorem FJ:Ok (Gn T C) δ Q↔Ok C δ λ d o=>Q (.bl (b8 T d)) o:=by unfold Gn;simp[xk]
@[simp ↓]theorem Ob:Ok (N8 I J) δ Q↔Ok I δ λ v C=>Ok (lift (c_ v)) C λ t o=>if t=true then Q v o else Ok J o Q:=by unfold N8;simp
@[simp ↓]theorem Jl:Ok (Nx J U fh) δ Q↔Ok J δ λ x o=>Ok U o λ l C=>Ok fh C λ h I=>Ok (lift (GC x l h)) I Q:=by unfold Nx;simp
@[simp ↓]theorem JS:Ok (Fx g U fb) δ Q↔Ok U δ λ h1 o=>Ok fb o λ h2 C=>Ok (pH h1) C λ x I=>Ok (pH h2) I λ y J=>Ok (lift (g x y)) J Q:=by unfold Fx;simp
@[simp ↓]theorem Ig:Ok (pH (.th x)) δ Q↔Q x δ:=by
 constructor;. rintro⟨b,o,e,q⟩;cases e;exact q
 .exact λ q=>⟨x,δ,rfl,q⟩
@[simp ↓]theorem Kp:Ok (pH (.ls i)) δ Q↔ ∃b xs,δ[i]?=some (.ow b xs)/\Q (.lst xs) δ:=by
 constructor;. rintro⟨d,o,e,q⟩;unfold pH at e;grind
 .rintro⟨b,xs,h,q⟩;exact⟨_,δ,by unfold pH;dsimp only;rw[h],q⟩
@[simp ↓]theorem F6:Ok (AH i) δ Q↔ ∃b xs,δ[i]?=some (.ow b xs)/\Q (.ls i) δ:=by unfold AH;simp
@[simp ↓]theorem xW:Ok (oX J fs) δ Q↔Ok J δ λ h o=>Ok fs o λ xs C=>Ok (pH h) C λ x I=>Q (x::xs) I:=by unfold oX;simp
@[simp ↓]theorem vp:Ok (oH i n mf fs) δ Q↔Ok fs δ λ ds o=>∃b xs,o[i]?=some (.ow b xs)/\ds.length+1=n/\∃r,mf xs ds=some r/\Q r.1 (o.set i (.ow b r.2)):=by
 constructor
 .rintro⟨d,aa,e,q⟩;unfold oH at e;split at e;. cases e
  .rename_i ds o I;split at e
   .rename_i b xs J;split at e
    .rename_i U;split at e;. cases e
     .rename_i d' C e3;cases e;exact⟨ds,o,I,b,xs,J,U,(d,C),e3,q⟩
    .cases e
   grind
 .rintro⟨ds,o,e,b,xs,I,U,⟨d,C⟩,J,q⟩;exact⟨d,_,by unfold oH;rw[e];dsimp only;rw[I];dsimp only;rw[gL U,J],q⟩
@[simp ↓]theorem dI:Ok (gS gt tt te d) δ Q↔Ok (gt d) δ λ _ C=>Ok tt C λ b o=>if b=true then Ok te o λ x I=>Q (some x) I else Q none o:=by unfold gS;simp
@[simp ↓]theorem jd:Ok (iC n g (.tup ds)) δ Q↔(if ds.length=n then Ok (g ds) δ Q else False):=by show Ok (if ds.length=n then g ds else lift none) δ Q↔_;simp
@[simp ↓]theorem fU:Ok (f9 f g (d::ds)) δ Q↔Ok (f d) δ λ _ o=>Ok (g ds) o Q:=by show Ok (f d >>=λ _=>g ds) δ Q↔_;simp
@[simp ↓]theorem gH:Ok (jY []) δ Q↔Q () δ:=by show Ok (pure ()) δ Q↔_;simp
end
section
variable {δ:DS}
theorem bu{α:Type}{lo own:Nat}{J:M iW}{turn:D->M (Option D)}{Q:List D->DS->Prop}(as:List α)(e:α->D)(g:α->Option D)(hl:δ.length=lo)(hi:Ok J δ λ it C=>it=bz (as.map e)/\C=δ)(hn:as.length<=100000)
  (ht:∀a∈as,Ok (turn (e a)) (δ++List.replicate own .un) λ o I=>o=g a/\I.take lo=δ)(hQ:Q (as.filterMap g) δ):Ok (gG lo own J turn) δ Q:=by
 have gen:∀es:List α,(∀d∈es,d∈as)->eP own turn (λ _=>true) (bz (es.map e)).1 δ=some (es.filterMap g,δ):=by intro es;induction es with
  |nil=>intro _;rfl
  |cons d es ih=>intro hs;obtain⟨o,I,U,e0,e2⟩:=ht d (hs d xS);show eP own turn (λ _=>true) ((λ _=>some (e d))::(bz (es.map e)).1) δ=_;unfold eP;grind
 unfold gG;simp only[bf];refine⟨(),δ,by unfold gB;rw[gL hl],hi.mono λ it C ⟨U,e2⟩=>?_⟩;subst U e2;exact eS.mpr ⟨by simpa[bz]using hn,as.filterMap g,C,gen as λ _ h=>h,hQ⟩
theorem bJ{α β:Type}(p:α->Bool)(f:α->β)(as:List α):(as.filterMap λ a=>if p a=true then some (f a)else none)=(as.filter p).map f:=by induction as with
 |nil=>rfl
 |cons a r o=>grind
theorem ft{fi:M iW}{turn:D->M (Option D)}{Q:List D->DS->Prop}(ds:List D)(I:Nat->List D->DS->Prop)(hl:δ.length=lo)(hi:Ok fi δ λ it C=>it=bz ds/\C=δ)(hn:ds.length<=100000)(h0:I 0 [] δ)
  (ht:∀k(hk:k<ds.length) acc δ,acc.length<=k->δ.length=lo->I k acc δ->Ok (turn ds[k]) (δ++List.replicate own .un) λ o J=>(J.take lo).length=lo/\I (k+1) (acc++o.toList) (J.take lo))(hQ:∀xs C,xs.length<=ds.length->C.length=lo->I ds.length xs C->Q xs C):Ok (gG lo own fi turn) δ Q:=by
 have gen:∀(n k:Nat)(acc:List D)(δ:DS),ds.length-k=n->k<=ds.length->acc.length<=k->δ.length=lo->I k acc δ->∃xs C,eP own turn (λ _=>true) (bz (ds.drop k)).1 δ=some (xs,C)/\C.length=lo/\I ds.length (acc++xs) C/\(acc++xs).length<=ds.length:=by intro n;induction n with
  |zero=>
   intro k acc δ hk aa h0 h1 h2;have:k=ds.length:=by omega
   subst this;rw[ZU];exact⟨[],δ,rfl,h1,by simpa using h2,by simpa using h0⟩
  |succ n ih=>
   intro k acc δ hk aa h0 h1 h2;have U:k<ds.length:=by omega
   rw[QG U];obtain⟨o,J,e,q1,q2⟩:=ht k U acc δ h0 h1 h2;have ho:o.toList.length<=1:=by cases o <;> simp
   obtain⟨xs,C,e',r1,r2,r3⟩:=ih (k+1) (acc++o.toList) (J.take lo) (by omega) U (by rw[fR];omega) q1 q2;refine⟨o.toList++xs,C,?_,r1,by simpa using r2,by simpa using r3⟩;show eP own turn (λ _=>true) ((λ _=>some ds[k])::(bz (ds.drop (k+1))).1) δ=_;unfold eP;dsimp only;rw[e];dsimp only;rw[h1,e']
 unfold gG;simp only[bf];refine⟨(),δ,by unfold gB;rw[gL hl],hi.mono λ it C ⟨e1,e2⟩=>?_⟩;subst e1 e2;obtain⟨xs,J,e,r1,r2,r3⟩:=gen ds.length 0 [] C (by omega) (QV _) (wF _) hl h0;exact eS.mpr ⟨by simpa[bz]using hn,xs,J,e,hQ xs J (by simpa using r3) r1 (by simpa using r2)⟩
theorem tL{i n k:Nat}{b:Bool}{xs:List D}(h:k<(df i n).1.length)(hx:δ[i]?=some (.ow b xs))(o:xs.length=n):(df i n).1[k] δ=xs[k]?:=by have e:=List.getElem_map (λ j (δ:DS)=>(match δ[i]? with|some (.ow _ xs)=>if xs.length=n then xs[j]? else none|_=>none:Option D)) (l:=List.range n) (i:=k) (h:=by simpa[df]using h);refine Eq.trans (congrFun e δ) ?_;grind
theorem zy{α:Type}{lo own i:Nat}{b:Bool}{fi:M iW}{turn:D->M (Option D)}{Q:List D->DS->Prop}(as:List α)(e:α->D)(g:α->Option D)(hl:δ.length=lo)(hx:δ[i]?=some (.ow b (as.map e)))(hi:Ok fi δ λ it J=>it=df i as.length/\J=δ)(hn:as.length<=100000)
  (ht:∀a∈as,Ok (turn (e a)) (δ++List.replicate own .un) λ o U=>o=g a/\U.take lo=δ)(hQ:Q (as.filterMap g) δ):Ok (gG lo own fi turn) δ Q:=by
 have gen:∀(n k:Nat),as.length-k=n->k<=as.length->eP own turn (df i as.length).2 ((df i as.length).1.drop k) δ=some ((as.drop k).filterMap g,δ):=by intro n;induction n with
  |zero=>
   intro k hk aa;have:k=as.length:=by omega
   subst this;rw[ZU,List.drop_eq_nil_of_le (by simp[df])];have ef:(df i as.length).2 δ=true:=by simp[df,hx]
   unfold eP;rw[gL ef];rfl
  |succ n ih=>
   intro k hk aa;have C:k<as.length:=by omega
   have I:k<(df i as.length).1.length:=by simpa[df]using C
   rw[QG C,QG I];obtain⟨o,U,e1,e0,e2⟩:=ht as[k] (QH C);unfold eP;have ea:(df i as.length).1[k] δ=some (e as[k]):=by rw[tL I hx (by simp)];simp[C]
   rw[ea];dsimp only;rw[e1];dsimp only;rw[hl,e2,ih (k+1) (by omega) C,YK,<- e0];cases o <;> rfl
 unfold gG;simp only[bf];refine⟨(),δ,by unfold gB;rw[gL hl],hi.mono λ it J ⟨e1,e2⟩=>?_⟩;subst e1 e2;refine eS.mpr ⟨by simpa[df]using hn,as.filterMap g,J,?_,hQ⟩;have:=gen as.length 0 (by omega) (QV _);simp_all
noncomputable def K1(gt:D->M Unit)(body:M Fl)(its:List (DS->Option D))(o:Fl):M Fl:=match o with
 | .nx=>forM gt body (λ _=>true) its
 | .ct=>forM gt body (λ _=>true) its
 | .bk=>pure .nx
 | .rt d=>pure (.rt d)
 | .rf d=>pure (.rf d)
theorem yw(gt:D->M Unit)(body:M Fl)(its:List (DS->Option D)){d:D}{δ o C:DS}{u:Unit}{I:Fl}(J:gt d δ=some (u,o))(U:body o=some (I,C)):forM gt body (λ _=>true) ((λ _=>some d)::its) δ=K1 gt body its I C:=by rw[forM];dsimp only;rw[M.bind_def,J];dsimp only;rw[M.bind_def,U];rfl
theorem uk(ds:List D)(I:Nat->DS->Prop)(h0:I 0 δ)
  (ht:∀k(hk:k<ds.length) δ,I k δ->Ok (gt ds[k]) δ λ _ U=>Ok body U λ fl o=>match fl with
   | .nx=>I (k+1) o
   | .ct=>I (k+1) o
   | .bk=>Q .nx o
   | .rt d=>Q (.rt d) o
   | .rf d=>Q (.rf d) o)(hQ:∀δ,I ds.length δ->Q .nx δ):Ok (forM gt body (bz ds).2 (bz ds).1) δ Q:=by
 have gen:∀(n k:Nat)(δ:DS),ds.length-k=n->k<=ds.length->I k δ->Ok (forM gt body (λ _=>true) (bz (ds.drop k)).1) δ Q:=by intro n;induction n with
  |zero=>
   intro k δ hk aa h;have:k=ds.length:=by omega
   subst this;rw[ZU];exact⟨.nx,δ,rfl,hQ δ h⟩
  |succ n ih=>
   intro k δ hk aa h;have C:k<ds.length:=by omega
   rw[QG C];have ab:=ht k C δ h;obtain⟨u,U,e1,fl,o,e2,q⟩:=ab;have st:forM gt body (λ _=>true) (bz (ds[k]::ds.drop (k+1))).1 δ=K1 gt body (bz (ds.drop (k+1))).1 fl o:=yw gt body _ e1 e2;cases fl with
   |nx=>obtain⟨a,J,e,q'⟩:=ih (k+1) o (by omega) C q;exact⟨a,J,st.trans e,q'⟩
   |ct=>obtain⟨a,J,e,q'⟩:=ih (k+1) o (by omega) C q;exact⟨a,J,st.trans e,q'⟩
   |bk=>exact⟨.nx,o,st,q⟩
   |rt d=>exact⟨.rt d,o,st,q⟩
   |rf d=>exact⟨.rf d,o,st,q⟩
 have:=gen ds.length 0 δ (by omega) (QV _) h0;rwa [XT]at this
theorem nT(ds:List D)(I:Nat->DS->Prop)(U:Ok fi δ λ it C=>it=bz ds/\C=δ)(h0:I 0 δ)
  (ht:∀k(hk:k<ds.length) δ,I k δ->Ok (gt ds[k]) δ λ _ J=>Ok body J λ fl o=>match fl with
   | .nx=>I (k+1) o
   | .ct=>I (k+1) o
   | .bk=>Q .nx o
   | .rt d=>Q (.rt d) o
   | .rf d=>Q (.rf d) o)(hQ:∀δ,I ds.length δ->Q .nx δ):Ok (do let it<- fi;Jt.forM gt body it.2 it.1) δ Q:=by rw[bf];refine U.mono λ it C ⟨e1,e2⟩=>?_;subst e1 e2;exact uk ds I h0 ht hQ
end
theorem bx{body:M Fl}{ds:List D}{d:D}(h:Ok body (entry N ds) λ o _=>o= .rt d):bP N body ds=some d:=by obtain⟨o,C,e,rfl⟩:=h;unfold bP;rw[e]
theorem kh{body:M Fl}{ds:List D}{d:List D}(h:Ok body (entry N ds) λ o _=>o= .rf d):ip N body ds=some d:=by obtain⟨o,C,e,rfl⟩:=h;unfold ip;rw[e]
theorem kb{body:M Fl}{xs ds:List D}{Q:D->List D->Prop}(h:Ok body (dP N xs ds) λ C δ=>∃d o,C= .rt d/\δ[0]?=some (.ow true o)/\Q d o):∃d o,jq N body xs ds=some (d,o)/\Q d o:=by obtain⟨C,I,e,d,o,rfl,J,q⟩:=h;unfold jq;grind
theorem FG{body:M Fl}{ds:List D}{Q:D->Prop}(h:Ok body (entry N ds) λ o _=>∃d,o= .rt d/\Q d):∃d,bP N body ds=some d/\Q d:=by obtain⟨o,C,e,d,rfl,q⟩:=h;exact⟨d,by unfold bP;rw[e],q⟩
theorem Eh{body:M Fl}{ds:List D}{Q:List D->Prop}(h:Ok body (entry N ds) λ o _=>∃d,o= .rf d/\Q d):∃d,ip N body ds=some d/\Q d:=by obtain⟨o,C,e,d,rfl,q⟩:=h;exact⟨d,by unfold ip;rw[e],q⟩
end Jt
namespace Jt
open PySem L2 PySem.Spec PyProof.Rows
noncomputable def M3{α:Type}(g:Nat->Nat->Bool):PySem.W.KasT α->α
 | .ret a=>a
 | .ask i j k=>M3 g (k (g i j))
section
theorem nD:∀{vs:List V}{us:List Value},Vals vs us->∀i:Nat,RelV (vs.getD i V.non) (us.getD i Value.none)
 |_,_,.nil,i=>by rfl
 |_,_,.cons r _,0=>by grind
 |_,_,.cons _ h,i+1=>by simpa using nD h i
theorem qd(h:∀i,RelV (f i) (g i)):∀l:List Nat,Vals (l.map f) (l.map g)
 |[]=> .nil
 |i::l=> .cons (h i) (qd h l)
end
end Jt
namespace Jt
open PySem L2
section
variable {X:Cx}
noncomputable def never{α:Type}:M α:= λ _=>none
theorem i_:mr X st never:= λ pins s σ H E I h=>by obtain⟨c,C,S,T,J,o,s,e,k⟩:=h;cases e
end
noncomputable def Hl(c:Ct)(o:DS)(σ:L2.St)(L:List Addr)(a:Addr):Prop:=Hd c o σ a/\a∉L
theorem J6(s:Sl c o S σ T H)(h:Hl c o σ L a)(e:H a=some (.tup xs)):False:=by have:=cN.mp (s.seeT e);exact this.1 h.1
noncomputable def ox:D->Bool
 | .tup xs=>xs.all λ d=>(flat d).isSome
 |d=>(flat d).isSome
theorem k6{H H':Hp}(h:(flat d).isSome=true)(r:R H d v):R H' d v:=by cases d with
 |non=>rw[r.non];rfl
 |bl b=>rw[r.bl];rfl
 |int b=>rw[r.int];rfl
 |str b=>rw[r.str];rfl
 |tup _=>cases h
 |lst _=>cases h
 |dct=>cases h
 |dic _=>cases h
 |dip _=>cases h
theorem v_:∀{ds:List D}{vs:List V},(ds.all λ d=>(flat d).isSome)=true->Rs H ds vs->Rs H' ds vs
 |[],vs,_,r=>by rw[r.inv0];rfl
 |d::ds,vs,h,r=>by obtain⟨v,q,ev,o,C⟩:=r.inv;subst ev;simp only[WR,QI]at h;exact .cons (k6 h.1 o) (v_ h.2 C)
theorem yy(m:∀a vs,H a=some (.tup vs)->H' a=some (.tup vs)){d:D}{v:V}(h:ox d=true)(r:R H d v):R H' d v:=by cases d with
 |tup xs=>obtain⟨a,vs,ev,o,C⟩:=r.tup;subst ev;exact .mkT (m a vs o) (v_ h C)
 |non=>exact k6 h r
 |bl b=>exact k6 h r
 |int b=>exact k6 h r
 |str b=>exact k6 h r
 |lst _=>cases h
 |dct=>cases h
 |dic _=>cases h
 |dip _=>cases h
section
open Classical in
end
section
variable {X:Cx} {a:Expr} {fa:M D} {pos:Pos}
noncomputable def rO:D->Option D
 | .int i=>some (.int (-i))
 |_=>none
noncomputable def m1(f:D->Option D)(fa:M D):M D:=do
 let x<- fa
 lift (f x)
theorem tP(I:DE X a fa):DE X (.UnaryOp .USub a pos) (m1 rO fa):=cC (Gw Cg I) λ σ H Q ⟨c,J,S,T,d,U,s,e,k⟩=>by obtain⟨x,o,e1,e⟩:=bind_some e;obtain⟨C,rfl⟩:=bc e;refine⟨c,J,S,T,x,o,s,e1,λ v H' s'=>?_⟩;cases x with
 |int i=>cases C;exact⟨i,s'.st.head.int,k _ _ (s'.pop.stk (.cons .mkI s'.pop.st))⟩
 |_=>cases C
end
section
variable {δ:DS}
@[simp ↓]theorem L6:Ok (m1 f C) δ Q↔Ok C δ λ x o=>Ok (lift (f x)) o Q:=by unfold m1;simp
@[simp ↓]theorem Jq:Ok (Lr U r2 fa fb fc) δ Q↔Ok fa δ λ x C=>Ok fb C λ y I=>Ok (lift (U x y)) I λ z o=>match z with
  | .bl true=>Ok fc o λ w J=>Ok (lift (r2 y w)) J Q
  | .bl false=>Q (.bl false) o
  |_=>False:=by
 unfold Lr;simp;constructor <;>
 .intro h;refine h.mono λ x C h=>h.mono λ y I h=>h.mono λ z o h=>?_;cases z with
  |bl b=>cases b <;> simpa using h
  |_=>simp_all
theorem u9(I:Nat->DS->Prop)(h:∀k δ,I k δ->Ok tt δ λ b o=>(b=true->∃j,k=j+1/\Ok body o λ U C=>U= .nx/\I j C)/\(b=false->Q .nx o)):
  ∀(f n:Nat)(δ:DS),n<f->I n δ->Ok (FO tt body f) δ Q
 |0,n,δ,hf,_=>by omega
 |f+1,n,δ,hf,hI=>by unfold FO;rw[bf];refine(h n δ hI).mono λ b o hb=>?_;cases b with
  |false=>simp_all
  |true=>obtain⟨j,rfl,hj⟩:=hb.1 rfl;show Ok (body >>= _) o Q;rw[bf];refine hj.mono λ U C ⟨e,J⟩=>?_;subst e;exact u9 I h f j C (by omega) J
end
end Jt
namespace Jt
open PySem L2 PySem.Spec PyProof.Rows
section
variable {prog:Program} {w:World} {A:Around} {E:Value->Shared->Prop} {s:Shared}
theorem Ar {ws:List Value} (ht:IsTup s.heap t #[]) (hb:IsTup s.heap b ws.toArray) (h:Q (.ref b) s):wpAny (model prog w) A (binaryOp .Add (.ref t) (.ref b)) Q E s:= by
 obtain ⟨⟨cls,dd,data,sl⟩,ho,hc,n,hd⟩:=id ht
 obtain ⟨⟨cls2,dd2,data2,sl2⟩,ho2,hc2,n2,hd2⟩:=id hb
 simp at hc hd hc2 hd2
 subst hc hd hc2 hd2
 exact concat_meets ⟨_,ho,rfl⟩ ⟨_,ho2,rfl⟩ YO WQ VJ VE (Z8 _ _) (tuple_addW0 t b #[] ws.toArray n n2 dd dd2 sl sl2 rfl) ⟨ho,ho2,h⟩
end
section
variable {X:Cx} {a b e:Expr} {fa fb:M D} {pos:Pos}
noncomputable def y6(K:PySem.W.Frag):R2:= λ x y H Q=>yL K x y H Q\/ ∃p q ys,x= .ref p/\y= .ref q/\i0 K H p []/\i0 K H q ys/\Q (.ref q) H
theorem El:iu X (binaryOp .Add) (y6 X.K):=by
 intro pins s σ H x y v u Q I o C h;rcases h with h|⟨p,q,ys,rfl,rfl,U,hq,k⟩
 .exact FF pins s σ H x y v u Q I o C h
 .cases o;cases C;obtain⟨its,r1,p1,_⟩:=I.tuple U;obtain⟨J,r2,p2,_⟩:=I.tuple hq;have e:its=[]:=r1.nil_iff.mpr rfl;subst e;exact Ar p1 p2 ⟨.ref q,H,I,rfl,k⟩
noncomputable def k4:D->D->Option D
 | .tup xs,.tup ys=>if xs.length+ys.length<=100000 then some (.tup (xs++ys))else none
 |_,_=>none
theorem qH{K:PySem.W.Frag}:md (y6 K) k4:= λ c C S σ T H x y v u d Q s e k=>by
 unfold k4 at e;split at e
 .rename_i xs ys;split at e;. rename_i I;cases e;cases xs with
   |cons x xs=>refine .inl (Cj c C S σ T H (.tup (x::xs)) (.tup ys) v u _ Q s ?_ k);show(if xs.length+1+ys.length<=100000 then _ else _)=_;rw[gL (by simpa using I)]
   |nil=>obtain⟨p,ws,rfl,o,J⟩:=s.st.tail.head.tup;obtain⟨q,zs,rfl,U,h5⟩:=s.st.head.tup;rw[J.inv0]at o;exact .inr ⟨p,q,zs,rfl,rfl,.of (bB _ _ o),.of (bB _ _ U),k _ _ (s.stk (.cons s.st.head s.st.tail.tail))⟩
  grind
 grind
theorem vU(o:DE X a fa)(C:DE X b fb):DE X (.BinOp a .Add b pos) (m2 k4 fa fb):=nu El qH o C
end
section
theorem rZ{α β:Type}{f g:α->Option β}:∀l:List α,(∀x∈l,f x=g x)->l.filterMap f=l.filterMap g
 |[],_=>rfl
 |a::r,h=>by rw[YK,YK,h a xS,rZ r λ x hx=>h x (wV _ hx)]
theorem zO(xs:Array Value):((List.range xs.size).filterMap λ(m:Nat)=>xs[((xs.size:Int) -1+m*(-1)).toNat]?).toArray=xs.toList.reverse.toArray:=by
 congr 1;have:∀m∈List.range xs.size,xs[((xs.size:Int) -1+m*(-1)).toNat]?=some (xs.toList.reverse.getD m Value.none):= λ m hm=>by
  have o:m<xs.size:=uL.mp hm;rw[show((xs.size:Int) -1+m*(-1)).toNat=xs.size-1-m by omega];have C:xs.size-1-m<xs.size:=by omega
  rw[QA,kW (by simpa using o)];simp
 have e:(List.range xs.size).filterMap (λ(m:Nat)=>xs[((xs.size:Int) -1+m*(-1)).toNat]?)=(List.range xs.size).filterMap λ m=>some (xs.toList.reverse.getD m Value.none):=rZ _ this;rw[e];refine List.ext_getElem (by simp) λ i C I=>?_;have:i<xs.size:=by simpa using C
 simp[this]
end
section
theorem z7(r:Vals vs us):Vals vs.reverse us.reverse:=by induction r with
 |nil=>exact .nil
 |cons h _ o=>rw[YE,YE];exact o.append (.cons h .nil)
theorem AX:∀{ds:List D}{vs:List V},Rs H ds vs->Rs H ds.reverse vs.reverse
 |[],vs,h=>by rw[h.inv0];rfl
 |d::ds,vs,h=>by obtain⟨v,r,ev,o,C⟩:=h.inv;subst ev;rw[YE,YE];exact(AX C).append (.cons o .nil)
end
theorem eG(neg:Bool)(a b:Int):fe neg (.int a) (.int b)=some (.bl (if neg then !decide (a=b)else decide (a=b))):=by show(if j8 (.int a) (.int b)=true then some (D.bl (if neg then !decide (V.int a=V.int b)else decide (V.int a=V.int b)))else none)=_;rw[gL (show j8 (.int a) (.int b)=true from rfl)];simp
theorem il(neg:Bool)(a b:Bool):fe neg (.bl a) (.bl b)=some (.bl (if neg then !decide (a=b)else decide (a=b))):=by show(if j8 (.bl a) (.bl b)=true then some (D.bl (if neg then !decide (V.bl a=V.bl b)else decide (V.bl a=V.bl b)))else none)=_;rw[gL (show j8 (.bl a) (.bl b)=true from rfl)];simp
theorem lU(neg:Bool)(a b:Int):l_ neg (.int a) (.int b)=some (.bl (if neg then !decide (a=b)else decide (a=b))):=eG neg a b
@[simp]theorem Dk:b8 .int .non=false:=rfl
@[simp]theorem GN(b:Bool):b8 .int (.bl b)=true:=rfl
@[simp]theorem Dq(i:Int):b8 .int (.int i)=true:=rfl
@[simp]theorem Dx(x:Str):b8 .int (.str x)=false:=rfl
@[simp]theorem Dr(xs:List D):b8 .int (.tup xs)=false:=rfl
@[simp]theorem FZ(xs:List D):b8 .int (.lst xs)=false:=rfl
@[simp]theorem D9:b8 .int .dct=false:=rfl
@[simp]theorem D5(k:List (Int×Int)):b8 .int (.dic k)=false:=rfl
@[simp]theorem D6(k:List ((Int×Int)×Int)):b8 .int (.dip k)=false:=rfl
@[simp]theorem C1:b8 .bool .non=false:=rfl
@[simp]theorem Fe(b:Bool):b8 .bool (.bl b)=true:=rfl
@[simp]theorem C5(i:Int):b8 .bool (.int i)=false:=rfl
@[simp]theorem C2(x:Str):b8 .bool (.str x)=false:=rfl
@[simp]theorem C9(xs:List D):b8 .bool (.tup xs)=false:=rfl
@[simp]theorem Dc(xs:List D):b8 .bool (.lst xs)=false:=rfl
@[simp]theorem C4:b8 .bool .dct=false:=rfl
@[simp]theorem C7(k:List (Int×Int)):b8 .bool (.dic k)=false:=rfl
@[simp]theorem C8(k:List ((Int×Int)×Int)):b8 .bool (.dip k)=false:=rfl
@[simp]theorem F5:b8 .tup .non=false:=rfl
@[simp]theorem GJ(b:Bool):b8 .tup (.bl b)=false:=rfl
@[simp]theorem EC(i:Int):b8 .tup (.int i)=false:=rfl
@[simp]theorem Fs(x:Str):b8 .tup (.str x)=false:=rfl
@[simp]theorem Dh(xs:List D):b8 .tup (.tup xs)=true:=rfl
@[simp]theorem Df(xs:List D):b8 .tup (.lst xs)=false:=rfl
@[simp]theorem EW:b8 .tup .dct=false:=rfl
@[simp]theorem Gf(k:List (Int×Int)):b8 .tup (.dic k)=false:=rfl
@[simp]theorem FH(k:List ((Int×Int)×Int)):b8 .tup (.dip k)=false:=rfl
@[simp]theorem Gi:b8 .lst .non=false:=rfl
@[simp]theorem GW(b:Bool):b8 .lst (.bl b)=false:=rfl
@[simp]theorem Ej(i:Int):b8 .lst (.int i)=false:=rfl
@[simp]theorem DU(x:Str):b8 .lst (.str x)=false:=rfl
@[simp]theorem EO(xs:List D):b8 .lst (.tup xs)=false:=rfl
@[simp]theorem Gp(xs:List D):b8 .lst (.lst xs)=true:=rfl
@[simp]theorem Ek:b8 .lst .dct=false:=rfl
@[simp]theorem D3(k:List (Int×Int)):b8 .lst (.dic k)=false:=rfl
@[simp]theorem EZ(k:List ((Int×Int)×Int)):b8 .lst (.dip k)=false:=rfl
@[simp]theorem D8:b8 .str .non=false:=rfl
@[simp]theorem GK(b:Bool):b8 .str (.bl b)=false:=rfl
@[simp]theorem Fv(i:Int):b8 .str (.int i)=false:=rfl
@[simp]theorem DJ(x:Str):b8 .str (.str x)=true:=rfl
@[simp]theorem Fc(xs:List D):b8 .str (.tup xs)=false:=rfl
@[simp]theorem De(xs:List D):b8 .str (.lst xs)=false:=rfl
@[simp]theorem F7:b8 .str .dct=false:=rfl
@[simp]theorem ET(k:List (Int×Int)):b8 .str (.dic k)=false:=rfl
@[simp]theorem Ef(k:List ((Int×Int)×Int)):b8 .str (.dip k)=false:=rfl
section
variable {prog:Program} {w:World} {A:Around} {E:Value->Shared->Prop} {s:Shared}
theorem jD:typeLookup (.type "tuple") (dunderI "add")=pure none:=by rfl
theorem fH{T id:String}{B:Builtin}{a b:Value}{S:PySem.Spec}{Q:Value->Shared->Prop}(J:s.TypeIs a T)(U:s.TypeIs b T)(I:typeLookup (.type T) (dunderI "add")=pure none)
  (o:fillsNumberSlot (.type T) "add"=pure false)(C:seqSlot? (.type T) "__add__"=pure (some (.builtin id)))(slot:PySem.Slot T "__add__" id)
  (entry:entryFor table id=some B)(args:argsOk id ⟨[a,b],[]⟩)(g:Meets (B ⟨[a,b],[]⟩) S)(h:S A (wants Q E) s):wpAny (model prog w) A (inplaceOp .Add a b) Q E s:=
 wpAny_inplaceOp_concat J U I o C (call_meets slot J entry args g h)
theorem rP{Q:Value->Shared->Prop}(ht:IsTup s.heap t vs.toArray)(hb:IsTup s.heap b ws.toArray)(h0:vs=[]->Q (.ref b) s)
  (h1:vs≠[]->ws=[]->Q (.ref t) s)(h2:vs≠[]->ws≠[]->Q (.ref s.heap.objs.size) { s with heap:=s.heap.push { cls:= .type "tuple",data:= .seq (vs++ws).toArray } })
  (hsz:vs.length+ws.length<=sizeLine):wpAny (model prog w) A (inplaceOp .Add (.ref t) (.ref b)) Q E s:=by
 obtain⟨⟨cls,dd,data,sl⟩,J,hc,n,hd⟩:=id ht;obtain⟨⟨aa,C,data2,I⟩,o,U,n2,hd2⟩:=id hb;simp at hc hd U hd2;subst hc hd U hd2;by_cases hv:vs=[]
 .exact fH ⟨_,J,rfl⟩ ⟨_,o,rfl⟩ jD YO WQ VJ VE (Z8 _ _)
   (tuple_addW0 t b vs.toArray ws.toArray n n2 dd C sl I (by simp[hv])) ⟨J,o,h0 hv⟩
 .by_cases hw:ws=[]
  .exact fH ⟨_,J,rfl⟩ ⟨_,o,rfl⟩ jD YO WQ VJ VE (Z8 _ _)
    (tuple_addW1 t b vs.toArray ws.toArray n n2 dd C sl I (by simpa using hv) (by simp[hw])) ⟨J,o,h1 hv hw⟩
  .refine fH ⟨_,J,rfl⟩ ⟨_,o,rfl⟩ jD YO WQ VJ VE (Z8 _ _)
    (tuple_addW2 t b vs.toArray ws.toArray n n2 dd C sl I (by simpa using hv) (by simpa using hw) (by omega)) ⟨J,o,?_⟩;grind
end
section
variable {X:Cx} {e:Expr} {fa:M D} {pos:Pos}
theorem HL:LG X .Add (y6 X.K):=by
 intro pins s σ H x y v u Q I rx ry h;rcases h with⟨a,b,xs,ys,rfl,rfl,ha,hb,aa,hsz,k⟩|⟨p,q,ys,rfl,rfl,hp,hq,k⟩
 .cases rx;cases ry;obtain⟨its,J,p1,_⟩:=I.tuple ha;obtain⟨U,C,p2,_⟩:=I.tuple hb;obtain⟨q1,q2⟩:=k;refine rP p1 p2 (λ z=>absurd (J.nil_iff.mp z) aa) (λ _ z=>⟨.ref a,H,I,rfl,q1 (C.nil_iff.mp z)⟩) (λ _ z=>?_) (by rw[<- J.length,<- C.length];exact hsz);refine⟨.ref s.heap.objs.size,_,I.laid (t':=s.toks) (o:= .tup (xs++ys)) (λ b ob q=>zS _ q) (wF _) ?_,rfl,q2 (λ w=>z (C.nil_iff.mpr w)) _ (I.hok.fresh (wF _))⟩;exact⟨by rw[fR];exact hsz,_,J.append C,rL.new _ _⟩
 .cases rx;cases ry;obtain⟨its,J,p1,_⟩:=I.tuple hp;obtain⟨U,C,p2,hz⟩:=I.tuple hq;have e:its=[]:=J.nil_iff.mpr rfl;subst e;exact rP p1 p2 (λ _=>⟨.ref q,H,I,rfl,k⟩) (λ h=>absurd rfl h) (λ h=>absurd rfl h) (by rw[<- C.length];simpa using hz)
theorem ED:LG X .Sub (Oz λ i j=>i-j):=by intro pins s σ H x y v u Q I o C h;obtain⟨i,j,J,U,q⟩:=h;subst J U;obtain⟨t,rfl⟩:=o;obtain⟨t',rfl⟩:=C;exact isub_int ⟨.int _,H,I.tok _,⟨_,rfl⟩,q⟩
theorem vt:md (Oz g) (c9 (λ _ _=>true) λ i j=> .int (g i j)):= λ c I S σ T H x y v u d Q s e k=>by obtain⟨i,j,rfl,rfl,J,rfl⟩:=fX e;have o:=s.st.head.int;have C:=s.st.tail.head.int;exact⟨i,j,C,o,k _ _ (s.stk (.cons .mkI s.st.tail.tail))⟩
theorem tW(i:Nat){op:Operator}{r:R2}{f:D->D->Option D}(ho:LG X op r)(hd:md r f){x:Str}{pos':Pos}(hN:X.N.Nodup)(he:DE X e fa)(hi:X.N[i]?=some x:=by rfl)(hx:Loc X.env.scope x:=by first|exact Or.inl rfl|exact Or.inr rfl)
  (hf:X.fn x=true\/X.env.scope.names.lookup x=some .local:=by first | exact .inl rfl | exact .inr rfl | assumption):mr X (.AugAssign (.Name x pos') op e pos) (q5 i (m2 f (bZ i) fa)):=i8 (Il hN hi hx he ho hf) λ E σ H ⟨c,δ,S,T,fl,aa,s,e,k⟩=>by obtain⟨d,ab,o,e⟩:=bind_some e;obtain⟨u,ae,e2,e⟩:=bind_some e;obtain⟨rfl,rfl⟩:=aW e;obtain⟨C,rfl⟩:=eN e2;obtain⟨U,af,ea,o⟩:=bind_some o;obtain⟨y,I,eb,o⟩:=bind_some o;obtain⟨e3,rfl⟩:=bc o;obtain⟨J,rfl⟩:=jz ea;obtain⟨v,ev,rv⟩:=s.pu i U J;exact⟨v,ev,c,δ,U::S,v::T,y,I,s.stk (.cons rv s.st),eb,λ u H2 s2=>hd _ _ _ _ _ _ _ _ _ _ _ _ s2 e3 λ z H' s'=>k _ _ (s'.setPu C)⟩
theorem E_(i:Nat){x:Str}{pos':Pos}(o:X.N.Nodup)(he:DE X e fa)(C:X.N[i]?=some x:=by rfl)(hx:Loc X.env.scope x:=by first | exact Or.inl rfl | exact Or.inr rfl)
  (hf:X.fn x=true\/X.env.scope.names.lookup x=some .local:=by first | exact .inl rfl | exact .inr rfl | assumption):mr X (.AugAssign (.Name x pos') .Add e pos) (q5 i (m2 k4 (bZ i) fa)):=tW i HL qH o he C hx hf
theorem EA(i:Nat){x:Str}{pos':Pos}(o:X.N.Nodup)(he:DE X e fa)(C:X.N[i]?=some x:=by rfl)(hx:Loc X.env.scope x:=by first | exact Or.inl rfl | exact Or.inr rfl)
  (hf:X.fn x=true\/X.env.scope.names.lookup x=some .local:=by first | exact .inl rfl | exact .inr rfl | assumption):mr X (.AugAssign (.Name x pos') .Add e pos) (q5 i (m2 jA (bZ i) fa)):=tW i Kc vt o he C hx hf
theorem Gb(i:Nat){x:Str}{pos':Pos}(o:X.N.Nodup)(he:DE X e fa)(C:X.N[i]?=some x:=by rfl)(hx:Loc X.env.scope x:=by first | exact Or.inl rfl | exact Or.inr rfl)
  (hf:X.fn x=true\/X.env.scope.names.lookup x=some .local:=by first | exact .inl rfl | exact .inr rfl | assumption):mr X (.AugAssign (.Name x pos') .Sub e pos) (q5 i (m2 yz (bZ i) fa)):=tW i ED vt o he C hx hf
end
end Jt
namespace Jt
open PySem L2
open PyProof.Rows (AllBare)
noncomputable abbrev XW:=St->Value->Hp->Prop
noncomputable abbrev Qc:=Ends->XW->XW->St->Hp->Prop
end Jt
namespace Jt
open PySem L2
noncomputable def sU:Sp:= λ vs H Q _=>∃(a:Addr) (ns:List Int),vs=[.ref a]/\Rd H a (.lst (ns.map V.int))/\ns.length<=63/\(∀i∈ns,Builtin.Int.intBits i<=2^20)/\∀H',Q (.bl true) H'
section
variable {P:Program} {w:World} {K:PySem.W.Frag} {mg:Str->Option Value} {base:Heap} {k:Nat} {f:Addr} {fd:FuncData} {ps:List Str}
theorem E6(F:dG P w K mg base dQ k f fd ps (mE 1 mf))(h:∀ns:List Int,ns.length<=63->(∀i∈ns,Builtin.Int.intBits i<=2^20)->mf [.lst (ns.map .int)]=some (.bl true)):dG P w K mg base dQ k f fd ps sU:=F.imp λ vs H Q E ⟨a,ns,ev,C,I,J,q⟩=>by subst ev;refine⟨rfl,λ _=>none,[.lst (ns.map .int)],.bl true,(λ a o z=>nomatch z),.cons (.mkL (Rd.mono (λ b o e=>cN.mpr ⟨(λ⟨_,z⟩=>nomatch z),e⟩) C) (ic ns)) .nil,h ns I J,λ v H' g r=>?_⟩;rw[r.bl];grind
end
end Jt
namespace Jt
open PySem PySem.W PySem.Calls PyProof.Rows L2
theorem Bh{ns:List Int}(h:WData.layableAll [WData.list (ns.map WData.int)]=true):∀i∈ns,Builtin.Int.intBits i<=2^20:= λ i o=>by
 have C:=layableW_arg h _ xS;have I:=layableW_item C (.int i) (gE.mpr ⟨i,o,rfl⟩);have J:=lay0_int I;have U:PyData.layable0 (.int i)=true:=by simpa[PyData.layableAll0]using J
 exact PyData.bits_of_layable U
end Jt
namespace Jt
open PySem L2
open PyProof.Rows (AllBare)
noncomputable def hx(X:Cx)(a:Addr)(o:Obj):Cx:={ X with A:=X.A.mark (some (.ref a)),calm:=false,pn:=(a,o)::X.pn,xe:= λ _ _=>False }
end Jt
namespace L2
open PySem PySem.Spec PyProof.Rows
noncomputable abbrev tests(ifs:List Expr)(env:Env):Sem Bool:=forIn ifs true λ c r=>if r=true then do let ok<- isTrue c env (eval c env);pure (ForInStep.yield ok)else pure (ForInStep.yield r)
section
variable {elt t1 i1 t2 i2:Expr} {ifs1 ifs2:List Expr} {scope:Scope} {pos:Pos}
noncomputable abbrev two(elt t1 i1:Expr)(ifs1:List Expr)(t2 i2:Expr)(ifs2:List Expr)(scope:Scope)(pos:Pos):Expr:= .ListComp elt [⟨t1,i1,ifs1,0⟩,⟨t2,i2,ifs2,0⟩] scope pos
noncomputable abbrev mq:Value->Shared->Prop:= λ _ _=>False
end
end L2
namespace Jt
open PySem L2
noncomputable def xy(n:Nat):Option Unit:=if n<=1000 then some ()else none
theorem m7(h:xy n=some u):n<=1000:=by unfold xy at h;grind
section
open PySem.Spec PyProof.Rows
variable {X:Cx} {e:Expr} {te:TE} {fa:M D} {j:Nat} {pos p2 p3 p4:Pos}
theorem mF(its:List Value):slicePick its.toArray none none (some (-1))=its.reverse.toArray:=by
 have o:sliceRange (its.toArray.size-1) (-1) (-1)=(List.range its.toArray.size).map λ(k:Nat)=>((its.toArray.size:Int) -1+k*(-1)).toNat:=by
  unfold sliceRange;dsimp only;rw[QC (by decide)];have C:(if(its.toArray.size:Int) -1> -1 then((its.toArray.size:Int) -1- -1- -1-1)/ - -1 else 0).toNat=its.toArray.size:=by
   by_cases h:its.toArray.size=0;. rw[h];rfl
   .rw[show-(-1:Int)=1 from rfl];omega
  rw[C];refine ZM λ k _=>?_;rw[Int.mul_comm]
 show((sliceRange (its.toArray.size-1) (-1) (-1)).filterMap (its.toArray[.]?)).toArray=_;rw[o,List.filterMap_map];exact zO its.toArray
theorem E8(he:PE X e te):PE X (.Subscript e (.Slice none none (some (.UnaryOp .USub (.Constant (.int 1) j p3) p4)) p2) pos) (λ σ H Q=>te σ H λ x H1=>∃a xs,x= .ref a/\iK X.K H1 a xs/\∀l,H1 l=none->Q (.ref l) (upd H1 l (.lst xs.reverse))):=by intro pins s σ H Q I h;refine Subscript_ (cf (he pins s σ H _ I h) λ v s1 ⟨x,H1,U,r1,q1⟩=>?_);obtain⟨a,xs,rfl,hx,q⟩:=q1;cases r1;refine wpAny_Slice ?_;rw[evalPart_none];refine kT (kT ?_);rw[evalPart_some];refine cf ((Gw Cg tw) pins s1 σ H1 (λ v H'=>v= .int (-1)/\H'=H1) U ⟨1,rfl,rfl,rfl⟩) λ v2 s2 ⟨y,H2,I2,r2,e2,e3⟩=>?_;subst e2;subst e3;obtain ⟨t,rfl⟩:=r2;have C:Inv X pins σ H2 { s2 with heap:=s2.heap.push { cls:=.type "slice",data:=.fields #[.none,.none,.int (-1) t] } }:=I2.kept (t':=s2.toks) λ b ob q=>zS _ q;obtain ⟨its,r,J,hz⟩:=C.list hx;have hlen:=r.length;refine tail_any (ops:=[.ref a,.ref s2.heap.objs.size]) J.isList.typeIs slot_list_getitem.lookup (wpAny_getItem_list_slice J.isList (Heap.IsSliceOf.new ..) .none .none (.int (-1) t) (by simp) ?_ (by rw [gA] <;> omega)) (by with_unfolding_all rfl);rw [mF];refine ⟨.ref _,_,C.laid (t':=s2.toks) (o:=.lst xs.reverse) (λ b ob q=>zS _ q) (wF _) ?_,rfl,q _ (C.hok.fresh (wF _))⟩;exact ⟨by rw [WI];exact hz,_,0,z7 r,wL _ rfl⟩
noncomputable def N7:D->Option (List D)
 | .lst xs=>some xs.reverse
 |_=>none
theorem Ed(he:DE X e fa):DF X (.Subscript e (.Slice none none (some (.UnaryOp .USub (.Constant (.int 1) j p3) p4)) p2) pos) (do let x<- fa;lift (N7 x)):=cC (E8 he) λ σ H Q ⟨c,U,S,T,d,aa,s,e,k⟩=>by obtain⟨x,o,e1,e⟩:=bind_some e;obtain⟨C,rfl⟩:=bc e;refine⟨c,U,S,T,x,o,s,e1,λ v H' s'=>?_⟩;cases x with
 |lst xs=>cases C;obtain⟨a,vs,rfl,h1,I⟩:=s'.st.head.lst;refine⟨a,vs,rfl,.inl (Rd.mono bB h1),λ l J=>?_⟩;obtain⟨f1,f2,f3⟩:=s'.fresh J;have s1:=s'.stk ((AX I).append s'.st.tail);exact k l vs.reverse _ (by rw[WI,WI,I.length]) (s1.hide J) f1 f2 f3
 |_=>cases C
end
mutual
noncomputable def py:D->PyData
 | .non=>.none
 | .bl b=>.bool b
 | .int i=>.int i
 | .str x=>.str x
 | .tup xs=>.tuple (OO xs)
 | .lst xs=>.list (OO xs)
 | .dct=>.dict []
 | .dic _=>.dict []
 | .dip _=>.dict []
noncomputable def OO:List D->List PyData
 | []=>[]
 | d :: r=>py d :: OO r
end
section
variable {δ:DS} {α:Type}
theorem rG (h:Ok m δ fun a o=>Ok (f a) o Q):Ok (m >>= f) δ Q:=bf.mpr h
theorem vg (q:Q a δ):Ok (pure a) δ Q:=⟨a,δ,rfl,q⟩
theorem HG (h:δ[i]? = some (.pu d)) (q:Q d δ):Ok (bZ i) δ Q:=cY.mpr ⟨d,h,q⟩
theorem BH (h:δ[i]? = some (.ow b xs)) (q:Q xs δ):Ok (dv i) δ Q:=fM.mpr ⟨b,xs,h,q⟩
theorem zB (h:δ[i]? = some (.ow false xs)) (q:Q xs (δ.set i .un)):Ok (nF i) δ Q:=BL.mpr ⟨xs,h,q⟩
theorem Kl (h:δ[i]? = some (.ow b xs)) (q:Q (.int xs.length) δ):Ok (qq i) δ Q:=rb.mpr ⟨b,xs,h,q⟩
theorem yT (h:o=some a) (q:Q a δ):Ok (lift o) δ Q:=dk h q
theorem BP (hn:ds.length=n) (h:f ds=some d) (q:Q d δ):Ok (lift (bF n f ds)) δ Q:=dk (by simp_all) q
theorem uM (hn:ds.length=n) (h:f ds=some d) (q:Q d δ):Ok (lift (bF n f ds)) δ Q:=dk (by simp_all) q
theorem HX (h:Nat.blt i δ.length=true) (q:Q () (δ.set i (.pu d))):Ok (ji i d) δ Q:=cx.mpr ⟨YY h,q⟩
theorem OU(h:Ok C δ λ x o=>Ok (lift (f x)) o Q):Ok (m1 f C) δ Q:=L6.mpr h
theorem Oi(h:Ok I δ λ x o=>Ok J o λ y C=>Ok (lift (f x y)) C Q):Ok (m2 f I J) δ Q:=iH.mpr h
theorem N5 (h:Ok fs δ fun ds o=>Ok (lift (f ds)) o Q):Ok (mC f fs) δ Q:=eR.mpr h
theorem O7 (h:Ok fs δ fun ds o=>Ok (lift (f ds)) o Q):Ok (mQ f fs) δ Q:=Au.mpr h
theorem A9(h:Ok I δ λ x o=>Ok fs o λ xs C=>Q (x::xs) C):Ok (du I fs) δ Q:=b6.mpr h
theorem oTup(h:Ok fs δ λ xs o=>xs.length<=100000/\Q (.tup xs) o):Ok (xo fs) δ Q:=i5.mpr (h.mono λ _ _ q=>eS.mpr q)
theorem oLst(h:Ok fs δ λ xs o=>xs.length<=100000/\Q xs o):Ok (AE fs) δ Q:=uX.mpr (h.mono λ _ _ q=>eS.mpr q)
theorem O1 (h:Ok t δ fun b o=>if b=true then Ok C o Q else Ok I o Q):Ok (wH t C I) δ Q:=Cb.mpr h
theorem HC(h:Ok t δ λ b o=>if b=true then Ok u o Q else Q false o):Ok (uJ t u) δ Q:=w8.mpr h
theorem N6 (h:Ok t δ fun b o=>if b=true then Q true o else Ok u o Q):Ok (NC t u) δ Q:=Jm.mpr h
theorem Ki(h:Ok t δ λ b o=>Q (!b) o):Ok (Gd t) δ Q:=Dt.mpr h
theorem Ie (q:Q b δ):Ok (lP (.bl b)) δ Q:=ur.mpr ⟨b,rfl,q⟩
theorem Jo (q:Q (some i) δ):Ok (Nj (.int i)) δ Q:=HY.mpr ⟨i,rfl,q⟩
inductive Mv (i:Nat) (Q:D->DS->Prop) (y:D) (o:DS):Prop
 | mk (h1:o[i]? = some (.ow b xs)) (h2:j9 (.lst xs) y=some d) (q:Q d o):Mv i Q y o
inductive MG (i n:Nat) (mf:List D->List D->Option (D × List D)) (Q:D->DS->Prop) (ds:List D) (o:DS):Prop
 | mk (h1:o[i]? = some (.ow b xs)) (h2:ds.length + 1=n) (h3:mf xs ds=some (d,C)) (q:Q d (o.set i (.ow b C))):MG i n mf Q ds o
theorem JL (h0:δ[i]? = some (.ow b xs)) (h:Ok C δ (Mv i Q)):Ok (F3 i C) δ Q :=
 nZ.mpr ⟨⟨b,xs,h0⟩,h.mono fun _ _ ⟨e,h,q⟩=>⟨_,_,e,dk h q⟩⟩
theorem HJ(h:Ok fs δ (MG i n o Q)):Ok (oH i n o fs) δ Q:=
 vp.mpr (h.mono λ _ _ ⟨C,I,J,q⟩=>⟨_,_,C,I,(_,_),J,q⟩)
theorem zC{Q:Option D->DS->Prop}(h:Ok (gt d) δ λ _ C=>Ok tt C λ b o=>if b=true then Ok te o λ x I=>Q (some x) I else Q none o):Ok (gS gt tt te d) δ Q:=dI.mpr h
theorem O9{Q:Unit->DS->Prop}(hn:ds.length=n)(h:Ok (g ds) δ Q):Ok (iC n g (.tup ds)) δ Q:=jd.mpr ((gL hn).mpr h)
theorem NX{Q:Unit->DS->Prop}(h:Ok (f d) δ λ _ o=>Ok (g ds) o Q):Ok (f9 f g (d::ds)) δ Q:=fU.mpr h
theorem Pa(q:Q () δ):Ok (jY []) δ Q:=gH.mpr q
theorem Jw{Q:D->DS->Prop}(h:Ok C δ λ d o=>Q (.bl (b8 T d)) o):Ok (Gn T C) δ Q:=FJ.mpr h
theorem O5{Q:α->DS->Prop}(h:Ok U δ λ h1 o=>Ok fb o λ h2 C=>Ok (pH h1) C λ x I=>Ok (pH h2) I λ y J=>Ok (lift (g x y)) J Q):Ok (Fx g U fb) δ Q:=JS.mpr h
theorem OC{Q:D->DS->Prop}(q:Q x δ):Ok (pH (.th x)) δ Q:=Ig.mpr q
theorem JX{Q:D->DS->Prop}(h:δ[i]?=some (.ow b xs))(q:Q (.lst xs) δ):Ok (pH (.ls i)) δ Q:=Kp.mpr ⟨b,xs,h,q⟩
theorem JG{Q:Hn->DS->Prop}(h:δ[i]?=some (.ow b xs))(q:Q (.ls i) δ):Ok (AH i) δ Q:=F6.mpr ⟨b,xs,h,q⟩
theorem Br(h:Ok J δ λ h o=>Ok fs o λ xs C=>Ok (pH h) C λ x I=>Q (x::xs) I):Ok (oX J fs) δ Q:=xW.mpr h
theorem Oh(h:Ok J δ λ x o=>Ok U o λ l C=>Ok fh C λ h I=>Ok (lift (GC x l h)) I Q):Ok (Nx J U fh) δ Q:=Jl.mpr h
theorem B5(h:Ok C δ λ d o=>Nat.blt i o.length=true/\Q .nx (o.set i (.pu d))):Ok (q5 i C) δ Q:=dt.mpr (h.mono λ _ _ q=>⟨YY q.1,q.2⟩)
theorem DD(h:Ok C δ λ d o=>Nat.blt i o.length=true/\Q .nx (o.set i (.ow false d))):Ok (KC i C) δ Q:=Jk.mpr (h.mono λ _ _ q=>⟨YY q.1,q.2⟩)
theorem OT(h:Ok C δ λ d o=>Nat.blt i o.length=true/\Ok g (o.set i (.pu d)) Q):Ok (dU (q5 i C) g) δ Q:=cy.mpr (B5 h)
theorem Jh(h:Ok C δ λ d o=>Nat.blt i o.length=true/\Ok g (o.set i (.ow false d)) Q):Ok (dU (KC i C) g) δ Q:=cy.mpr (DD h)
theorem m_{Q:Fl->DS->Prop}(h:Ok t δ λ b o=>if b=true then Ok (dU C g) o Q else Ok (dU I g) o Q):Ok (dU (wH t C I) g) δ Q:=
 cy.mpr (Cb.mpr (h.mono λ b o q=>by simp_all))
theorem Jn(h:Ok g δ Q):Ok (dU (pure .nx) g) δ Q:=cy.mpr (bg.mpr h)
theorem NY(h:Ok f δ λ C o=>match C with| .nx=>Ok (dU g k) o Q|C=>Q C o):Ok (dU (dU f g) k) δ Q:=by refine cy.mpr (cy.mpr (h.mono λ C o q=>?_));cases C <;> first|exact cy.mp q|exact q
theorem Ko{Q:Fl->DS->Prop}{m:M D}(h:Ok m δ λ d o=>Q (.rt d) o):Ok (dU (do let d<- m;pure (Fl.rt d)) g) δ Q:=cy.mpr (bf.mpr (h.mono λ _ _ q=>bg.mpr q))
theorem IU(ds:List D)(I:Nat->DS->Prop)(U:Ok fi δ λ it C=>it=bz ds/\C=δ)(h0:I 0 δ)
  (ht:∀k(hk:k<ds.length) δ,I k δ->Ok (gt ds[k]) δ λ _ J=>Ok body J λ fl o=>match fl with
   | .nx=>I (k+1) o
   | .ct=>I (k+1) o
   | .bk=>Ok g o Q
   | .rt d=>Q (.rt d) o
   | .rf d=>Q (.rf d) o)(hQ:∀δ,I ds.length δ->Ok g δ Q):Ok (dU (do let it<- fi;Jt.forM gt body it.2 it.1) g) δ Q:=cy.mpr (nT ds I U h0 (λ k hk δ h=>(ht k hk δ h).mono λ _ _ h=>h.mono λ fl _ h=>by omega) hQ)
theorem y4(h:Ok C δ λ d o=>Nat.blt i o.length=true/\Ok (dU g k) (o.set i (.pu d)) Q):Ok (dU (dU (q5 i C) g) k) δ Q:=NY (B5 h)
inductive LJ (i:Nat) (Q:D->DS->Prop):List D->DS->Prop
 | mk (j:Nat) (h1:o[i]? = some (.ow b xs)) (h2:j < 100000) (h3:xs[j]? = some d) (q:Q d (o.set i (.ow b (xs.eraseIdx j)))):LJ i Q [.int j] o
theorem Iv{Q:D->DS->Prop}(h0:δ[i]?=some (.ow b xs))(h:Ok fs δ (LJ i Q)):Ok (Gk i fs) δ Q:=oM ⟨b,xs,h0⟩ (h.mono λ _ _ ⟨j,o,C,I,q⟩=>⟨j,_,_,_,rfl,o,C,I,q⟩)
inductive Kv (i:Nat) (Q:Fl->DS->Prop):List D->DS->Prop
 | mk (h1:o[i]? = some (.ow b xs)) (h2:xs.length ≤ 100000) (q:Q .nx (o.set i (.ow b (xs ++ [d])))):Kv i Q [d] o
theorem DV{Q:Fl->DS->Prop}(h0:δ[i]?=some (.ow b xs))(h:Ok fs δ (Kv i Q)):Ok (jv i fs) δ Q:=eY ⟨b,xs,h0⟩ (h.mono λ _ _ ⟨o,C,q⟩=>⟨_,_,_,rfl,o,C,q⟩)
theorem I0{Q:Fl->DS->Prop}(h0:δ[i]?=some (.ow b xs))(h:Ok fs δ (Kv i λ _ o=>Ok g o Q)):Ok (dU (jv i fs) g) δ Q:=cy.mpr (DV h0 (h.mono λ _ _ ⟨C,I,q⟩=>⟨C,I,q⟩))
inductive EG (fc:M D) (r:D->D->Option D) (y:D) (Q:D->DS->Prop):D->DS->Prop
 | t (h:Ok fc o fun w J=>Ok (lift (r y w)) J Q):EG fc r y Q (.bl true) o
 | f (q:Q (.bl false) o):EG fc r y Q (.bl false) o
theorem Jc(h:Ok o δ λ x C=>Ok J C λ y I=>Ok (lift (U x y)) I (EG fc r y Q)):Ok (Lr U r o J fc) δ Q:=
 Jq.mpr (h.mono λ _ _ h=>h.mono λ _ _ h=>h.mono λ _ _ h=>by cases h <;> assumption)
theorem oT{A B:Prop}{b:Bool}(h:b=true)(q:A):if b=true then A else B:=(gL h).mpr q
theorem oF{A B:Prop}{b:Bool}(h:b=false)(q:B):if b=true then A else B:=(QC (Bool.not_eq_true _▸h)).mpr q
theorem oL(h:Nat.ble n 100000=true)(q:A):n<=100000/\A:=⟨YY h,q⟩
end
end Jt
namespace Jt
open PySem L2 PySem.Spec PyProof.Rows
section
open PySem.SeqAt
open PySem.AutoSeq1 (wpAny_loadPart')
open PySem.MeetsSeq PySem.MeetsSeq2 PySem.MeetsSeq3
theorem mB(l:Addr)(items:Array Value)(n:Nat)(dd:Option Addr)(sl:Array (Option Value))(x:Value)(e:Value->Bool)(j:Nat)(hj:j<items.size)(J:e items[j]=true)(U:∀m(hm:m<items.size),m<j->e items[m]=false):
  Meets (Builtin.«tuple.index» ⟨[.ref l,x],[]⟩) (λ A R s=>s.heap.get? l=some { cls:= .type "tuple",dict:=dd,data:= .seq items n,slots:=sl }/\(∀y∈items,EqAt A.in1 s y x (e y))/\R (.ok (.ret (.int (j:Int) s.toks))) { s with toks:=s.toks+1 }):=
 .of_wp λ prog w A R s h=>by
  obtain⟨hp,g,d,tk,os⟩:=s;obtain⟨hl,he,h⟩:=h;unfold Builtin.«tuple.index»;simp only[Std.Legacy.Range.forIn_eq_forIn_range'];wp_walk using wpAny_loadPart' hl,wpAny_forIn_list _ (λ rest b s'=>b.1=none/\s'=⟨hp,g,d,tk,os⟩/\∃m,rest=List.range' m (items.size-m)/\m<=j) _;case turn=>
   rintro i rest b s' ⟨hb,rfl,m,o,hm⟩;have C:items.size-m=(items.size-(m+1))+1:=by omega
   rw[C,List.range'_succ]at o;injection o with I o;subst I;have I:i<items.size:=by omega
   have hy:items[i]?=some items[i]:=ZW I;rw[hy];have hE:=he items[i] (Array.getElem_mem I);refine zN (hE prog w _ _ ?_);by_cases q:i=j;. subst q;rw[J];wp_walk;exact⟨_,rfl,h⟩
   .rw[U i I (by omega)];wp_walk;exact⟨rfl,rfl,i+1,o,by omega⟩
  case fin=>
   rintro⟨b1,b2⟩ s' ⟨hb,rfl,m,o,hm⟩;have C:items.size-m=(items.size-(m+1))+1:=by omega
   rw[C,List.range'_succ]at o;cases o
  case h=>exact⟨rfl,rfl,0,by simp,QV _⟩
end
section
variable {X:Cx} {o e a:Expr} {es:List Expr} {to:TE} {t:TA} {name:Str} {apos cpos p:Pos} {id:String} {r:V->List V->Hp->VK->Prop} {fo:M D} {fs:M (List D)}
noncomputable def PN(r:V->List V->Hp->VK->Prop)(to:TE)(t:TA):TE:= λ σ H Q=>to σ H λ x H1=>(∃p xs,x= .ref p/\H1 p=some (.tup xs))/\t σ H1 λ xs C=>r x xs C Q
theorem JZ(slot:PySem.Slot "tuple" name id)(ab:typeOf (.builtin id)=pure (.type "method_descriptor"))(hm:M_ X id r)(ho:PE X o to)(ha:PA X (e::es) t)
  (C:attributeBase o name X.env (eval o X.env)=eval o X.env:=by rfl)
  (U:((backTo cpos (starEach (e::es) X.env)).all (λ x=> !x.1)&&(backToKw cpos (keywordEach [] X.env)).all (λ x=>x.1.isSome)
   &&decide ((e::es).length+([]:List Keyword).length+(if([]:List Keyword).isEmpty then 0 else 1)<30))=true:=by rfl)
  (J:(apos.endLine==cpos.line)=true:=by rfl)(hs:starEach (e::es) X.env=(false,eval e X.env)::starEach es X.env:=by rfl)(aa:(backTo cpos (starEach es X.env)).any (·.1)=false:=by rfl):
  PE X (.Call (.Attribute o name apos) (e::es) [] cpos) (PN r to t):=by intro pins s σ H Q I h;refine wpAny_Call_method_late C U J rfl (cf (ho pins s σ H _ I h) λ v s1 ⟨x,H1,I1,r1,ty,q1⟩=>?_);obtain⟨p,xs,rfl,hp⟩:=ty;cases r1;obtain⟨_,its,_,⟨ob,e1,e2,_⟩,ae,e3,e4⟩:=(show cg X.prog X.w H1 s1.heap p (.tup xs)from I1.hok p _ hp);refine⟨"tuple",id,PySem.F.plainAttrs_tuple,slot,ab,⟨ob,e1,e2⟩,λ a z=>by grind,?_⟩;have hA:=ha cpos pins s1 σ H1 _ I1 q1;rw[hs]at hA|-;refine Calls.callWith_builtin (by grind) (Calls.evalArgs_plain ?_);exact cf hA λ us s2 ⟨vs,H2,I2,r2,q2⟩=>hm pins s2 σ H2 (.ref p) vs (.ref p) us Q I2 rfl r2 q2
noncomputable def FC:V->List V->Hp->VK->Prop:= λ x vs H Q=>∃(l:Addr) (ns:List Int) (c:Int),x= .ref l/\vs=[.int c]/\H l=some (.tup (ns.map V.int))/\c∈ns/\Q (.int (ns.idxOf c)) H
noncomputable def OW(c:Int):Value->Bool
 | .int i _=>i==c
 |_=>false
theorem yx:M_ X "tuple.index" FC:=by
 intro pins s σ H x vs v us Q I rx rv h;obtain⟨l,ns,c,rfl,rfl,hH,hc,q⟩:=h;cases rx;obtain⟨u,rfl,J⟩:=rv.one;obtain⟨tc,rfl⟩:=J;obtain⟨its,r,pl,_⟩:=I.tuple (.of hH);obtain⟨⟨cls,dd,data,sl⟩,e0,e1,n,e2⟩:=id pl;subst e1 e2;have hl:its.length=ns.length:=by rw[<- r.length,fD]
 have hj:ns.idxOf c<ns.length:=List.idxOf_lt_length_iff.mpr hc;have at_:∀m(hm:m<ns.length),∃t,its[m]?=some (.int ns[m] t):= λ m hm=>by obtain⟨u,e,J⟩:=r.get (i:=m) (x:= .int ns[m]) (by simp);obtain⟨t,rfl⟩:=J;exact⟨t,e⟩
 refine call_meets PySem.F.slot_tuple_index ⟨_,e0,rfl⟩ PySem.F.entry_tuple_index (PySem.F.args_tuple_index_2 _ _) (mB l its.toArray n dd sl (.int c tc) (OW c) (ns.idxOf c) (by simp;omega) ?_ ?_) ⟨e0,λ y hy=>?_,?_⟩;. obtain⟨t,e⟩:=at_ _ hj;have:=(xZ.mp e).2;simp;rw[this];simp[OW]
 .intro m hm U;have C:m<ns.length:=by omega
  obtain⟨t,e⟩:=at_ _ C;have:=(xZ.mp e).2;simp;rw[this];have ne:ns[m]≠c:= λ z=>by have:=List.not_of_lt_findIdx (p:= λ x=>x==c) (xs:=ns) (i:=m) U;simp[z]at this
  simp[OW,ne]
 .obtain⟨m,hm⟩:=List.mem_iff_getElem?.mp (show y∈its by simpa using hy);have C:m<ns.length:=by rw[<- hl];exact(xZ.mp hm).1
  obtain⟨t,e⟩:=at_ _ C;rw[hm]at e;cases e;exact SeqAt.EqAt.int_int ns[m] t c tc
 .exact⟨.int (ns.idxOf c),H,I.tok _,⟨_,rfl⟩,q⟩
noncomputable def og(x:D)(ds:List D):Option D:=match x,ds with
 | .tup es,[.int c]=>(dF es).bind λ ns=>if c∈ns then some (.int (ns.idxOf c))else none
 |_,_=>none
noncomputable def Mq(fo:M D)(fs:M (List D)):M D:=do
 let x<- fo
 let ds<- fs
 lift (og x ds)
theorem yY(ho:DE X o fo)(ha:DA X [a] fs)
  (I:attributeBase o "index" X.env (eval o X.env)=eval o X.env:=by rfl)
  (U:((backTo cpos (starEach [a] X.env)).all (λ x=> !x.1)&&(backToKw cpos (keywordEach [] X.env)).all (λ x=>x.1.isSome)
   &&decide (([a]:List Expr).length+([]:List Keyword).length+(if([]:List Keyword).isEmpty then 0 else 1)<30))=true:=by rfl)
  (J:(apos.endLine==cpos.line)=true:=by rfl)(hs:starEach [a] X.env=[(false,eval a X.env)]:=by rfl):
  DE X (.Call (.Attribute o "index" apos) [a] [] cpos) (Mq fo fs):=
 cC (JZ PySem.F.slot_tuple_index PySem.F.type_tuple_index yx ho ha I U J hs rfl) λ σ H Q ⟨c,δ,S,T,d,ae,s,e,k⟩=>by
  obtain⟨x,aa,e1,e⟩:=bind_some e;obtain⟨ds,ab,e2,e⟩:=bind_some e;obtain⟨C,rfl⟩:=bc e;unfold og at C;split at C;. rename_i es i af;cases q:dF es with
   |none=>rw[q]at C;cases C
   |some ns=>
    rw[q]at C;simp only[Option.bind_some]at C;split at C;. rename_i hc;cases C;refine⟨c,δ,S,T,_,aa,s,e1,λ v H1 s1=>?_⟩;obtain⟨p,vs,rfl,h1,h2⟩:=s1.st.head.tup;refine⟨⟨p,vs,rfl,bB _ _ h1⟩,c,aa,_,_,_,ab,s1,e2,λ ag H2 l s2=>?_⟩;obtain⟨v2,rfl,r2⟩:=x9 (s2.st.left l);cases r2.int;obtain⟨p2,ws,ez,h3,h4⟩:=(s2.st.right l).head.tup;cases ez;have:=h_ h4 q;subst this;exact⟨p,ns,i,rfl,rfl,bB _ _ h3,hc,k _ _ (s2.stk (.cons .mkI (s2.st.right l).tail))⟩
    simp_all
  grind
end
section
variable {X:Cx} {a:Expr} {p pos:Pos} {fs:M (List D)}
theorem gx(ns:List Int):∀j,j<=ns.length->preSum (λ i=>ns.getD i 0) j=(ns.take j).sum
 |0,_=>rfl
 |j+1,h=>by show preSum _ j+_=_;rw[gx ns j (by omega),Q6 (by omega)];grind
noncomputable def G5(K:PySem.W.Frag):List V->Hp->VK->Prop:= λ xs H Q=>∃(l:Addr) (ns:List Int),xs=[.ref l]/\iK K H l (ns.map V.int)/\(∀j,j<=ns.length->InLong ((ns.take j).sum))/\(∀i∈ns,InLong i)/\Q (.int ns.sum) H
theorem xm(hc:X.calm=true):dM X (.builtin "sum") (G5 X.K):=by
 intro pins s σ H xs us Q I r h;obtain⟨l,ns,rfl,hq,hn,hi,q⟩:=h;obtain⟨u,rfl,ru⟩:=r.one;cases ru;obtain⟨its,rv,pl,hz⟩:=I.list hq;have hlen:=rv.length;rw[fD]at hlen;have J:l<s.heap.objs.size:=by obtain⟨o,e,_⟩:=pl.isList;exact wN e
 refine call_sum_walk (VY pl.isList ?_);refine⟨s.heap.objs.size,[s.heap.objs.size,l],[s.heap.objs.size],its.toArray.size,_,_,λ i=>ns.getD i 0,rfl,Walks.list (A:=X.A.in1) (I.ok.hd hc) _ l (QB J) its.toArray,
  ⟨⟨_,wL _ rfl,rfl,rfl⟩,pl.isList.push _⟩,λ b U=>?_,λ i v hv=>?_,λ j hj=>?_,λ h' tk t' kp=>?_⟩
 .rw[QM];simp at U;rcases U with rfl|rfl
  .exact VR _
  .exact VZ J
 .have aa:its[i]?=some v:=by simpa using hv
  have ab:i<ns.length:=by rw[hlen];exact(xZ.mp aa).1
  obtain⟨u,hu,ru⟩:=rv.get (i:=i) (x:=V.int ns[i]) (by simp);obtain⟨t,rfl⟩:=ru;grind
 .have C:j<ns.length:=by rw[hlen];simpa using hj
  refine⟨?_,?_⟩
  .show InLong (ns.getD j 0);have:ns.getD j 0=ns[j]:=by simp[C]
   rw[this];exact hi _ (QH C)
  .rw[gx ns (j+1) C];exact hn _ C
 .have e:preSum (λ i=>ns.getD i 0) its.toArray.size=ns.sum:=by rw[show its.toArray.size=ns.length by simp[hlen],gx ns _ (wF _),V8]
  rw[e];exact⟨.int ns.sum,H,I.kept (t':=tk) λ b o eb=>kp b o (λ U=>absurd (wN eb) (by rw[jP.mp U];exact Q8 _)) (zS _ eb),⟨t',rfl⟩,q⟩
noncomputable def kl(ns:List Int):Bool:=decide (ns.length<=1000)&&ns.all λ i=>decide (0<=i)&&decide (i<=1000000)
theorem mW:∀{ns:List Int},(∀i∈ns,0<=i/\i<=1000000)->0<=ns.sum/\ns.sum<=1000000*ns.length
 |[],_=>by simp
 |i::r,h=>by have I:=h i xS;have J:=mW (ns:=r) λ j C=>h j (wV _ C);grind
noncomputable def zw:List D->Option D
 |[.lst es]=>(dF es).bind λ ns=>if kl ns=true then some (.int ns.sum)else none
 |_=>none
theorem Je{K:PySem.W.Frag}:jW (G5 K) zw:= λ c U S σ T H ds vs d Q l s e k=>by
 unfold zw at e;split at e;. rename_i es;cases q:dF es with
  |none=>rw[q]at e;cases e
  |some ns=>
   rw[q]at e;simp only[Option.bind_some]at e;split at e
   .rename_i hs;cases e;obtain⟨v,rfl,r⟩:=x9 (s.st.left l);obtain⟨p,ws,rfl,I,J⟩:=r.lst;have:=h_ J q;subst this;simp[kl]at hs;refine⟨p,ns,rfl,.inl (Rd.mono bB I),λ j hj=>?_,λ i C=>?_,k _ _ (s.stk (.cons .mkI (s.st.right l)))⟩;. have:=mW (ns:=ns.take j) λ i C=>hs.2 i (Y7 C);have hl:(ns.take j).length<=1000:=Q1 (List.length_take_le ..) (by omega);exact⟨by omega,by omega⟩
    .have:=hs.2 i C;exact⟨by omega,by omega⟩
   grind
 grind
theorem HH(hm:X.mg "sum"=none)(C:DA X [a] fs)(I:Gl X "sum":=by rfl)(J:X.calm=true:=by rfl)(he:starEach [a] X.env=[(false,eval a X.env)]:=by rfl):DE X (.Call (.Name "sum" p) [a] [] pos) (mC zw fs):=
 fT (xm J) Je I hm PyProof.Rows.boot_sum C (by decide) (by rfl) he rfl
end
end Jt
namespace Jt
open PySem L2
structure Kn (P:Program) (w:World) (K:PySem.W.Frag) (mg:Str->Option Value) (base:Heap) (CX:yM) (k:Nat) (x:Str) (ps:List Str) (sp:Sp):Prop where
 ex:∃f fd,dG P w K mg base CX k f fd ps sp∧mg x=some (.ref f)∧PySem.W.keepIn K (.ref f)=true∧Binds K fd ps []
structure Ent (K:PySem.W.Frag) (mg:Str->Option Value) (x:Str) (ps:List Str) (st:Stmt):Prop where
 ex:∃f fd,C_ K x x st f fd∧mg x=some (.ref f)∧Binds K fd ps []
structure Fh (K:PySem.W.Frag) (x:Str) (st:Stmt):Prop where
 ex:∃(f:Addr) (oc:Value) (od:Option Addr) (kV dc pm:Value) (an:Option Addr) (cd ct:Value) (sl:Array (Option Value)),PySem.W.nsIn K mainGlobals x=some (some (.ref f))∧K.lookup f=some ⟨oc,od,.func (PySem.W.fnOf x x (eC st) (bT st) (aZ st) .none kV dc pm an cd ct),sl⟩∧PySem.W.codeIn K cd x=true∧PySem.W.keepIn K (.ref f)=true
theorem fh_mk {kV dc pm cd ct:Value} (a:PySem.W.nsIn K mainGlobals x=some (some (.ref f))) (l:K.lookup f=some ⟨oc,od,.func (PySem.W.fnOf x x (eC st) (bT st) (aZ st) .none kV dc pm an cd ct),sl⟩) (c:PySem.W.codeIn K cd x=true) (k:PySem.W.keepIn K (.ref f)=true):Fh K x st:=⟨f,oc,od,kV,dc,pm,an,cd,ct,sl,a,l,c,k⟩
section
variable {P:Program} {w:World} {K:PySem.W.Frag} {mg:Str->Option Value} {base:Heap} {CX:yM} {j k:Nat} {x:Str} {ps N:List Str} {sp:Sp} {st:Stmt} {body:M Fl}
theorem Kn.up(G:Kn P w K mg base CX j x ps sp)(h:j<=k):Kn P w K mg base CX k x ps sp:=let⟨⟨f,fd,F,m⟩⟩:=G;⟨⟨f,fd,F.mono h,m⟩⟩
theorem ent(X:K.In h)(G:h.Ns mainGlobals mg)(e:Fh K x st)(C:∀(kV doc pm:Value)(an:Option Addr)(cdv o:Value)(us:List Value),us.length=ps.length->bindArgs (PySem.W.fnOf x x (eC st) (bT st) (aZ st) .none kV doc pm an cdv o) ⟨us,[]⟩=pure (ps.zip us)):Ent K mg x ps st:=by obtain⟨⟨f,I,od,kV,J,pm,an,cd,o,sl,a,l,c,k⟩⟩:=e;have F:=AZ (st:=st) l c k;exact⟨⟨f,_,F,XX X G a,F.binds C⟩⟩
theorem Ph(E:Ent K mg x ps st)(S:cz N ps (aZ st))(o:∀(f:Addr)(cdv:Value)(A:Around)(outer:List Env)(s:Shared)(H:Hp)(E:XK),cb k (A.deeper (PyProof.Rows.envOfC x (aZ st) s.heap.objs.size f cdv))->l9 (fP dQ P w K mg base N x (aZ st) f cdv A outer s H E).nox (bT st) body):
  Kn P w K mg base dQ (k+1) x ps (mE ps.length (bP N body)):=let⟨⟨f,fd,F,m,b⟩⟩:=E;⟨⟨f,fd,Pw F S (o f),m,F.kp,b⟩⟩
theorem P9(E:Ent K mg x ps st)(S:cz N ps (aZ st))(o:∀(f:Addr)(cdv:Value)(A:Around)(outer:List Env)(s:Shared)(H:Hp)(E:XK),cb k (A.deeper (PyProof.Rows.envOfC x (aZ st) s.heap.objs.size f cdv))->l9 (fP dQ P w K mg base N x (aZ st) f cdv A outer s H E).nox (bT st) body):
  Kn P w K mg base dQ (k+1) x ps (Ky ps.length (ip N body)):=let⟨⟨f,fd,F,m,b⟩⟩:=E;⟨⟨f,fd,PH F S (o f),m,F.kp,b⟩⟩
theorem PX(E:Ent K mg x ps st)(S:cz N ps (aZ st))(o:∀(f:Addr)(cdv:Value)(A:Around)(outer:List Env)(s:Shared)(H:Hp)(E:XK),cb k (A.deeper (PyProof.Rows.envOfC x (aZ st) s.heap.objs.size f cdv))->l9 (fP dQ P w K mg base N x (aZ st) f cdv A outer s H E).nox (bT st) body):
  Kn P w K mg base dQ (k+1) x ps (KA ps.length (jq N body)):=let⟨⟨f,fd,F,m,b⟩⟩:=E;⟨⟨f,fd,PD F S (o f),m,F.kp,b⟩⟩
theorem DN(E:Ent K mg x ps st):Kn P w K mg base dQ k x ps (mE n λ _=>none):=let⟨⟨f,fd,F,m,b⟩⟩:=E;⟨⟨f,fd,Gv,m,F.kp,b⟩⟩
theorem Ot{l:PySem.W.OpenLaw}{o:Addr}{st:Stmt}(X:K.In h)(G:h.Ns mainGlobals mg)(C:mg "law"=some (.ref o))(e:Fh K "law" st)(U:∀(kV I pm:Value)(an:Option Addr)(cd J:Value)(s:Shared)(v:Value),BindsTo s (PySem.W.fnOf "law" "law" (eC st) (bT st) (aZ st) .none kV I pm an cd J) ⟨[v],[]⟩ [("_law_script",v)])
  {N:List Str}{body:M Fl}(S:cz N ["_law_script"] (aZ st))
  (hG:∀(base:Heap)(f:Addr)(cdv:Value)(A:Around)(outer:List Env)(s:Shared)(H:Hp)(E:XK),cb k (A.deeper (PyProof.Rows.envOfC "law" (aZ st) s.heap.objs.size f cdv))->l9 (fP dQ l.prog w K mg base N "law" (aZ st) f cdv A outer s H E).nox (bT st) body)
  {Sq:Sp}(hS:∀base f fd,dG l.prog w K mg base dQ (k+1) f fd ["_law_script"] (mE 1 (bP N body))->dG l.prog w K mg base dQ (k+1) f fd ["_law_script"] Sq):
  ∃fd:FuncData,(∀(s:Shared)(v:Value),BindsTo s fd ⟨[v],[]⟩ [("_law_script",v)])/\∀base:Heap,K.In base->base.Ns mainGlobals mg->dG l.prog w K mg base dQ (k+1) o fd ["_law_script"] Sq:=by obtain⟨⟨f,oc,od,kV,I,pm,an,cd,J,sl,a,l,c,kp⟩⟩:=e;have e:=C.symm.trans (XX X G a);cases e;exact⟨_,U kV I pm an cd J,λ base _ _=>hS base _ _ (Pw (AZ (st:=st) l c kp) S (hG base o))⟩
end
section
variable {X:Cx} {k:Nat} {x:Str} {ps:List Str} {a:Expr} {es:List Expr} {fs:M (List D)} {p pos:Pos}
theorem ba{n:Nat}(G:Kn X.prog X.w X.K X.mg X.base dQ k x ps (mE n mf))(I:cb k X.A)(J:DA X (a::es) fs)
  (U:Gl X x:=by rfl)(o:(x==("__debug__":Str))=false:=by decide)(he:starEach (a::es) X.env=(false,eval a X.env)::starEach es X.env:=by rfl)(C:(backTo pos (starEach es X.env)).any (·.1)=false:=by rfl):
  DE X (.Call (.Name x p) (a::es) [] pos) (mC (λ ds=>if ds.length=n then mf ds else none) fs):=let⟨⟨_,_,F,m,c,b⟩⟩:=G;E9 F I m c b J U o he C
theorem d6{n:Nat}(G:Kn X.prog X.w X.K X.mg X.base dQ k x ps (Ky n mf))(I:cb k X.A)(J:DA X (a::es) fs)
  (U:Gl X x:=by rfl)(o:(x==("__debug__":Str))=false:=by decide)(he:starEach (a::es) X.env=(false,eval a X.env)::starEach es X.env:=by rfl)(C:(backTo pos (starEach es X.env)).any (·.1)=false:=by rfl):
  DF X (.Call (.Name x p) (a::es) [] pos) (mC (λ ds=>if ds.length=n then mf ds else none) fs):=let⟨⟨_,_,F,m,c,b⟩⟩:=G;Fz F I m c b J U o he C
theorem xX{n:Nat}(G:Kn X.prog X.w X.K X.mg X.base dQ k x ps (mE n mf))(I:cb k X.A)(J:Jx X (a::es) fs)
  (U:Gl X x:=by rfl)(o:(x==("__debug__":Str))=false:=by decide)(he:starEach (a::es) X.env=(false,eval a X.env)::starEach es X.env:=by rfl)(C:(backTo pos (starEach es X.env)).any (·.1)=false:=by rfl):
  DE X (.Call (.Name x p) (a::es) [] pos) (mC (xR n mf) fs):=let⟨⟨_,_,F,m,c,b⟩⟩:=G;Ai F I m c b J U o he C
theorem bX(i:Nat){mf:List D->List D->Option (D×List D)}{n:Nat}{y:Str}{py:Pos}(G:Kn X.prog X.w X.K X.mg X.base dQ k x ps (KA n mf))(J:cb k X.A)(U:DA X es fs)
  (hN:X.N[i]?=some y:=by rfl)(hv:uw X.env.scope y:=by first | exact Or.inl rfl | exact Or.inr (Or.inl rfl) | exact Or.inr (Or.inr rfl))(hd:(y==("__debug__":Str))=false:=by decide)(o:(y==("__classdict__":Str))=false:=by decide)
  (hg:Gl X x:=by rfl)(C:(x==("__debug__":Str))=false:=by decide)(he:starEach (.Name y py::es) X.env=(false,eval (.Name y py) X.env)::starEach es X.env:=by rfl)(I:(backTo pos (starEach es X.env)).any (·.1)=false:=by rfl):
  DE X (.Call (.Name x p) (.Name y py::es) [] pos) (do let _<- dv i;oH i n mf fs):=let⟨⟨_,_,F,m,c,b⟩⟩:=G;xq i F J m c b U hN hv hd o hg C he I
end
section
variable {P:Program} {w:World} {K:PySem.W.Frag} {mg:Str->Option Value} {base:Heap} {CX:yM} {j k:Nat} {x:Str} {ps N:List Str} {sp:Sp} {st:Stmt}
theorem Kn.u (G:Kn P w K mg base CX j x ps sp) (h:j ≤ k:=by decide):Kn P w K mg base CX k x ps sp:=G.up h
theorem Kz {P:List Value->Prop} (h:P []) (us:List Value) (e:us.length=0):P us:=by cases us with | nil=>exact h | cons=>cases e
theorem tN {P:List Value->Prop} {n:Nat} (h:∀a us,us.length=n->P (a :: us)) (us:List Value) (e:us.length=n + 1):P us:=by cases us with | nil=>cases e | cons a r=>exact h a r (Nat.succ.inj e)
theorem cJ {h:Heap} (X:K.In h) (G:h.Ns mainGlobals mg) (e:Fh K x st) (hb:∀(kV doc pm:Value) (an:Option Addr) (cdv ct:Value) (us:List Value),us.length=ps.length->bindArgs (PySem.W.fnOf x x (eC st) (bT st) (aZ st) .none kV doc pm an cdv ct) ⟨us,[]⟩=pure (ps.zip us):= by
  intro _ _ _ _ _ _
  first
  | exact Kz rfl
  | exact tN fun _=>Kz rfl
  | exact tN fun _=>tN fun _=>Kz rfl
  | exact tN fun _=>tN fun _=>tN fun _=>Kz rfl
  | exact tN fun _=>tN fun _=>tN fun _=>tN fun _=>Kz rfl
  | exact tN fun _=>tN fun _=>tN fun _=>tN fun _=>tN fun _=>Kz rfl):Ent K mg x ps st:=ent X G e hb
noncomputable abbrev Bd (P:Program) (w:World) (K:PySem.W.Frag) (mg:Str->Option Value) (base:Heap) (k:Nat) (N:List Str) (x:Str) (st:Stmt) (body:M Fl):Prop :=
 N.Nodup->∀(f:Addr) (cdv:Value) (A:Around) (outer:List Env) (s:Shared) (H:Hp) (E:XK),cb k (A.deeper (PyProof.Rows.envOfC x (aZ st) s.heap.objs.size f cdv))->l9 (fP dQ P w K mg base N x (aZ st) f cdv A outer s H E).nox (bT st) body
theorem Ow {body:M Fl} (E:Ent K mg x ps st) (hb:Bd P w K mg base k N x st body) (S:cz N ps (aZ st):=by exact ⟨rfl,rfl,rfl,by decide +kernel,rfl,by decide +kernel,by decide +kernel⟩):Kn P w K mg base dQ (k + 1) x ps (mE ps.length (bP N body)):=Ph E S (hb S.nd)
end
noncomputable abbrev Zq:=Shared × Hp × List Addr × List (Addr × Obj)
noncomputable abbrev bk (X:Cx) (N' own:List Str) (scope:Scope) (z:Zq):Cx:=blk X N' own scope z.1 z.2.1 z.2.2.1 z.2.2.2
structure Cp (X:Cx) (elt tg iter:Expr) (ifs:List Expr) (scope:Scope) (N' own:List Str) (lo n:Nat) (fi:M iW) (gt:D->M Unit) (tt:M Bool) (te:M D):Prop where
 hn:own.length=n
 hi:DC X tg iter fi
 hg:∀z,DG (bk X N' own scope z) lo tg gt
 ht:∀z,pg (bk X N' own scope z) ifs (pJ tt)
 he:∀z,DE (bk X N' own scope z) elt te
 hS:cT N' own X.env.scope scope=true
 hM:cQ X.N N' scope=true
 hk:scope.kind=.function
 hc:X.calm=true
 hs:∀x,foldedSetIterable iter X.env x=pure x
section
variable {X:Cx} {elt tg iter t:Expr} {ifs:List Expr} {scope:Scope} {fi:M iW} {gt:D->M Unit} {tt:M Bool} {te:M D} {pos p:Pos}
theorem Nu (N' own:List Str) (lo:Nat) {n:Nat} (hi:DC X tg iter fi) (hg:(N' ++ own).Nodup->∀z,DG (bk X N' own scope z) lo tg gt) (ht:∀z,pg (bk X N' own scope z) ifs (pJ tt)) (he:∀z,DE (bk X N' own scope z) elt te) (nd:(N' ++ own).Nodup:=by decide +kernel) (hn:own.length=n:=by rfl)
  (hS:cT N' own X.env.scope scope=true:=by rfl) (hM:cQ X.N N' scope=true:=by rfl) (hk:scope.kind=.function:=by rfl) (hc:X.calm=true:=by rfl) (hs:∀x,foldedSetIterable iter X.env x=pure x:=by intro _;rfl):Cp X elt tg iter ifs scope N' own lo n fi gt tt te:=⟨hn,hi,hg nd,ht,he,hS,hM,hk,hc,hs⟩
theorem oo (N':List Str) (x:Str) (lo:Nat) (hi:DC X (.Name x p) iter fi) (ht:∀z,DT (bk X N' [x] scope z) t tt) (he:∀z,DE (bk X N' [x] scope z) elt te) (nd:(N' ++ [x]).Nodup:=by decide +kernel) (h1:(N' ++ [x])[lo]? = some x:=by rfl) (h2:∀z,Loc (bk X N' [x] scope z).env.scope x:=by intro _;first | exact Or.inl rfl | exact Or.inr rfl)
  (h3:∀z,(bk X N' [x] scope z).fn x=true ∨ (bk X N' [x] scope z).env.scope.names.lookup x=some .local:=by intro _;first | exact .inl rfl | exact .inr rfl)
  (hS:cT N' [x] X.env.scope scope=true:=by rfl) (hM:cQ X.N N' scope=true:=by rfl) (hk:scope.kind=.function:=by rfl) (hc:X.calm=true:=by rfl) (hs:∀x,foldedSetIterable iter X.env x=pure x:=by intro _;rfl):Cp X elt (.Name x p) iter [t] scope N' [x] lo 1 fi (ji lo) tt te :=
 ⟨rfl,hi,fun z=>bG lo nd (wF _) h1 (h2 z) (h3 z),fun z=>wb (ht z),he,hS,hM,hk,hc,hs⟩
theorem sF (N':List Str) (x:Str) (lo:Nat) (hi:DC X (.Name x p) iter fi) (he:∀z,DE (bk X N' [x] scope z) elt te) (nd:(N' ++ [x]).Nodup:=by decide +kernel) (h1:(N' ++ [x])[lo]? = some x:=by rfl) (h2:∀z,Loc (bk X N' [x] scope z).env.scope x:=by intro _;first | exact Or.inl rfl | exact Or.inr rfl)
  (h3:∀z,(bk X N' [x] scope z).fn x=true ∨ (bk X N' [x] scope z).env.scope.names.lookup x=some .local:=by intro _;first | exact .inl rfl | exact .inr rfl)
  (hS:cT N' [x] X.env.scope scope=true:=by rfl) (hM:cQ X.N N' scope=true:=by rfl) (hk:scope.kind=.function:=by rfl) (hc:X.calm=true:=by rfl) (hs:∀x,foldedSetIterable iter X.env x=pure x:=by intro _;rfl):Cp X elt (.Name x p) iter [] scope N' [x] lo 1 fi (ji lo) (pure true) te :=
 ⟨rfl,hi,fun z=>bG lo nd (wF _) h1 (h2 z) (h3 z),fun _=>f6,he,hS,hM,hk,hc,hs⟩
variable {N' own:List Str} {lo n:Nat}
theorem b9 (c:Cp X elt tg iter ifs scope N' own lo n fi gt tt te):DF X (.ListComp elt [⟨tg,iter,ifs,0⟩] scope pos) (gG lo n fi (gS gt tt te)):= by
 obtain ⟨rfl,hi,hg,ht,he,hS,hM,hk,hc,hs⟩:=c
 exact FL hi (fun s H fp pins=>hg (s,H,fp,pins)) (fun s H fp pins=>ht (s,H,fp,pins)) (fun s H fp pins=>he (s,H,fp,pins)) hS hM hk hc hs
theorem k5 (i:Nat) {x:Str} {pos'' pos1:Pos} (hN:X.N.Nodup) (c:Cp X elt tg iter ifs scope N' own lo n fi gt tt te) (hx0:X.N[i]? = some x:=by rfl) (hx:X.env.scope.names.lookup x=some .local:=by rfl)
  (hsw:swapsWith (.ListComp elt [⟨tg,iter,ifs,0⟩] scope pos) (some (.Name x pos'')) pos1.line X.env=pure true:=by rfl) :
  mr X (.Assign [.Name x pos''] (.ListComp elt [⟨tg,iter,ifs,0⟩] scope pos) pos1) (q5 i (do let xs <- gG lo n fi (gS gt tt te);pure (.lst xs))):= by
 obtain ⟨rfl,hi,hg,ht,he,hS,hM,hk,hc,hs⟩:=c
 exact Ah i hN hi (fun s H fp pins=>hg (s,H,fp,pins)) (fun s H fp pins=>ht (s,H,fp,pins)) (fun s H fp pins=>he (s,H,fp,pins)) hx0 hx hsw hS hM hk hc hs
end
structure Cw where
 P:Program
 w:World
 K:PySem.W.Frag
 mg:Str->Option Value
 base:Heap
noncomputable abbrev HP (n:Nat) (x:Str) (N:List Str) (b:M Fl) (c:Cw) (k:Nat):Prop:=Kn c.P c.w c.K c.mg c.base dQ k x (N.take n) (mE n (bP N b))
noncomputable abbrev HF (n:Nat) (x:Str) (N:List Str) (b:M Fl) (c:Cw) (k:Nat):Prop:=Kn c.P c.w c.K c.mg c.base dQ k x (N.take n) (Ky n (ip N b))
noncomputable abbrev HB (n:Nat) (x:Str) (N:List Str) (b:M Fl) (c:Cw) (k:Nat):Prop:=Kn c.P c.w c.K c.mg c.base dQ k x (N.take n) (KA n (jq N b))
structure Pk {α:Type} (H:Nat->Str->List Str->α->Cw->Nat->Prop) (n:Nat) (x:Str) (N:List Str) (st:Stmt) (φ:Cw->Nat->Prop->Prop) where
 m:α
 h:∀{c:Cw} {k:Nat},Ent c.K c.mg x (N.take n) st->φ c k (H n x N m c (k + 1))
noncomputable abbrev Pk.H {α:Type} {H:Nat->Str->List Str->α->Cw->Nat->Prop} {n:Nat} {x:Str} {N:List Str} {st:Stmt} {φ:Cw->Nat->Prop->Prop} (p:Pk H n x N st φ):Cw->Nat->Prop:=H n x N p.m
structure Pz (N:List Str) (st:Stmt) (φ:Cw->Nat->Prop->Prop) where
 m:M Fl
 h:∀{c:Cw} {k:Nat} {f:Addr} {cdv:Value} {A:Around} {outer:List Env} {s:Shared} {H:Hp} {E:XK},cb k (A.deeper (PyProof.Rows.envOfC "law" (aZ st) s.heap.objs.size f cdv))->φ c k (l9 (fP dQ c.P c.w c.K c.mg c.base N "law" (aZ st) f cdv A outer s H E).nox (bT st) m)
section
variable {P:Program} {w:World} {K:PySem.W.Frag} {mg:Str->Option Value} {base:Heap} {k:Nat} {x:Str} {ps N:List Str} {st:Stmt}
theorem kP {body:M Fl} (E:Ent K mg x ps st) (hb:∀{f:Addr} {cdv:Value} {A:Around} {outer:List Env} {s:Shared} {H:Hp} {E:XK},N.Nodup->cb k (A.deeper (PyProof.Rows.envOfC x (aZ st) s.heap.objs.size f cdv))->l9 (fP dQ P w K mg base N x (aZ st) f cdv A outer s H E).nox (bT st) body) (S:cz N ps (aZ st):=by exact ⟨rfl,rfl,rfl,by decide +kernel,rfl,by decide +kernel,by decide +kernel⟩):Kn P w K mg base dQ (k + 1) x ps (mE ps.length (bP N body)):=Ph E S fun _ _ _ _ _ _ _ r=>hb S.nd r
theorem kF {body:M Fl} (E:Ent K mg x ps st) (hb:∀{f:Addr} {cdv:Value} {A:Around} {outer:List Env} {s:Shared} {H:Hp} {E:XK},N.Nodup->cb k (A.deeper (PyProof.Rows.envOfC x (aZ st) s.heap.objs.size f cdv))->l9 (fP dQ P w K mg base N x (aZ st) f cdv A outer s H E).nox (bT st) body) (S:cz N ps (aZ st):=by exact ⟨rfl,rfl,rfl,by decide +kernel,rfl,by decide +kernel,by decide +kernel⟩):Kn P w K mg base dQ (k + 1) x ps (Ky ps.length (ip N body)):=P9 E S fun _ _ _ _ _ _ _ r=>hb S.nd r
theorem kB {body:M Fl} (E:Ent K mg x ps st) (hb:∀{f:Addr} {cdv:Value} {A:Around} {outer:List Env} {s:Shared} {H:Hp} {E:XK},N.Nodup->cb k (A.deeper (PyProof.Rows.envOfC x (aZ st) s.heap.objs.size f cdv))->l9 (fP dQ P w K mg base N x (aZ st) f cdv A outer s H E).nox (bT st) body) (S:cz N ps (aZ st):=by exact ⟨rfl,rfl,rfl,by decide +kernel,rfl,by decide +kernel,by decide +kernel⟩):Kn P w K mg base dQ (k + 1) x ps (KA ps.length (jq N body)):=PX E S fun _ _ _ _ _ _ _ r=>hb S.nd r
end
noncomputable def o3(d:D):Option D:=if ox d=true then some d else none
noncomputable def nX(n:Nat)(mf:List D->Option D)(ds:List D):Option D:=if ds.length=n then(mf ds).bind o3 else none
section
variable {X:Cx} {a:Expr} {fs:M (List D)} {pos p:Pos} {es:List Expr} {x:Str} {k:Nat} {f:Addr} {fd:FuncData} {ps:List Str}
theorem xt{n:Nat}(F:dG X.prog X.w X.K X.mg X.base dQ k f fd ps (mE n mf))(hr:cb k X.A)(hm:X.mg x=some (.ref f))(hk:PySem.W.keepIn X.K (.ref f)=true)(hb:Binds X.K fd ps [])(ha:Jx X (a::es) fs)
  (hg:Gl X x:=by rfl)(J:(x==("__debug__":Str))=false:=by decide)(he:starEach (a::es) X.env=(false,eval a X.env)::starEach es X.env:=by rfl)(U:(backTo pos (starEach es X.env)).any (·.1)=false:=by rfl):
  DE X (.Call (.Name x p) (a::es) [] pos) (mC (nX n mf) fs):=cC (i4 F hr hg hm hk hb .nil qA ha J he U) λ σ H Q ⟨c,δ,S,T,d,ab,s,e,k⟩=>by
 obtain⟨ds,aa,e1,e⟩:=bind_some e;obtain⟨C,rfl⟩:=bc e;refine⟨c,δ,S,T,ds,aa,s,e1,λ vs H1 s1 rs=>?_⟩;unfold nX at C;split at C;. rename_i hn;cases q:mf ds with
  |none=>rw[q]at C;cases C
  |some d0=>
   rw[q]at C;have I:o3 d0=some d:=C;unfold o3 at I;split at I
   .rename_i hf;cases I
    rw[ZA];refine⟨rs.length.trans hn,λ _=>none,ds,d,(λ a o z=>nomatch z),rs.mono λ b o h=>cN.mpr ⟨(λ⟨_,z⟩=>nomatch z),h⟩,q,λ v H' g r=>k v H' ?_⟩;have s2:=s1.grow g
    refine s2.stk (.cons (yy (λ b us I=>?_) hf r) s2.st);obtain⟨h1,h2⟩:=cN.mp I;refine cN.mpr ⟨λ z=>?_,h2⟩
    obtain⟨o,ho⟩:=s1.hdSome z;have:=g b _ ho;rw[h2]at this;cases this;exact J6 (L:=[]) s1 ⟨z,by simp⟩ ho
   .cases I
 grind
theorem uC{n:Nat}(G:Kn X.prog X.w X.K X.mg X.base dQ k x ps (mE n mf))(I:cb k X.A)(J:Jx X (a::es) fs)
  (hg:Gl X x:=by rfl)(U:(x==("__debug__":Str))=false:=by decide)(he:starEach (a::es) X.env=(false,eval a X.env)::starEach es X.env:=by rfl)(ab:(backTo pos (starEach es X.env)).any (·.1)=false:=by rfl):
  DE X (.Call (.Name x p) (a::es) [] pos) (mC (nX n mf) fs):=by obtain⟨f,fd,F,hm,hk,hb⟩:=G;exact xt F I hm hk hb J hg U he ab
end
end Jt
namespace L2
open PySem
noncomputable def La(h:Heap)(d:Addr):Prop:=∃o es,h.get? d=some o/\o.data= .dict es es.size
theorem La.of (h1:h.get? d=some o) (h2:o.data=.dict es n) (h3:n=es.size):La h d:=⟨o,es,h1,h3 ▸ h2⟩
section
variable {prog:Program} {w:World} {K:Type} [DecidableEq K] {knd:HeapKind prog w K} {A:Around} {E:Value->Shared->Prop} {s:Shared}
theorem tK{d a:Addr}{xs:List (K×Addr×Value)}{k:K}{v:Value}{Q:Unit->Shared->Prop}(hu:knd.room A)(C:knd.is s.heap k a)(hm:s.heap.DictOfH knd d xs)(ae:La s.heap d)
  (hQ:∀h',h'.DictOfH knd d (storedH xs k a v)->La h' d->Heap.SameBut d s.heap h'->Q () { s with heap:=h',toks:=s.toks+knd.draws k })
  (hsz:xs.length<=sizeLine:=by size_fits):
  wpAny (model prog w) A (dictSet d (.ref a) v) Q E s:=by
 obtain⟨o,es,ep,I,hc,hd,he,U,hn⟩:=hm;obtain⟨o2,af,aa,hd2⟩:=ae;rw[I]at aa;cases aa;rw[hd]at hd2;cases hd2;unfold dictSet;try with_reducible refine QZ ?_
 refine zN (knd.pyHash hu C ?_);unfold dictSetHashed;try with_reducible refine QZ ?_
 refine zN (wpAny_dictFind_heap (s:={ s with toks:=s.toks+knd.draws k }) hu C I hd he U hn ?_ ?_)
 .intro J;have ab:k∉xs.map (·.1):=not_mem_keys_of_get J;refine zN (YF (wpAny_updateDictKeys (hz:=by have e:=size_of_entries he;omega) (s:={ s with toks:=s.toks+knd.draws k }) I hd (hQ _ ⟨_,_,es.size+1,ZJ _ I (WJ (Y8 hd _)),
   hc.mapDictKeys _,Y8 hd _,?_,?_,?_⟩ (.of (ZJ _ I (WJ (Y8 hd _))) (Y8 hd _) ?_) (QS ..))));. rw[storedH_new (atKey_none_of_get J)];simp[he,entryOfKey]
  .rw[storedH_new (atKey_none_of_get J)];intro x hx;rcases uT.mp hx with hx|hx
   .exact knd.keeps (U x hx) I hd (QS ..)
   .simp[jP]at hx;subst hx;exact knd.keeps C I hd (QS ..)
  .rw[storedH_new (atKey_none_of_get J),VO,Q3];refine⟨hn,by simp,?_⟩;intro x hx y hy;simp at hy;subst hy;exact λ e=>ab (e▸hx)
  simp
 .intro j p hj;refine zN (YF (zN (wpAny_updateDict (s:={ s with toks:=s.toks+knd.draws k }) I hd (wpAny_point (hQ _ ⟨_,_,es.size,ZJ _ I (WJ (XE hd _)),
   hc.mapDict _,XE hd _,?_,?_,?_⟩ (.of (ZJ _ I (WJ (XE hd _))) (XE hd _) ?_) (QS ..))))));. rw[storedH_old (atKey_of_get hn hj)];have:=modify_map_putAt (entryOfKey knd) (λ e:DictEntry=>{ e with val:=v }) k v (λ _ _=>rfl) hn hj;rw[<- he]at this;simpa using this
  .rw[storedH_old (atKey_of_get hn hj)];intro x hx;obtain⟨y,hy,rfl⟩:=gE.mp hx;unfold putAt;split <;> exact knd.keeps (U y hy) I hd (QS ..)
  .rw[storedH_old (atKey_of_get hn hj),keys_map_putAt];exact hn
  .simp
end
end L2
namespace L2
open PySem PySem.Spec PyProof.Rows
section
variable {κ:Type} [DecidableEq κ]
noncomputable def valV (kvs:List (κ × V)) (k:κ):Option V:=(kvs.find? fun kv=>decide (kv.1=k)).map (·.2)
noncomputable def putK (kvs:List (κ × V)) (k:κ) (v:V):List (κ × V) :=
 if (kvs.any fun kv=>decide (kv.1=k))=true then kvs.map (fun kv=>if kv.1=k then (kv.1,v) else kv) else kvs ++ [(k,v)]
theorem valV_pos {p:κ × V} {r:List (κ × V)} {k:κ} (e:p.1=k):valV (p :: r) k=some p.2:=by simp [valV,V1,e]
theorem valV_neg {p:κ × V} {r:List (κ × V)} {k:κ} (e:¬ p.1=k):valV (p :: r) k=valV r k:=by simp [valV,V1,e]
theorem valV_any (k:κ):∀kvs:List (κ × V),(kvs.any fun kv=>decide (kv.1=k))=(valV kvs k).isSome
 | []=>rfl
 | p :: r=>by
  rw [XH]
  by_cases e:p.1=k
  .simp only [valV_pos e,QK e,Bool.true_or,Option.isSome_some]
  .rw [valV_neg e,Z3 e,Bool.false_or];exact valV_any k r
theorem length_putK (kvs:List (κ × V)) (k:κ) (v:V):(putK kvs k v).length ≤ kvs.length + 1:= by
 unfold putK
 split
 .rw [fD];omega
 .rw [fR,gT,ZE];omega
theorem RelO.isSome_eq {o:Option V} {u:Option Value} (r:RelO o u):o.isSome=u.isSome:= by
 cases o with
 | none=>cases u with
  | none=>rfl
  | some _=>exact (show False from r).elim
 | some _=>cases u with
  | none=>exact (show False from r).elim
  | some _=>rfl
theorem KV.val {kvs:List (κ × V)} {vs:List (κ × Value)} (r:KV kvs vs) (k:κ):RelO (valV kvs k) (valueAt vs k):= by
 unfold KV at r
 induction r with
 | nil=>exact True.intro
 | @cons p q ps qs h t ih=>
  obtain ⟨h1,h2⟩:=h
  by_cases e:p.1=k
  .have e':q.1=k:=h1.symm.trans e
   have b:valueAt (q :: qs) k=some q.2:=by simp [valueAt,V1,e']
   rw [valV_pos e,b];exact h2
  .have e':¬ q.1=k:=fun z=>e (h1.trans z)
   have b:valueAt (q :: qs) k=valueAt qs k:=by simp [valueAt,V1,e']
   rw [valV_neg e,b];exact ih
theorem KV.any {kvs:List (κ × V)} {vs:List (κ × Value)} (r:KV kvs vs) (k:κ):(kvs.any fun kv=>decide (kv.1=k))=vs.any fun kv=>decide (kv.1=k):= by
 unfold KV at r
 induction r with
 | nil=>rfl
 | cons h t ih=>rw [XH,XH,ih,h.1]
theorem KV.repl {kvs:List (κ × V)} {vs:List (κ × Value)} (r:KV kvs vs) (k:κ) {y:V} {u:Value} (ry:RelV y u) :
  KV (kvs.map fun kv=>if kv.1=k then (kv.1,y) else kv) (vs.map fun kv=>if kv.1=k then (kv.1,u) else kv):= by
 unfold KV at r ⊢
 induction r with
 | nil=>exact .nil
 | @cons p q ps qs h t ih=>
  rw [QW,QW]
  refine .cons ?_ ih
  obtain ⟨h1,h2⟩:=h
  by_cases e:p.1=k
  .rw [gL e,gL (h1.symm.trans e)];exact ⟨h1,ry⟩
  .rw [QC e,QC (fun z=>e (h1.trans z))];exact ⟨h1,h2⟩
theorem KV.put {kvs:List (κ × V)} {vs:List (κ × Value)} (r:KV kvs vs) (k:κ) {y:V} {u:Value} (ry:RelV y u):KV (putK kvs k y) (stored vs k u):= by
 unfold putK stored
 rw [r.any k]
 by_cases e:(vs.any fun kv=>decide (kv.1=k))=true
 .rw [gL e,gL e];exact r.repl k ry
 .rw [QC e,QC e];exact Paired.snoc r ⟨rfl,ry⟩
theorem KV.length {kvs:List (κ × V)} {vs:List (κ × Value)} (r:KV kvs vs):kvs.length=vs.length:=XG r
end
theorem kV_is {P:Program} {w:World} {k:Key} {u:Value} (r:RelV (kV k) u):(cK P w).is k u=true:= by
 cases k with
 | inl i=>obtain ⟨t,e⟩:=(show ∃t,u=Value.int i t from r);subst e;exact p_ P w i t
 | inr x=>obtain ⟨t,e⟩:=(show ∃t,u=Value.str x t from r);subst e;exact qv P w x t
theorem items_are {P:Program} {w:World}:∀{ks:List Key} {us:List Value},Vals (ks.map kV) us->ItemsAre (cK P w) ks us
 | [],_,r=>by rw [List.map_nil] at r;cases r;exact .nil
 | k :: ks,_,r=>by
  rw [QW] at r
  cases r with
  | cons h t=>exact .cons (kV_is h) (items_are t)
noncomputable abbrev KT (H:Hp):List (List Key × V)->List (List Key × Addr × Value)->Prop:=Paired fun p q=>p.1=q.1∧H q.2.1=some (.tup (p.1.map kV))∧RelV p.2 q.2.2
theorem KT.val {H:Hp} {kvs:List (List Key × V)} {xs:List (List Key × Addr × Value)} (r:KT H kvs xs) (k:List Key):RelO (valV kvs k) ((atKey xs k).map (·.2)):= by
 induction r with
 | nil=>exact True.intro
 | @cons p q ps qs h t ih=>
  obtain ⟨h1,_,h2⟩:=h
  by_cases e:p.1=k
  .have e':q.1=k:=h1.symm.trans e
   have b:atKey (q :: qs) k=some q.2:=by simp [atKey,V1,e']
   rw [valV_pos e,b];exact h2
  .have e':¬ q.1=k:=fun z=>e (h1.trans z)
   have b:atKey (q :: qs) k=atKey qs k:=by simp [atKey,V1,e']
   rw [valV_neg e,b];exact ih
theorem KT.repl {H:Hp} {kvs:List (List Key × V)} {xs:List (List Key × Addr × Value)} (r:KT H kvs xs) (k:List Key) {y:V} {u:Value} (ry:RelV y u) :
  KT H (kvs.map fun kv=>if kv.1=k then (kv.1,y) else kv) (xs.map (putAt k u)):= by
 induction r with
 | nil=>exact .nil
 | @cons p q ps qs h t ih=>
  rw [QW,QW]
  refine .cons ?_ ih
  obtain ⟨h1,h2,h3⟩:=h
  unfold putAt
  by_cases e:p.1=k
  .rw [gL e,gL (h1.symm.trans e)];exact ⟨h1,h2,ry⟩
  .rw [QC e,QC (fun z=>e (h1.trans z))];exact ⟨h1,h2,h3⟩
theorem KT.put {H:Hp} {kvs:List (List Key × V)} {xs:List (List Key × Addr × Value)} (r:KT H kvs xs) (k:List Key) {b:Addr} {y:V} {u:Value} (hb:H b=some (.tup (k.map kV))) (ry:RelV y u) :
  KT H (putK kvs k y) (storedH xs k b u):= by
 have e:(kvs.any fun kv=>decide (kv.1=k))=(atKey xs k).isSome:= by
  rw [valV_any,(r.val k).isSome_eq,Option.isSome_map]
 unfold putK storedH
 rw [e]
 by_cases q:(atKey xs k).isSome=true
 .rw [gL q,gL q];exact r.repl k ry
 .rw [QC q,QC q];exact Paired.snoc r ⟨rfl,hb,ry⟩
theorem KT.keeps {H H':Hp} {kvs:List (List Key × V)} {xs:List (List Key × Addr × Value)} (r:KT H kvs xs) (ht:∀b ys,H b=some (.tup ys)->H' b=some (.tup ys)):KT H' kvs xs :=
 Paired.mapP r fun _ _ z=>⟨z.1,ht _ _ z.2.1,z.2.2⟩
section
variable {P:Program} {w:World} {H:Hp} {h:Heap} {a:Addr}
theorem rd_of {u:HO} (ok:iG P w H h) (e:Rd H a u):cg P w H h a u:=e.ok ok
theorem dk_rd {kvs:List (Key × V)} (ok:iG P w H h) (e:Rd H a (.dK kvs)):kvs.length ≤ sizeLine∧(a == sysModules)=false∧∃vs,KV kvs vs∧h.DictOf (cK P w) a vs :=
 show cg P w H h a (.dK kvs) from rd_of ok e
theorem dk_of {kvs:List (Key × V)} (ok:iG P w H h) (e:H a=some (.dK kvs)):kvs.length ≤ sizeLine∧(a == sysModules)=false∧∃vs,KV kvs vs∧h.DictOf (cK P w) a vs:=dk_rd ok (.inl e)
theorem key_of {ks:List Key} (ok:iG P w H h) (e:H a=some (.tup (ks.map kV))):(tupleKind (cK P w)).is h ks a:= by
 obtain ⟨_,its,r,⟨o,h1,h2,n,h3⟩,_⟩:=(show cg P w H h a (.tup (ks.map kV)) from ok a _ e)
 exact ⟨o,its.toArray,n,h1,h2,h3,by simpa using items_are r⟩
theorem dt_rd {kvs:List (List Key × V)} (ok:iG P w H h) (e:Rd H a (.dT kvs)):kvs.length ≤ sizeLine∧(a == sysModules)=false ∧
  ∃xs,KT H kvs xs∧h.DictOfH (tupleKind (cK P w)) a xs:= by
 obtain ⟨z,y,xs,r,o,es,ep,h1,h2,h3,h4,h5⟩:=(show cg P w H h a (.dT kvs) from rd_of ok e)
 refine ⟨z,y,xs,r,o,es,ep,h1,h2,h3,h4,fun x hx=>?_,h5.1⟩
 have all:∀{l:List (List Key × V)} {m:List (List Key × Addr × Value)},KT H l m->∀x ∈ m,(tupleKind (cK P w)).is h x.1 x.2.1:= by
  intro l m q
  induction q with
  | nil=>intro x hx;exact nomatch hx
  | @cons p q ps qs hq t ih=>
   intro x hx
   rcases uS.mp hx with e | hx
   .subst e
    exact key_of ok (by rw [<- hq.1];exact hq.2.1)
   .exact ih x hx
 exact all r x hx
theorem dt_of {kvs:List (List Key × V)} (ok:iG P w H h) (e:H a=some (.dT kvs)):kvs.length ≤ sizeLine∧(a == sysModules)=false ∧
  ∃xs,KT H kvs xs∧h.DictOfH (tupleKind (cK P w)) a xs:=dt_rd ok (.inl e)
end
theorem dt_ep {P:Program} {w:World} {H:Hp} {h:Heap} {a:Addr} {kvs:List (List Key × V)} (ok:iG P w H h) (e:Rd H a (.dT kvs)):La h a:= by
 obtain ⟨z,y,xs,r,o,es,ep,h1,h2,h3,h4,h5,h6⟩:=(show cg P w H h a (.dT kvs) from rd_of ok e)
 exact .of h1 h3 h6
noncomputable def DGet (H:Hp) (a:Addr) (y:V) (r:Option V):Prop :=
 (∃kvs k,Rd H a (.dK kvs)∧y=kV k∧r=valV kvs k) ∨ ∃kvs k b,Rd H a (.dT kvs)∧y=.ref b∧H b=some (.tup (k.map kV))∧r=valV kvs k
noncomputable def DPut (H:Hp) (a:Addr) (y v:V) (H':Hp):Prop :=
 (∃kvs k,H a=some (.dK kvs)∧y=kV k∧kvs.length < sizeLine∧H' = upd H a (.dK (putK kvs k v))) ∨
 ∃kvs k b,H a=some (.dT kvs)∧y=.ref b∧H b=some (.tup (k.map kV))∧kvs.length < sizeLine∧H' = upd H a (.dT (putK kvs k v))
theorem DGet.k {H:Hp} {a:Addr} {kvs:List (Key × V)} {k:Key} (e:H a=some (.dK kvs)):DGet H a (kV k) (valV kvs k):=.inl ⟨kvs,k,.inl e,rfl,rfl⟩
theorem DGet.t {H:Hp} {a b:Addr} {kvs:List (List Key × V)} {k:List Key} (e:H a=some (.dT kvs)) (eb:H b=some (.tup (k.map kV))):DGet H a (.ref b) (valV kvs k):=.inr ⟨kvs,k,b,.inl e,rfl,eb,rfl⟩
theorem DPut.k {H:Hp} {a:Addr} {kvs:List (Key × V)} {k:Key} {v:V} (e:H a=some (.dK kvs)) (hl:kvs.length < sizeLine):DPut H a (kV k) v (upd H a (.dK (putK kvs k v))):=.inl ⟨kvs,k,e,rfl,hl,rfl⟩
theorem DPut.t {H:Hp} {a b:Addr} {kvs:List (List Key × V)} {k:List Key} {v:V} (e:H a=some (.dT kvs)) (eb:H b=some (.tup (k.map kV))) (hl:kvs.length < sizeLine) :
  DPut H a (.ref b) v (upd H a (.dT (putK kvs k v))):=.inr ⟨kvs,k,b,e,rfl,eb,hl,rfl⟩
section
variable {X:Cx} {pins:List (Addr × Obj)} {σ:St} {H:Hp} {s:Shared} {a:Addr} {y v:V} {u:Value} {o:Option V} {A:Around} {E:Value->Shared->Prop}
theorem Inv.big (I:Inv X pins σ H s):sysModules < s.heap.objs.size:= by
 have h:mainGlobals < s.heap.objs.size:=(I.mod.glob.keeps I.bk).lt
 exact Nat.lt_trans (by decide) h
theorem d_getItem {Q:Value->Shared->Prop} (hu:A.units + 1 < cLine) (I:Inv X pins σ H s) (g:DGet H a y (some v)) (ry:RelV y u) (h:∀w' s',Inv X pins σ H s' -> RelV v w' -> Q w' s') :
  wpAny (model X.prog X.w) A (getItem (.ref a) u) Q E s:= by
 rcases g with ⟨kvs,k,e,ey,l⟩ | ⟨kvs,k,b,e,ey,eb,l⟩
 .subst ey
  obtain ⟨z,hd,vs,rel,dd⟩:=dk_rd I.hok e
  obtain ⟨w',hw,rw'⟩:=RelO.some_of (v:=v) (o:=valueAt vs k) (by rw [l];exact rel.val k)
  exact wpAny_getItem_of (kV_is ry) dd.mapOf hw (h w' _ (I.tok _) rw')
 .subst ey
  cases (show u=Value.ref b from ry)
  obtain ⟨z,hd,xs,rel,dd⟩:=dt_rd I.hok e
  obtain ⟨w',hw,rw'⟩:=RelO.some_of (v:=v) (o:=(atKey xs k).map (·.2)) (by rw [l];exact rel.val k)
  obtain ⟨p,hp,hp2⟩:=Option.map_eq_some_iff.mp hw
  refine wpAny_getItem_heap (tupleKind_room_in1 hu) (key_of I.hok eb) dd hp ?_
  rw [hp2]
  exact h w' _ (I.tok _) rw'
theorem d_write {h':Heap} {t':Nat} {ob:HO} (I:Inv X pins σ H s) (mu:MN (H a)) (hs:Heap.SameBut a s.heap h') (he:∃q,h'.get? a=some q) (new:cg X.prog X.w (upd H a ob) h' a ob) :
  Inv X pins σ (upd H a ob) { s with heap:=h',toks:=t' } :=
 I.write (x:=a) (e:=a) mu (.inl rfl) (fun b q hb z=>(hs.2 b hb).trans z) he new
theorem dk_new {P:Program} {w:World} {H':Hp} {h':Heap} {kvs:List (Key × V)} {vs:List (Key × Value)} (z:kvs.length ≤ sizeLine) (hd:(a == sysModules)=false) (rel:KV kvs vs) (dd:h'.DictOf (cK P w) a vs) :
  cg P w H' h' a (.dK kvs):=⟨z,hd,vs,rel,dd⟩
end
theorem dict_typeIs {X:Cx} {pins:List (Addr × Obj)} {σ:St} {H:Hp} {s:Shared} {a:Addr} {y:V} {o:Option V} (I:Inv X pins σ H s) (g:DGet H a y o):s.TypeIs (.ref a) "dict":= by
 rcases g with ⟨kvs,k,e,_,_⟩ | ⟨kvs,k,b,e,_,_,_⟩
 .obtain ⟨_,_,vs,_,dd⟩:=dk_rd I.hok e
  exact dd.typeIs
 .obtain ⟨_,_,xs,_,dd⟩:=dt_rd I.hok e
  exact dd.typeIs
theorem dk_empty {P:Program} {w:World} {H:Hp} (h:Heap) (hb:sysModules < h.objs.size):cg P w H (h.push { cls:=.type "dict",data:=.dict #[] }) h.objs.size (.dK []) :=
 ⟨QV _,V3.mpr (Ne.symm (QB hb)),[],.nil,Heap.DictOf.new h⟩
theorem dt_empty {P:Program} {w:World} {H:Hp} (h:Heap) (hb:sysModules < h.objs.size):cg P w H (h.push { cls:=.type "dict",data:=.dict #[] }) h.objs.size (.dT []) :=
 ⟨QV _,V3.mpr (Ne.symm (QB hb)),[],.nil,_,#[],0,wL _ rfl,⟨rfl,rfl,rfl⟩,rfl,rfl,YN,rfl⟩
structure M1 (X:Cx) (o:Expr) (m:Str) (apos:Pos) (e:Expr) (cpos:Pos):Prop where
 base:attributeBase o m X.env (eval o X.env)=eval o X.env
 few:((backTo cpos (starEach [e] X.env)).all (fun x=>!x.1) && (backToKw cpos (keywordEach [] X.env)).all (fun x=>x.1.isSome)
  && decide (([e]:List Expr).length + ([]:List Keyword).length + (if ([]:List Keyword).isEmpty then 0 else 1) < 30))=true
 line:(apos.endLine == cpos.line)=true
 trees:backTo cpos (starEach [e] X.env)=[(false,eval e X.env)]
theorem mz{kx vx target iter:Expr}{ifs:List Expr}{scope:Scope}{pos:Pos}{it:Value}{D:Addr}{env:Env}(I:Nat->Shared->Prop)
  (turn:∀n s,I n s->wpAny (model prog w) A (pyNext it) (λ r s1=>match r with
   |none=>R (.ok .next) s1
   |some v=>wpAny (model prog w) A (letOwnedTupleGo target it v) (λ _ s2=>wpAny (model prog w) A (assign target env v) (λ _ s3=>
     wpAny (model prog w) A (forIn ifs true λ c r=>if r=true then do let ok<- isTrue c env (eval c env);pure (ForInStep.yield ok)else pure (ForInStep.yield r)) (λ ok s4=>
      if ok=true then wpAny (model prog w) A (eval kx env) (λ y s5=>wpAny (model prog w) A (eval vx env) (λ x s6=>
       wpAny (model prog w) A (dictSet D y x) (λ _ s7=>∃m,m<n/\I m s7) (λ _ _=>False) s6) (λ _ _=>False) s5) (λ _ _=>False) s4
      else∃m,m<n/\I m s4) (λ _ _=>False) s3) (λ _ _=>False) s2) (λ _ _=>False) s1) (λ _ _=>False) s)
  (n:Nat)(h:I n s):
  codeAny (model prog w) A (.compLoop (.DictComp kx vx [⟨target,iter,ifs,0⟩] scope pos) 0 it (.ref D) env) R s:=by refine codeAny_loop rfl I (λ n s hI=>?_) n h;show wpAny _ A ((compTurn (.DictComp kx vx [⟨target,iter,ifs,0⟩] scope pos) 0 it (.ref D) env).onRaise (λ x=>do noteFrame x env;theTreesLotGoes x)) _ _ s;refine wpAny_noted ?_;rw[compTurn_dict];refine zN (Z7 (zN (QE (turn n s hI) (λ r af o=>?_) λ _ _ h'=>h'.elim)));cases r with
 |none=>exact kT o
 |some v=>refine zN (QE o (λ _ ag J=>?_) λ _ _ h'=>h'.elim);refine zN (QE J (λ _ ah U=>zN (QE U (λ ok ai C=>?_) λ _ _ h'=>h'.elim)) λ _ _ h'=>h'.elim);cases ok with
  |false=>exact kT ⟨rfl,C⟩
  |true=>exact zN (zN (QE C (λ y aj aa=>zN (QZ (QE aa (λ x ak ab=>zN (Z7 (QZ (QE ab (λ _ ao ae=>kT ⟨rfl,ae⟩) λ _ _ h'=>h'.elim)))) λ _ _ h'=>h'.elim))) λ _ _ h'=>h'.elim))
section
variable {X:Cx} {pins:List (Addr × Obj)} {σ:St} {H:Hp} {s:Shared} {a:Addr} {y v:V} {u r:Value} {A:Around} {E:Value->Shared->Prop}
theorem nG(hu:A.units<cLine)(I:Inv X pins σ H s)(g:DPut H a y v H')(ry:RelV y u)(rv:RelV v r)(h:∀s',Inv X pins σ H' s'->Q () s'):
  wpAny (model X.prog X.w) A (dictSet a u r) Q E s:=by
 rcases g with⟨kvs,k,e,U,l,eH⟩|⟨kvs,k,b,e,U,eb,l,eH⟩
 .subst U eH;obtain⟨z,hd,vs,rel,dd⟩:=dk_of I.hok e;have hz:vs.length<=sizeLine:=by rw[<- rel.length];exact z
  have hl:(putK kvs k v).length<=sizeLine:=by have:=length_putK kvs k v;omega
  refine wpAny_dictSet_pairs (kV_is ry) dd (λ h' o hs=>h _ ?_) hz;have he:∃q,h'.get? a=some q:=let⟨q,_,_,C,_⟩:=o;⟨q,C⟩;exact d_write I (by rw[e];exact True.intro) hs he (dk_new hl hd (rel.put k rv) o)
 .subst U eH;cases(show u=Value.ref b from ry);obtain⟨z,hd,xs,rel,dd⟩:=dt_of I.hok e;have hz:xs.length<=sizeLine:=by rw[<- XG rel];exact z
  have hl:(putK kvs k v).length<=sizeLine:=by have:=length_putK kvs k v;omega
  refine tK (knd:=tupleKind (cK X.prog X.w)) hu (key_of I.hok eb) dd (dt_ep I.hok (.inl e)) (λ h' o de hs=>h _ ?_) hz;obtain⟨q,es,ep,C,h2,h3,h4,_,h5⟩:=o;obtain⟨q2,aa,J,h6⟩:=de;rw[C]at J;cases J;rw[h3]at h6;cases h6;refine d_write I (by rw[e];exact True.intro) hs ⟨q,C⟩ ⟨hl,hd,_,(rel.put k eb rv).keeps λ c ys ec=>?_,q,es,_,C,h2,h3,h4,h5,rfl⟩;rw[aY (MF ec e (λ z=>nomatch z))];omega
end
noncomputable def tJ(wi:TI)(own:Nat)(g:TG)(tt:TT)(tk tv:TE):TE:= λ σ H Q=>wi σ H λ J H1=>∀l,H1 l=none->∃o0:HO,(o0= .dK []\/o0= .dT [])/\∃W:Nat->Nat->Hp->Prop,(∃m,W 0 m (upd H1 l o0))/\∀i m H,W i m H->
 ((J.stop i H/\Q (.ref l) H)\/(J.go i H/\∀x H',J.yld i H x H'->g x (σ++List.replicate own none) H' λ o H2=>o.take σ.length=σ/\tt o H2 λ b I=>
  if b=true then tk o I λ y H4=>tv o H4 λ v H5=>∃U,DPut H5 l y v U/\∃C,C<m/\W (i+1) C U
  else∃C,C<m/\W (i+1) C I))
section
variable {X:Cx} {kx vx tg iter:Expr} {ifs:List Expr} {scope:Scope} {pos pos':Pos} {N' own:List Str} {wi:TI} {g:TG} {tt:TT} {tk tv:TE}
theorem z8 {cal:Cx->Prop} (hc:∀s H fp pins,cal (blk X N' own scope s H fp pins)) (hi:Nf cal X tg iter wi) (hk:scope.kind=.function) (hS:cT N' own X.env.scope scope=true) (hM:cQ X.N N' scope=true)
  (hg:∀s H fp pins,PG (blk X N' own scope s H fp pins) tg g) (ht:∀s H fp pins,pg (blk X N' own scope s H fp pins) ifs tt) (he:∀s H fp pins,PE (blk X N' own scope s H fp pins) kx tk) (hv:∀s H fp pins,PE (blk X N' own scope s H fp pins) vx tv) (hu:X.A.units < cLine)
  (hs:∀x,foldedSetIterable iter X.env x=pure x) {use:Option (Value->Sem Unit)} {Q0:Value->Shared->Prop} {pins:List (Addr × Obj)} {s:Shared} {σ:St} {H:Hp} {Q:VK}
  (I:Inv X pins σ H s) (h:tJ wi own.length g tt tk tv σ H Q)
  (fin:∀(l:Addr) (H':Hp) (s':Shared) (C:Addr) (m:Str->Option Value),Inv X pins σ H' s' -> Q (.ref l) H' -> s'.heap.Ns C m->H' C=none->C ≠ X.env.locals->X.s₀.heap.objs.size ≤ C->(∀x c,X.env.cells.lookup x=some c->c ≠ C)->(∀p ∈ X.pn ++ pins,p.1 ≠ C) ->
   compPost (model X.prog X.w) X.A X.xe use Q0 (.ref l) C (.ok .next) s') :
  wpAny (model X.prog X.w) X.A (comprehension (.DictComp kx vx [⟨tg,iter,ifs,0⟩] scope pos) scope X.env pos' newDict false (eval iter X.env) use) Q0 X.xe s:= by
 have S:=hX hS
 have Mk:=ia hM
 refine WS rfl hs (dZ fun n hn=>I.ok.has n (S.free n hn)) hk S.loc (cf (hi pins s σ H _ I h) fun xv s1 h1=>cf h1 fun itv s2 h2=>?_)
 obtain ⟨it,fp,tn,J,H2,e,I2,T,st2,f2,q2⟩:=h2
 subst e
 refine QN ?_
 have hl2:H2 s2.heap.objs.size=none:=I2.fresh
 obtain ⟨o0,ho0,W,⟨m0,w0⟩,turn⟩:=q2 s2.heap.objs.size hl2
 have I3:Inv X pins σ (upd H2 s2.heap.objs.size o0) { s2 with heap:=s2.heap.push { cls:=.type "dict",data:=.dict #[] } }:= by
  rcases ho0 with rfl | rfl
  .exact I2.laid (t':=s2.toks) (fun _ _ q=>zS _ q) (wF _) (dk_empty s2.heap I2.big)
  .exact I2.laid (t':=s2.toks) (fun _ _ q=>zS _ q) (wF _) (dt_empty s2.heap I2.big)
 generalize hl:s2.heap.objs.size=l at *
 have ob2:∀b ∈ fp,b < l:=fun b hb=>by
  obtain ⟨o,e,_⟩:=T.obj _ _ st2 b hb
  rw [<- hl];exact wN e
 have st3:tn 0 (s2.heap.push { cls:=.type "dict",data:=.dict #[] }):=T.keep _ _ _ st2 fun b _ o e=>zS _ e
 have sz3:l < (s2.heap.push { cls:=.type "dict",data:=.dict #[] }).objs.size:=by rw [QM,hl];exact VR _
 have f3:∀b ∈ fp,dz X pins (upd H2 l o0) b:=fun b hb=>⟨by rw [aY (QB (ob2 b hb))];exact (f2 b hb).1,(f2 b hb).2⟩
 generalize hs3:({ s2 with heap:=s2.heap.push { cls:=.type "dict",data:=.dict #[] } }:Shared)=s3 at I3
 have hh3:s3.heap=s2.heap.push { cls:=.type "dict",data:=.dict #[] }:=by rw [<- hs3]
 rw [<- hh3] at st3 sz3
 have ob3:∀b ∈ fp,b < s3.heap.objs.size:=fun b hb=>Nat.lt_trans (ob2 b hb) sz3
 generalize upd H2 l o0=H3 at *
 show wpAny _ _ (newFunctionEnv scope X.env.globals (dg X.env.cells scope.names []) [] X.env.qual none .none (some X.env)) _ _ _
 have goal:wpAny (model X.prog X.w) X.A (newFunctionEnv scope X.env.globals (dg X.env.cells scope.names []) [] X.env.qual none .none (some X.env))
   (fun cenv s₄=>codeAny (model X.prog X.w) X.A (.compStart (.DictComp kx vx [⟨tg,iter,ifs,0⟩] scope pos) 0 (.ref it) (.ref l) { cenv with scope:=relabel scope X.env }) (compPost (model X.prog X.w) X.A X.xe use Q0 (.ref l) cenv.locals) s₄) X.xe s3:= by
  refine gu ?_
  have IY:=I3.blk f3 ob3 hk S Mk
  have keep:=@Inv.blkKeep s3 scope
  have st4:tn 0 (pushCells (s3.heap.push { cls:=.type "dict",data:=.dict #[] }) scope.names):=T.keep _ _ _ st3 fun b _ o e=>keep b o e
  have hcells:=hO I3 S
  have stat:∀{H':Hp},(∀b ∈ fp,H' b=none)->∀b ∈ fp,dz (blk X N' own scope s3 H3 fp pins) [] H' b:=fun hn b hb=>by
   refine ⟨hn b hb,QB (ob3 b hb),fun z=>?_,.inl hb,fun x c h=>?_,fun p hp=>?_⟩
   .rcases uS.mp (I3.stkSub b z) with z | z
    .exact (f3 b hb).2.1 z
    .exact (f3 b hb).2.2.1 z
   .rcases hcells x c h with ⟨_,_,a3,_⟩ | ⟨a1,_,_⟩
    .intro z;subst z;exact absurd (ob3 _ hb) (Y5.mpr (VH a3))
    .exact (f3 b hb).2.2.2.2.1 x c a1
   .have hp':p ∈ X.pn ++ pins:= by
     rcases uT.mp hp with z | z
     .exact z
     .exact nomatch z
    exact (f3 b hb).2.2.2.2.2 p hp'
  have loop:codeAny (model X.prog X.w) X.A (.compLoop (.DictComp kx vx [⟨tg,iter,ifs,0⟩] scope pos) 0 (.ref it) (.ref l) (blk X N' own scope s3 H3 fp pins).env)
    (compPost (model X.prog X.w) X.A X.xe use Q0 (.ref l) s3.heap.objs.size) { s3 with heap:=pushCells (s3.heap.push { cls:=.type "dict",data:=.dict #[] }) scope.names }:= by
   refine mz (fun n s'=>∃i σ' H',Inv (blk X N' own scope s3 H3 fp pins) [] σ' H' s' ∧ σ'.take σ.length=σ∧tn i s'.heap∧(∀b ∈ fp,H' b=none)∧W i n H') ?_ m0
    ⟨0,_,H3,IY,by rw [YB] <;> rfl,st4,fun b hb=>(f3 b hb).1,w0⟩
   rintro n s5 ⟨i,σ5,H5,I5,e5,st5,fr5,w5⟩
   rcases turn i n H5 w5 with ⟨stop,q⟩ | ⟨go,step⟩
   .refine QE (T.done (blk X N' own scope s3 H3 fp pins) rfl rfl rfl (hc _ _ _ _) i [] s5 σ5 H5 (fun _ _=>False) I5 (stat fr5) st5 stop) (fun r s6 hr=>?_) fun _ _ z=>z
    obtain ⟨rfl,I6⟩:=hr
    obtain ⟨m,hn,_⟩:=id I6.loc
    refine fin l H5 s6 _ m (I3.unblk f3 I6) q hn I6.free (VG I3.lt) I3.sz (fun x c e z=>?_) fun p hp z=>?_
    .obtain ⟨v,qc⟩:=I3.cell x c e
     exact absurd qc.lt (by rw [z];exact Q8 _)
    .exact absurd (wN (I3.pin p hp).1) (by rw [z];exact Q8 _)
   .have lenσ:σ5.length=(σ ++ List.replicate own.length (none:Option V)).length:= by
     rw [I5.len,fR,VQ,I.len]
     show (N' ++ own).length=_
     rw [fR,Mk.len]
    have I5':Inv (blk X N' own scope s3 H3 fp pins) [] (σ ++ List.replicate own.length none) H5 s5:=I5.weak lenσ.symm fun j v e=>by
     have hj:j < σ.length:= by
      by_cases hj:j < σ.length
      .exact hj
      .rw [Q2 (by omega),VF] at e
       split at e <;> cases e
     rw [QF hj] at e
     rw [<- e5,QP hj] at e
     exact e
    refine QE (T.item (blk X N' own scope s3 H3 fp pins) rfl rfl rfl (hc _ _ _ _) i [] s5 _ H5 (fun _ _=>False) I5' (stat fr5) st5 go) (fun r s6 hr=>?_) fun _ _ z=>z
    obtain ⟨u,rfl,h6⟩:=hr
    refine cf h6 fun _ s7 ⟨x,H7,I7,r7,y7,st7,fr7⟩=>?_
    have I7':=I7.pinned (stat fr7) (T.obj _ _ st7)
    refine cf (hg s3 H3 fp pins _ s7 _ H7 x u _ I7' r7 (step x H7 y7)) fun _ s8 ⟨σ8,H8,I8,e8,q8⟩=>?_
    refine cf (ht s3 H3 fp pins _ s8 σ8 H8 _ I8 q8) fun b s9 ⟨H9,I9,q9⟩=>?_
    have again:∀{Ha:Hp} {sa:Shared} {m':Nat},Inv (blk X N' own scope s3 H3 fp pins) ([] ++ iP fp s7.heap) σ8 Ha sa->m' < n->W (i + 1) m' Ha ->
      ∃m,m < n∧∃i σ' H',Inv (blk X N' own scope s3 H3 fp pins) [] σ' H' sa∧σ'.take σ.length=σ∧tn i sa.heap∧(∀b ∈ fp,H' b=none)∧W i m H':=fun {Ha sa m'} Ia hm wa=>by
     refine ⟨m',hm,i + 1,σ8,Ha,Ia.unpinned,e8,T.keep _ _ _ st7 fun b hb o e=>(Ia.pin (b,o) (uP _ (uP _ (cG hb e)))).1,fun b hb=>?_,wa⟩
     obtain ⟨o,e,d⟩:=T.obj _ _ st7 b hb
     exact (Ia.pin (b,o) (uP _ (uP _ (cG hb e)))).2.1
    cases b with
    | false=>
     rw [QC fN] at q9 ⊢
     obtain ⟨m',hm,wa⟩:=q9
     exact again I9 hm wa
    | true=>
     rw [gL rfl] at q9 ⊢
     refine cf (he s3 H3 fp pins _ s9 σ8 H9 _ I9 q9) fun y s10 ⟨ky,H10,I10,rk,q10⟩=>?_
     refine cf (hv s3 H3 fp pins _ s10 σ8 H10 _ I10 q10) fun x2 s11 ⟨v,H11,I11,rv,H12,dp,m',hm,wa⟩=>?_
     exact nG (X:=blk X N' own scope s3 H3 fp pins) hu I11 dp rk rv fun s12 I12=>again I12 hm wa
  exact codeAny_compStart_dict loop (T.self _ 0 _ _ _ st4 loop)
 omega
theorem yX(J:PI X tg iter wi)(U:∀s H fp pins,PG (blk X N' own scope s H fp pins) tg g)(ht:∀s H fp pins,pg (blk X N' own scope s H fp pins) ifs tt)(he:∀s H fp pins,PE (blk X N' own scope s H fp pins) kx tk)(hv:∀s H fp pins,PE (blk X N' own scope s H fp pins) vx tv)(hu:X.A.units<cLine)
  (hS:cT N' own X.env.scope scope=true:=by rfl)(hM:cQ X.N N' scope=true:=by rfl)(hk:scope.kind= .function:=by rfl)(hc:X.calm=true:=by rfl)(hs:∀x,foldedSetIterable iter X.env x=pure x:=by intro _;rfl):
  PE X (.DictComp kx vx [⟨tg,iter,ifs,0⟩] scope pos) (tJ wi own.length g tt tk tv):=by
 intro pins s σ H Q I h;have ev:eval (.DictComp kx vx [⟨tg,iter,ifs,0⟩] scope pos) X.env=comprehension (.DictComp kx vx [⟨tg,iter,ifs,0⟩] scope pos) scope X.env (firstIterPos [⟨tg,iter,ifs,0⟩] pos) newDict (firstAsync [⟨tg,iter,ifs,0⟩]) (firstIter [⟨tg,iter,ifs,0⟩] X.env):=by rw[eval]
 rw[ev];refine z8 (use:=none) (cal:= λ X=>X.calm=true) (λ _ _ _ _=>hc) J.g hk hS hM U ht he hv hu hs I h λ l H' s' C m I' q hn h1 h2 h3 h4 h5=>?_;refine⟨m,hn,λ h' sb=>⟨.ref l,H',?_,rfl,q⟩⟩;exact I'.turned (t':=s'.toks) (λ b o hb e=>(sb.2 b hb).trans e) h1 h2 (.inr h3) h4 h5
end
end L2
namespace Jt
open PySem L2 PySem.Spec PyProof.Rows
theorem Sl.unhideO(s:Sl { c with Z:=upd c.Z p o } J S σ T H)(I:c.Z p=none)(hR:∀Hh:Hp,Hh p=some o->R Hh d (.ref p)):Sl c J (d::S) σ (.ref p::T) H:=by
 have U:H p=some o:=s.zz p _ bj;have npow:=s.noOw;have zc:∀a u,c.Z a=some u->upd c.Z p o a=some u:= λ a u h=>by rw[aY λ q=>by rw[q,I]at h;cases h];exact h
 have m:∀b u,fv { c with Z:=upd c.Z p o } J σ H b=some u->fv c J σ H b=some u:=bK (λ a u e z=>by
  rcases z with⟨w,z⟩|z
  .exact .inl ⟨w,zc a w z⟩
  .exact .inr z) λ a u ha e=>e;refine⟨s.len,λ i d e=>?_,λ i b xs e=>?_,s.ne,.cons (hR _ (cN.mpr ⟨λ z=>?_,U⟩)) (s.st.mono m),s.keep,s.bb,λ a u hz=>s.zk a u (zc a u hz),λ i ks e=>?_,s.nd⟩;. obtain⟨v,e,r⟩:=s.pu i d e;exact⟨v,e,r.mono m⟩
 .obtain⟨a,aa,e,h1,h2,h3,h4,h5⟩:=s.ow i b xs e;refine⟨a,aa,e,h1,h2.mono m,h3,h4,?_⟩;have C:upd c.Z p o a=none:=h5;by_cases q:a=p;. rw[q];exact I
  .rwa [aY q]at C
 .rcases z with⟨u,z⟩|z
  .rw[I]at z;cases z
  .exact npow z
 .obtain⟨a,e,h1,h3,h4,h5⟩:=s.od i ks e;refine⟨a,e,h1,h3,h4,?_⟩;have C:upd c.Z p o a=none:=h5;by_cases q:a=p;. rw[q];exact I
  .rwa [aY q]at C
section
variable {X:Cx}
noncomputable def K5:R2:= λ x y H Q=>∃a v,x= .ref a/\DGet H a y (some v)/\Q v H
theorem wD(U:X.A.units+1<cLine):va X K5:=by
 intro value slice pins s σ H x y v u Q I rx ry h hs;obtain⟨a,w,rfl,g,q⟩:=h;cases rx;have hT:=dict_typeIs I g;have h2:wpAny (model X.prog X.w) X.A (getItem (.ref a) u) (EP X pins σ Q) X.xe s:=d_getItem U I g ry λ w' s3 I3 J=>⟨w,H,I3,J,q⟩;refine zN ?_;refine zN (wpAny_specialOf hT PySem.F.slot_dict_getitem.lookup ?_);have fin:wpAny (model X.prog X.w) X.A (subscripted slice false (.ref a) u) (λ r o=>wpAny (model X.prog X.w) X.A (letTemporaryGo value (.ref a) r >>=λ _=>pure r) (EP X pins σ Q) X.xe o) X.xe s:=by rw[hs];exact wpAny_operating (QE h2 (λ r o C=>zN (wpAny_letTemporaryGo (kT C))) λ _ _ x=>x)
 exact kT (zN fin)
theorem y3(h:va X r)(h':va X o):va X (λ x y H Q=>r x y H Q\/o x y H Q):= λ value slice pins s σ H x y v u Q I rx ry q hs=>q.elim (λ q=>h value slice pins s σ H x y v u Q I rx ry q hs) λ q=>h' value slice pins s σ H x y v u Q I rx ry q hs
end
noncomputable def j6(kvs:List (Int×Int))(k:Int):Option Int:=(kvs.find? λ p=>decide (p.1=k)).map (·.2)
noncomputable def lq(kvs:List ((Int×Int)×Int))(a b:Int):Option Int:=(kvs.find? λ p=>decide (p.1=(a,b))).map (·.2)
theorem Ab(k:Int):∀kvs:List (Int×Int),valV (kvs.map λ p=>((.inl p.1,.int p.2):Key×V)) (.inl k)=(j6 kvs k).map V.int
 |[]=>rfl
 |(x,y)::r=>by
  have o:=Ab k r;unfold valV j6 at*;by_cases q:x=k;. simp[q]
  simp_all
theorem AA(a b:Int):∀kvs:List ((Int×Int)×Int),valV (kvs.map λ p=>(([.inl p.1.1,.inl p.1.2],.int p.2):List Key×V)) [.inl a,.inl b]=(lq kvs a b).map V.int
 |[]=>rfl
 |((x,o),y)::r=>by have C:=AA a b r;unfold valV lq at*;grind
noncomputable def iq:D->D->Option D
 | .dic kvs,.int i=>(j6 kvs i).map .int
 | .dip kvs,.tup [.int a,.int b]=>(lq kvs a b).map .int
 |x,y=>j9 x y
section
variable {X:Cx} {a b:Expr} {fa fb:M D} {pos:Pos}
theorem we{K:PySem.W.Frag}:md (λ x y H Q=>OH K x y H Q\/K5 x y H Q) iq:= λ c I S σ T H x y v u d Q s e k=>by
 unfold iq at e;split at e;. rename_i kvs i;cases q:j6 kvs i with
  |none=>rw[q]at e;cases e
  |some w=>rw[q]at e;cases e;obtain⟨p,rfl,C⟩:=s.st.tail.head.dic;have J:=s.st.head.int;subst J;refine .inr ⟨p,.int w,rfl,?_,k _ _ (s.stk (.cons .mkI s.st.tail.tail))⟩;have g:=DGet.k (k:= .inl i) (bB _ _ C);rw[Ab,q]at g;exact g
 .rename_i kvs x y;cases q:lq kvs x y with
  |none=>rw[q]at e;cases e
  |some w=>rw[q]at e;cases e;obtain⟨p,rfl,C⟩:=s.st.tail.head.dip;obtain⟨b,vs,rfl,U,o⟩:=s.st.head.tup;obtain⟨v1,r1,rfl,g1,o⟩:=o.inv;obtain⟨v2,r2,rfl,g2,o⟩:=o.inv;have e3:=o.inv0;subst e3;cases g1.int;cases g2.int;refine .inr ⟨p,.int w,rfl,?_,k _ _ (s.stk (.cons .mkI s.st.tail.tail))⟩;have g:=DGet.t (k:=[.inl x,.inl y]) (bB _ _ C) (bB _ _ U);rw[AA,q]at g;exact g
 .exact .inl (zd c I S σ T H x y v u d Q s e k)
theorem d7(o:cb k X.A)(C:DE X a fa)(I:DE X b fb)(hs:g9 b:=by exact λ _ _=>rfl):DE X (.Subscript a b pos) (m2 iq fa fb):=CB (y3 tp (wD (by have:=gM o;omega))) we C I hs
end
noncomputable def mw(kvs:List (Int×Int))(k v:Int):List (Int×Int):=if(kvs.any λ p=>decide (p.1=k))=true then kvs.map (λ p=>if p.1=k then(p.1,v)else p)else kvs++[(k,v)]
theorem HI(kvs:List (Int×Int))(k v:Int):putK (kvs.map λ p=>((.inl p.1,.int p.2):Key×V)) (.inl k) (.int v)=(mw kvs k v).map λ p=>(.inl p.1,.int p.2):=by
 unfold putK mw;have e:((kvs.map λ p=>((.inl p.1,.int p.2):Key×V)).any λ o=>decide (o.1= .inl k))=kvs.any λ p=>decide (p.1=k):=by rw[XR];refine List.any_congr rfl λ p=>?_;simp
 rw[e];split
 .rw[ZI,ZI];refine ZM λ p _=>?_;by_cases q:p.1=k;. simp[q]
  .simp[q]
 simp
theorem zD(kvs:List (Int×Int))(k v:Int):(mw kvs k v).length<=kvs.length+1:=by
 unfold mw;split;. simp
 simp
noncomputable def qR(gt:D->M Unit)(tt:M Bool)(tk o:M D)(d:D):M (Option (Int×Int)):=do
 gt d
 let b<- tt
 if b=true then do
  let k<- tk
  let v<- o
  match k,v with
  | .int i,.int j=>pure (some (i,j))
  |_,_=>lift none
 else pure none
noncomputable def Gq(acc:List (Int×Int)):Option (Int×Int)->List (Int×Int)
 |none=>acc
 |some (k,v)=>mw acc k v
noncomputable def gU(own:Nat)(turn:D->M (Option (Int×Int)))(fin:DS->Bool):List (DS->Option D)->List (Int×Int)->M (List (Int×Int))
 |[],acc=> λ C=>if fin C=true then some (acc,C)else none
 |a::r,acc=> λ C=>match a C with
  |none=>none
  |some d=>match turn d (C++List.replicate own .un)with
   |none=>none
   |some (o,I)=>gU own turn fin r (Gq acc o) (I.take C.length)
noncomputable def ot(lo own:Nat)(o:M iW)(turn:D->M (Option (Int×Int))):M D:=do
 gB lo
 let it<- o
 let _<- lift (few it.1.length)
 let kvs<- gU own turn it.2 it.1 []
 pure (.dic kvs)
section
variable {fi:M iW} {gt:D->M Unit} {tt:M Bool} {tk tv:M D}
theorem yB{lo own:Nat}:∀σ H Q,tM (ot lo own fi (qR gt tt tk tv)) σ H Q->tJ (KY fi) own (IV lo gt) (pJ tt) (tM tk) (tM tv) σ H Q:= λ σ H Q ⟨c,af,S,T,dd,aA,s0,e,k⟩=>by
 obtain⟨u,aq,e0,e⟩:=bind_some e;have ab:σ.length=lo/\af=aq:=by
  unfold gB at e0;split at e0;. cases e0;exact⟨by rw[<- s0.len];assumption,rfl⟩
  .cases e0
 obtain⟨ab,rfl⟩:=ab;obtain⟨it,ag,e1,e⟩:=bind_some e;obtain⟨u',aB,e2,e⟩:=bind_some e;obtain⟨e3,rfl⟩:=bc e2;have ah:=(gP e3).2;obtain⟨kvs,ai,e4,e⟩:=bind_some e;obtain⟨rfl,rfl⟩:=aW e;refine⟨c,af,S,T,it,ag,s0,e1,λ J Sx Tx H1 l hJ s1 q hq=>?_⟩;obtain⟨items,fin⟩:=it;dsimp only at e4 ah;obtain⟨f1,f2,f3⟩:=s1.fresh hq;refine⟨.dK [],.inl rfl,λ i m H=>∃C acc,m=items.length-i/\i<=items.length/\acc.length<=i/\Sl { c with Z:=upd c.Z q (i9 acc) } C (Sx++S) σ (Tx++T) H/\
  gU own (qR gt tt tk tv) fin (items.drop i) acc C=some (kvs,ai),⟨_,ag,[],rfl,QV _,wF _,s1.hide hq,e4⟩,?_⟩;rintro i m H ⟨C,acc,rfl,hi,li,s,em⟩;by_cases U:i<items.length;. rw[QG U]at em;unfold gU at em;cases ea:items[i] C with
  |none=>rw[ea]at em;cases em
  |some d=>rw[ea]at em;dsimp only at em;cases I:qR gt tt tk tv d (C++List.replicate own .un)with
   |none=>rw[I]at em;cases em
   |some p=>
    obtain⟨o,aC⟩:=p;rw[I]at em;obtain⟨u1,aj,ar,I⟩:=bind_some I;obtain⟨b,ae,au,I⟩:=bind_some I;obtain⟨go,yld⟩:=(hJ { c with Z:=upd c.Z q (i9 acc) } C S T H i s).1 items[i] d (kW U) ea;refine .inr ⟨go,λ x H' y=>?_⟩;refine⟨{ c with Z:=upd c.Z q (i9 acc) },C++List.replicate own .un,Sx++S,Tx++T,d,aj,(yld x H' y).ext own,ar,λ aw H2 hn s2=>?_⟩;have ht:aw.take σ.length=σ:=by rw[hn _ (W7 ab)];exact YB rfl
    refine⟨ht,{ c with Z:=upd c.Z q (i9 acc) },aj,Sx++S,Tx++T,b,ae,s2,au,λ H3 s3=>?_⟩;have aa:C.length=σ.length:=s.len;cases b with
    |true=>
     obtain⟨kd,ak,ek,I⟩:=bind_some I;obtain⟨vd,ao,ev,I⟩:=bind_some I;split at I;. rename_i ki vi _;obtain⟨rfl,rfl⟩:=aW I;refine⟨{ c with Z:=upd c.Z q (i9 acc) },ae,Sx++S,Tx++T,_,ak,s3,ek,λ v1 H4 s4=>?_⟩;have ax:=s4.st.head.int;subst ax;refine⟨{ c with Z:=upd c.Z q (i9 acc) },ak,_,_,_,ao,s4,ev,λ v2 H5 s5=>?_⟩;have ay:=s5.st.head.int;subst ay;have az:H5 q=some (i9 acc):=s5.zz q _ bj;have pt:=DPut.k (k:= .inl ki) (v:= .int vi) az (by rw[fD];omega);rw[HI]at pt;refine⟨_,pt,items.length-(i+1),by omega,ao.take C.length,mw acc ki vi,rfl,U,by have:=zD acc ki vi;omega,?_,em⟩;have s6:=s5.pop.pop.cut σ.length;rw[ht,<- aa]at s6;exact Sl.hideSet (i9 (mw acc ki vi)) s6 f2 f3
     .cases I
    |false=>obtain⟨rfl,rfl⟩:=aW I;refine⟨items.length-(i+1),by omega,ae.take C.length,acc,rfl,U,by omega,?_,em⟩;have s5:=s3.cut σ.length;rw[ht,<- aa]at s5;exact s5
 .have ei:i=items.length:=by omega
  subst ei;rw[ZU]at em;unfold gU at em;by_cases hf:fin C=true
  .rw[gL hf]at em;obtain⟨rfl,rfl⟩:acc=kvs/\C=ai:=by cases em;exact⟨rfl,rfl⟩
   refine .inl ⟨(hJ { c with Z:=upd c.Z q (i9 acc) } _ S T H _ s).2 rfl hf,k _ _ ?_⟩;have s2:=s.unhideO (d:= .dic acc) f1 λ Hh h=> .mkDic h;exact s2.stk (.cons s2.st.head (s2.st.tail.right l))
  .rw[QC hf]at em;cases em
variable {X:Cx} {kx vx tg iter:Expr} {N' own:List Str} {scope:Scope} {ifs:List Expr} {lo:Nat} {pos:Pos}
theorem y_(o:cb k X.A)(hi:DC X tg iter fi)(hg:∀s H fp pins,DG (blk X N' own scope s H fp pins) lo tg gt)(ht:∀s H fp pins,pg (blk X N' own scope s H fp pins) ifs (pJ tt))(he:∀s H fp pins,DE (blk X N' own scope s H fp pins) kx tk)(C:∀s H fp pins,DE (blk X N' own scope s H fp pins) vx tv)
  (hS:cT N' own X.env.scope scope=true:=by rfl)(hM:cQ X.N N' scope=true:=by rfl)(hk:scope.kind= .function:=by rfl)(hc:X.calm=true:=by rfl)(hs:∀x,foldedSetIterable iter X.env x=pure x:=by intro _;rfl):
  DE X (.DictComp kx vx [⟨tg,iter,ifs,0⟩] scope pos) (ot lo own.length fi (qR gt tt tk tv)):=cC (yX hi hg ht he C (by have:=gM o;omega) hS hM hk hc hs) yB
end
section
variable {X:Cx} {a b:Expr} {fs:M (List D)} {pos:Pos}
noncomputable def Ic(i j:Nat)(fs:M (List D)):M Fl:=do
 let ds<- fs
 match ds with
 |[x,y]=>do
  ji i x
  ji j y
  pure .nx
 |_=>lift none
theorem HK(i j:Nat){x y:Str}{px py pt:Pos}{kt k2 o}(hN:X.N.Nodup)(ha:DA X [a,b] fs)(hw:swappedStores [.Tuple [.Name x px,.Name y py] kt pt] (.Tuple [a,b] k2 o) X.env=pure (some [x,y]):=by rfl)(hi:X.N[i]?=some x:=by rfl)(hj:X.N[j]?=some y:=by rfl)(C:i≠j:=by decide)
  (hx:X.env.scope.names.lookup x=some .local:=by rfl)(hy:X.env.scope.names.lookup y=some .local:=by rfl)(hc:X.calm=true:=by rfl)
  (hs:swapsWithSole [.Tuple [.Name x px,.Name y py] kt pt] (.Tuple [a,b] k2 o) pos.line X.env=pure false:=by rfl):
  mr X (.Assign [.Tuple [.Name x px,.Name y py] kt pt] (.Tuple [a,b] k2 o) pos) (Ic i j fs):=i8 (JT hc hN hi hj C hx hy ha hw hs) λ E σ H ⟨c,δ,S,T,fl,aa,s,e,k⟩=>by
 obtain⟨ds,I,e1,e⟩:=bind_some e;refine⟨c,δ,S,T,ds,I,s,e1,λ vs H' l s'=>?_⟩;split at e;. obtain⟨u,ab,e2,e⟩:=bind_some e;obtain⟨u',ae,e3,e⟩:=bind_some e;obtain⟨rfl,rfl⟩:=aW e;obtain⟨J,rfl⟩:=eN e2;obtain⟨U,rfl⟩:=eN e3;obtain⟨v,w,rfl,r1,r2⟩:=NV (s'.st.left l);exact⟨v,w,rfl,k _ _ ((Sl.setPu s' J).setPu U)⟩
 .cases e
end
end Jt
namespace L2
open PySem PySem.Spec PyProof.Rows
section
variable {prog:Program} {w:World} {A:Around} {R:Result->Shared->Prop} {s:Shared} {kx vx t1 i1 t2 i2:Expr} {ifs1 ifs2:List Expr} {scope:Scope} {pos:Pos} {it:Value} {D:Addr} {env:Env}
noncomputable abbrev fw(kx vx t1 i1:Expr)(ifs1:List Expr)(t2 i2:Expr)(ifs2:List Expr)(scope:Scope)(pos:Pos):Expr:= .DictComp kx vx [⟨t1,i1,ifs1,0⟩,⟨t2,i2,ifs2,0⟩] scope pos
theorem xK:compTurn (fw kx vx t1 i1 ifs1 t2 i2 ifs2 scope pos) 0 it (.ref D) env=(standAt i1.pos >>=λ _=>pyNext it >>=λ r=>match r with
  |none=>pure (.done .next)
  |some v=>letOwnedTupleGo t1 it v >>=λ _=>assign t1 env v >>=λ _=>tests ifs1 env >>=λ ok=>
   (if ok=true then(eval i2 env >>=λ x=>standAt i2.pos >>=λ _=>foldedSetIterable i2 env x >>=λ x=>holding [x] (pyIter x) >>=λ j=>runOwn (.compStart (fw kx vx t1 i1 ifs1 t2 i2 ifs2 scope pos) 1 j (.ref D) env) env >>=λ _=>again (.compLoop (fw kx vx t1 i1 ifs1 t2 i2 ifs2 scope pos) 0 it (.ref D) env))
     else again (.compLoop (fw kx vx t1 i1 ifs1 t2 i2 ifs2 scope pos) 0 it (.ref D) env))):=by rfl
theorem A5:compTurn (fw kx vx t1 i1 ifs1 t2 i2 ifs2 scope pos) 1 it (.ref D) env=(standAt i2.pos >>=λ _=>pyNext it >>=λ r=>match r with
  |none=>pure (.done .next)
  |some v=>letOwnedTupleGo t2 it v >>=λ _=>assign t2 env v >>=λ _=>tests ifs2 env >>=λ ok=>
   (if ok=true then((eval kx env >>=λ o=>holding [o] (eval vx env) >>=λ C=>standAt { kx.pos with endLine:=vx.pos.endLine,endCol:=vx.pos.endCol } >>=λ _=>holding [o,C] (dictSet D o C)) >>=λ _=>again (.compLoop (fw kx vx t1 i1 ifs1 t2 i2 ifs2 scope pos) 1 it (.ref D) env))
     else again (.compLoop (fw kx vx t1 i1 ifs1 t2 i2 ifs2 scope pos) 1 it (.ref D) env))):=by rfl
theorem yk (hs:∀x,foldedSetIterable i2 env x=pure x) (I:Nat->Shared->Prop)
  (turn:∀n s,I n s->wpAny (model prog w) A (pyNext it) (fun r s1=>match r with
   | none=>R (.ok .next) s1
   | some v=>wpAny (model prog w) A (letOwnedTupleGo t1 it v) (fun _ s2=>wpAny (model prog w) A (assign t1 env v) (fun _ s3=>wpAny (model prog w) A (tests ifs1 env) (fun ok s4=>
     if ok=true then wpAny (model prog w) A (eval i2 env) (fun x s5=>wpAny (model prog w) A (pyIter x) (fun j s6=>
      codeAny (model prog w) A (.compStart (fw kx vx t1 i1 ifs1 t2 i2 ifs2 scope pos) 1 j (.ref D) env) (fun r s7=>match r with | .ok _=>∃m,m < n∧I m s7 | .error _=>False) s6) mq s5) mq s4
     else ∃m,m < n∧I m s4) mq s3) mq s2) mq s1) mq s)
  (n:Nat) (h:I n s):codeAny (model prog w) A (.compLoop (fw kx vx t1 i1 ifs1 t2 i2 ifs2 scope pos) 0 it (.ref D) env) R s:= by
 refine codeAny_loop rfl I (fun n s hI=>?_) n h
 show wpAny _ A ((compTurn (fw kx vx t1 i1 ifs1 t2 i2 ifs2 scope pos) 0 it (.ref D) env).onRaise (fun x=>do noteFrame x env;theTreesLotGoes x)) _ _ s
 refine wpAny_noted ?_
 rw [xK]
 refine zN (Z7 (zN (QE (turn n s hI) (fun r s1 h1=>?_) fun _ _ z=>z.elim)))
 cases r with
 | none=>exact kT h1
 | some v=>
  refine zN (QE h1 (fun _ s2 h2=>zN (QE h2 (fun _ s3 h3=>zN (QE h3 (fun ok s4 h4=>?_) fun _ _ z=>z.elim)) fun _ _ z=>z.elim)) fun _ _ z=>z.elim)
  cases ok with
  | false=>exact kT ⟨rfl,h4⟩
  | true=>
   refine zN (QE h4 (fun x s5 h5=>zN (Z7 ?_)) fun _ _ z=>z.elim)
   rw [hs]
   refine zN (kT (zN (QZ (QE h5 (fun j s6 h6=>?_) fun _ _ z=>z.elim))))
   refine zN (wpAny_runOwn (Z9 h6 fun r s7 h7=>?_))
   cases r with
   | ok f=>exact kT ⟨rfl,h7⟩
   | error e=>simp_all
theorem zA(I:Nat->Shared->Prop)
  (turn:∀n s,I n s->wpAny (model prog w) A (pyNext it) (λ r s1=>match r with
   |none=>R (.ok .next) s1
   |some v=>wpAny (model prog w) A (letOwnedTupleGo t2 it v) (λ _ s2=>wpAny (model prog w) A (assign t2 env v) (λ _ s3=>wpAny (model prog w) A (tests ifs2 env) (λ ok s4=>
     if ok=true then wpAny (model prog w) A (eval kx env) (λ y s5=>wpAny (model prog w) A (eval vx env) (λ x o=>wpAny (model prog w) A (dictSet D y x) (λ _ C=>∃m,m<n/\I m C) mq o) mq s5) mq s4
     else∃m,m<n/\I m s4) mq s3) mq s2) mq s1) mq s)
  (n:Nat)(h:I n s):codeAny (model prog w) A (.compLoop (fw kx vx t1 i1 ifs1 t2 i2 ifs2 scope pos) 1 it (.ref D) env) R s:=by refine codeAny_loop rfl I (λ n s hI=>?_) n h;refine wpAny_noted ?_;rw[A5];refine zN (Z7 (zN (QE (turn n s hI) (λ r s1 J=>?_) λ _ _ z=>z.elim)));cases r with
 |none=>exact kT J
 |some v=>refine zN (QE J (λ _ s2 h2=>zN (QE h2 (λ _ s3 h3=>zN (QE h3 (λ ok s4 U=>?_) λ _ _ z=>z.elim)) λ _ _ z=>z.elim)) λ _ _ z=>z.elim);cases ok with
  |false=>exact kT ⟨rfl,U⟩
  |true=>exact zN (zN (QE U (λ y s5 h5=>zN (QZ (QE h5 (λ x o h6=>zN (Z7 (QZ (QE h6 (λ _ C h7=>kT ⟨rfl,h7⟩) λ _ _ z=>z.elim)))) λ _ _ z=>z.elim))) λ _ _ z=>z.elim))
theorem xl(h0:codeAny (model prog w) A (.compLoop (fw kx vx t1 i1 ifs1 t2 i2 ifs2 scope pos) 1 it (.ref D) env) R s)
  (h:wpAny (model prog w) A (pyIter it) (λ j s'=>codeAny (model prog w) A (.compLoop (fw kx vx t1 i1 ifs1 t2 i2 ifs2 scope pos) 1 j (.ref D) env) R s') mq s):
  codeAny (model prog w) A (.compStart (fw kx vx t1 i1 ifs1 t2 i2 ifs2 scope pos) 1 it (.ref D) env) R s:=by
 refine XJ ?_;refine wpAny_notedAt ?_;refine zN (XB (wpAny_ite ?_));split;. first
   |exact zN (kT (kT (And.intro rfl h0)))
   |exact kT (And.intro rfl h0)
 .first
   |exact zN (YF (zN (Z7 (zN (QE h (λ j s' q=>kT (And.intro rfl q)) λ _ _ z=>z.elim)))))
   |rfl
end
noncomputable abbrev Px:=Addr->St->Hp->(St->Hp->Prop)->Prop
noncomputable def EY(wi:TI)(g:TG)(tt:TT)(tk tv:TE):Px:= λ l σ H Q=>wi σ H λ J H1=>∃W:Nat->Nat->St->Hp->Prop,(∃m,W 0 m σ H1)/\∀i m C H,W i m C H->
 ((J.stop i H/\Q C H)\/(J.go i H/\∀x H',J.yld i H x H'->g x C H' λ o H2=>tt o H2 λ b U=>
  if b=true then tk o U λ y H4=>tv o H4 λ v H5=>∃H6,DPut H5 l y v H6/\∃I,I<m/\W (i+1) I o H6
  else∃I,I<m/\W (i+1) I o U))
section
variable {Y:Cx} {kx vx t1 i1 t2 i2:Expr} {ifs1 ifs2:List Expr} {scope:Scope} {pos:Pos} {wi:TI} {g:TG} {tt:TT} {tk tv:TE}
theorem IG(hx:Y.xe=mq)(hc:Y.calm=true)(hi:PI Y t2 i2 wi)(hg:PG Y t2 g)(ht:pg Y ifs2 tt)(he:PE Y kx tk)(hv:PE Y vx tv)(hu:Y.A.units<cLine){l:Addr}{pins:List (Addr×Obj)}{s:Shared}{σ:St}{H:Hp}{Q:St->Hp->Prop}(I:Inv Y pins σ H s)(h:EY wi g tt tk tv l σ H Q):
  wpAny (model Y.prog Y.w) Y.A (eval i2 Y.env) (λ x s5=>wpAny (model Y.prog Y.w) Y.A (pyIter x) (λ j s6=>codeAny (model Y.prog Y.w) Y.A (.compStart (fw kx vx t1 i1 ifs1 t2 i2 ifs2 scope pos) 1 j (.ref l) Y.env)
   (λ r s7=>match r with| .ok _=>∃C H',Inv Y pins C H' s7/\Q C H'| .error _=>False) s6) mq s5) mq s:=by
 have af:=hi pins s σ H _ I h;rw[hx]at af;refine cf af λ xv s1 h1=>cf h1 λ aB s2 h2=>?_;obtain⟨it,fp,tn,J,H2,e,I2,T,ag,f2,q2⟩:=h2;subst e;obtain⟨W,⟨m0,w0⟩,turn⟩:=q2;have aa:∀{H':Hp},(∀b∈fp,H' b=none)->∀b∈fp,dz Y pins H' b:= λ hn b hb=>⟨hn b hb,(f2 b hb).2⟩;have loop:codeAny (model Y.prog Y.w) Y.A (.compLoop (fw kx vx t1 i1 ifs1 t2 i2 ifs2 scope pos) 1 (.ref it) (.ref l) Y.env) (λ r s7=>match r with| .ok _=>∃C H',Inv Y pins C H' s7/\Q C H'| .error _=>False) s2:=by
  refine zA (λ n s'=>∃i C H',Inv Y pins C H' s'/\tn i s'.heap/\(∀b∈fp,H' b=none)/\W i n C H') ?_ m0 ⟨0,σ,H2,I2,ag,λ b hb=>(f2 b hb).1,w0⟩;rintro n s5 ⟨i,ab,H5,I5,ah,ai,w5⟩;rcases turn i n ab H5 w5 with⟨stop,q⟩|⟨go,step⟩
  .refine QE (T.done Y rfl rfl rfl hc i pins s5 ab H5 mq I5 (aa ai) ah stop) (λ r s6 hr=>?_) λ _ _ z=>z;obtain⟨rfl,I6⟩:=hr;exact⟨ab,H5,I6,q⟩
  .refine QE (T.item Y rfl rfl rfl hc i pins s5 ab H5 mq I5 (aa ai) ah go) (λ r s6 hr=>?_) λ _ _ z=>z;obtain⟨u,rfl,h6⟩:=hr;refine cf h6 λ _ s7 ⟨x,H7,I7,r7,y7,ae,ar⟩=>?_;have au:=I7.pinned (aa ar) (T.obj _ _ ae);have aj:=hg _ s7 ab H7 x u _ au r7 (step x H7 y7);rw[hx]at aj;refine cf aj λ _ s8 ⟨U,H8,I8,q8⟩=>?_;have ak:=ht _ s8 U H8 _ I8 q8;rw[hx]at ak;refine cf ak λ b s9 ⟨H9,I9,q9⟩=>?_;have again:∀{Ha:Hp}{sa:Shared}{m':Nat},Inv Y (pins++iP fp s7.heap) U Ha sa->m'<n->W (i+1) m' U Ha->
     ∃m,m<n/\∃i C H',Inv Y pins C H' sa/\tn i sa.heap/\(∀b∈fp,H' b=none)/\W i m C H':= λ{Ha sa m'} Ia hm wa=>by refine⟨m',hm,i+1,U,Ha,Ia.unpinned,T.keep _ _ _ ae λ b hb o e=>(Ia.pin (b,o) (uP _ (uP _ (cG hb e)))).1,λ b hb=>?_,wa⟩;obtain⟨o,e,d⟩:=T.obj _ _ ae b hb;exact(Ia.pin (b,o) (uP _ (uP _ (cG hb e)))).2.1
   cases b with
   |false=>obtain⟨m',hm,wa⟩:=q9;exact again I9 hm wa
   |true=>have ao:=he _ s9 U H9 _ I9 q9;rw[hx]at ao;refine cf ao λ y av ⟨ky,aw,ax,rk,ay⟩=>?_;have aq:=hv _ av U aw _ ax ay;rw[hx]at aq;refine cf aq λ x2 aC ⟨v,aD,az,rv,aE,dp,m',hm,wa⟩=>?_;exact nG hu az dp rk rv λ aF aA=>again aA hm wa
 exact xl loop (T.self _ 0 _ _ _ ag loop)
end
noncomputable def vM(wi:TI)(own:Nat)(g:TG)(tt:TT)(tb:Px):TE:= λ σ H Q=>wi σ H λ J H1=>∀l,H1 l=none->∃o0:HO,(o0= .dK []\/o0= .dT [])/\∃W:Nat->Nat->Hp->Prop,(∃m,W 0 m (upd H1 l o0))/\∀i m H,W i m H->
 ((J.stop i H/\Q (.ref l) H)\/(J.go i H/\∀x H',J.yld i H x H'->g x (σ++List.replicate own none) H' λ o H2=>tt o H2 λ b U=>
  if b=true then tb l o U λ I H4=>I.take σ.length=σ/\∃C,C<m/\W (i+1) C H4
  else o.take σ.length=σ/\∃C,C<m/\W (i+1) C U))
section
variable {X:Cx} {kx vx t1 i1 t2 i2:Expr} {ifs1 ifs2:List Expr} {scope:Scope} {pos:Pos} {N' own:List Str} {wi wi2:TI} {g g2:TG} {tt tt2:TT} {tk tv:TE}
theorem yC (hi:PI X t1 i1 wi) (hg:∀s H fp pins,PG (blk X N' own scope s H fp pins) t1 g) (ht:∀s H fp pins,pg (blk X N' own scope s H fp pins) ifs1 tt) (hi2:∀s H fp pins,PI (blk X N' own scope s H fp pins) t2 i2 wi2) (hg2:∀s H fp pins,PG (blk X N' own scope s H fp pins) t2 g2)
  (ht2:∀s H fp pins,pg (blk X N' own scope s H fp pins) ifs2 tt2) (he:∀s H fp pins,PE (blk X N' own scope s H fp pins) kx tk) (hv:∀s H fp pins,PE (blk X N' own scope s H fp pins) vx tv) (hu:X.A.units < cLine)
  (hS:cT N' own X.env.scope scope=true:=by rfl) (hM:cQ X.N N' scope=true:=by rfl) (hk:scope.kind=.function:=by rfl) (hc:X.calm=true:=by rfl) (hs:∀x,foldedSetIterable i1 X.env x=pure x:=by intro _;rfl) (hs2:∀e x,foldedSetIterable i2 e x=pure x:=by intro _ _;rfl) :
  PE X (fw kx vx t1 i1 ifs1 t2 i2 ifs2 scope pos) (vM wi own.length g tt (EY wi2 g2 tt2 tk tv)):= by
 intro pins s σ H Q I h
 have ev:eval (fw kx vx t1 i1 ifs1 t2 i2 ifs2 scope pos) X.env=comprehension (fw kx vx t1 i1 ifs1 t2 i2 ifs2 scope pos) scope X.env (firstIterPos [⟨t1,i1,ifs1,0⟩,⟨t2,i2,ifs2,0⟩] pos) newDict (firstAsync [⟨t1,i1,ifs1,0⟩,⟨t2,i2,ifs2,0⟩]) (firstIter [⟨t1,i1,ifs1,0⟩,⟨t2,i2,ifs2,0⟩] X.env):=by rw [eval]
 rw [ev]
 have S:=hX hS
 have Mk:=ia hM
 refine WS rfl hs (dZ fun n hn=>I.ok.has n (S.free n hn)) hk S.loc (cf (hi pins s σ H _ I h) fun xv s1 h1=>cf h1 fun itv s2 h2=>?_)
 obtain ⟨it,fp,tn,J,H2,e,I2,T,st2,f2,q2⟩:=h2
 subst e
 refine QN ?_
 have hl2:H2 s2.heap.objs.size=none:=I2.fresh
 obtain ⟨o0,ho0,W,⟨m0,w0⟩,turn⟩:=q2 s2.heap.objs.size hl2
 have I3:Inv X pins σ (upd H2 s2.heap.objs.size o0) { s2 with heap:=s2.heap.push { cls:=.type "dict",data:=.dict #[] } }:= by
  rcases ho0 with rfl | rfl
  .exact I2.laid (t':=s2.toks) (fun _ _ q=>zS _ q) (wF _) (dk_empty s2.heap I2.big)
  .exact I2.laid (t':=s2.toks) (fun _ _ q=>zS _ q) (wF _) (dt_empty s2.heap I2.big)
 generalize hl:s2.heap.objs.size=l at *
 have ob2:∀b ∈ fp,b < l:=fun b hb=>by
  obtain ⟨o,e,_⟩:=T.obj _ _ st2 b hb
  rw [<- hl];exact wN e
 have st3:tn 0 (s2.heap.push { cls:=.type "dict",data:=.dict #[] }):=T.keep _ _ _ st2 fun b _ o e=>zS _ e
 have sz3:l < (s2.heap.push { cls:=.type "dict",data:=.dict #[] }).objs.size:=by rw [QM,hl];exact VR _
 have f3:∀b ∈ fp,dz X pins (upd H2 l o0) b:=fun b hb=>⟨by rw [aY (QB (ob2 b hb))];exact (f2 b hb).1,(f2 b hb).2⟩
 generalize hs3:({ s2 with heap:=s2.heap.push { cls:=.type "dict",data:=.dict #[] } }:Shared)=s3 at I3
 have hh3:s3.heap=s2.heap.push { cls:=.type "dict",data:=.dict #[] }:=by rw [<- hs3]
 rw [<- hh3] at st3 sz3
 have ob3:∀b ∈ fp,b < s3.heap.objs.size:=fun b hb=>Nat.lt_trans (ob2 b hb) sz3
 generalize upd H2 l o0=H3 at *
 show wpAny _ _ (newFunctionEnv scope X.env.globals (dg X.env.cells scope.names []) [] X.env.qual none .none (some X.env)) _ _ _
 have goal:wpAny (model X.prog X.w) X.A (newFunctionEnv scope X.env.globals (dg X.env.cells scope.names []) [] X.env.qual none .none (some X.env))
   (fun cenv s₄=>codeAny (model X.prog X.w) X.A (.compStart (fw kx vx t1 i1 ifs1 t2 i2 ifs2 scope pos) 0 (.ref it) (.ref l) { cenv with scope:=relabel scope X.env }) (compPost (model X.prog X.w) X.A X.xe none (EP X pins σ Q) (.ref l) cenv.locals) s₄) X.xe s3:= by
  refine gu ?_
  have IY:=I3.blk f3 ob3 hk S Mk
  have keep:=@Inv.blkKeep s3 scope
  have st4:tn 0 (pushCells (s3.heap.push { cls:=.type "dict",data:=.dict #[] }) scope.names):=T.keep _ _ _ st3 fun b _ o e=>keep b o e
  have hcells:=hO I3 S
  have stat:∀{H':Hp},(∀b ∈ fp,H' b=none)->∀b ∈ fp,dz (blk X N' own scope s3 H3 fp pins) [] H' b:=fun hn b hb=>by
   refine ⟨hn b hb,QB (ob3 b hb),fun z=>?_,.inl hb,fun x c h=>?_,fun p hp=>?_⟩
   .rcases uS.mp (I3.stkSub b z) with z | z
    .exact (f3 b hb).2.1 z
    .exact (f3 b hb).2.2.1 z
   .rcases hcells x c h with ⟨_,_,a3,_⟩ | ⟨a1,_,_⟩
    .intro z;subst z;exact absurd (ob3 _ hb) (Y5.mpr (VH a3))
    .exact (f3 b hb).2.2.2.2.1 x c a1
   .have hp':p ∈ X.pn ++ pins:= by
     rcases uT.mp hp with z | z
     .exact z
     .exact nomatch z
    exact (f3 b hb).2.2.2.2.2 p hp'
  have loop:codeAny (model X.prog X.w) X.A (.compLoop (fw kx vx t1 i1 ifs1 t2 i2 ifs2 scope pos) 0 (.ref it) (.ref l) (blk X N' own scope s3 H3 fp pins).env)
    (compPost (model X.prog X.w) X.A X.xe none (EP X pins σ Q) (.ref l) s3.heap.objs.size) { s3 with heap:=pushCells (s3.heap.push { cls:=.type "dict",data:=.dict #[] }) scope.names }:= by
   refine yk (hs2 _) (fun n s'=>∃i σ' H',Inv (blk X N' own scope s3 H3 fp pins) [] σ' H' s' ∧ σ'.take σ.length=σ∧tn i s'.heap∧(∀b ∈ fp,H' b=none)∧W i n H') ?_ m0
    ⟨0,_,H3,IY,by rw [YB] <;> rfl,st4,fun b hb=>(f3 b hb).1,w0⟩
   rintro n s5 ⟨i,σ5,H5,I5,e5,st5,fr5,w5⟩
   rcases turn i n H5 w5 with ⟨stop,q⟩ | ⟨go,step⟩
   .refine QE (T.done (blk X N' own scope s3 H3 fp pins) rfl rfl rfl hc i [] s5 σ5 H5 mq I5 (stat fr5) st5 stop) (fun r s6 hr=>?_) fun _ _ z=>z
    obtain ⟨rfl,I6⟩:=hr
    obtain ⟨m,hn,_⟩:=id I6.loc
    refine ⟨m,hn,fun h' sb=>⟨.ref l,H5,?_,rfl,q⟩⟩
    refine (I3.unblk f3 I6).turned (t':=s6.toks) (fun b o hb e=>(sb.2 b hb).trans e) I6.free (VG I3.lt) (.inr I3.sz) (fun x c e z=>?_) fun p hp z=>?_
    .obtain ⟨v,qc⟩:=I3.cell x c e
     exact absurd qc.lt (by rw [z];exact Q8 _)
    .exact absurd (wN (I3.pin p hp).1) (by rw [z];exact Q8 _)
   .have lenσ:σ5.length=(σ ++ List.replicate own.length (none:Option V)).length:= by
     rw [I5.len,fR,VQ,I.len]
     show (N' ++ own).length=_
     rw [fR,Mk.len]
    have I5':Inv (blk X N' own scope s3 H3 fp pins) [] (σ ++ List.replicate own.length none) H5 s5:=I5.weak lenσ.symm fun j v e=>by
     have hj:j < σ.length:= by
      by_cases hj:j < σ.length
      .exact hj
      .rw [Q2 (by omega),VF] at e
       split at e <;> cases e
     rw [QF hj] at e
     rw [<- e5,QP hj] at e
     exact e
    refine QE (T.item (blk X N' own scope s3 H3 fp pins) rfl rfl rfl hc i [] s5 _ H5 mq I5' (stat fr5) st5 go) (fun r s6 hr=>?_) fun _ _ z=>z
    obtain ⟨u,rfl,h6⟩:=hr
    refine cf h6 fun _ s7 ⟨x,H7,I7,r7,y7,st7,fr7⟩=>?_
    have I7':=I7.pinned (stat fr7) (T.obj _ _ st7)
    refine cf (hg s3 H3 fp pins _ s7 _ H7 x u _ I7' r7 (step x H7 y7)) fun _ s8 ⟨σ8,H8,I8,q8⟩=>?_
    refine cf (ht s3 H3 fp pins _ s8 σ8 H8 _ I8 q8) fun b s9 ⟨H9,I9,q9⟩=>?_
    have again:∀{σa:St} {Ha:Hp} {sa:Shared} {m':Nat},Inv (blk X N' own scope s3 H3 fp pins) ([] ++ iP fp s7.heap) σa Ha sa->σa.take σ.length=σ->m' < n->W (i + 1) m' Ha ->
      ∃m,m < n∧∃i σ' H',Inv (blk X N' own scope s3 H3 fp pins) [] σ' H' sa∧σ'.take σ.length=σ∧tn i sa.heap∧(∀b ∈ fp,H' b=none)∧W i m H':=fun {σa Ha sa m'} Ia ea hm wa=>by
     refine ⟨m',hm,i + 1,σa,Ha,Ia.unpinned,ea,T.keep _ _ _ st7 fun b hb o e=>(Ia.pin (b,o) (uP _ (uP _ (cG hb e)))).1,fun b hb=>?_,wa⟩
     obtain ⟨o,e,d⟩:=T.obj _ _ st7 b hb
     exact (Ia.pin (b,o) (uP _ (uP _ (cG hb e)))).2.1
    cases b with
    | false=>
     rw [QC fN] at q9 ⊢
     obtain ⟨e8,m',hm,wa⟩:=q9
     exact again I9 e8 hm wa
    | true=>
     rw [gL rfl] at q9 ⊢
     refine cf (IG (Y:=blk X N' own scope s3 H3 fp pins) rfl hc (hi2 s3 H3 fp pins) (hg2 s3 H3 fp pins) (ht2 s3 H3 fp pins) (he s3 H3 fp pins) (hv s3 H3 fp pins) hu I9 q9) fun xv sA hA=>cf hA fun j sB hB=>Z9 hB fun r sC hC=>?_
     cases r with
     | error e=>exact hC.elim
     | ok f=>
      obtain ⟨σE,HE,IE,eE,m',hm,wa⟩:=hC
      exact again IE eE hm wa
  exact codeAny_compStart_dict loop (T.self _ 0 _ _ _ st4 loop)
 omega
end
end L2
namespace Jt
open PySem L2 PySem.Spec PyProof.Rows
noncomputable abbrev PL:=List ((Int × Int) × Int)
noncomputable def mh (kvs:PL) (k:Int × Int) (v:Int):PL:=if (kvs.any fun p=>decide (p.1=k))=true then kvs.map (fun p=>if p.1=k then (p.1,v) else p) else kvs ++ [(k,v)]
theorem vk (a b:Int × Int):(([.inl a.1,.inl a.2]:List Key)=[.inl b.1,.inl b.2]) ↔ a=b:= by
 obtain ⟨a1,a2⟩:=a
 obtain ⟨b1,b2⟩:=b
 simp
theorem Iw (kvs:PL) (k:Int × Int) (v:Int):putK (kvs.map fun p=>(([.inl p.1.1,.inl p.1.2],.int p.2):List Key × V)) [.inl k.1,.inl k.2] (.int v)=(mh kvs k v).map fun p=>([.inl p.1.1,.inl p.1.2],.int p.2):= by
 unfold putK mh
 have e:((kvs.map fun p=>(([.inl p.1.1,.inl p.1.2],.int p.2):List Key × V)).any fun kv=>decide (kv.1=[.inl k.1,.inl k.2]))=kvs.any fun p=>decide (p.1=k):= by
  rw [XR]
  refine List.any_congr rfl fun p=>?_
  exact JP.mpr (vk p.1 k)
 rw [e]
 split
 .rw [ZI,ZI]
  refine ZM fun p _=>?_
  by_cases q:p.1=k
  .simp [q]
  .have q':¬ (([.inl p.1.1,.inl p.1.2]:List Key)=[.inl k.1,.inl k.2]):=fun z=>q ((vk _ _).mp z)
   show (if ([.inl p.1.1,.inl p.1.2]:List Key)=[.inl k.1,.inl k.2] then _ else _)=((fun p:(Int × Int) × Int=>(([.inl p.1.1,.inl p.1.2],.int p.2):List Key × V)) (if p.1=k then (p.1,v) else p))
   rw [QC q',QC q]
 .rw [VO];rfl
theorem CG (kvs:PL) (k:Int × Int) (v:Int):(mh kvs k v).length ≤ kvs.length + 1:= by
 unfold mh
 split
 .rw [fD];omega
 .rw [fR];exact wF _
noncomputable def j4 (gt:D->M Unit) (tt:M Bool) (tk tv:M D) (d:D):M (Option ((Int × Int) × Int)):=do
 gt d
 let b <- tt
 if b=true then do
  let k <- tk
  let v <- tv
  match k,v with
  | .tup [.int i,.int i'],.int j=>pure (some ((i,i'),j))
  | _,_=>lift none
 else pure none
noncomputable def Jf (acc:PL):Option ((Int × Int) × Int)->PL
 | none=>acc
 | some (k,v)=>mh acc k v
noncomputable def gF (turn:D->M (Option ((Int × Int) × Int))) (fin:DS->Bool):List (DS->Option D)->PL->M PL
 | [],acc=>fun δ=>if fin δ=true then some (acc,δ) else none
 | a :: r,acc=>fun δ=>match a δ with
  | none=>none
  | some d=>match turn d δ with
   | none=>none
   | some (o,δ2)=>gF turn fin r (Jf acc o) δ2
noncomputable def ue (fi:M iW) (turn:D->M (Option ((Int × Int) × Int))) (acc:PL):M PL:=do
 let it <- fi
 let _ <- lift (xy it.1.length)
 gF turn it.2 it.1 acc
noncomputable def l0 (gt:D->M Unit) (tt:M Bool) (inn:PL->M PL) (d:D) (acc:PL):M PL:=do
 gt d
 let b <- tt
 if b=true then inn acc else pure acc
noncomputable def gJ (own:Nat) (turn:D->PL->M PL) (fin:DS->Bool):List (DS->Option D)->PL->M PL
 | [],acc=>fun δ=>if fin δ=true then some (acc,δ) else none
 | a :: r,acc=>fun δ=>match a δ with
  | none=>none
  | some d=>match turn d acc (δ ++ List.replicate own .un) with
   | none=>none
   | some (acc2,δ2)=>gJ own turn fin r acc2 (δ2.take δ.length)
noncomputable def ku (lo own:Nat) (fi:M iW) (turn:D->PL->M PL):M D:=do
 gB lo
 let it <- fi
 let _ <- lift (xy it.1.length)
 let kvs <- gJ own turn it.2 it.1 []
 pure (.dip kvs)
section
variable {X:Cx} {kx vx t1 i1 t2 i2:Expr} {tk tv:M D} {pos:Pos} {tt tt2:M Bool} {fi fi2:M iW} {gt gt2:D->M Unit}
theorem Gg {lo n0:Nat} (hn0:n0 ≤ 1000000) {c:Ct} {q:Addr} {acc xs:PL} {S:List D} {T:List V} {δ δ':DS} {σ:L2.St} {H:Hp} {Q:L2.St->Hp->Prop} (s:Sl { c with Z:=upd c.Z q (ff acc) } δ S σ T H) (ln:acc.length ≤ n0) (f2:q ∉ c.B) (f3:c.H0 q=none)
  (e:ue fi (j4 gt tt tk tv) acc δ=some (xs,δ')) (k:∀σ' H',xs.length ≤ n0 + 1000->(∀n,n ≤ lo->σ'.take n=σ.take n)->Sl { c with Z:=upd c.Z q (ff xs) } δ' S σ' T H' -> Q σ' H') :
  EY (Nz fi) (IV lo gt) (pJ tt) (tM tk) (tM tv) q σ H Q:= by
 obtain ⟨it,δ2,e1,e⟩:=bind_some e
 obtain ⟨u',δ3,e2,e⟩:=bind_some e
 obtain ⟨e3,rfl⟩:=bc e2
 have hfew:=m7 e3
 refine ⟨_,δ,S,T,it,δ2,s,e1,fun J Sx Tx H1 l hJ s1=>?_⟩
 obtain ⟨items,fin⟩:=it
 dsimp only at e hfew
 refine ⟨fun i m σ' H=>∃δi accI,m=items.length - i∧i ≤ items.length∧accI.length ≤ n0 + i∧(∀n,n ≤ lo->σ'.take n=σ.take n)∧Sl { c with Z:=upd c.Z q (ff accI) } δi (Sx ++ S) σ' (Tx ++ T) H ∧
  gF (j4 gt tt tk tv) fin (items.drop i) accI δi=some (xs,δ'),⟨_,δ2,acc,rfl,QV _,ln,fun _ _=>rfl,s1,e⟩,?_⟩
 rintro i m σ' H ⟨δi,accI,rfl,hi,li,hσ,s,em⟩
 by_cases hlt:i < items.length
 .rw [QG hlt] at em
  unfold gF at em
  cases ea:items[i] δi with
  | none=>rw [ea] at em;cases em
  | some d=>
   rw [ea] at em
   dsimp only at em
   cases et:j4 gt tt tk tv d δi with
   | none=>rw [et] at em;cases em
   | some p=>
    obtain ⟨o,δt⟩:=p
    rw [et] at em
    dsimp only at em
    obtain ⟨u1,δa,ea1,et⟩:=bind_some et
    obtain ⟨b,δb,eb1,et⟩:=bind_some et
    obtain ⟨go,yld⟩:=(hJ { c with Z:=upd c.Z q (ff accI) } δi S σ' T H i s).1 items[i] d (kW hlt) ea
    refine .inr ⟨go,fun x H' y=>?_⟩
    refine ⟨{ c with Z:=upd c.Z q (ff accI) },δi,Sx ++ S,Tx ++ T,d,δa,yld x H' y,ea1,fun σ2 H2 hn s2=>?_⟩
    have hσ2:∀n,n ≤ lo->σ2.take n=σ.take n:=fun n h=>(hn n h).trans (hσ n h)
    refine ⟨{ c with Z:=upd c.Z q (ff accI) },δa,Sx ++ S,Tx ++ T,b,δb,s2,eb1,fun H3 s3=>?_⟩
    cases b with
    | true=>
     rw [gL rfl] at et
     refine Dp ?_
     obtain ⟨kd,δk,ek,et⟩:=bind_some et
     obtain ⟨vd,δv,ev,et⟩:=bind_some et
     split at et
     .rename_i ki ki' vi _
      obtain ⟨rfl,rfl⟩:=aW et
      refine ⟨{ c with Z:=upd c.Z q (ff accI) },δb,Sx ++ S,Tx ++ T,_,δk,s3,ek,fun v1 H4 s4=>?_⟩
      refine ⟨{ c with Z:=upd c.Z q (ff accI) },δk,_,_,_,δv,s4,ev,fun v2 H5 s5=>?_⟩
      have hv2:=s5.st.head.int
      subst hv2
      obtain ⟨p,vs,rfl,h2,h3⟩:=s5.st.tail.head.tup
      obtain ⟨w1,r1,rfl,g1,h3⟩:=h3.inv
      obtain ⟨w2,r2,rfl,g2,h3⟩:=h3.inv
      have e3:=h3.inv0
      subst e3
      cases g1.int
      cases g2.int
      have hq5:H5 q=some (ff accI):=s5.zz q _ bj
      have pt:=DPut.t (k:=[.inl ki,.inl ki']) (v:=.int vi) hq5 (bB _ _ h2) (by rw [fD];unfold sizeLine;omega)
      rw [Iw accI (ki,ki') vi] at pt
      refine ⟨_,pt,items.length - (i + 1),by omega,δv,mh accI (ki,ki') vi,rfl,hlt,by have:=CG accI (ki,ki') vi;omega,hσ2,?_,em⟩
      exact Sl.hideSet (ff (mh accI (ki,ki') vi)) s5.pop.pop f2 f3
     .cases et
    | false=>
     rw [QC fN] at et
     refine E7 ?_
     obtain ⟨rfl,rfl⟩:=aW et
     exact ⟨items.length - (i + 1),by omega,δb,accI,rfl,hlt,by omega,hσ2,s3,em⟩
 .have ei:i=items.length:=by omega
  subst ei
  rw [ZU] at em
  unfold gF at em
  by_cases hf:fin δi=true
  .rw [gL hf] at em
   obtain ⟨rfl,rfl⟩:accI=xs∧δi=δ':=by cases em;exact ⟨rfl,rfl⟩
   refine .inl ⟨(hJ { c with Z:=upd c.Z q (ff accI) } _ S σ' T H _ s).2 rfl hf,k σ' H (by omega) hσ ?_⟩
   exact s.stk (s.st.right l)
  .rw [QC hf] at em;cases em
theorem tB {lo own:Nat}:∀σ H Q,tM (ku lo own fi (l0 gt tt (ue fi2 (j4 gt2 tt2 tk tv)))) σ H Q->vM (KY fi) own (IV lo gt) (pJ tt) (EY (Nz fi2) (IV lo gt2) (pJ tt2) (tM tk) (tM tv)) σ H Q:=fun σ H Q ⟨c,δ0,S,T,dd,δ',s0,e,k⟩=>by
 obtain ⟨u,δ1,e0,e⟩:=bind_some e
 have hlo:σ.length=lo∧δ0=δ1:= by
  unfold gB at e0
  split at e0
  .cases e0;exact ⟨by rw [<- s0.len];assumption,rfl⟩
  .cases e0
 obtain ⟨hlo,rfl⟩:=hlo
 obtain ⟨it,δ2,e1,e⟩:=bind_some e
 obtain ⟨u',δ3,e2,e⟩:=bind_some e
 obtain ⟨e3,rfl⟩:=bc e2
 have hfew:=m7 e3
 obtain ⟨kvs,δ4,e4,e⟩:=bind_some e
 obtain ⟨rfl,rfl⟩:=aW e
 refine ⟨c,δ0,S,T,it,δ2,s0,e1,fun J Sx Tx H1 l hJ s1 q hq=>?_⟩
 obtain ⟨items,fin⟩:=it
 dsimp only at e4 hfew
 obtain ⟨f1,f2,f3⟩:=s1.fresh hq
 refine ⟨.dT [],.inr rfl,fun i m H=>∃δi acc,m=items.length - i∧i ≤ items.length∧acc.length ≤ 1000 * i∧Sl { c with Z:=upd c.Z q (ff acc) } δi (Sx ++ S) σ (Tx ++ T) H ∧
  gJ own (l0 gt tt (ue fi2 (j4 gt2 tt2 tk tv))) fin (items.drop i) acc δi=some (kvs,δ4),⟨_,δ2,[],rfl,QV _,wF _,s1.hide hq,e4⟩,?_⟩
 rintro i m H ⟨δi,acc,rfl,hi,li,s,em⟩
 by_cases hlt:i < items.length
 .rw [QG hlt] at em
  unfold gJ at em
  cases ea:items[i] δi with
  | none=>rw [ea] at em;cases em
  | some d=>
   rw [ea] at em
   dsimp only at em
   cases et:l0 gt tt (ue fi2 (j4 gt2 tt2 tk tv)) d acc (δi ++ List.replicate own .un) with
   | none=>rw [et] at em;cases em
   | some p=>
    obtain ⟨acc2,δt⟩:=p
    rw [et] at em
    dsimp only at em
    obtain ⟨u1,δa,ea1,et⟩:=bind_some et
    obtain ⟨b,δb,eb1,et⟩:=bind_some et
    obtain ⟨go,yld⟩:=(hJ { c with Z:=upd c.Z q (ff acc) } δi S T H i s).1 items[i] d (kW hlt) ea
    refine .inr ⟨go,fun x H' y=>?_⟩
    refine ⟨{ c with Z:=upd c.Z q (ff acc) },δi ++ List.replicate own .un,Sx ++ S,Tx ++ T,d,δa,(yld x H' y).ext own,ea1,fun σ2 H2 hn s2=>?_⟩
    have ht:σ2.take σ.length=σ:= by
     rw [hn _ (W7 hlo)]
     exact YB rfl
    refine ⟨{ c with Z:=upd c.Z q (ff acc) },δa,Sx ++ S,Tx ++ T,b,δb,s2,eb1,fun H3 s3=>?_⟩
    have cutL:δi.length=σ.length:=s.len
    cases b with
    | true=>
     rw [gL rfl] at et
     refine Dp ?_
     refine Gg (n0:=1000 * i) (by omega) s3 li f2 f3 et fun σ3 H4 ll hn' s4=>?_
     have ht3:σ3.take σ.length=σ:=by rw [hn' _ (W7 hlo)];exact ht
     refine ⟨ht3,items.length - (i + 1),by omega,δt.take δi.length,acc2,rfl,hlt,by omega,?_,em⟩
     have s5:=s4.cut σ.length
     rw [ht3,<- cutL] at s5
     exact s5
    | false=>
     rw [QC fN] at et
     refine E7 ?_
     obtain ⟨rfl,rfl⟩:=aW et
     refine ⟨ht,items.length - (i + 1),by omega,δb.take δi.length,acc,rfl,hlt,by omega,?_,em⟩
     have s5:=s3.cut σ.length
     rw [ht,<- cutL] at s5
     exact s5
 .have ei:i=items.length:=by omega
  subst ei
  rw [ZU] at em
  unfold gJ at em
  by_cases hf:fin δi=true
  .rw [gL hf] at em
   obtain ⟨rfl,rfl⟩:acc=kvs∧δi=δ4:=by cases em;exact ⟨rfl,rfl⟩
   refine .inl ⟨(hJ { c with Z:=upd c.Z q (ff acc) } _ S T H _ s).2 rfl hf,k _ _ ?_⟩
   have s2:=s.unhideO (d:=.dip acc) f1 fun Hh h=>.mkDip h
   exact s2.stk (.cons s2.st.head (s2.st.tail.right l))
  .rw [QC hf] at em;cases em
variable {N' own:List Str} {scope:Scope} {ifs1 ifs2:List Expr} {lo:Nat}
theorem xV {k:Nat} (hr:cb k X.A) (hi:DC X t1 i1 fi) (hg:∀s H fp pins,DG (blk X N' own scope s H fp pins) lo t1 gt) (ht:∀s H fp pins,pg (blk X N' own scope s H fp pins) ifs1 (pJ tt)) (hi2:∀s H fp pins,DI (blk X N' own scope s H fp pins) t2 i2 fi2) (hg2:∀s H fp pins,DG (blk X N' own scope s H fp pins) lo t2 gt2)
  (ht2:∀s H fp pins,pg (blk X N' own scope s H fp pins) ifs2 (pJ tt2)) (he:∀s H fp pins,DE (blk X N' own scope s H fp pins) kx tk) (hv:∀s H fp pins,DE (blk X N' own scope s H fp pins) vx tv)
  (hS:cT N' own X.env.scope scope=true:=by rfl) (hM:cQ X.N N' scope=true:=by rfl) (hk:scope.kind=.function:=by rfl) (hc:X.calm=true:=by rfl) (hs:∀x,foldedSetIterable i1 X.env x=pure x:=by intro _;rfl) (hs2:∀e x,foldedSetIterable i2 e x=pure x:=by intro _ _;rfl) :
  DE X (.DictComp kx vx [⟨t1,i1,ifs1,0⟩,⟨t2,i2,ifs2,0⟩] scope pos) (ku lo own.length fi (l0 gt tt (ue fi2 (j4 gt2 tt2 tk tv)))):=cC (yC hi hg ht hi2 hg2 ht2 he hv (by have:=gM hr;omega) hS hM hk hc hs hs2) tB
end
end Jt
namespace Jt
open PySem PySem.Spec PyProof.Rows
section
variable {prog:Program} {w:World} {A:Around} {E:Value->Shared->Prop} {s:Shared}
theorem iter_raw {d:Addr} {o:Obj} {es:Array DictEntry} {ep:Nat} {Q:Value->Shared->Prop} (hd:(d == sysModules)=false) (ho:s.heap.get? d=some o) (hT:s.TypeIs (.ref d) "dict") (hdat:o.data=.dict es ep)
  (hQ:Q (.ref s.heap.objs.size) { s with heap:=s.heap.push { cls:=.type "dict_keyiterator",data:=.fields #[.ref d,.int 0 0,.int es.size 0,.int ep 0] } }) :
  wpAny (model prog w) A (pyIter (.ref d)) Q E s:= by
 refine wpAny_pyIter_slot hT PySem.F.slot_dict_iter (ZN PySem.F.slot_dict_iter hT PySem.F.entry_dict_iter ?_ (PySem.F.args_dict_iter_1 _))
 unfold Builtin.«dict.__iter__»
 refine zN ?_
 unfold Builtin.Dict.dictSlotNone
 refine zN (wpAny_notOrdered_dict hT ?_)
 show wpAny _ _ (pure (Value.ref d)) _ _ s
 refine kT ?_
 show wpAny _ _ (Builtin.Dict.showsAll d >>= _) _ _ s
 unfold Builtin.Dict.showsAll
 rw [QC (by rw [hd];exact fN)]
 refine zN (kT ?_)
 refine zN (wpAny_dictEntries ho hdat ?_)
 refine zN (wpAny_dictEpoch ho hdat ?_)
 refine zN (QN (kT ⟨_,rfl,"dict_keyiterator",_,⟨_,wL _ rfl,rfl⟩,PySem.F.slot_dict_keyiterator_next.lookup,?_⟩))
 simpa [rawInt] using hQ
theorem next_raw {it d:Addr} {i ep:Nat} {od:Obj} {es:Array DictEntry} {Q:Option Value->Shared->Prop} (hit:s.heap.IsKeyIter it d i es.size ep) (hod:s.heap.get? d=some od) (hdd:od.data=.dict es ep) (hlt':i < es.size)
  (hQ:∀h':Heap,h'.IsKeyIter it d (i + 1) es.size ep->Heap.SameBut it s.heap h' -> Q (some es[i].key) { s with heap:=h' }) :
  wpAny (model prog w) A (pyNext (.ref it)) Q E s:= by
 obtain ⟨o,ho,hc,hd⟩:=id hit
 unfold pyNext
 refine zN (WO (ZK (name:=Str.ofString "__next__") hit.typeIs VB
  (ZN VB hit.typeIs WT ?_ (WK _))))
 refine zN (kT ?_)
 refine zN ?_
 refine zN ?_
 first | refine zN (VX hit.typeIs (kT ?_)) | refine zN (YH hit.typeIs (kT ?_))
 refine zN (wpAny_fieldsOf ho hd ?_)
 have hown:Builtin.Dict_items.ownsTuple "dict_keyiterator" = false:=by decide
 simp only [hown,ZD,YQ]
 show wpAny _ _ (if (Value.ref d == Value.none)=true then _ else _) _ _ s
 rw [QC (show ¬ ((Value.ref d == Value.none)=true) from fN)]
 refine zN (kT ?_)
 refine zN (wpAny_dictEntries hod hdd ?_)
 rw [QC (by simp)]
 refine zN (kT ?_)
 refine zN (wpAny_dictEpoch hod hdd ?_)
 rw [QC (by simp)]
 refine kT ?_
 simp only [show ¬ ((i:Int) < 0) from by omega,YQ,Y1,ZW hlt']
 refine zN ?_
 first | refine zN (VX hit.typeIs (kT ?_)) | refine zN (YH hit.typeIs (kT ?_))
 refine zN (wpAny_isOneOf_keyiter hit.typeIs ?_)
 show wpAny _ _ (setField (.ref it) 1 (rawInt ((i:Int) + 1)) >>= _) _ _ s
 refine zN (wpAny_setField ho hd (by simp) ?_)
 have hit':(s.heap.update it (Obj.mapFields (·.setIfInBounds 1 (rawInt ((i:Int) + 1))))).IsKeyIter it d (i + 1) es.size ep :=
  ⟨_,ZJ _ ho (Obj.isFreed_of_fields (WX hd _)),(Obj.cls_mapFields ..).trans hc,by rw [WX hd];simp [rawInt]⟩
 refine zN (QZ ?_)
 refine zN (wpAny_isOneOf_keyiter (s:={ s with heap:=s.heap.update it (Obj.mapFields (·.setIfInBounds 1 (rawInt ((i:Int) + 1)))) }) hit'.typeIs ?_)
 show wpAny _ _ (pure es[i].key) _ _ _
 exact kT (kT ⟨_,rfl,kT (hQ _ hit' (QS ..))⟩)
theorem end_raw {it d:Addr} {i ep:Nat} {od:Obj} {es:Array DictEntry} {Q:Option Value->Shared->Prop} (hh:A.handled=none) (hit:s.heap.IsKeyIter it d i es.size ep) (hod:s.heap.get? d=some od) (hdd:od.data=.dict es ep) (hge:es.size ≤ i)
  (hQ:∀h',Heap.ExtBut it s.heap h' -> Q none { s with heap:=h' }):wpAny (model prog w) A (pyNext (.ref it)) Q E s:= by
 obtain ⟨o,ho,hc,hd⟩:=id hit
 unfold pyNext
 refine zN (WO (ZK (name:=Str.ofString "__next__") hit.typeIs VB
  (ZN VB hit.typeIs WT ?_ (WK _))))
 refine zN (kT ?_)
 refine zN ?_
 refine zN ?_
 first | refine zN (VX hit.typeIs (kT ?_)) | refine zN (YH hit.typeIs (kT ?_))
 refine zN (wpAny_fieldsOf ho hd ?_)
 have hown:Builtin.Dict_items.ownsTuple "dict_keyiterator" = false:=by decide
 simp only [hown,ZD,YQ]
 show wpAny _ _ (if (Value.ref d == Value.none)=true then _ else _) _ _ s
 rw [QC (show ¬ ((Value.ref d == Value.none)=true) from fN)]
 refine zN (kT ?_)
 refine zN (wpAny_dictEntries hod hdd ?_)
 rw [QC (by simp)]
 refine zN (kT ?_)
 refine zN (wpAny_dictEpoch hod hdd ?_)
 rw [QC (by simp)]
 refine kT ?_
 simp only [show ¬ ((i:Int) < 0) from by omega,YQ,Y1,YT hge]
 refine zN ?_
 first | refine zN (VX hit.typeIs (kT ?_)) | refine zN (YH hit.typeIs (kT ?_))
 show wpAny _ _ (setField (.ref it) 0 .none >>= _) _ _ s
 refine zN (wpAny_setField ho hd (by simp) ?_)
 show wpAny _ _ (newExc (.type "StopIteration") [] >>= _) _ _ _
 refine zN ?_
 simp only [newExc,newTuple]
 refine zN (QN ?_ (by size_fits))
 refine zN (m:=firstArgMember _ _) (wpAny_of_eq (a:=Value.none) (by first | rfl | (simp only [firstArgMember];rfl)) ?_)
 refine QN ?_ (by size_fits)
 simp only [raiseNew]
 refine zN (wpAny_handled ?_)
 rw [show A.in1.handled=none from hh]
 refine zN (kT (wpAny_throw ?_))
 refine zN (XC (T:="StopIteration") (b:=true) ⟨_,wL _ rfl,rfl⟩ isSubtype_stop ?_)
 exact kT (hQ _ (((QS ..).extBut.push _).push _))
end
end Jt
namespace L2
open PySem PySem.Spec PyProof.Rows
theorem Paired.get {α β:Type} {R:α->β->Prop} {l:List α} {m:List β} (h:Paired R l m):∀{i:Nat} {p:α},l[i]? = some p->∃q,m[i]? = some q∧R p q:= by
 induction h with
 | nil=>intro i p e;cases e
 | cons r t ih=>
  intro i p e
  cases i with
  | zero=>cases e;exact ⟨_,rfl,r⟩
  | succ i=>exact ih (by simpa using e)
theorem oD {P:Program} {w:World} {H:Hp} {h:Heap} {a:Addr} {kvs:List (List Key × V)} (ok:iG P w H h) (e:Rd H a (.dT kvs)) :
  (a == sysModules)=false∧∃o es,h.get? a=some o∧o.cls=.type "dict" ∧ o.data=.dict es es.size∧es.size=kvs.length∧∀i p,kvs[i]? = some p->∃(hlt:i < es.size) (b:Addr),es[i].key=.ref b∧H b=some (.tup (p.1.map kV)):= by
 obtain ⟨z,y,xs,r,o,es,ep,h1,h2,h3,h4,h5,h6⟩:=(show cg P w H h a (.dT kvs) from rd_of ok e)
 subst h6
 have sz:es.size=kvs.length:= by
  rw [XG r]
  have:=Z6 List.length h4
  simpa using this
 refine ⟨y,o,es,h1,h2.1,h3,sz,fun i p hp=>?_⟩
 obtain ⟨q,hq,_,hb,_⟩:=Paired.get r hp
 have hlt:i < es.size:=by rw [sz];exact (xZ.mp hp).1
 refine ⟨hlt,q.2.1,?_,hb⟩
 have e2:es.toList[i]? = some (entryOfKey (tupleKind (cK P w)) q):=by rw [h4,QL,hq];rfl
 rw [QQ,ZW hlt] at e2
 rw [Q9 e2]
 rfl
noncomputable def ND (a:Addr) (n:Nat):It :=
 ⟨fun i H=>∃kvs,Rd H a (.dT kvs)∧kvs.length=n∧i < n,fun i H x H'=>H' = H∧∃kvs p b,Rd H a (.dT kvs)∧kvs[i]? = some p∧x=.ref b∧H b=some (.tup (p.1.map kV)),fun i H=>∃kvs,Rd H a (.dT kvs)∧kvs.length=n∧n ≤ i⟩
theorem xU {P:Program} {w:World} {K:PySem.W.Frag} {tg:Expr} (a it:Addr) (n:Nat):Turn P w K tg (ND a n) [it] it (fun i h=>h.IsKeyIter it a i n n) where
 mem:=by simp
 obj:=fun i h st b hb=>by
  have e:b=it:=by simpa using hb
  subst e
  obtain ⟨o,e,c,d⟩:=st
  exact ⟨o,e,fun v z=>by rw [d] at z;cases z⟩
 keep:=fun i h h' st k=>st.at fun o e=>k it (by simp) o e
 item:= by
  intro X hP hw hK hc i pins s σ H E I hf st hg
  subst hP hw hK
  obtain ⟨kvs,hq,hl,hi⟩:=hg
  obtain ⟨_,o,es,h1,h2,h3,h4,h5⟩:=oD I.hok hq
  obtain ⟨p,hp⟩:∃p,kvs[i]? = some p:=⟨kvs[i],kW (by omega)⟩
  obtain ⟨hlt,b,eb,hb⟩:=h5 i p hp
  obtain ⟨f0,f1,f2,f3,f4,f5⟩:=hf it (by simp)
  have en:n=es.size:=by omega
  rw [en] at st
  refine Jt.next_raw st h1 h3 hlt fun h' st' sb=>?_
  have I1:Inv X pins σ H { s with heap:=h' }:=I.turned (t':=s.toks) (fun b o hb e=>(sb.2 b hb).trans e) f0 f1 f3 f4 f5
  obtain ⟨o',e',c',d'⟩:=id st'
  rw [eb]
  exact ⟨.ref b,rfl,rR (s:={ s with heap:=h' }) e' c' d' (by decide) ⟨.ref b,H,I1,rfl,⟨rfl,kvs,p,b,hq,hp,rfl,hb⟩,by rw [en];exact st',fun b hb=>(hf b hb).1⟩⟩
 done:= by
  intro X hP hw hK hc i pins s σ H E I hf st hg
  subst hP hw hK
  obtain ⟨kvs,hq,hl,hi⟩:=hg
  obtain ⟨_,o,es,h1,h2,h3,h4,h5⟩:=oD I.hok hq
  obtain ⟨f0,f1,f2,f3,f4,f5⟩:=hf it (by simp)
  have en:n=es.size:=by omega
  rw [en] at st
  exact Jt.end_raw (I.ok.hd hc) st h1 h3 (by omega) fun h' eb=>⟨rfl,I.turned (t':=s.toks) (fun b o hb e=>eb b o hb e) f0 f1 f3 f4 f5⟩
 self:=fun _ _ _ _ _ st h=>wpAny_pyIter_keyiter st h
section
variable {X:Cx} {tg l:Expr} {tl:TE}
noncomputable def MB (tl:TE):TI:=fun σ H R=>tl σ H fun x H1=>∃a kvs,x=.ref a∧Rd H1 a (.dT kvs)∧R (ND a kvs.length) H1
theorem DK (hl:PE X l tl):PI X tg l (MB tl):= by
 intro pins s σ H R I h
 refine cf (hl pins s σ H _ I h) fun v s1 ⟨x,H1,I1,r1,q1⟩=>?_
 obtain ⟨a,kvs,e,hq,q⟩:=q1
 subst e
 cases r1
 obtain ⟨hd,o,es,h1,h2,h3,h4,h5⟩:=oD I1.hok hq
 refine Jt.iter_raw hd h1 ⟨o,h1,h2⟩ h3 ?_
 refine ⟨s1.heap.objs.size,[s1.heap.objs.size],_,_,H1,rfl,I1.kept (t':=s1.toks) fun b o e=>zS _ e,xU a _ kvs.length,⟨_,wL _ rfl,rfl,by rw [h4];rfl⟩,fun b hb=>?_,q⟩
 have e:b=s1.heap.objs.size:=by simpa using hb
 subst e
 exact I1.fpOk (wF _) (I1.hok.fresh (wF _))
end
end L2
namespace Jt.So
open PySem L2 PySem.Spec PyProof.Rows PySem.W
noncomputable def WpT{α:Type}(g:Nat->Nat->Bool)(n:Nat):KasT α->(α->Prop)->Prop
 | .ret a,R=>R a
 | .ask i j k,R=>i<n/\j<n/\WpT g n (k (g i j)) R
section
variable {g:Nat->Nat->Bool} {n:Nat}
theorem WpT.bind {R:β->Prop}:∀{t:KasT α},WpT g n t (fun a=>WpT g n (f a) R)->WpT g n (t.bind f) R
 | .ret _,h=>h
 | .ask i j k,h=>⟨h.1,h.2.1,WpT.bind (t:=k (g i j)) h.2.2⟩
theorem WpT.mono{R S:α->Prop}(o:∀a,R a->S a):∀{t:KasT α},WpT g n t R->WpT g n t S
 | .ret _,h=>o _ h
 | .ask i j k,h=>⟨h.1,h.2.1,WpT.mono o (t:=k (g i j)) h.2.2⟩
theorem WpT.ev{R:α->Prop}:∀{t:KasT α},WpT g n t R->R (M3 g t)
 | .ret _,h=>h
 | .ask i j k,h=>WpT.ev (t:=k (g i j)) h.2.2
theorem WpT.kas {R:α->Prop} (hc:∀i j C,i < n->j < n->C (g i j) s->cmp i j C s):∀{t:KasT α},WpT g n t R->Q (M3 g t) s->t.kasWp cmp Q s
 | .ret _,_,h=>h
 | .ask i j k,hw,h=>hc i j _ hw.1 hw.2.1 (WpT.kas hc (t:=k (g i j)) hw.2.2 h)
noncomputable abbrev rj(g:Nat->Nat->Bool)(a b:Nat):Prop:=g b a=false
structure gp (g:Nat->Nat->Bool):Prop where
 tr:∀a b c,rj g a b->rj g b c->rj g a c
 as:∀a b,g a b=true->rj g a b
theorem gp.rf(o:gp g)(a:Nat):rj g a a:=by cases h:g a a with
 |false=>exact h
 |true=>have:=o.as a a h;omega
noncomputable abbrev d9(p:Array Nat)(i:Nat):Nat:=p.getD i 0
noncomputable def Bs(n:Nat)(p:Array Nat):Prop:=p.Perm (List.range n).toArray
theorem Bs.size(h:Bs n p):p.size=n:=by rw[h.size_eq];simp
theorem Bs.lt(h:Bs n p){i:Nat}(o:i<n):d9 p i<n:=by
 have C:i<p.size:=by rw[h.size];exact o
 have e:d9 p i=p[i]:=by simp_all
 have hm:p[i]∈(List.range n).toArray.toList:=(Y9.mp h).mem_iff.mp (by simp);grind
theorem Bs.mir(h:Bs n p)(i j d:Nat):Bs n (mirror p i j d):=(mirror_perm _ _ _ _).trans h
theorem Bs.bub(h:Bs n p)(i d:Nat):Bs n (bubble p i d):=(bubble_perm _ _ _).trans h
theorem fO{i j:Nat}(h:p[i]?=q[j]?):d9 p i=d9 q j:=by simp_all
theorem oU{i j:Nat}(C:j<=p.size)(k:Nat):d9 (mirror p i j ((j-i)/2)) k=if i<=k/\k<j then d9 p (i+j-1-k)else d9 p k:=by
 have e:=getElem?_mirror_all (i:=i) C k;by_cases o:i<=k/\k<j;. rw[gL o]at e|-;exact fO e
 .rw[QC o]at e|-;exact fO e
theorem u6{src d:Nat}(hs:src<p.size)(hd:d<=src)(k:Nat):
  d9 (bubble p src d) k=if k=src-d then d9 p src else if src-d<k/\k<=src then d9 p (k-1)else d9 p k:=by
 have e:=getElem?_bubble hs d hd k;by_cases o:k=src-d;. rw[gL o]at e|-;exact fO e
 .rw[QC o]at e|-;by_cases C:src-d<k/\k<=src;. rw[gL C]at e|-;exact fO e
  .rw[QC C]at e|-;exact fO e
noncomputable def Up(g:Nat->Nat->Bool)(p:Array Nat)(k:Nat):Prop:=∀i j,i<=j->j<k->rj g (d9 p i) (d9 p j)
noncomputable def Dn(g:Nat->Nat->Bool)(p:Array Nat)(k:Nat):Prop:=∀i j,i<=j->j<k->rj g (d9 p j) (d9 p i)
noncomputable def Eqv(g:Nat->Nat->Bool)(a b:Nat):Prop:=rj g a b/\rj g b a
theorem Eqv.trans(o:gp g){a b c:Nat}(h:Eqv g a b)(k:Eqv g b c):Eqv g a c:=⟨o.tr _ _ _ h.1 k.1,o.tr _ _ _ k.2 h.2⟩
theorem Eqv.symm(h:Eqv g a b):Eqv g b a:=⟨h.2,h.1⟩
theorem Eqv.rf(o:gp g)(a:Nat):Eqv g a a:=⟨o.rf a,o.rf a⟩
theorem om(o:gp g){p:Array Nat}{i j:Nat}(C:j<=p.size)(heq:∀k,i<=k->k<j->Eqv g (d9 p k) (d9 p (j-1)))(k:Nat):
  Eqv g (d9 (mirror p i j ((j-i)/2)) k) (d9 p k):=by
 rw[oU C];split;. exact(heq _ (by omega) (by omega)).trans o (heq k (by omega) (by omega)).symm
 .exact .rf o _
theorem Up.one(o:gp g)(p:Array Nat):Up g p 1:= λ i j C I=>by
 have:i=j:=by omega
 subst this;exact o.rf _
theorem Up.snoc(o:gp g){p:Array Nat}{x:Nat}(hx:1<=x)(h:Up g p x)(h':rj g (d9 p (x-1)) (d9 p x)):Up g p (x+1):= λ i j C U=>by
 by_cases I:j<x;. exact h i j C I
 .have:j=x:=by omega
  subst this;by_cases J:i=j;. subst J;exact o.rf _
  .exact o.tr _ _ _ (h i (j-1) (by omega) (by omega)) h'
theorem Dn.snoc(o:gp g){p:Array Nat}{x:Nat}(hx:1<=x)(h:Dn g p x)(h':rj g (d9 p x) (d9 p (x-1))):Dn g p (x+1):= λ i j C U=>by
 by_cases I:j<x;. exact h i j C I
 .have:j=x:=by omega
  subst this;by_cases J:i=j;. subst J;exact o.rf _
  .exact o.tr _ _ _ h' (h i (j-1) (by omega) (by omega))
theorem Dn.eqv(o:gp g){p q:Array Nat}{x:Nat}(h:Dn g p x)(e:∀k,Eqv g (d9 q k) (d9 p k)):Dn g q x:= λ i j C I=>o.tr _ _ _ (e j).1 (o.tr _ _ _ (h i j C I) (e i).2)
theorem AO(o:gp g){p:Array Nat}(b:Bs n p):∀(f x:Nat),x+f<=n->1<=x->Up g p x->
  WpT g n (kas_asc p f x) (λ m=>x<=m/\m<=x+f/\Up g p m/\(m=x+f\/g (d9 p m) (d9 p (m-1))=true))
 |0,x,_,_,h=>⟨wF _,wF _,h,.inl rfl⟩
 |f+1,x,hx,I,h=>by refine⟨b.lt (by omega),b.lt (by omega),?_⟩;cases C:g (p.getD x 0) (p.getD (x-1) 0)with
  |true=>exact⟨wF _,by omega,h,.inr C⟩
  |false=>refine WpT.mono (λ m hm=>?_) (AO o b f (x+1) (by omega) (by omega) (h.snoc o I C));grind
noncomputable def DI(g:Nat->Nat->Bool)(n:Nat)(p:Array Nat)(x q:Nat):Prop:=Bs n p/\Dn g p x/\q+1<=x/\∀i,x-(q+1)<=i->i<x->Eqv g (d9 p i) (d9 p (x-1))
theorem AK(o:gp g):∀(f:Nat)(p:Array Nat)(x q:Nat),x+f<=n->DI g n p x q->
  WpT g n (kas_desc f p x q) (λ r=>x<=r.2.1/\r.2.1<=x+f/\DI g n r.1 r.2.1 r.2.2)
 |0,p,x,q,_,h=>⟨wF _,wF _,h⟩
 |f+1,p,x,q,hx,h=>by
  obtain⟨b,d,hq,he⟩:=h;have sz:x<=p.size:=by rw[b.size];omega
  refine⟨b.lt (by omega),b.lt (by omega),?_⟩;have next:∀{C:Array Nat}{J:Nat},DI g n C (x+1) J->WpT g n (kas_desc f C (x+1) J) (λ r=>x<=r.2.1/\r.2.1<=x+(f+1)/\DI g n r.1 r.2.1 r.2.2):= λ hd=>
   WpT.mono (λ r hr=>⟨by omega,by omega,hr.2.2⟩) (AK o f _ (x+1) _ (by omega) hd);have U:∀(C:Array Nat),∀i,x+1-(0+1)<=i->i<x+1->Eqv g (d9 C i) (d9 C (x+1-1)):= λ C i h1 h2=>by
   have:i=x+1-1:=by omega
   rw[this];exact .rf o _
  cases hc:g (p.getD x 0) (p.getD (x-1) 0)with
  |true=>
   have dn:Dn g p (x+1):=d.snoc o (by omega) (o.as _ _ hc);by_cases I:q>0;. rw[gL I];exact next ⟨b.mir _ _ _,dn.eqv o (om o sz he),by omega,U _⟩
   .rw[QC I];exact next ⟨b,dn,by omega,U _⟩
  |false=>refine⟨b.lt (by omega),b.lt (by omega),?_⟩;cases hd:g (p.getD (x-1) 0) (p.getD x 0)with
   |true=>exact⟨wF _,by show x<=x+(f+1);omega,b,d,hq,he⟩
   |false=>
    have eq:Eqv g (d9 p x) (d9 p (x-1)):=⟨hd,hc⟩;refine next ⟨b,d.snoc o (by omega) hd,by omega,λ i h1 h2=>?_⟩;by_cases hi:i=x;. subst hi;exact .rf o _
    .exact(he i (by omega) (by omega)).trans o eq.symm
noncomputable def CR(g:Nat->Nat->Bool)(n:Nat)(r:Nat×Array Nat):Prop:=1<=r.1/\r.1<=n/\Bs n r.2/\Up g r.2 r.1
theorem wu(o:gp g){p:Array Nat}{x:Nat}(b:Bs n p)(I:1<=x)(hx:x<=n)(d:Dn g p x):WpT g n (kas_tail3 x n p) (CR g n):=by
 have sz:x<=p.size:=by rw[b.size];omega
 have C:Bs n (kas_rev p 0 x):=b.mir _ _ _;refine WpT.bind (WpT.mono (λ m hm=>?_) (AO o C (n-x) x (by omega) I λ i j J U=>?_));. exact⟨by omega,by omega,C,hm.2.2.1⟩
 .show rj g (d9 (mirror p 0 x ((x-0)/2)) i) (d9 (mirror p 0 x ((x-0)/2)) j);rw[oU sz,oU sz,gL (by omega),gL (by omega)];exact d _ _ (by omega) (by omega)
theorem k8(o:gp g){p:Array Nat}{x:Nat}(b:Bs n p)(hx:x+1<=n)(d:Dn g p (x+1)):WpT g n (kas_descPart x n p) (CR g n):=by
 refine WpT.bind (WpT.mono (λ r J=>?_) (AK o (n-(x+1)) p (x+1) 0 (by omega) ⟨b,d,by omega,λ i U h2=>?_⟩))
 .obtain⟨U,h2,I,d',hq,he⟩:=J;have sz:r.2.1<=r.1.size:=by rw[I.size];omega
  by_cases C:r.2.2>0;. rw[gL C];exact wu o (I.mir _ _ _) (by omega) (by omega) (d'.eqv o (om o sz he))
  .rw[QC C];exact wu o I (by omega) (by omega) d'
 .have:i=x+1-1:=by omega
  rw[this];exact .rf o _
theorem w_count(o:gp g){p:Array Nat}(b:Bs n p)(h1:1<=n):WpT g n (kas_count n p) (CR g n):=by
 refine WpT.bind (WpT.mono (λ m hm=>?_) (AO o b (n-1) 1 (by omega) (wF _) (.one o p)));obtain⟨a1,a2,I,a4⟩:=hm;by_cases e:(m==n)=true;. rw[gL e];exact⟨a1,by omega,b,I⟩
 .rw[QC e];have ne:m≠n:= λ z=>e (by rw[z];exact beq_self_eq_true _);have C:g (d9 p m) (d9 p (m-1))=true:=a4.resolve_left (by omega);by_cases J:m>1;. rw[gL J];refine⟨b.lt (by omega),b.lt (by omega),?_⟩;cases hc:g (p.getD 0 0) (p.getD (m-1) 0)with
   |true=>exact⟨a1,by omega,b,I⟩
   |false=>
    have all:∀k,0<=k->k<m->Eqv g (d9 p k) (d9 p (m-1)):= λ k _ hk=>⟨I k (m-1) (by omega) (by omega),o.tr _ _ _ hc (I 0 k (by omega) hk)⟩;have sz:m<=p.size:=by rw[b.size];omega
    refine k8 o (b.mir _ _ _) (by omega) ?_;refine Dn.eqv o (p:=p) (λ i j U hj=>?_) (om o sz all);by_cases aa:j<m;. exact((all j (by omega) aa).trans o (all i (by omega) (by omega)).symm).1
    .have:j=m:=by omega
     subst this;by_cases hi:i=j;. subst hi;exact o.rf _
     .exact o.tr _ _ _ (o.as _ _ C) (all i (by omega) (by omega)).2
  .have:m=1:=by omega
   subst this;refine k8 o b (by omega) λ i j U hj=>?_;by_cases hi:i=j;. subst hi;exact o.rf _
   .have e1:i=0:=by omega
    have e2:j=1:=by omega
    subst e1 e2;exact o.as _ _ C
theorem pd (o:gp g) {p:Array Nat} {k:Nat} (b:Bs n p) (hk:k < n) (u:Up g p k):∀(f l r:Nat),l ≤ r->r ≤ k->r - l ≤ f->(∀i,i < l->rj g (d9 p i) (d9 p k))->(∀i,r ≤ i->i < k->g (d9 p k) (d9 p i)=true) ->
  WpT g n (kas_place p k f l r) (fun l'=>l' ≤ k∧(∀i,i < l' -> rj g (d9 p i) (d9 p k))∧∀i,l' ≤ i->i < k->g (d9 p k) (d9 p i)=true)
 | 0,l,r,h1,h2,h3,hl,hr=>by
  have:l=r:=by omega
  subst this
  exact ⟨h2,hl,hr⟩
 | f + 1,l,r,h1,h2,h3,hl,hr=>by
  unfold kas_place
  by_cases hge:l ≥ r
  .rw [gL hge]
   have:l=r:=by omega
   subst this
   exact ⟨h2,hl,hr⟩
  .rw [QC hge]
   refine ⟨b.lt hk,b.lt (by omega),?_⟩
   cases hc:g (p.getD k 0) (p.getD ((l + r) / 2) 0) with
   | true=>
    refine pd o b hk u f l ((l + r) / 2) (by omega) (by omega) (by omega) hl fun i h4 h5=>?_
    cases hz:g (d9 p k) (d9 p i) with
    | true=>rfl
    | false=>
     have:=o.tr _ _ _ (u _ _ h4 h5) hz
     simp_all
   | false=>
    refine pd o b hk u f ((l + r) / 2 + 1) r (by omega) (by omega) (by omega) (fun i h4=>?_) hr
    exact o.tr _ _ _ (u i ((l + r) / 2) (by omega) (by omega)) hc
theorem Hv (o:gp g):∀(f:Nat) (p:Array Nat) (k:Nat),Bs n p->k + f ≤ n->Up g p k->WpT g n (kas_bin f p k) (fun q=>Bs n q∧Up g q (k + f))
 | 0,p,k,b,_,u=>⟨b,u⟩
 | f + 1,p,k,b,hk,u=>by
  refine WpT.bind (WpT.mono (fun l hl=>?_) (pd o b (by omega) u k 0 k (by omega) (wF _) (by omega) (fun i h=>by omega) fun i h1 h2=>by omega))
  obtain ⟨hlk,hlo,hhi⟩:=hl
  have ks:k < p.size:=by rw [b.size];omega
  refine WpT.mono (fun q hq=>⟨hq.1,by grind⟩) (Hv o f _ (k + 1) (b.bub _ _) (by omega) fun i j hij hj=>?_)
  rw [u6 ks (by omega),u6 ks (by omega),show k - (k - l)=l by omega]
  generalize d9 p k=c at hlo hhi ⊢
  repeat' split
  all_goals first
   | (exfalso;omega)
   | exact o.rf _
   | exact hlo _ (by omega)
   | exact o.as _ _ (hhi _ (by omega) (by omega))
   | exact u _ _ (by omega) (by omega)
theorem w_sort(o:gp g)(C:1<=n):WpT g n (kas_sort n) (λ p=>Bs n p/\Up g p n):=by
 refine WpT.bind (WpT.mono (λ r I=>?_) (w_count o (Array.Perm.refl _) C));obtain⟨a1,a2,b,u⟩:=I;by_cases h:r.1<n;. rw[gL h];refine WpT.mono (λ q J=>⟨J.1,?_⟩) (Hv o (n-max r.1 1) r.2 (max r.1 1) b (by omega) (by rw[show max r.1 1=r.1 by omega];exact u));simp_all
 .rw[QC h];exact⟨b,by rw[show n=r.1 by omega];exact u⟩
end
noncomputable def gI(ks:List Int)(i j:Nat):Bool:=decide (ks.getD i 0<ks.getD j 0)
theorem gI_ord(ks:List Int):gp (gI ks) where
 tr:= λ a b c h k=>by unfold rj gI at*;grind
 as:= λ a b h=>by unfold rj gI at*;grind
noncomputable def ordI(ks:List Int):Array Nat:=M3 (gI ks) (kas_sort ks.length)
theorem ordI_ok(h:1<=ks.length):Bs ks.length (ordI ks)/\Up (gI ks) (ordI ks) ks.length:=(w_sort (gI_ord ks) h).ev
noncomputable def pickI{α:Type}(ks:List Int)(z:α)(vs:List α):List α:=if ks.length<2 then vs else(ordI ks).toList.map λ i=>vs.getD i z
theorem pickI_perm(ks:List Int)(z:α)(vs:List α)(C:vs.length=ks.length):(pickI ks z vs).Perm vs:=by
 unfold pickI;split;. exact .refl _
 .have b:=(ordI_ok (ks:=ks) (by omega)).1;have p:(ordI ks).toList.Perm (List.range ks.length):=by simpa using Y9.mp b
  have e:(List.range ks.length).map (λ i=>vs.getD i z)=vs:=by
   apply List.ext_getElem?;intro i;rw[QL];by_cases o:i<ks.length;. rw[V4 o];simp[kW (show i<vs.length by omega)]
   .rw[KW (by simpa using o),KW (by omega)];rfl
  grind
theorem pickI_sorted(ks:List Int):(pickI ks 0 ks).Pairwise (. <= .):=by
 unfold pickI;split;. rename_i h;match ks,h with
  |[],_=>exact .nil
  |[a],_=>exact W2 _ _
  |_::_::_,h=>exact absurd h (by simp)
 .obtain⟨b,u⟩:=ordI_ok (ks:=ks) (by omega);rw[YD,WC];intro i j hi J U;have o:j<ks.length:=by rw[<- b.size];simpa using J
  have:=u i j (by omega) o;have e:∀k(I:k<(ordI ks).toList.length),d9 (ordI ks) k=(ordI ks).toList[k]:= λ k I=>by
   have C:k<(ordI ks).size:=by simpa using I
   simp[C]
  unfold rj gI at this;grind
theorem pickI_map(ks:List Int)(f:α->β)(z:α)(vs:List α):(pickI ks z vs).map f=pickI ks (f z) (vs.map f):=by
 unfold pickI;split;. rfl
 .rw[ZI];refine ZM λ i _=>?_;simp
end Jt.So
namespace Jt
open PySem
variable{M:Nat}
noncomputable def av(M:Nat)(p:SetTable.Probe):SetTable.Probe:=if p.more>0 then{ p with j:=p.j+1,more:=p.more-1 }else
 { p with j:=(SetTable.leap M p.i p.perturb).1,more:=SetTable.runEnd M (SetTable.leap M p.i p.perturb).1-(SetTable.leap M p.i p.perturb).1,i:=(SetTable.leap M p.i p.perturb).1,perturb:=(SetTable.leap M p.i p.perturb).2 }
noncomputable def rn(M i q:Nat):SetTable.Probe:=⟨i,SetTable.runEnd M i-i,i,q,none⟩
noncomputable def wy(M b:Nat):Nat->SetTable.Probe
 |0=>rn M (b%(M+1)) b
 |n+1=>av M (wy M b n)
noncomputable def rl(M i:Nat):Nat:=SetTable.runEnd M i-i
noncomputable def lp(M:Nat):Nat->Nat×Nat->Nat×Nat
 |0,s=>s
 |n+1,s=>SetTable.leap M (lp M n s).1 (lp M n s).2
end Jt
namespace Jt.Tu
open PySem Jt
section
set_option maxHeartbeats 8000000 in
end
end Jt.Tu
namespace Jt
open PySem PySem.Spec PyProof.Rows
noncomputable def uf (h:Heap) (d:Addr) (es:Array DictEntry):Prop:=∃o,h.get? d=some o∧o.cls=.type "dict" ∧ o.data=.dict es es.size
section
variable {prog:Program} {w:World} {A:Around} {E:Value->Shared->Prop} {s:Shared} {d:Addr} {es:Array DictEntry}
theorem uf.at {h h':Heap} (x:uf h d es) (k:∀o,h.get? d=some o->h'.get? d=some o):uf h' d es:=let ⟨o,h1,h2⟩:=x;⟨o,k o h1,h2⟩
theorem yi (hh:A.handled=none) (I:Addr) (hne:d ≠ I) (es:Array DictEntry) :
  Walks prog w A I [I,d] [I] es.size (fun i v=>∃e,es[i]? = some e∧v=e.key) (fun i h=>h.IsKeyIter I d i es.size es.size∧uf h d es) where
 sub:=fun b hb=>by simp at hb;simp [hb]
 frame:=fun _ _ _ st hk=>⟨st.1.at fun o e=>hk I (by simp) o e,st.2.at fun o e=>hk d (by simp) o e⟩
 item:=fun i s Q E hi st hQ=>by
  obtain ⟨st,o,h1,h2,h3⟩:=st
  refine next_raw st h1 h3 hi fun h' it' sb=>?_
  exact hQ _ h' s.toks ⟨_,ZW hi,rfl⟩ ⟨it',o,(sb.2 d hne).trans h1,h2,h3⟩ fun b o hb e=>(sb.2 b (fun z=>hb (by simp [z]))).trans e
 done:=fun s Q E st hQ=>by
  obtain ⟨st,o,h1,h2,h3⟩:=st
  exact end_raw hh st h1 h3 (wF _) fun h' eb=>hQ h' s.toks fun b o hb e=>eb b o (fun z=>hb (by simp [z])) e
 self:=fun _ _ _ _ st hQ=>wpAny_pyIter_keyiter st.1 hQ
theorem FQ (lo:(d == sysModules)=false) (es:Array DictEntry):PySem.W.KdlSrc prog w "dict" d d es.size (fun i v=>∃e,es[i]? = some e∧v=e.key) (fun h=>uf h d es) where
 type:=fun s ⟨o,h1,h2,_⟩=>⟨o,h1,h2⟩
 there:=fun h ⟨o,h1,_⟩=>⟨wN h1,wN h1⟩
 keep:=fun h h' x hk=>x.at (hk d (.inl rfl))
 notList:=by decide
 notTuple:=by decide
 hint:=fun _ _ _ _ ⟨o,h1,h2,_⟩ hq=>PySem.W.kdl_hint_dict ⟨o,h1,h2⟩ hq
 iter:=fun A s hh x=>⟨_,fun i h=>h.IsKeyIter s.heap.objs.size d i es.size es.size∧uf h d es,fun E Q hq=>by
   obtain ⟨o,h1,h2,h3⟩:=x
   exact iter_raw lo h1 ⟨o,h1,h2⟩ h3 hq,
  yi hh _ (by obtain ⟨o,h1,_⟩:=x;exact QB (wN h1)) es,⟨⟨_,wL _ rfl,rfl,rfl⟩,x.at fun o e=>zS _ e⟩⟩
theorem Fi {acc:Array Value} (h:ItemsOf (fun i v=>∃e,es[i]? = some e∧v=e.key) acc es.size):acc.toList=es.toList.map (·.key):= by
 refine List.ext_getElem? fun i=>?_
 rw [QL,QQ,QQ]
 by_cases hi:i < acc.size
 .obtain ⟨e,h1,h2⟩:=h.2 i _ (ZW hi)
  rw [ZW hi,h1,h2];rfl
 .rw [YT (by omega),YT (by have:=h.1;omega)];rfl
theorem qB {Q:List Value->Shared->Prop} (hh:A.handled=none) (lo:(d == sysModules)=false) (x:uf s.heap d es) (hn:es.size ≤ sizeLine)
  (h:∀(h':Heap) (tk:Nat),(∀b o,s.heap.get? b=some o->h'.get? b=some o)->s.heap.objs.size ≤ h'.objs.size->Q (es.toList.map (·.key)) { s with heap:=h',toks:=tk }) :
  wpAny (model prog w) A (collect (.ref d)) Q E s:= by
 have hd:d < s.heap.objs.size:=by obtain ⟨o,h1,_⟩:=x;exact wN h1
 unfold collect
 refine zN (W4 (Z2 W9 ?_))
 rw [VU F.plain_proto_collect _]
 show wpAny (model prog w) A.in1 (newList [] >>= fun l=>again (.builtin "list.__iadd__" ⟨[l,.ref d],[]⟩)) _ _ s
 refine zN (QN (kT ⟨WN Y0 _,Z2 F.entry_list_iadd ?_⟩))
 rw [VU Y0 _]
 have g1:(s.heap.push { cls:=.type "list",data:=.seq ([]:List Value).toArray }).get? s.heap.objs.size=some { cls:=.type "list",data:=.seq ([]:List Value).toArray }:=wL _ rfl
 show wpAny (model prog w) A.in1 (Builtin.List.listExtendWith (.ref s.heap.objs.size) (.ref d) (.ref s.heap.objs.size)) _ _ _
 have key:=PySem.W.kdl_extend (A:=A) (R:=fun r s'=>r=.ok (.ret (.ref s.heap.objs.size))∧∃h' tk acc c,s' = { s with heap:=h',toks:=tk }∧(∀b o,s.heap.get? b=some o->h'.get? b=some o)∧h'.get? s.heap.objs.size=some { cls:=.type "list",dict:=none,data:=.seq acc c,slots:=#[] }∧acc.toList=es.toList.map (·.key))
  (s:={ s with heap:=s.heap.push { cls:=.type "list",data:=.seq ([]:List Value).toArray } }) (FQ (prog:=prog) (w:=w) lo es) hh (x.at fun o e=>zS _ e) _ (VG hd) (VG hd) (.ref s.heap.objs.size) _ g1
  (fun h' tk acc c k hS hacc=>⟨rfl,h',tk,acc,c,rfl,fun b o e=>k b o (QB (wN e)) (zS _ e),hS,Fi hacc⟩) hn
 have fin:∀s',(∃h' tk acc c,s' = { s with heap:=h',toks:=tk }∧(∀b o,s.heap.get? b=some o->h'.get? b=some o)∧h'.get? s.heap.objs.size=some { cls:=.type "list",dict:=none,data:=.seq acc c,slots:=#[] }∧acc.toList=es.toList.map (·.key)) ->
   wpAny (model prog w) A (load s.heap.objs.size >>= fun o=>match o.data with | .seq xs _=>pure xs.toList | _=>unsupported "internal:collect") Q E s':=fun s' ⟨h',tk,acc,c,e,k,g,ea⟩=>by
  subst e
  refine zN (wpAny_load (s:={ s with heap:=h',toks:=tk }) g (kT ?_))
  rw [ea]
  exact h h' tk k (W3 (wN g))
 refine QE key (fun f s' hf=>?_) fun e s' he=>?_
 .cases f with
  | done f=>
   obtain ⟨e,hq⟩:=hf
   cases e
   exact fin s' hq
  | again c'=>exact ⟨hf.1,Z9 hf.2 fun r s'' ⟨e,hq⟩=>by subst e;exact fin s'' hq⟩
 .cases he.1
end
end Jt
namespace L2
open PySem PySem.Spec PyProof.Rows
noncomputable def lam (X:Cx) (N':List Str) (px:Str) (scope:Scope) (qual:Str) (q:Addr) (cdv:Value) (A:Around) (s:Shared) (H:Hp):Cx where
 prog:=X.prog
 w:=X.w
 K:=X.K
 mg:=X.mg
 base:=X.base
 A:=A.deeper (PySem.W.envX qual scope s.heap.objs.size q cdv (dg X.env.cells scope.names []))
 N:=N' ++ [px]
 s₀:=s
 H₀:=H
 env:=PySem.W.envX qual scope s.heap.objs.size q cdv (dg X.env.cells scope.names [])
 outer:=X.stack
 stack:=PySem.W.envX qual scope s.heap.objs.size q cdv (dg X.env.cells scope.names []) :: X.stack
 ex:=[]
 fn:=fun x=>[px].contains x
 calm:=X.calm
 pn:=[]
 xe:=fun _ _=>False
section
variable {X:Cx} {pins:List (Addr × Obj)} {σ:St} {H:Hp} {s:Shared} {N':List Str} {px:Str} {scope:Scope} {qual:Str} {q:Addr} {cdv:Value} {A:Around}
theorem xu (I:Inv X pins σ H s):∀x c,(dg X.env.cells scope.names []).lookup x=some c->X.env.cells.lookup x=some c∧(x,NameKind.free) ∈ scope.names∧c < s.heap.objs.size:= by
 intro x c h
 rcases gR (mem_of_lookup h) with z | ⟨z1,z2⟩
 .exact nomatch z
 .obtain ⟨v,k⟩:=I.cell x c z1
  exact ⟨z1,z2,k.lt⟩
theorem Inv.lam {h₁:Heap} {tk:Nat} {v:V} {u:Value} (I:Inv X pins σ H s) (hA:A.frames=X.A.frames) (hh:A.handled=none) (hk:scope.kind=.function) (S:jR N' [px] X.env.scope scope) (Mk:pG X.N N' scope) (hpx:scope.names.lookup px=some .local) (hnc:∀x ∈ scope.names,x.2 ≠ .cell)
  (hns:h₁.Ns s.heap.objs.size fun y=>[(px,u)].reverse.lookup y) (keep:∀b o,s.heap.get? b=some o->h₁.get? b=some o) (r:RelV v u) :
  Inv (L2.lam X N' px scope qual q cdv A s H) [] (σ ++ [some v]) H { s with heap:=h₁,toks:=tk }:= by
 have hc:=@xu X pins σ H s scope I
 have hasC:∀x,(scope.names.lookup x=some .cell ∨ scope.names.lookup x=some .free)->∃c,(dg X.env.cells scope.names []).lookup x=some c:=fun x hx=>by
  rcases hx with hx | hx
  .exact absurd rfl (hnc _ (mem_of_lookup hx))
  .have hm:=mem_of_lookup hx
   obtain ⟨c,e⟩:=I.ok.has x (S.free x hm)
   exact YG.mp (fQ (.inl ⟨hm,by rw [e];rfl⟩))
 refine ⟨⟨I.ok.mod,hk,rfl,rfl,wF _,fun x y c h1 h2=>I.ok.inj x y c (hc x c h1).1 (hc y c h2).1,fun x hx=>hasC x hx,fun x c hx h=>?_,fun _=>hh,Around.frames_deeper (hA.trans I.ok.frames),.inr ⟨rfl,rfl⟩,fun b hb=>absurd (show b ∈ ([]:List Addr) from hb) (by simp),fun b o e=>I.bs b o e,Q1 I.ok.bsz I.sz,fun b o e hb=>absurd (show b ∈ ([]:List Addr) from hb) (by simp),fun b hb=>absurd (show b ∈ ([]:List Addr) from hb) (by simp),I.stack,I.stkFree,I.tb⟩,
  rfl,I.bare,Un.kept keep,⟨_,hns,fun i x v' h1 h2 h3=>?_⟩,fun x c h=>?_,I.hok.fresh (wF _),fun x c h=>I.freeC x c (hc x c h).1,fun p hp=>absurd (show p ∈ ([]:List (Addr × Obj)) from hp) (by simp),I.hok.kept keep,?_⟩
 .have hx':[px].contains x=true:=hx
  exact absurd (hc x c h).2.1 (S.own x (by simpa using hx'))
 .by_cases hi:i < σ.length
  .rw [QF hi] at h2
   have hN':N'[i]? = some x:= by
    have:(N' ++ [px])[i]? = some x:=h1
    rwa [QF (by rw [Mk.len,<- I.len];exact hi)] at this
   have hmem:x ∈ N':=Y6 hN'
   have hfree:scope.names.lookup x=some .free:= by
    rcases h3 with h3 | h3 | h3
    .exact absurd hmem (S.out x _ (mem_of_lookup h3) (.inl rfl))
    .exact absurd hmem (S.out x _ (mem_of_lookup h3) (.inr rfl))
    .exact h3
   have hN:X.N[i]? = some x:= by
    rcases Mk.same i x hN' with z | z
    .exact z
    .rw [hfree] at z;cases z
   have hkX:=S.free x (mem_of_lookup hfree)
   obtain ⟨m,hn,hl⟩:=I.loc
   obtain ⟨u',r',l⟩:=hl i x v' hN h2 (.inr hkX)
   refine ⟨u',r',.inr ⟨.inr hfree,?_⟩⟩
   rcases l with ⟨k,_⟩ | ⟨_,c,hcc,hcell⟩
   .have k':X.env.scope.names.lookup x=some .local:=k
    rw [k'] at hkX
    rcases hkX with z | z <;> cases z
   .obtain ⟨c2,hc2⟩:=hasC x (.inr hfree)
    refine ⟨c2,hc2,?_⟩
    have:=(hc x c2 hc2).1
    rw [hcc] at this;cases this
    exact hcell.keeps keep
  .rw [Q2 (by omega)] at h2
   have hi0:i=σ.length:= by
    cases e:i - σ.length with
    | zero=>omega
    | succ n=>rw [e] at h2;simp at h2
   subst hi0
   rw [Nat.sub_self] at h2
   have h2':some v=some v':=by simpa using h2
   cases h2'
   have hx:x=px:= by
    have:(N' ++ [px])[σ.length]? = some x:=h1
    rw [Q2 (by rw [Mk.len,<- I.len];exact wF _),Mk.len,<- I.len,Nat.sub_self] at this
    simpa using this.symm
   subst hx
   exact ⟨u,r,.inl ⟨hpx,by simp⟩⟩
 .obtain ⟨v',k⟩:=I.cell x c (hc x c h).1
  exact ⟨v',k.keeps keep⟩
 .show (σ ++ [some v]).length=(N' ++ [px]).length
  rw [fR,fR,I.len,Mk.len];rfl
theorem Ck {nm:Str} {params:Arguments} {body:Expr} {pm ctv:Value} {c':Addr} {v:V} {u:Value} {te:TE} {Q:VK} (I:Inv X pins σ H s) (hA:A.frames=X.A.frames) (hh:A.handled=none) (hroom:A.depth < recursionLimit)
  (hk:scope.kind=.function) (hco:scope.isCoroutine=false) (hgen:scope.isGenerator=false) (S:jR N' [px] X.env.scope scope) (Mk:pG X.N N' scope) (hpx:scope.names.lookup px=some .local) (hnc:∀x ∈ scope.names,x.2 ≠ .cell)
  (hq:s.heap.get? q=some (PySem.W.kla_obj nm qual params body scope (dg X.env.cells scope.names []) pm c' ctv)) (hcd:s.heap.CodeRec (.ref c') qual)
  (hbind:bindArgs (PySem.W.kla_fn nm qual params body scope (dg X.env.cells scope.names []) pm (.ref c') ctv) ⟨[u],[]⟩=pure [(px,u)]) (r:RelV v u)
  (he:PE (L2.lam X N' px scope qual q (.ref c') A s H) body te) (h:te (σ ++ [some v]) H Q) :
  codeAny (model X.prog X.w) A (.call (.ref q) ⟨[u],[]⟩) (fun r s'=>∃u',r=.ok (.ret u')∧EP X pins σ (fun y H'=>Q y H' ∧ ∀b o u,H b=some (.frz o u)->H' b=some (.frz o u)) u' s') s:= by
 refine PySem.W.kla_callFunE hroom hq rfl hco hgen rfl hcd ?_
 rw [hbind]
 refine kT (wpAny_newFunctionEnv hnc (fun y hy=>?_) (fun h₁ hns hsb=>⟨I.nolimit.fresh _ hsb,?_⟩) hk)
 .rw [jP.mp hy];exact hpx
 .have keep:∀b o,s.heap.get? b=some o->h₁.get? b=some o:=fun b o e=>hsb.extBut b o (QB (wN e)) (zS _ e)
  have J:=I.lam (tk:=s.toks + 1) (qual:=qual) (q:=q) (cdv:=.ref c') hA hh hk S Mk hpx hnc hns keep r
  show codeAny _ _ (.expr body (L2.lam X N' px scope qual q (.ref c') A s H).env) _ _
  refine PySem.W.kla_codeExpr (QE (he [] _ _ H Q J h) (fun v' s' z=>?_) fun _ _ z=>False.elim z)
  obtain ⟨x,H',J',rx,qx⟩:=z
  exact ⟨v',rfl,x,H',I.call' (ch:=[]) J'.os J'.base J'.hok J'.bare (fun b hb=>absurd hb (by simp)),rx,qx,J'.base.frzs⟩
end
theorem pE {p:Pos} {c:Value} {l:List Value} (h:TriplesOk l):TriplesOk (l ++ (#[rawInt p.line,rawInt p.col,c]:Array Value).toList):= by
 fun_induction TriplesOk l with
 | case1=>exact trivial
 | case2 a t b u x rest ih=>exact ih h
 | case3=>exact h.elim
theorem uH {p q:Pos} {c cv:Value} {l:List Value} (h:TriplesOk l) (e:codeAmong q (l ++ (#[rawInt p.line,rawInt p.col,c]:Array Value).toList)=some cv):codeAmong q l=some cv ∨ cv=c:= by
 fun_induction TriplesOk l with
 | case1=>
  right
  simp only [List.nil_append,rawInt,codeAmong] at e
  split at e
  .exact (Q9 e).symm
  .cases e
 | case2 a t b u x rest ih=>
  simp only [List.cons_append,codeAmong] at e ⊢
  split at e
  .rename_i hc;rw [gL hc];exact .inl e
  .rename_i hc;rw [QC hc];exact ih h e
 | case3=>exact h.elim
structure LamK (K:PySem.W.Frag) (mg:Str->Option Value) (c P:Addr):Prop where
 tab:PySem.W.tabIn K dC=some (c,P)
 hd:∀h,K.In h->PySem.W.CodeHd h c P
 blt:∀h,K.In h->h.BuiltinsAt mg P
 main:mainGlobals ≠ P
structure Made (X:Cx) (pins:List (Addr × Obj)) (σ:St) (H:Hp) (s:Shared) (params:Arguments) (body:Expr) (scope:Scope) (q:Addr) (H':Hp) (s':Shared) (c':Addr) (pm ctv:Value):Prop where
 inv:Inv X pins σ H' s'
 same:∀b o,H b=some o->H' b=some o
 obj:s'.heap.get? q=some (PySem.W.kla_obj "<lambda>" b5 params body scope (dg X.env.cells scope.names []) pm c' ctv)
 free:H' q=none
 new:s.heap.objs.size ≤ q
 cod:∃oc u vs t,H' c' = some (.frz oc u)∧oc.data=.fields vs∧vs[1]? = some (.str b5 t)
 keep:∀b o,H b=none->s.heap.get? b=some o->s'.heap.get? b=some o
theorem Bt {X:Cx} {pins:List (Addr × Obj)} {σ:St} {H:Hp} {s:Shared} {N':List Str} {px:Str} {scope:Scope} {params:Arguments} {body:Expr} {pos:Pos} {c P:Addr} {E:Value->Shared->Prop} {Q:Value->Shared->Prop} (I:Inv X pins σ H s) (L:LamK X.K X.mg c P) (hcode:X.env.code=.ref c) (hqual:X.env.qual ++ "<lambda>" = b5)
  (S:jR N' [px] X.env.scope scope) (hdef:defaultsOf params X.env=([],[]))
  (h:∀q H' s' c' pm ctv,Made X pins σ H s params body scope q H' s' c' pm ctv->Q (.ref q) s') :
  wpAny (model X.prog X.w) X.A (eval (.Lambda params body scope pos) X.env) Q E s:= by
 refine PySem.W.kla_eval hdef ?_
 rw [hqual]
 obtain ⟨qs,t0,hP,hq0⟩:=I.tb c P L.tab
 obtain ⟨ps,hPo,htr,hcs⟩:=(show cg X.prog X.w H s.heap P (.tbl qs) from I.hok P _ hP)
 have hcl:closureFor scope X.env=pure (dg X.env.cells scope.names []):=dZ fun n hn=>I.ok.has n (S.free n hn)
 have hglob:s.heap.Ns mainGlobals X.mg:=I.ok.mod.glob.keeps I.bk
 cases hca:codeAmong pos ps.toList with
 | some cv=>
  obtain ⟨c',oc,u,vs,t,rfl,hf,hd,hv⟩:=hcs b5 t0 pos cv hq0 hca
  refine PySem.W.kla_makeFunctionHit hcl I.ok.glob hglob hcode (L.hd _ I.kIn) hPo htr hca (L.blt _ I.kIn) fun ctv h' tk hk hsz=>?_
  have hnew:∀{o:Obj},(h'.push o).get? h'.objs.size=some o ∨ o.isFreed=true:=fun {o}=>by
   cases e:o.isFreed with
   | true=>exact .inr rfl
   | false=>exact .inl (wL _ e)
  have kp:∀b o,s.heap.get? b=some o->(h'.push (PySem.W.kla_obj "<lambda>" b5 params body scope (dg X.env.cells scope.names []) ((X.mg "__name__").getD .none) c' ctv)).get? b=some o:=fun b o e=>zS _ (hk b o e)
  exact h h'.objs.size H _ c' _ ctv ⟨I.kept (t':=tk) kp,fun _ _ e=>e,wL _ rfl,I.hok.fresh hsz,hsz,⟨oc,u,vs,t,hf,hd,hv⟩,fun b o _ e=>kp b o e⟩
 | none=>
  refine PySem.W.kla_makeFunction hcl I.ok.glob hglob hcode (L.hd _ I.kIn) hPo htr hca L.main (L.blt _ I.kIn) fun c' ctv h' tk hx hge hlt hrec htb=>?_
  obtain ⟨c₂,oc,vs,t,e2,hoc,hd,hv⟩:=hrec
  cases e2
  have hc'n:H c' = none:=I.hok.fresh hge
  have hPc:P ≠ c':=QB (QJ (wN hPo) hge)
  have hsz:s.heap.objs.size ≤ h'.objs.size:=Q1 hge (W3 hlt)
  have kp:∀b o,b ≠ P->s.heap.get? b=some o->(h'.push (PySem.W.kla_obj "<lambda>" b5 params body scope (dg X.env.cells scope.names []) ((X.mg "__name__").getD .none) c' ctv)).get? b=some o:=fun b o hb e=>zS _ (hx b o hb e)
  have nP:∀b,H b=none->b ≠ P:=fun b e z=>by rw [z,hP] at e;cases e
  have same:∀b o,H b=some o->upd H c' (.frz oc (.own 0)) b=some o:=fun b o e=>by rw [aY (bC e hc'n)];exact e
  have un:Un X.fs [] H (upd H c' (.frz oc (.own 0))) s.heap (h'.push (PySem.W.kla_obj "<lambda>" b5 params body scope (dg X.env.cells scope.names []) ((X.mg "__name__").getD .none) c' ctv)) :=
   ⟨fun b o e n _ _=>kp b o (nP b n) e,fun b o e n _ _=>⟨o.slots,kp b o (nP b n) e⟩,fun b o e n _=>by rw [aY (QB (QJ (wN e) hge))];exact n,
    fun b o e _=>by
     by_cases hb:b=P
     .subst hb;exact ⟨_,zS _ htb⟩
     .exact ⟨o,kp b o hb e⟩,
    fun b xs e=>same b _ e,fun b o u e=>same b _ e,fun b qs e=>⟨#[],by rw [same b _ e];simp⟩⟩
  have hok:iG X.prog X.w (upd H c' (.frz oc (.own 0))) (h'.push (PySem.W.kla_obj "<lambda>" b5 params body scope (dg X.env.cells scope.names []) ((X.mg "__name__").getD .none) c' ctv)):=fun b o e=>by
   by_cases hb:b=c'
   .subst hb
    rw [bj] at e;cases e
    exact ⟨zS _ hoc,oc,zS _ hoc⟩
   .rw [aY hb] at e
    by_cases hbP:b=P
    .subst hbP
     rw [hP] at e;cases e
     refine ⟨ps ++ #[rawInt pos.line,rawInt pos.col,.ref c'],zS _ htb,?_,fun q1 t1 pos1 cv h1 h2=>?_⟩
     .rw [Array.toList_append];exact pE htr
     .rw [Array.toList_append] at h2
      rcases uH htr h2 with h2 | h2
      .obtain ⟨c1,oc1,u1,vs1,t1',z1,z2,z3,z4⟩:=hcs q1 t1 pos1 cv h1 h2
       exact ⟨c1,oc1,u1,vs1,t1',z1,same _ _ z2,z3,z4⟩
      .rw [hq0] at h1;cases h1
       exact ⟨c',oc,.own 0,vs,t,h2,bj,hd,hv⟩
    .refine (I.hok b o e).stay (fun d v hdb q=>kp d v ?_ q) (fun d q=>same _ _ q) (fun d xs q=>same _ _ q) fun d ob u q=>same _ _ q
     rcases hdb with z | z
     .rw [z];exact hbP
     .intro z2;rw [z2,hP] at z;cases z
  have I':Inv X pins σ (upd H c' (.frz oc (.own 0))) { s with heap:=h'.push (PySem.W.kla_obj "<lambda>" b5 params body scope (dg X.env.cells scope.names []) ((X.mg "__name__").getD .none) c' ctv),toks:=tk }:=I.un un hok
  refine h h'.objs.size _ _ c' _ ctv ⟨I',same,wL _ rfl,?_,hsz,⟨oc,.own 0,vs,t,bj,hd,hv⟩,fun b o n e=>kp b o (nP b n) e⟩
  rw [aY (VG hlt)]
  exact I.hok.fresh hsz
end L2
namespace L2
open PySem PySem.Spec PyProof.Rows Jt
section
variable {X:Cx} {pins:List (Addr × Obj)} {σ:St} {H:Hp} {s:Shared} {h':Heap}
theorem Inv.adopt {t':Nat} {l:Addr} {o:HO} (I:Inv X pins σ H s) (hf:dz X pins H l) (k:∀b ob,b ≠ l->s.heap.get? b=some ob->h'.get? b=some ob) (new:cg X.prog X.w (upd H l o) h' l o) :
  Inv X pins σ (upd H l o) { s with heap:=h',toks:=t' }:= by
 have hn:H l=none:=hf.1
 have nit:∀b u,H b=some u->b ≠ l:=fun b u e z=>by rw [z,hn] at e;cases e
 refine I.step (g':=s.gens) (d':=s.drawn) (ch:=[l]) (fun b hb=>?_) (fun b o _ _ hc e _=>k b o (fun z=>hc (by simp [z])) e) (fun b o _ _ hc e _=>⟨o.slots,k b o (fun z=>hc (by simp [z])) e⟩) (fun b o hc e n=>?_)
  (fun b o hc e=>⟨o,k b o (fun z=>hc (by simp [z])) e⟩) (fun b xs e=>by rw [aY (bC e hn)];exact e) (fun b o u e=>by rw [aY (bC e hn)];exact e) (fun b ps e=>⟨#[],by rw [aY (bC e hn),e];simp⟩) (fun m hm=>?_) (fun b u e=>?_) I.bare
 .have e:b=l:=by simpa using hb
  subst e
  obtain ⟨_,f1,_,f3,f4,f5⟩:=hf
  exact ⟨f3,f1,f4,f5⟩
 .rw [aY fun z=>hc (by simp [z])];exact n
 .obtain ⟨o',es,ep,ho,r⟩:=hm
  exact ⟨o',es,ep,k _ o' (fun z=>hf.2.1 z.symm) ho,r⟩
 .by_cases hb:b=l
  .subst hb;rw [bj] at e;cases e;exact new
  .rw [aY hb] at e
   refine (I.hok b u e).stay (fun c v hc q=>k c v ?_ q) (fun c q=>by rw [aY (bC q hn)];exact q) (fun c xs q=>by rw [aY (bC q hn)];exact q) fun c ob v q=>by rw [aY (bC q hn)];exact q
   rcases hc with z | z
   .rw [z];exact nit b u e
   .exact nit c _ z
theorem Inv.pin1 {b:Addr} {o:Obj} (I:Inv X pins σ H s) (hf:dz X pins H b) (e:s.heap.get? b=some o) (hd:∀v,o.data ≠ .cell v):Inv X (pins ++ [(b,o)]) σ H s:=I.pins_of fun p hp=>by
 rcases uT.mp hp with z | z
 .exact I.pin p (uP _ z)
 .rw [jP.mp z]
  exact ⟨e,hf.1,hf.2.1,hf.2.2.1,hd⟩
theorem Inv.unpin {pl:List (Addr × Obj)} (I:Inv X (pins ++ pl) σ H s):Inv X pins σ H s:=I.pins_of fun p hp=>I.pin p (uP _ (ZO _ hp))
theorem Inv.got {b:Addr} {o:Obj} (I:Inv X pins σ H s) (hm:(b,o) ∈ pins):s.heap.get? b=some o∧H b=none∧b ≠ X.env.locals∧b ∉ X.fs:= by
 obtain ⟨h1,h2,h3,h4,_⟩:=I.pin (b,o) (uP _ hm)
 exact ⟨h1,h2,h3,h4⟩
end
noncomputable abbrev fE (xs:Array Value) (e:Nat):Obj:=seqObj "list" xs e
theorem tx (xs:Array Value) (e:Nat):∀v,(fE xs e).data ≠ .cell v:=fun v h=>by cases h
theorem Dv {X:Cx} {pins:List (Addr × Obj)} {σ:St} {A:Around} {E:Value->Shared->Prop} {P:PySem.Fin->Shared->Prop} {q l:Addr} {vs:List Value} {ks:List Int} {n0:Nat} {s:Shared} {H:Hp} (W:Nat->Hp->Prop)
  (I:Inv X pins σ H s) (hl:s.heap.get? l=some (fE vs.toArray n0)) (hfl:dz X pins H l) (hlen:ks.length=vs.length) (h64:vs.length < 64) (w0:W 0 H)
  (turn:∀(i:Nat) (x:Value) (k:Int),vs[i]? = some x->ks[i]? = some k->∀(H':Hp) (s':Shared) (pl:List (Addr × Obj)),Inv X (pins ++ pl) σ H' s' -> W i H' ->
   codeAny (model X.prog X.w) A (.call (.ref q) ⟨[x],[]⟩) (fun r s''=>∃u,r=.ok (.ret u)∧EP X (pins ++ pl) σ (fun y H''=>y=.int k∧W (i + 1) H'') u s'') s')
  (h:∀(H':Hp) (s':Shared) (e:Nat),Inv X pins σ H' s' -> dz X pins H' l->s'.heap.get? l=some (fE (Jt.So.pickI ks Value.none vs).toArray e)->W vs.length H' -> P (.done (.ret .none)) s') :
  wpAny (model X.prog X.w) A (ksk_tree l (.ref q) false) P E s:= by
 have hll:=wN hl
 have sizeV:vs.toArray.size ≤ sizeLine:=by rw [gA,VL];omega
 unfold ksk_tree
 refine zN (listItems_at hl rfl ?_)
 refine zN (listUpdate_at hl rfl ?_ sizeV (QV _))
 obtain ⟨e1,o1⟩:∃e1,(s.heap.update l (Obj.mapSeq fun _=>(#[]:Array Value))).get? l=some (fE #[] e1):=⟨_,get?_update_seq hl fun _=>#[]⟩
 have sb1:=QS s.heap l (Obj.mapSeq fun _=>(#[]:Array Value))
 have I1:Inv X pins σ H { s with heap:=s.heap.update l (Obj.mapSeq fun _=>(#[]:Array Value)),toks:=s.toks }:=I.turned (it:=l) (fun b o hb e=>(sb1.2 b hb).trans e) hfl.1 hfl.2.1 hfl.2.2.2.1 hfl.2.2.2.2.1 hfl.2.2.2.2.2
 refine zN (seqEpoch_at o1 rfl ?_)
 refine zN (wpAny_newTuple ?_ (by show vs.length ≤ _;rw [VL];omega))
 refine zN (wpAny_newList ?_ (QV _))
 refine QZ ?_
 generalize hs2:({ s with heap:=((s.heap.update l (Obj.mapSeq fun _=>(#[]:Array Value))).push (seqObj "tuple" vs.toArray 0)).push (seqObj "list" #[] 0) }:Shared)=s2
 have I2:Inv X pins σ H s2:= by
  rw [<- hs2]
  exact I1.kept (t':=s.toks) fun b o e=>zS _ (zS _ e)
 have ol2:s2.heap.get? l=some (fE #[] e1):= by
  rw [<- hs2]
  exact zS _ (zS _ o1)
 generalize hkS:((s.heap.update l (Obj.mapSeq fun _=>(#[]:Array Value))).push (seqObj "tuple" vs.toArray 0)).objs.size=kS
 have hkl:l < kS:=by rw [<- hkS,QM,Heap.size_update];exact VZ hll
 have ok2:s2.heap.get? kS=some (fE #[] 0):= by
  rw [<- hs2,<- hkS]
  exact wL _ rfl
 have hsz1:s.heap.objs.size ≤ kS:=by rw [<- hkS,QM,Heap.size_update];omega
 have fpk:∀{H':Hp},H' kS=none->dz X pins H' kS:=fun e=>I.fpOk hsz1 e
 have hkn:H kS=none:=I.hok.fresh hsz1
 have I3:Inv X (pins ++ [(l,fE #[] e1)]) σ H s2:=I2.pin1 hfl ol2 (tx _ _)
 have fpk3:∀{H':Hp},H' kS=none->dz X (pins ++ [(l,fE #[] e1)]) H' kS:=fun e=>by
  obtain ⟨a1,a2,a3,a4,a5,a6⟩:=fpk e
  refine ⟨a1,a2,a3,a4,a5,fun p hp=>?_⟩
  rcases uT.mp hp with z | z
  .exact a6 p (ZO _ z)
  .rcases uT.mp z with z | z
   .exact a6 p (uP _ z)
   .rw [jP.mp z];exact QB hkl
 unfold ksk_rest
 refine zN (YF ?_)
 rw [List.forIn_toArray]
 refine zN (ksk_fold (fun i s'=>∃H' kA e,Inv X ((pins ++ [(l,fE #[] e1)]) ++ [(kS,fE kA e)]) σ H' s' ∧ IntsAre kA.toList (ks.take i)∧W i H') vs 0 s2
  ⟨H,#[],0,I3.pin1 (fpk3 hkn) ok2 (tx _ _),by simpa using IntsAre.nil,w0⟩ ?step ?done)
 case step=>
  rintro j x s' hx ⟨H',kA,e,J,hk,wj⟩
  simp only [XQ] at hk wj ⊢
  have hj:j < vs.length:=(xZ.mp hx).1
  obtain ⟨k,hkj⟩:∃k,ks[j]? = some k:=⟨_,kW (by omega)⟩
  have hz:kA.size ≤ vs.length:= by
   have h1:=hk.length
   rw [YJ,ZT] at h1
   omega
  have J':Inv X (pins ++ ([(l,fE #[] e1)] ++ [(kS,fE kA e)])) σ H' s':=by rw [<- Q4];exact J
  refine zN (WO (wpAny_call (Z9 (turn j x k hx hkj H' s' _ J' wj) fun r s'' hr=>?_)))
  obtain ⟨u,rfl,y,H'',J2,ry,rfl,w2⟩:=hr
  obtain ⟨t2,rfl⟩:=ry
  dsimp only
  have J3:Inv X ((pins ++ [(l,fE #[] e1)]) ++ [(kS,fE kA e)]) σ H'' s'':=by rw [Q4];exact J2
  obtain ⟨g1,g2,g3,g4⟩:=J3.got (uP _ (jP.mpr rfl))
  have sb:=QS s''.heap kS (Obj.mapSeq (·.push (.int k t2)))
  obtain ⟨c2,hc2⟩:∃c2,(s''.heap.update kS (Obj.mapSeq (·.push (.int k t2)))).get? kS=some (fE (kA.push (.int k t2)) c2):=⟨_,get?_update_seq g1 (·.push (.int k t2))⟩
  refine zN (listUpdate_at g1 rfl ?_ (by rw [VL];omega) (Q1 (W7 (Array.size_push ..)) (by rw [VL];omega)))
  have ek:ks.take (j + 1)=ks.take j ++ [k]:=by rw [List.take_add_one,hkj];simp
  have ea:(kA.push (Value.int k t2)).toList=kA.toList ++ [Value.int k t2]:=by simp
  have fp:=fpk3 g2
  have J4:Inv X (pins ++ [(l,fE #[] e1)]) σ H'' { s'' with heap:=s''.heap.update kS (Obj.mapSeq (·.push (.int k t2))),toks:=s''.toks }:=J3.unpin.turned (it:=kS) (fun b o hb e=>(sb.2 b hb).trans e) g2 g3 fp.2.2.2.1 fp.2.2.2.2.1 fp.2.2.2.2.2
  exact kT ⟨rfl,H'',kA.push (.int k t2),c2,J4.pin1 fp hc2 (tx _ _),by rw [ea,ek];exact ksk_snoc hk,w2⟩
 case done=>
  rintro s' ⟨H',kA,e,J,hk,wn⟩
  rw [XQ] at hk wn
  rw [V7 (by omega)] at hk
  have hkz:kA.size=vs.length:= by
   have h1:=hk.length
   rw [YJ] at h1
   omega
  obtain ⟨g1,g2,g3,g4⟩:=J.got (uP _ (jP.mpr rfl))
  obtain ⟨f1,f2,f3,f4⟩:=J.got (ZO _ (uP _ (jP.mpr rfl)))
  refine zN (listItems_at g1 rfl ?_)
  have tail:∀st:SortSt,(arrOf st).map (·.2)=(Jt.So.pickI ks Value.none vs).toArray->failedOf st=none->(Jt.So.pickI ks Value.none vs).length=vs.length ->
    wpAny (model X.prog X.w) A (ksk_tail l false e1 (.ref kS) st) P E s':=fun st hout hfl0 hpl=>by
   have sb:=QS s'.heap kS (Obj.mapSeq fun _=>(#[]:Array Value))
   have l1:(s'.heap.update kS (Obj.mapSeq fun _=>(#[]:Array Value))).get? l=some (fE #[] e1):=(sb.2 l (QB hkl)).trans f1
   have sb2:=QS (s'.heap.update kS (Obj.mapSeq fun _=>(#[]:Array Value))) l (Obj.mapSeq fun _=>(Jt.So.pickI ks Value.none vs).toArray)
   obtain ⟨c2,hc2⟩:∃c2,((s'.heap.update kS (Obj.mapSeq fun _=>(#[]:Array Value))).update l (Obj.mapSeq fun _=>(Jt.So.pickI ks Value.none vs).toArray)).get? l=some (fE (Jt.So.pickI ks Value.none vs).toArray c2):=⟨_,get?_update_seq l1 fun _=>(Jt.So.pickI ks Value.none vs).toArray⟩
   have J1:Inv X pins σ H' s':=J.unpin.unpin
   have fpl:dz X pins H' l:=⟨f2,hfl.2⟩
   have fp:=fpk g2
   unfold ksk_tail
   dsimp only
   rw [hout]
   refine zN (listUpdate_at g1 rfl ?_ (by rw [hkz,VL];omega) (QV _))
   refine zN (wpAny_letGo ?_)
   refine zN (seqEpoch_at l1 rfl ?_)
   refine zN (listUpdate_at l1 rfl ?_ (QV _) ?_)
   .rw [hfl0]
    simp only [bne_self_eq_false,ZD,YQ]
    have J2:Inv X pins σ H' { s' with heap:=s'.heap.update kS (Obj.mapSeq fun _=>(#[]:Array Value)),toks:=s'.toks }:=J1.turned (it:=kS) (fun b o hb e=>(sb.2 b hb).trans e) g2 g3 fp.2.2.2.1 fp.2.2.2.2.1 fp.2.2.2.2.2
    have J3:Inv X pins σ H' { s' with heap:=(s'.heap.update kS (Obj.mapSeq fun _=>(#[]:Array Value))).update l (Obj.mapSeq fun _=>(Jt.So.pickI ks Value.none vs).toArray),toks:=s'.toks }:=Inv.turned (s:={ s' with heap:=s'.heap.update kS (Obj.mapSeq fun _=>(#[]:Array Value)),toks:=s'.toks }) (it:=l) J2 (fun b o hb e=>(sb2.2 b hb).trans e) f2 f3 hfl.2.2.2.1 hfl.2.2.2.2.1 hfl.2.2.2.2.2
    exact kT (h H' _ c2 J3 fpl hc2 wn)
   .simp only [ZD,YQ,gA]
    rw [hpl,VL];omega
  unfold ksk_end
  simp only [ZD,YQ]
  by_cases h2:vs.toArray.size < 2
  .rw [gL h2,gL h2]
   rw [gA] at h2
   refine zN (kT ?_)
   rw [StateT.run_pure]
   refine zN (kT ?_)
   dsimp only
   have ep:Jt.So.pickI ks Value.none vs=vs:=by unfold Jt.So.pickI;rw [gL (by omega)]
   refine tail _ ?_ rfl (by rw [ep])
   rw [ep]
   show ((kA.zip vs.toArray).map (·.2))=vs.toArray
   apply Array.toList_inj.mp
   rw [Array.toList_map,ksk_zip,List.map_snd_zip (by simp [hkz])]
  .rw [QC h2,QC h2]
   rw [gA] at h2
   rw [ksk_kind hk (by rw [hkz];omega)]
   refine zN (kT ?_)
   have hzl:kA.toList.length=vs.length:=by rw [YJ,hkz]
   have ew:SortSt.mk' oneType' (kA.zip vs.toArray) #[] 7 none=SortSt.mk' oneType' (kA.toList.toArray.zip vs.toArray) #[] 7 none:=by rw [Array.toArray_toList]
   rw [ew]
   refine zN (QE (PySem.W.kat_run (E:=E) (ks:=kA.toList) (vs:=vs) (κ:=oneType') (Q:=fun st s''=>(arrOf st).map (·.2)=(Jt.So.pickI ks Value.none vs).toArray∧failedOf st=none∧s'' = s')
    (G:=fun p s''=>p=Jt.So.ordI ks∧s'' = s') hzl (by omega) h64 (fun p st s'' hp ha hf hg=>⟨?_,hf,hg.2⟩) ?_) ?_ fun _ _ x=>x)
   .rw [PySem.W.kat_snds hzl ha,hg.1]
    unfold Jt.So.pickI
    rw [QC (by omega)]
   .have ws:=Jt.So.w_sort (Jt.So.gI_ord ks) (n:=vs.length) (by omega)
    refine Jt.So.WpT.kas (g:=Jt.So.gI ks) (n:=vs.length) (fun i j C hi hj hC=>?_) ws ⟨by unfold Jt.So.ordI;rw [hlen],rfl⟩
    unfold PySem.W.kas_ask
    obtain ⟨t1,e1'⟩:=hk.get i (ks[i]'(by omega)) (kW _)
    obtain ⟨t2,e2'⟩:=hk.get j (ks[j]'(by omega)) (kW _)
    have d1:kA.toList.getD i Value.none=.int (ks[i]'(by omega)) t1:=by rw [QA,e1'];rfl
    have d2:kA.toList.getD j Value.none=.int (ks[j]'(by omega)) t2:=by rw [QA,e2'];rfl
    rw [d1,d2]
    refine PySem.W.kat_lt_int ?_
    have:Jt.So.gI ks i j=decide (ks[i]'(by omega) < ks[j]'(by omega)):= by
     unfold Jt.So.gI
     rw [QA,QA,kW (by omega),kW (by omega)];rfl
    rw [<- this];exact hC
   .rintro ⟨u,st⟩ s'' ⟨hout,hf,rfl⟩
    dsimp only
    exact tail st hout hf (by
     have:=Jt.So.pickI_perm ks Value.none vs hlen.symm
     exact this.length_eq)
theorem xC {H:Hp} {es:Array DictEntry} {kvs:List (List Key × V)} (sz:es.size=kvs.length) (h:∀(i:Nat) (p:List Key × V),kvs[i]? = some p->∃(hlt:i < es.size) (b:Addr),es[i].key=.ref b∧H b=some (.tup (p.1.map kV))) :
  ∃bs:List Addr,bs.length=kvs.length∧es.toList.map (·.key)=bs.map Value.ref∧∀(i:Nat) (p:List Key × V),kvs[i]? = some p->∃b,bs[i]? = some b∧H b=some (.tup (p.1.map kV)):= by
 have hk:∀i (hi:i < es.size),∃b,es[i].key=.ref b:=fun i hi=>by
  obtain ⟨_,b,e,_⟩:=h i kvs[i] (kW (by omega))
  exact ⟨b,e⟩
 have e0:es.toList.map (·.key)=(es.toList.map fun e=>match e.key with | .ref b=>b | _=>0).map Value.ref:= by
  rw [ZI]
  refine ZM fun e he=>?_
  obtain ⟨i,hi,rfl⟩:=ZS he
  obtain ⟨b,eb⟩:=hk i (by simpa using hi)
  have eb':es.toList[i].key=.ref b:=by simpa using eb
  simp only [Function.comp,eb']
 refine ⟨_,by simp [sz],e0,fun i p hp=>?_⟩
 obtain ⟨hlt,b,eb,hb⟩:=h i p hp
 refine ⟨b,?_,hb⟩
 rw [QL,QQ,ZW hlt]
 simp only [Option.map_some,eb]
noncomputable def Dy (ta te:TE):TE:=fun σ H Q=>ta σ H fun v H1=>∃(d:Addr) (kvs:List (List Key × V)),v=.ref d∧Rd H1 d (.dT kvs)∧kvs.length < 64 ∧
 ∀H2:Hp,(∀b o,H1 b=some o->H2 b=some o)->∀bs:List Addr,bs.length=kvs.length->(∀(i:Nat) (p:List Key × V),kvs[i]? = some p->∃b,bs[i]? = some b∧H2 b=some (.tup (p.1.map kV))) ->
  ∃(ks:List Int) (W:Nat->Hp->Prop),ks.length=kvs.length∧W 0 H2∧(∀(i:Nat) (k:Int) (b:Addr) (H':Hp),bs[i]? = some b->ks[i]? = some k->W i H' -> te (σ ++ [some (.ref b)]) H' fun y H''=>y=.int k∧W (i + 1) H'') ∧
   ∀(H':Hp) (l:Addr),W kvs.length H' -> H' l=none->Q (.ref l) (upd H' l (.lst (Jt.So.pickI ks .non (bs.map V.ref))))
theorem xA {ks:List Int} {bs:List Addr}:Vals (Jt.So.pickI ks V.non (bs.map V.ref)) (Jt.So.pickI ks Value.none (bs.map Value.ref)):= by
 have base:∀l:List Addr,Vals (l.map V.ref) (l.map Value.ref):=fun l=>by
  induction l with
  | nil=>exact .nil
  | cons b r ih=>exact .cons rfl ih
 unfold Jt.So.pickI
 split
 .exact base bs
 .exact qd (fun i=>nD (base bs) i) _
section
variable {X:Cx} {a body:Expr} {params:Arguments} {scope:Scope} {lp kp p pos:Pos} {ta te:TE} {c P:Addr} {N':List Str} {px:Str} {k:Nat}
theorem r8 (hr:cb k X.A) (L:LamK X.K X.mg c P) (hcode:X.env.code=.ref c) (hm:X.mg "sorted" = none) (ha:PE X a ta)
  (he:∀q c' A s H,(lam X N' px scope b5 q (.ref c') A s H).A.units + 100 < cLine->PE (lam X N' px scope b5 q (.ref c') A s H) body te)
  (hS:cT N' [px] X.env.scope scope=true:=by rfl) (hM:cQ X.N N' scope=true:=by rfl) (hk:scope.kind=.function:=by rfl) (hco:scope.isCoroutine=false:=by rfl) (hgen:scope.isGenerator=false:=by rfl)
  (hpx:scope.names.lookup px=some .local:=by rfl) (hnc:(scope.names.all fun x=>!(x.2 == .cell))=true:=by rfl) (hqual:X.env.qual ++ "<lambda>" = b5:=by rfl) (hdef:defaultsOf params X.env=([],[]):=by rfl)
  (hbind:∀(u:Value) (cl:List (Str × Addr)) (pm ctv:Value) (c':Addr),bindArgs (PySem.W.kla_fn "<lambda>" b5 params body scope cl pm (.ref c') ctv) ⟨[u],[]⟩=pure [(px,u)]:=by intros;rfl)
  (hg:Gl X "sorted":=by rfl) (hst:starEach [a] X.env=[(false,eval a X.env)]:=by rfl) :
  PE X (.Call (.Name "sorted" p) [a] [⟨some "key",.Lambda params body scope lp,kp⟩] pos) (Dy ta te):= by
 intro pins s σ H Q I h
 have S:=hX hS
 have Mk:=ia hM
 have hnc':∀x ∈ scope.names,x.2 ≠ .cell:=fun x hx e=>by
  have:=QT.mp hnc x hx
  rw [e] at this
  simp at this
 refine WZ (gj I hg hm (u:=.builtin "sorted") rfl ?_ (by decide) (by decide))
 refine callWith_builtin_kwB (by rw [hst];rfl) rfl (evalArgs_kw2 rfl (cf ((cX ha d8 hst) pos pins s σ H (fun vs H1=>match vs with
  | [v]=>∃(d:Addr) (kvs:List (List Key × V)),v=.ref d∧Rd H1 d (.dT kvs)∧kvs.length < 64 ∧
   ∀H2:Hp,(∀b o,H1 b=some o->H2 b=some o)->∀bs:List Addr,bs.length=kvs.length->(∀(i:Nat) (p:List Key × V),kvs[i]? = some p->∃b,bs[i]? = some b∧H2 b=some (.tup (p.1.map kV))) ->
    ∃(ks:List Int) (W:Nat->Hp->Prop),ks.length=kvs.length∧W 0 H2∧(∀(i:Nat) (k:Int) (b:Addr) (H':Hp),bs[i]? = some b->ks[i]? = some k->W i H' -> te (σ ++ [some (.ref b)]) H' fun y H''=>y=.int k∧W (i + 1) H'') ∧
     ∀(H':Hp) (l:Addr),W kvs.length H' -> H' l=none->Q (.ref l) (upd H' l (.lst (Jt.So.pickI ks .non (bs.map V.ref))))
  | _=>False) I h) fun us s1 ⟨vs,H1,I1,r,q⟩=>?_) hst)
 match vs,q with
 | [v],q=>
  obtain ⟨d,kvs,rfl,hd,h64,fin⟩:=q
  obtain ⟨u,rfl,ru⟩:=r.one
  cases ru
  show wpAny _ _ (evalAll [do let v <- eval (.Lambda params body scope lp) X.env;standAt pos;pure v]) _ _ s1
  refine wpAny_evalAll_cons (zN (Bt I1 L hcode hqual S hdef fun q H2 s2 c' pm ctv M=>zN (Z7 (kT (wpAny_evalAll_nil ?_)))))
  show wpAny _ _ (call (.builtin "sorted") [.ref d] [(Str.ofString "key",.ref q)]) _ _ s2
  have fq:dz X pins H2 q:=I1.fpOk M.new M.free
  have I3:=M.inv.pin1 fq M.obj (fun v h=>by cases h)
  obtain ⟨oc,uu,ws,tt,hc',hdat,hv1⟩:=M.cod
  have hd2:Rd H2 d (.dT kvs):=Jt.Rd.mono M.same hd
  obtain ⟨lo,o,es,h1,h2,h3,h4,h5⟩:=oD M.inv.hok hd2
  obtain ⟨bs,hbl,hbk,hbs⟩:=xC h4 h5
  obtain ⟨ks,W,hkl,w0,turn,last⟩:=fin H2 M.same bs hbl hbs
  refine call_function_entry_kw kind_sorted plain_sorted entry_sorted (ksk_s1 _ _) ?_
  unfold Builtin.«sorted»
  refine zN (m:=checkCount "sorted" 1 1 _) (kT ?_)
  refine zN (qB hr.hd lo ⟨o,h1,h2,h3⟩ (by rw [h4,VL];omega) fun g1 tk1 k1 hsz=>?_)
  rw [hbk]
  have hvl:(bs.map Value.ref).length=kvs.length:=by rw [fD,hbl]
  refine zN (wpAny_newList ?_ (by rw [hvl,VL];omega))
  have I4:Inv X (pins ++ [(q,PySem.W.kla_obj "<lambda>" b5 params body scope (dg X.env.cells scope.names []) pm c' ctv)]) σ H2 { s2 with heap:=g1.push (fE (bs.map Value.ref).toArray 0),toks:=tk1 }:=I3.kept (t':=tk1) fun b o e=>zS _ (k1 b o e)
  have hgl:(g1.push (fE (bs.map Value.ref).toArray 0)).get? g1.objs.size=some (fE (bs.map Value.ref).toArray 0):=wL _ rfl
  have fl:dz X (pins ++ [(q,PySem.W.kla_obj "<lambda>" b5 params body scope (dg X.env.cells scope.names []) pm c' ctv)]) H2 g1.objs.size:=I3.fpOk hsz (I3.hok.fresh hsz)
  refine zN (QZ (wpAny_call_entry_kw slot_list_sort ⟨_,hgl,rfl⟩ entry_list_sort ?body (ksk_l1 _ _)))
  case body=>
   show wpAny (model X.prog X.w) X.A.in1.in1 (Builtin.«list.sort» ⟨[.ref g1.objs.size],[(Str.ofString "key",.ref q)]⟩) _ _ _
   rw [ksk_t1]
   refine Dv (fun i H'=>W i H' ∧ H' c' = some (.frz oc uu)) I4 hgl fl (by rw [hkl,hvl]) (by omega) ⟨w0,hc'⟩ (fun i x kk hx hkk H' s' pl J wi=>?_) fun H' s' e J fl' hg' wn=>⟨_,rfl,kT ⟨_,rfl,?_⟩⟩
   .rw [QL] at hx
    cases hb:bs[i]? with
    | none=>rw [hb] at hx;cases hx
    | some b=>
     rw [hb] at hx
     cases hx
     obtain ⟨g1',_⟩:=J.got (ZO _ (uP _ (jP.mpr rfl)))
     obtain ⟨goc,_⟩:=(show cg X.prog X.w H' s'.heap c' (.frz oc uu) from J.hok c' _ wi.2)
     refine Z9 (Ck (v:=.ref b) (u:=.ref b) (te:=te) J rfl hr.hd hr.depth hk hco hgen S Mk hpx hnc' g1' ⟨c',oc,ws,tt,rfl,goc,hdat,hv1⟩ (hbind _ _ _ _ _) rfl (he q c' _ s' H' (by have:=hr.un;show X.A.units + 1 + 1 + 3 + 100 < _;omega)) (turn i kk b H' hb hkk wi.1)) fun r s'' ⟨u',e',y,H'',J'',ry,⟨qy,wy⟩,fz⟩=>?_
     exact ⟨u',e',y,H'',J'',ry,qy,wy,fz _ _ _ wi.2⟩
   .have J1:=J.unpin
    have fl1:dz X pins H' g1.objs.size:=⟨fl'.1,fl'.2.1,fl'.2.2.1,fl'.2.2.2.1,fl'.2.2.2.2.1,fun p hp=>fl'.2.2.2.2.2 p (by
     rcases uT.mp hp with z | z
     .exact ZO _ z
     .exact uP _ (ZO _ z))⟩
    have hpl:(Jt.So.pickI ks V.non (bs.map V.ref)).length=kvs.length:= by
     rw [(Jt.So.pickI_perm ks V.non (bs.map V.ref) (by rw [fD,hbl,hkl])).length_eq,fD,hbl]
    refine ⟨.ref g1.objs.size,upd H' g1.objs.size (.lst (Jt.So.pickI ks .non (bs.map V.ref))),J1.adopt (h':=s'.heap) (t':=s'.toks) fl1 (fun b ob _ e=>e) ⟨by rw [hpl,VL];omega,Jt.So.pickI ks Value.none (bs.map Value.ref),e,xA,hg'⟩,rfl,last H' _ (by rw [hvl] at wn;exact wn.1) fl'.1⟩
end
end L2
namespace Jt
open PySem L2
noncomputable def pairD (p:Int × Int):D:=.tup [.int p.1,.int p.2]
noncomputable def BB:D->Option iW
 | .dip kvs=>some (bz (kvs.map fun p=>pairD p.1))
 | _=>none
theorem wZ {H:Hp} {p:Int × Int} {b:Addr} (h:H b=some (.tup [.int p.1,.int p.2])):R H (pairD p) (.ref b):=.mkT h (.cons .mkI (.cons .mkI .nil))
theorem Jg {H:Hp} {a:Addr} {kvs kvs':List (List Key × V)} (h:H a=some (.dT kvs)) (h':Rd H a (.dT kvs')):kvs' = kvs:= by
 rcases h' with e | ⟨o,e⟩
 .rw [h] at e;cases e;rfl
 .rw [h] at e;cases e
theorem CF {a:Addr} {kvs:List ((Int × Int) × Int)}:JK (ND a kvs.length) (bz (kvs.map fun p=>pairD p.1)) [.dip kvs] [.ref a]:=fun c δ S σ T H i s=>by
 obtain ⟨p,e,h1⟩:=s.st.head.dip
 cases e
 have hH:H a=some (ff kvs):=bB _ _ h1
 refine ⟨fun act d ha hd=>?_,fun e _=>⟨_,.inl hH,by simp,by rw [e];simp [bz]⟩⟩
 have hg:=eL ha hd
 rw [QL] at hg
 cases q:kvs[i]? with
 | none=>rw [q] at hg;cases hg
 | some kv=>
  rw [q] at hg
  cases hg
  have hi:i < kvs.length:=(xZ.mp q).1
  refine ⟨⟨_,.inl hH,by simp,hi⟩,fun x H' y=>?_⟩
  obtain ⟨rfl,kvs',p',b,hr,hp,rfl,hb⟩:=y
  rw [Jg hH hr,QL,q] at hp
  cases hp
  exact s.stk (.cons (wZ (s.seeT hb)) s.st)
section
variable {X:Cx} {a:Expr} {fa fk:M D}
theorem FW {tg l:Expr} (hl:DE X l fa):DI X tg l (do let x <- fa;lift (BB x)):=q_ (DK hl) fun σ H R ⟨c,δ,S,T,it,δ',s,e,k⟩=>by
 obtain ⟨x,δ1,e1,e⟩:=bind_some e
 obtain ⟨e2,rfl⟩:=bc e
 refine ⟨c,δ,S,T,x,δ1,s,e1,fun v H' s'=>?_⟩
 cases x with
 | dip kvs=>
  cases e2
  obtain ⟨p,rfl,h1⟩:=s'.st.head.dip
  refine ⟨p,_,rfl,.inl (bB _ _ h1),?_⟩
  rw [fD]
  exact k _ [.dip kvs] [.ref p] H' rfl CF s'
 | _=>cases e2
noncomputable def iE (fk:M D):List ((Int × Int) × Int)->M (List Int)
 | []=>pure []
 | p :: r=>fun δ=>match fk (δ ++ [.pu (pairD p.1)]) with
  | some (.int k,δ')=>(match iE fk r (δ'.take δ.length) with
   | some (ks,δ'')=>some (k :: ks,δ'')
   | none=>none)
  | _=>none
theorem kJ {p:(Int × Int) × Int} {r:List ((Int × Int) × Int)} {δ δ':DS} {ks:List Int} (h:iE fk (p :: r) δ=some (ks,δ')):∃k δ1 ks1,fk (δ ++ [.pu (pairD p.1)])=some (.int k,δ1)∧iE fk r (δ1.take δ.length)=some (ks1,δ')∧ks=k :: ks1:= by
 unfold iE at h
 split at h
 .rename_i k δ1 e
  split at h
  .rename_i ks1 δ2 e2
   cases h
   exact ⟨k,δ1,ks1,e,e2,rfl⟩
  .cases h
 .cases h
theorem nK:∀{kvs:List ((Int × Int) × Int)} {δ δ':DS} {ks:List Int},iE fk kvs δ=some (ks,δ')->ks.length=kvs.length
 | [],δ,δ',ks,h=>by cases h;rfl
 | p :: r,δ,δ',ks,h=>by
  obtain ⟨k,δ1,ks1,_,e2,rfl⟩:=kJ h
  simp [nK e2]
noncomputable def oO (fa fk:M D):M (List D):=do
 let x <- fa
 match x with
 | .dip kvs=>if kvs.length < 64 then (do
   let ks <- iE fk kvs
   pure (So.pickI ks .non (kvs.map fun p=>pairD p.1))) else lift none
 | _=>lift none
theorem Fw {H:Hp} {ds:List D} {vs:List V} (h:Rs H ds vs) (ks:List Int):Rs H (So.pickI ks .non ds) (So.pickI ks .non vs):= by
 unfold So.pickI
 split
 .exact h
 .have one:∀i:Nat,R H (ds.getD i .non) (vs.getD i .non):=fun i=>by
   rw [QA,QA]
   cases q:ds[i]? with
   | none=>
    have:vs[i]? = none:=by rw [List.getElem?_eq_none_iff] at q ⊢;rw [h.length];exact q
    rw [this];exact .mkN
   | some d=>
    obtain ⟨v,e,r⟩:=h.get q
    rw [e];exact r
  generalize (So.ordI ks).toList=l
  induction l with
  | nil=>exact .nil
  | cons i r ih=>exact .cons (one i) ih
theorem Sl.snoc {c:Ct} {δ:DS} {S:List D} {σ:L2.St} {T:List V} {H:Hp} {d:D} {v:V} (s:Sl c δ (d :: S) σ (v :: T) H):Sl c (δ ++ [.pu d]) S (σ ++ [some v]) T H:= by
 have h1:=s.ext 1
 have h2:=h1.setPu (i:=δ.length) (by simp)
 have e1:(δ ++ List.replicate 1 Slot.un).set δ.length (.pu d)=δ ++ [.pu d]:=by simp
 have e2:(σ ++ List.replicate 1 (none:Option V)).set δ.length (some v)=σ ++ [some v]:=by rw [s.len];simp
 rw [e1,e2] at h2
 exact h2
theorem qF {H:Hp}:∀{kvs:List ((Int × Int) × Int)} {bs:List Addr},bs.length=kvs.length->(∀(i:Nat) (p:(Int × Int) × Int),kvs[i]? = some p->∃b,bs[i]? = some b∧H b=some (.tup [.int p.1.1,.int p.1.2]))->Rs H (kvs.map fun p=>pairD p.1) (bs.map V.ref)
 | [],[],_,_=>.nil
 | p :: r,b :: bs,hl,h=>by
  obtain ⟨b',e,hb⟩:=h 0 p rfl
  cases e
  exact .cons (wZ hb) (qF (by simpa using hl) fun i q hq=>h (i + 1) q (by simpa using hq))
 | [],_ :: _,hl,_=>by cases hl
 | _ :: _,[],hl,_=>by cases hl
theorem xc {b:Expr} {fb:M D} {pos:Pos} (hu:X.A.units + 100 < cLine) (ha:DE X a fa) (hb:DE X b fb) (hs:g9 b:=by exact fun _ _=>rfl):DE X (.Subscript a b pos) (m2 iq fa fb):=CB (y3 tp (wD (by omega))) we ha hb hs
theorem pQ {body:Expr} {params:Arguments} {scope:Scope} {lp kp p pos:Pos} {cc P:Addr} {N':List Str} {px:Str} {k:Nat} (hr:cb k X.A) (L:LamK X.K X.mg cc P) (hcode:X.env.code=.ref cc) (hm:X.mg "sorted" = none) (ha:DE X a fa)
  (he:∀q c' A s H,(lam X N' px scope b5 q (.ref c') A s H).A.units + 100 < cLine->DE (lam X N' px scope b5 q (.ref c') A s H) body fk)
  (hS:cT N' [px] X.env.scope scope=true:=by rfl) (hM:cQ X.N N' scope=true:=by rfl) (hk:scope.kind=.function:=by rfl) (hco:scope.isCoroutine=false:=by rfl) (hgen:scope.isGenerator=false:=by rfl)
  (hpx:scope.names.lookup px=some .local:=by rfl) (hnc:(scope.names.all fun x=>!(x.2 == .cell))=true:=by rfl) (hqual:X.env.qual ++ "<lambda>" = b5:=by rfl) (hdef:defaultsOf params X.env=([],[]):=by rfl)
  (hbind:∀(u:Value) (cl:List (Str × Addr)) (pm ctv:Value) (c':Addr),bindArgs (PySem.W.kla_fn "<lambda>" b5 params body scope cl pm (.ref c') ctv) ⟨[u],[]⟩=pure [(px,u)]:=by intros;rfl)
  (hg:Gl X "sorted":=by rfl) (hst:starEach [a] X.env=[(false,eval a X.env)]:=by rfl) :
  DF X (.Call (.Name "sorted" p) [a] [⟨some "key",.Lambda params body scope lp,kp⟩] pos) (oO fa fk):=cC (r8 hr L hcode hm ha he hS hM hk hco hgen hpx hnc hqual hdef hbind hg hst) fun σ H Q ⟨c,δ,S,T,xs,δ',s,e,q⟩=>by
 obtain ⟨x,δ1,e1,e⟩:=bind_some e
 refine ⟨c,δ,S,T,x,δ1,s,e1,fun v H1 s1=>?_⟩
 cases x with
 | dip kvs=>
  dsimp only at e
  split at e
  .rename_i h64
   obtain ⟨ks,δ2,e2,e⟩:=bind_some e
   obtain ⟨rfl,rfl⟩:=aW e
   obtain ⟨d,rfl,h1⟩:=s1.st.head.dip
   refine ⟨d,_,rfl,.inl (bB _ _ h1),by simpa using h64,fun H2 same bs hbl hbs=>?_⟩
   rw [fD] at hbl
   have s2:=s1.grow same
   have hrs:Rs (fv c δ1 σ H2) (kvs.map fun p=>pairD p.1) (bs.map V.ref):=qF hbl fun i p hp=>by
    obtain ⟨b,eb,hb⟩:=hbs i ([.inl p.1.1,.inl p.1.2],.int p.2) (by rw [QL,hp];rfl)
    exact ⟨b,eb,s2.seeT hb⟩
   have s3:Sl c δ1 ((kvs.map fun p=>pairD p.1) ++ S) σ (bs.map V.ref ++ T) H2:=s2.stk (hrs.append s2.st.tail)
   have hlk:=nK e2
   refine ⟨ks,fun i H'=>∃δi,Sl c δi ((kvs.map fun p=>pairD p.1) ++ S) σ (bs.map V.ref ++ T) H' ∧ iE fk (kvs.drop i) δi=some (ks.drop i,δ2),by simpa using hlk,⟨δ1,s3,e2⟩,fun i kk b H' hb hkk ⟨δi,si,ei⟩=>?_,fun H' l ⟨δn,sn,en⟩ hl=>?_⟩
   .have hi:i < kvs.length:=by rw [<- hlk];exact (xZ.mp hkk).1
    obtain ⟨p,hp⟩:∃p,kvs[i]? = some p:=⟨kvs[i],kW hi⟩
    have ed:kvs.drop i=p :: kvs.drop (i + 1):= by
     rw [QG hi]
     have:=kW hi
     rw [hp] at this;cases this;rfl
    rw [ed] at ei
    obtain ⟨k1,δ3,ks1,f1,f2,f3⟩:=kJ ei
    have ek:ks.drop i=kk :: ks.drop (i + 1):= by
     have hi':=(xZ.mp hkk).1
     rw [QG hi']
     have:=kW hi'
     rw [hkk] at this;cases this;rfl
    rw [ek] at f3
    cases f3
    have hrs':=si.st.left (by simp [hbl])
    obtain ⟨v',ev,rv⟩:=hrs'.get (show (kvs.map fun p=>pairD p.1)[i]? = some (pairD p.1) by rw [QL,hp];rfl)
    rw [QL,hb] at ev
    cases ev
    have s4:Sl c (δi ++ [.pu (pairD p.1)]) ((kvs.map fun p=>pairD p.1) ++ S) (σ ++ [some (.ref b)]) (bs.map V.ref ++ T) H':=(si.stk (.cons rv si.st)).snoc
    refine ⟨c,_,_,_,.int kk,δ3,s4,f1,fun y H'' s5=>⟨s5.st.head.int,δ3.take δi.length,?_,f2⟩⟩
    have s6:=s5.pop.cut δi.length
    rw [si.len,YB] at s6
    .rw [si.len];exact s6
    .rfl
   .rw [fD,List.drop_of_length_le (wF _),List.drop_of_length_le (by omega)] at en
    cases en
    have hf:=sn.fresh hl
    have hrs':=sn.st.left (by simp [hbl])
    have hpk:=Fw hrs' ks
    have s7:=sn.stk (hpk.append (sn.st.right (by simp [hbl])))
    exact q l _ _ hpk.length (s7.hide hl) hf.1 hf.2.1 hf.2.2
  .cases e
 | _=>cases e
end
end Jt
namespace Jt
open PySem L2 PyProof.Rows
section
variable {P:Program} {w:World} {K:PySem.W.Frag} {mg:Str->Option Value} {base:Heap} {k:Nat} {N ps:List Str} {st:Stmt} {body:M Fl} {c PT:Addr}
theorem NG(F:C_ K x qual st f fd)(S:cz N ps (aZ st)){cdv:Value}(hc:fd.code=cdv)
  (J:∀(A:Around)(outer:List Env)(s:Shared)(H:Hp)(E:XK),cb k (A.deeper (PyProof.Rows.envOfC qual (aZ st) s.heap.objs.size f cdv))->l9 (fP dQ P w K mg base N qual (aZ st) f cdv A outer s H E).nox (bT st) body):
  dG P w K mg base dQ (k+1) f fd ps (mE ps.length (bP N body)):=by
 obtain⟨oc,od,kV,doc,pm,an,cd,ct,ae,rfl,lk,U⟩:=F.ex;have aa:cd=cdv:=hc;subst aa;refine Hy lk U S (λ vs H Q E h=>h.1) λ A outer s H vs Q E hr h=>?_;refine⟨_,(J A outer s H E hr).nox,?_⟩;obtain⟨hl,Z,ds,d,hZ,r,e,q⟩:=h;have ab:ps.length<=N.length:=by have:=Z6 List.length S.pre;rw[ZT]at this;omega
 have s0:=l4 (N:=N) hZ r (by rw[hl];exact ab);have fin:∀{C:DS}{I:L2.St}{v:V}{H':Hp},Sl ⟨Z,[],H⟩ C [d] I [v] H'->Q v H':= λ{C I v H'} s'=>
  q v H' (λ b o J=>s'.keep b o (by simp) J) (s'.st.head.mono (bK (λ a o _ z=> .inl z) λ _ _ _ h=>h));unfold bP at e;split at e;. rename_i d' C eb;cases e;exact⟨_,_,_,_,_,_,s0,eb,λ v I H' s'=>fin s'⟩
 .rename_i C eb;cases e;exact⟨_,_,_,_,_,_,s0,eb,λ I H' s'=>fin (v:= .non) (s'.stk (.cons .mkN .nil))⟩
 grind
structure Kj (K:PySem.W.Frag) (mg:Str->Option Value) (c PT:Addr):Prop extends LamK K mg c PT where
 cod:∀f fd,mg dC=some (.ref f)->(∃oc od osl,K.lookup f=some ⟨oc,od,.func fd,osl⟩)->fd.code=.ref c
theorem N9(L:Kj K mg c PT)(E:Ent K mg dC ps st)(S:cz N ps (aZ st))
  (C:∀(f:Addr)(A:Around)(outer:List Env)(s:Shared)(H:Hp)(E:XK),cb k (A.deeper (PyProof.Rows.envOfC dC (aZ st) s.heap.objs.size f (.ref c)))->l9 (fP dQ P w K mg base N dC (aZ st) f (.ref c) A outer s H E).nox (bT st) body):
  Kn P w K mg base dQ (k+1) dC ps (mE ps.length (bP N body)):=by
 obtain⟨⟨f,fd,F,m,b⟩⟩:=E;have I:fd.code= .ref c:=by obtain⟨J,od,kV,doc,pm,an,cd,ct,o,e,lk,U⟩:=F.ex;exact L.cod f fd m ⟨J,od,o,lk⟩
 exact⟨⟨f,fd,NG F S I (C f),m,F.kp,b⟩⟩
noncomputable def JA(vs:Array Value):Addr:=match(vs[11]?:Option Value)with
 |some (.ref P)=>P
 |_=>0
noncomputable def codeOk(vs:Array Value)(c bm:Addr):Bool:=
 (match(vs[11]?:Option Value)with|some (.ref _)=>true|_=>false)&&(match vs.getD 18 .none with| .str _ _=>true|_=>false)&&(match vs.getD 7 .none with| .int _ _=>true|_=>false)&&
 (match vs.getD 9 .none with| .bool _=>true|_=>false)&&(match vs.getD 10 .none with| .int _ _=>true|_=>false)&&decide (c≠JA vs)&&decide (bm≠builtinsNs)&&decide (bm≠mainGlobals)&&decide (bm≠JA vs)&&decide (mainGlobals≠JA vs)
theorem Ez(X:K.In h)(G:h.Ns mainGlobals mg){f c bm:Addr}{oc:Value}{od C:Option Addr}{fd:FuncData}{sl I J:Array (Option Value)}{vs:Array Value}
  (a:PySem.W.nsIn K mainGlobals dC=some (some (.ref f)))(l:K.lookup f=some ⟨oc,od,.func fd,sl⟩)(hc:fd.code= .ref c)(lc:K.lookup c=some ⟨.type "code",C,.fields vs,I⟩)
  (b:PySem.W.nsIn K mainGlobals "__builtins__"=some (some (.ref bm)))(lb:K.lookup bm=some ⟨.type "module",some builtinsNs,.plain,J⟩)(U:codeOk vs c bm=true):Kj K mg c (JA vs):=by
 unfold codeOk at U;simp only[QI,QD]at U;obtain⟨⟨⟨⟨⟨⟨⟨⟨⟨v1,v2⟩,v3⟩,v4⟩,v5⟩,v6⟩,v7⟩,v8⟩,v9⟩,v10⟩:=U;have o:(vs[11]?:Option Value)=some (.ref (JA vs)):=by unfold JA;grind
 have tab:PySem.W.tabIn K dC=some (c,JA vs):=by unfold PySem.W.tabIn;rw[a];dsimp only;rw[l];dsimp only;rw[hc];dsimp only;rw[lc];dsimp only;rw[o]
 have st:∀{u:Value},(match u with| .str _ _=>true|_=>false)=true->∃a b,u= .str a b:= λ{u} h=>by cases u <;> first|exact⟨_,_,rfl⟩|cases h
 have it:∀{u:Value},(match u with| .int _ _=>true|_=>false)=true->∃a b,u= .int a b:= λ{u} h=>by cases u <;> first|exact⟨_,_,rfl⟩|cases h
 have bt:∀{u:Value},(match u with| .bool _=>true|_=>false)=true->∃a,u= .bool a:= λ{u} h=>by cases u <;> first|exact⟨_,rfl⟩|cases h
 obtain⟨s1,s2,aa⟩:=st v2;obtain⟨i1,i2,e7⟩:=it v3;obtain⟨b1,e9⟩:=bt v4;obtain⟨j1,j2,ab⟩:=it v5;refine⟨⟨tab,λ h' X'=>⟨_,vs,s1,s2,i1,i2,b1,j1,j2,X' _ _ lc,rfl,rfl,o,?_,aa,e7,e9,ab,v6⟩,λ h' X'=>⟨bm,_,XX X G b,v7,v8,v9,X' _ _ lb,rfl,rfl,rfl⟩,v10⟩,λ f' af hm ⟨ag,od',ae,lk⟩=>?_⟩;. rw[Array.getD_eq_getD_getElem?,o];rfl
 .have e:=XX X G a;rw[hm]at e;cases e;rw[l]at lk;cases lk;exact hc
end
theorem yr {P:Program} {w:World} {K:PySem.W.Frag} {mg mb:Str->Option Value} {k:Nat} {fa a:Addr} {fd:FuncData} {x:Str} {sp:Sp} {s₁:Shared} {vs:List Value} {ns:List Int} {c PT:Addr}
  (KX:K.In s₁.heap) (hns:s₁.heap.Ns mainGlobals mg) (hb:s₁.heap.Ns builtinsNs mb) (hbb:∀x:Str,x ≠ "__name__" -> mb x=bootBuiltins x) (hlim:s₁.heap.NoLimit) (hg:s₁.gens = #[])
  (ha:s₁.heap.get? a=some { cls:=.type "list",data:=.seq vs.toArray }) (hi:IntsAre vs ns) (hl:ns.length ≤ sizeLine) (hr:cb k callerA) (hKa:K.lookup a=none)
  (htab:PySem.W.tabIn K dC=some (c,PT)) (hPT:s₁.heap.get? PT=some (PySem.W.tabObj #[])) (hCd:PySem.W.CodeHd s₁.heap c PT) (hKP:K.lookup PT=none)
  (F:∀base:Heap,K.In base->base.Ns mainGlobals mg->dG P w K mg base dQ k fa fd [x] sp) (hbind:∀(s:Shared) (u:Value),BindsTo s fd ⟨[u],[]⟩ [(x,u)])
  (hsp:∀H:Hp,Rd H a (.lst (ns.map V.int))->sp [.ref a] H (fun v _=>v=.bl true) fun _ _ _=>False) :
  codeAny (model P w) callerA (.call (.ref fa) ⟨[.ref a],[]⟩) (fun r s'=>r=.ok (.ret (.bool true))∧OldK s₁.heap s'.heap∧s'.os=s₁.os∧AllBare s'.gens) s₁:= by
 have rv:=ie hi
 have hne:PT ≠ a:=fun z=>by rw [z,ha] at hPT;cases hPT
 let H:Hp:=fun b=>if b=a then some (.frz { cls:=.type "list",data:=.seq vs.toArray } (.lst (ns.map V.int))) else if b=PT then some (.tbl #[.str b5 0]) else none
 have Ha:H a=some (.frz { cls:=.type "list",data:=.seq vs.toArray } (.lst (ns.map V.int))):=gL rfl
 have HP:H PT=some (.tbl #[.str b5 0]):=(QC hne).trans (gL rfl)
 have Hn:∀b,b ≠ a->b ≠ PT->H b=none:=fun b h1 h2=>(QC h1).trans (QC h2)
 have Hc:∀b,H b=none ∨ b=a ∨ b=PT:=fun b=>by
  by_cases h1:b=a
  .exact .inr (.inl h1)
  .by_cases h2:b=PT
   .exact .inr (.inr h2)
   .exact .inl (Hn b h1 h2)
 have hok:iG P w H s₁.heap:=fun b o e=>by
  by_cases h1:b=a
  .subst h1;rw [Ha] at e;cases e
   exact ⟨ha,by rw [fD];exact hl,vs,_,rv,ha⟩
  .by_cases h2:b=PT
   .subst h2;rw [HP] at e;cases e
    exact ⟨#[],hPT,trivial,fun q t0 pos cv _ h=>by cases h⟩
   .rw [Hn b h1 h2] at e;cases e
 have base_of:∀{b:Addr} {o:Obj},s₁.heap.get? b=some o->b ≠ a->b ≠ PT->(o9 s₁.heap H).get? b=some o:=fun e h1 h2=>Cv e (Hn _ h1 h2)
 have nsK:∀{b:Addr} {m:Str->Option Value},s₁.heap.Ns b m->(o9 s₁.heap H).Ns b m:=fun {b m} ⟨o,es,ep,e,d,r⟩=>⟨o,es,ep,base_of e (fun z=>by rw [z,ha] at e;cases e;cases d) (fun z=>by rw [z,hPT] at e;cases e;cases d),d,r⟩
 have hKb:K.In (o9 s₁.heap H):=fun b o e=>base_of (KX b o e) (fun z=>by rw [z,hKa] at e;cases e) fun z=>by rw [z,hKP] at e;cases e
 have hM:Mod K mg (o9 s₁.heap H):=⟨hKb,nsK hns,⟨mb,nsK hb,hbb⟩,let ⟨mc,h1,h2⟩:=hlim;⟨mc,nsK h1,h2⟩⟩
 have e0:Ee P w K mg (o9 s₁.heap H) callerA [] s₁ H:=⟨rfl,hM,fun b o e=>Fg e,W7 (yv _ _),trivial,fun b hb=>absurd (show b ∈ ([]:List Addr) from hb) (by simp),hok,.of_eq hg,fun c' P' e=>by
  rw [htab] at e;cases e
  exact ⟨_,0,HP,rfl⟩⟩
 refine Z9 ((F _ hKb (nsK hns)).run callerA [] s₁ H ⟨[.ref a],[]⟩ [.ref a] [.ref a] _ _ hr e0 (hbind s₁ (.ref a)) (.cons rfl .nil) (hsp H (.inr ⟨_,Ha⟩))) fun r s' h=>?_
 cases r with
 | error e=>exact False.elim h
 | ok fl=>
  cases fl with
  | next=>exact False.elim h
  | brk=>exact False.elim h
  | cont=>exact False.elim h
  | ret u=>
   obtain ⟨v,H',os,bare,un,hok',r',q⟩:=h
   have q':v=.bl true:=q
   subst q'
   obtain rfl:u=Value.bool true:=r'
   have cas:∀b o,s₁.heap.get? b=some o->s'.heap.get? b=some o ∨ (b=PT∧o=PySem.W.tabObj #[]∧∃ps,s'.heap.get? b=some (PySem.W.tabObj ps)):=fun b o e=>by
    rcases Hc b with z | z | z
    .exact .inl (un.keep b o e z (by intro z;exact absurd (show b ∈ ([]:List Addr) from z) (by simp)) (by simp))
    .subst z
     obtain ⟨e2,_⟩:=hok' b _ (un.frzs b _ _ Ha)
     rw [ha] at e;cases e
     exact .inl e2
    .subst z
     obtain ⟨more,e2⟩:=un.tbls b _ HP
     obtain ⟨ps,e3,_⟩:=(show cg P w H' s'.heap b (.tbl _) from hok' b _ e2)
     simp_all
   refine ⟨rfl,⟨fun b o e=>?_,fun b o e=>?_⟩,os,bare⟩
   .rcases cas b o e with z | ⟨rfl,rfl,ps,z⟩
    .exact .inl z
    .exact .inr (.inl ⟨(hCd.tab hPT).isCodeTable,rfl,#[],ps,rfl,by rw [Array.empty_append];exact z⟩)
   grind
end Jt
namespace Jt
open PySem PySem.W PySem.Calls PyProof.Rows L2
theorem oa{K:PySem.W.Frag}(h:zr K=true){a:Addr}{vs:Array Value}{C:Heap}(X:K.In C)(e:C.get? a=some { cls:= .type "list",data:= .seq vs }):K.lookup a=none:=by cases q:K.lookup a with
 |none=>rfl
 |some o=>have:=X a o q;rw[e]at this;cases this;have I:=QT.mp h _ (mem_of_lookupK q);simp_all
theorem me{K:PySem.W.Frag}(h:noTabs K=true){a:Addr}{C:Heap}(X:K.In C)(e:C.get? a=some (tabObj #[])):K.lookup a=none:=by cases q:K.lookup a with
 |none=>rfl
 |some o=>have:=X a o q;rw[e]at this;cases this;have I:=QT.mp h _ (mem_of_lookupK q);simp_all
structure Hu (K K':PySem.W.Frag):Prop where
 lk:∀{a:Addr} {o:Obj},K.lookup a=some o->K'.lookup a=some o
section
variable {K K':PySem.W.Frag}
theorem Hu.ns (U:Hu K K') {n:Addr} {x:Str} {y:Option Value} (e:nsIn K n x=some y):nsIn K' n x=some y:= by
 unfold nsIn at e ⊢
 cases q:K.lookup n with
 | none=>rw [q] at e;cases e
 | some o=>rw [q] at e;rw [U.lk q];exact e
theorem Hu.code (U:Hu K K') {cd:Value} {x:Str} (e:codeIn K cd x=true):codeIn K' cd x=true:= by
 unfold codeIn at e ⊢
 cases cd with
 | ref c=>
  dsimp only at e ⊢
  cases q:K.lookup c with
  | none=>rw [q] at e;cases e
  | some o=>rw [q] at e;rw [U.lk q];exact e
 | _=>cases e
theorem Hu.fh (U:Hu K K') {x:Str} {st:Stmt} (h:Fh K x st):Fh K' x st:= by
 obtain ⟨⟨f,oc,od,kV,dc,pm,an,cd,ct,sl,a,l,c,k⟩⟩:=h
 refine fh_mk (U.ns a) (U.lk l) (U.code c) ?_
 unfold keepIn
 dsimp only
 rw [U.lk l]
theorem bm_eq {h:Heap} {mg:Str->Option Value} {bm b:Addr} {o:Obj} (X:K.In h) (G:h.Ns mainGlobals mg) (hbm:mg "__builtins__" = some (.ref bm)) (hlk:K.lookup bm=some o) (lb:nsIn K mainGlobals "__builtins__" = some (some (.ref b))):K.lookup b=some o:= by
 have:=mg_of X G lb
 rw [hbm] at this
 cases this
 exact hlk
end
theorem walkM {l:PySem.W.OpenLaw} {q:Program} {loose:List Str} {XP:(Str->Option Value)->Heap->Prop} {YP:World->Heap->Prop} {d:DefRec} {K:Params->PySem.W.Frag} {k:Nat} (hn:l.most=some 63) (hdf:d.params.defaults=[]) (hr:cb k callerA)
  (hY:∀(w:World) (h:Heap),YP w h->(K w.params).In h) (hL:∀w:World,zr (K w.params)=true) (hN:∀w:World,noTabs (K w.params)=true) (hq:((recsOf q).find? fun e=>e.name == dC).isSome=true)
  (F:∀(w:World) (mg:Str->Option Value) (fa:Addr) (h:Heap) (K':PySem.W.Frag) (bm:Addr) (sl:Array (Option Value)),Hu (K w.params) K' -> K'.In h->h.Ns mainGlobals mg->mg d.name=some (.ref fa)->mg "__builtins__" = some (.ref bm)->K'.lookup bm=some ⟨.type "module",some builtinsNs,.plain,sl⟩ ->
   (∃c PT,tabIn K' dC=some (c,PT))∧∃fd:FuncData,(∀(s:Shared) (u:Value),BindsTo s fd ⟨[u],[]⟩ [("_law_script",u)])∧∀base:Heap,K'.In base->base.Ns mainGlobals mg->dG l.prog w K' mg base dQ k fa fd ["_law_script"] sU) :
  PySem.W.WalkO q loose XP YP l.row.toRowW d [] (fun f vs=>PySem.call f vs):= by
 intro w s₀ s₁ mg mb G Y fa o pm cd doc dV kV ho hd hcd hD hmg hg args vals as hpre hlay hrd hwl hlo
 obtain rfl:dV=.none:=Dflts.none hD hdf
 obtain rfl:kV=.none:=Dflts.noKw hD
 obtain ⟨a,vs,ns,rfl,rfl,hobj,hints,hlen⟩:=Att.script_of hn hpre hwl
 have KX:=hY w _ Y
 obtain ⟨bm,ob,hb1,_,hb3,hb4,hb5,hb6⟩:=G.T.bmain
 obtain ⟨oc,od,odt,osl⟩:=ob
 dsimp only at hb4 hb5 hb6
 subst hb4;subst hb5;subst hb6
 have U:Hu (K w.params) (K w.params ++ [(bm,⟨.type "module",some builtinsNs,.plain,osl⟩)]):=⟨fun {a o} e=>by rw [W0,e];rfl⟩
 have one:∀{a:Addr},a ≠ bm->(K w.params).lookup a=none->(K w.params ++ [(bm,(⟨.type "module",some builtinsNs,.plain,osl⟩:Obj))]).lookup a=none:=fun {a} h1 h2=>by
  rw [W0,h2]
  show ([(bm,_)]:List (Addr × Obj)).lookup a=none
  unfold List.lookup
  rw [V3.mpr h1]
  rfl
 have two:∀{a:Addr} {o:Obj},(K w.params ++ [(bm,(⟨.type "module",some builtinsNs,.plain,osl⟩:Obj))]).lookup a=some o->(K w.params).lookup a=some o ∨ (a=bm∧o=⟨.type "module",some builtinsNs,.plain,osl⟩):=fun {a o} e=>by
  rw [W0] at e
  cases q:(K w.params).lookup a with
  | some o2=>rw [q] at e;exact .inl e
  | none=>
   rw [q] at e
   have e:([(bm,(⟨.type "module",some builtinsNs,.plain,osl⟩:Obj))]:List (Addr × Obj)).lookup a=some o:=e
   by_cases h:a=bm
   .subst h
    rw [List.lookup_cons_self] at e
    cases e
    exact .inr ⟨rfl,rfl⟩
   .unfold List.lookup at e
    rw [V3.mpr h] at e
    cases e
 have KX2:(K w.params ++ [(bm,(⟨.type "module",some builtinsNs,.plain,osl⟩:Obj))]).In s₁.heap:=fun a o e=>by
  rcases two e with e | ⟨rfl,rfl⟩
  .exact KX a o e
  .exact hb3
 have hlk:(K w.params ++ [(bm,(⟨.type "module",some builtinsNs,.plain,osl⟩:Obj))]).lookup bm=some ⟨.type "module",some builtinsNs,.plain,osl⟩:= by
  rw [W0]
  cases q:(K w.params).lookup bm with
  | some o2=>
   have:=KX _ _ q
   rw [hb3] at this
   cases this
   rfl
  | none=>
   show ([(bm,_)]:List (Addr × Obj)).lookup bm=_
   rw [List.lookup_cons_self]
 obtain ⟨⟨c,PT,htab⟩,fd,hb,hF⟩:=F w mg fa _ _ bm osl U KX2 G.T.g hmg hb1 hlk
 obtain ⟨dr,hdr⟩:=YG.mp hq
 obtain ⟨hCd,hPT⟩:=tab_of G.T KX2 hdr htab
 have bits:=Bh hlay
 refine enter_call (Z9 (yr KX2 G.T.g G.T.b G.T.builtins G.T.nolimit hg hobj hints (Q1 hlen (by decide)) hr (one (fun z=>by rw [z,hb3] at hobj;have q:=Z6 Obj.data (Q9 hobj);cases q) (oa (hL w) KX hobj)) htab hPT hCd (one (fun z=>by rw [z,hb3] at hPT;cases hPT) (me (hN w) KX hPT)) hF hb (fun H hS=>⟨a,ns,rfl,hS,hlen,bits,fun _=>rfl⟩)) fun r s' hq=>?_)
 obtain ⟨rfl,h2,h3,h4⟩:=hq
 exact ⟨.inl ⟨.bool true,.bool true,[],rfl,fun _=>rfl,.bool true,Att.post_true l _,fun _=>⟨List.Pairwise.nil,fun _ hm=>(nomatch hm)⟩⟩,h2,h3,h4⟩
end Jt
namespace L2
open PySem PySem.Spec PyProof.Rows
noncomputable def M5 (lo:Int) (n:Nat):It:=⟨fun i _=>i < n,fun i H x H'=>H' = H∧x=.int (lo - i),fun i _=>n ≤ i⟩
section
variable {P:Program} {w:World}
theorem xD {K:PySem.W.Frag} {tg:Expr} (it:Addr) (lo:Int) (n:Nat):Turn P w K tg (M5 lo n) [it] it (fun i h=>IsRangeIter h it (lo + i * (-1)) (n - i) (-1)) where
 mem:=by simp
 obj:=fun i h st b C=>by
  obtain rfl:b=it:=by simpa using C
  exact ⟨_,st,fun v z=>by have z':Data.fields _=Data.cell v:=z;cases z'⟩
 keep:=fun i h h' st k=>k it (by simp) _ st
 item:= by
  intro X hP hw hK U i pins s σ H E I hf st hg
  subst hP hw hK
  obtain ⟨f0,f1,f2,f3,f4,f5⟩:=hf it (by simp)
  have W:=Walks.range (prog:=X.prog) (w:=X.w) (I.ok.hd U) it lo (-1) n
  refine W.item i s _ _ hg st fun v h' tk hv J kk=>?_
  obtain ⟨t,rfl⟩:=hv
  have I1:Inv X pins σ H { s with heap:=h',toks:=tk }:=I.turned (fun b o C e=>kk b o (by simpa using C) e) f0 f1 f3 f4 f5
  refine ⟨_,rfl,rR (s:={ s with heap:=h',toks:=tk }) (n:="range_iterator") J rfl rfl (by decide) ⟨.int (lo - i),H,I1,⟨t,?_⟩,⟨rfl,rfl⟩,J,fun b C=>(hf b C).1⟩⟩
  rw [show lo + (i:Int) * (-1)=lo - i by omega]
 done:= by
  intro X hP hw hK U i pins s σ H E I hf st hg
  obtain ⟨f0,f1,f2,f3,f4,f5⟩:=hf it (by simp)
  exact wpAny_pyNext_range_end (I.ok.hd U) st (by have:n ≤ i:=hg;omega) fun h' eb=>⟨rfl,I.turned (t':=s.toks) (fun b o C e=>eb b o C e) f0 f1 f3 f4 f5⟩
 self:=fun _ _ _ _ _ st h=>wpAny_pyIter_rangeiter st h
end
section
variable {X:Cx} {tg:Expr} {pins:List (Addr × Obj)}
theorem mR (i j:Int):Builtin.Range.rangeSize i j (-1)=((i - j).toNat:Int):= by
 unfold Builtin.Range.rangeSize
 rw [QC (by decide),show (-(-1):Int)=1 from rfl,Int.ediv_one]
 split <;> omega
theorem FI {σ:St} {H:Hp} {s:Shared} {R:It->Hp->Prop} {E:Value->Shared->Prop} {i j:Int} {t u v:Tok} {tk:Nat} (I:Inv X pins σ H s) (hs:Builtin.Range.small i j (-1)=true) (q:R (M5 i (i - j).toNat) H) :
  wpAny (model X.prog X.w) X.A (pyIter (.ref s.heap.objs.size)) (NF X pins σ tg R) E { s with heap:=s.heap.push { cls:=.type "range",data:=.fields #[.int i t,.int j u,.int (-1) v] },toks:=tk }:= by
 refine wpAny_pyIter_range (IsRange.new ..) hs ?_
 have J:Inv X pins σ H { s with heap:=s.heap.push { cls:=.type "range",data:=.fields #[.int i t,.int j u,.int (-1) v] },toks:=tk }:=I.kept fun b o e=>zS _ e
 refine ⟨(s.heap.push { cls:=.type "range",data:=.fields #[.int i t,.int j u,.int (-1) v] }).objs.size,[(s.heap.push { cls:=.type "range",data:=.fields #[.int i t,.int j u,.int (-1) v] }).objs.size],_,_,H,rfl,J.kept (t':=tk) fun b o e=>zS _ e,xD _ i (i - j).toNat,?_,fun b hb=>?_,q⟩
 .have e1:i + ((0:Nat):Int) * (-1)=i:=by simp
  have e2:(((i - j).toNat:Nat):Int) - ((0:Nat):Int)=Builtin.Range.rangeSize i j (-1):=by rw [mR];omega
  rw [e1,e2]
  exact wL _ rfl
 .obtain rfl:b=(s.heap.push { cls:=.type "range",data:=.fields #[.int i t,.int j u,.int (-1) v] }).objs.size:=by simpa using hb
  exact J.fpOk (wF _) (J.hok.fresh (wF _))
noncomputable def K2 (ta:TA):TI:=fun σ H R=>ta σ H fun vs H1=>∃i j:Int,vs=[.int i,.int j,.int (-1)]∧(-100000 < i∧i < 100000 ∧ -100000 < j∧j < 100000)∧R (M5 i (i - j).toNat) H1
theorem xn {a b c:Expr} {ta:TA} {p pos:Pos} (hg:Gl X "range") (hm:X.mg "range" = none) (ha:PA X [a,b,c] ta) (hs:starEach [a,b,c] X.env=[(false,eval a X.env),(false,eval b X.env),(false,eval c X.env)]:=by rfl) (hs2:starEach [b,c] X.env=[(false,eval b X.env),(false,eval c X.env)]:=by rfl) :
  PI X tg (.Call (.Name "range" p) [a,b,c] [] pos) (K2 ta):= by
 intro pins s σ H R I h
 refine Call_ (gj I hg hm boot_range (ZY (cf (ha pos pins s σ H _ I h) fun us s1 ⟨vs,H1,I1,r1,q1⟩=>?_) (by rw [hs,hs2]) (by rw [hs2];rfl)))
 obtain ⟨i,j,rfl,⟨q1,q2,q3,q4⟩,q⟩:=q1
 cases r1 with | cons r rr=>cases rr with | cons r' rr=>cases rr with | cons r'' rr=>
 cases rr
 obtain ⟨t,rfl⟩:=r
 obtain ⟨u,rfl⟩:=r'
 obtain ⟨v,rfl⟩:=r''
 refine call_range_3 (by decide) (FI I1 ?_ q) (Or.inl (PyProof.noPylong_small (by omega)))
 unfold Builtin.Range.small
 rw [mR]
 simp only [Builtin.Range.rangeFitsLong,QI,VN,QD,beq_iff_eq]
 rw [QC (by decide)]
 simp only [QI,QD]
 omega
end
end L2
namespace Jt
open PySem L2
noncomputable def jT (lo:Int) (n:Nat):List D:=(List.range n).map fun (i:Nat)=>D.int (lo - (i:Int))
theorem zP {lo:Int} {n:Nat}:JK (M5 lo n) (bz (jT lo n)) [] []:=fun c I S σ T H i s=>by
 refine ⟨fun act d C hd=>?_,fun e _=>by
  have:(bz (jT lo n)).1.length=n:=by simp [bz,jT]
  show n ≤ i
  omega⟩
 have h:=eL C hd
 unfold jT at h
 rw [QL] at h
 have o:i < n:= by
  cases q:(List.range n)[i]? with
  | none=>rw [q] at h;cases h
  | some z=>simpa using (xZ.mp q).1
 rw [V4 o] at h
 cases h
 refine ⟨o,fun x H' y=>?_⟩
 obtain ⟨rfl,rfl⟩:=y
 exact s.stk (.cons .mkI s.st)
noncomputable def B_:List D->Option iW
 | [.int i,.int j,.int k]=>if k = -1 ∧ -100000 < i∧i < 100000 ∧ -100000 < j∧j < 100000 then some (bz (jT i (i - j).toNat)) else none
 | _=>none
section
variable {X:Cx} {pos:Pos}
theorem xI {tg a b c:Expr} {p:Pos} {fs:M (List D)} (hg:Gl X "range") (hm:X.mg "range" = none) (ha:DA X [a,b,c] fs) (hs:starEach [a,b,c] X.env=[(false,eval a X.env),(false,eval b X.env),(false,eval c X.env)]:=by rfl) (hs2:starEach [b,c] X.env=[(false,eval b X.env),(false,eval c X.env)]:=by rfl) :
  DI X tg (.Call (.Name "range" p) [a,b,c] [] pos) (mC B_ fs) :=
 q_ (xn hg hm ha hs hs2) fun σ H R ⟨cc,δ,S,T,it,aa,s,e,kk⟩=>by
  obtain ⟨ds,J,e1,e⟩:=bind_some e
  obtain ⟨o,rfl⟩:=bc e
  refine ⟨cc,δ,S,T,ds,J,s,e1,fun vs H' l s'=>?_⟩
  unfold B_ at o
  split at o
  .split at o
   .rename_i i j k C
    cases o
    obtain ⟨rfl,C⟩:=C
    have h:=s'.st.left l
    obtain ⟨v1,r1,rfl,z1,h⟩:=h.inv
    obtain ⟨v2,r2,rfl,z2,h⟩:=h.inv
    obtain ⟨v3,r3,rfl,z3,h⟩:=h.inv
    cases h.inv0
    cases z1.int
    cases z2.int
    cases z3.int
    exact ⟨i,j,rfl,C,kk _ [] [] H' rfl zP (s'.stk (s'.st.right l))⟩
   .cases o
  .cases o
end
end Jt
namespace Jt.Tu
open PySem Jt
section
set_option maxHeartbeats 8000000 in
end
end Jt.Tu
namespace Jt.Tu
open PySem Jt L2 PyProof.Rows
section
variable {X:Cx} {a b:Expr} {fa fb:M D} {pos:Pos}
theorem Ik:iu X (compareOp .Is) (λ x y H Q=>∃p q,x= .bl p/\y= .bl q/\Q (.bl (p==q)) H):=by intro pins s σ H x y v u Q I C J h;obtain⟨p,q,rfl,rfl,k⟩:=h;cases C;cases J;refine wpAny_is_plain (a:= .bool p) (b:= .bool q) (by rfl) ⟨.bl (p==q),H,I,?_,k⟩;cases p <;> cases q <;> rfl
noncomputable def IW:D->D->Option D
 | .bl p,.bl q=>some (.bl (p==q))
 |_,_=>none
theorem FY:md (λ x y H Q=>∃p q,x= .bl p/\y= .bl q/\Q (.bl (p==q)) H) IW:= λ c C S σ T H x y v u d Q s e k=>by
 unfold IW at e;split at e;. cases e;exact⟨_,_,s.st.tail.head.bl,s.st.head.bl,k _ _ (s.stk (.cons .mkB s.st.tail.tail))⟩
 .cases e
theorem de_isB(o:DE X a fa)(C:DE X b fb):DE X (.Compare a [.Is] [b] pos) (m2 IW fa fb):=iY Ik FY o C
end
end Jt.Tu
namespace K55
open PySem L2 Jt
noncomputable def top (i:Nat):Stmt:=PySem.Challenge.pw_jointrees_k55_whole_orders_and_trees.main.body.getD i (.Pass ⟨0,0,0,0⟩)
structure Bi (mg:Str->Option Value):Prop where
 all:mg "all" = none
 any:mg "any" = none
 bool:mg "bool" = none
 enumerate:mg "enumerate" = none
 int:mg "int" = none
 isinstance:mg "isinstance" = none
 len:mg "len" = none
 list:mg "list" = none
 max:mg "max" = none
 min:mg "min" = none
 range:mg "range" = none
 set:mg "set" = none
 sorted:mg "sorted" = none
 sum:mg "sum" = none
 tuple:mg "tuple" = none
section
variable {P:Program} {w:World} {K:PySem.W.Frag} {mg:Str->Option Value} {base:Heap}
abbrev C0:List Str:=["_law_script","_law_k"]
noncomputable def qJ:Pk HP 2 "_law_cell" C0 (top 46) fun c k o=>Bi c.mg->o :=
 ⟨_,fun E m=>
  kP E fun nd hr=>
  (aV (cu (Gy (aQ 1) (c7 m.len (aR (aQ 0) aU))) (aX (bq (bw (aQ 0) (aQ 1)))) bH)
  (aX (bq (d_ (jL a_ (aQ 1)) a_))))⟩
noncomputable abbrev wQ:=qJ.m
abbrev zq:List Str:=["_law_script","_law_k","_law_cell_here","_law_number","_law_mixed","_law_j"]
noncomputable def qX:Pk HF 2 "_law_box" zq (top 47) fun c k o=>Bi c.mg->qJ.H c k->o :=
 ⟨_,fun E m i18=>
  kF E fun nd hr=>
  (aV (br 2 nd (ba i18 hr (aR (aQ 0) (aR (aQ 1) aU))))
  (aV (cu (f_ (kK (aQ 2) a_) a_) (aX (h8 (c6 (aR (Ae (aQ 2) a_) aU)))) bH)
  (aV (br 3 nd a_)
  (aV (br 4 nd (kK (aQ 2) a_))
  (aV (fA (cM rfl m.range (aR a_ aU)) (bG 5 nd) (aV (br 4 nd (kK (d_ (d_ (d_ (jL (aQ 4) a_) (jL (jL a_ (aQ 5)) (aQ 5))) (jL a_ (aQ 1))) a_) a_))
  (aX (br 3 nd (d_ (jL (aQ 3) a_) (aQ 4))))))
  (aX (h8 (c6 (aR (aQ 3) aU)))))))))⟩
noncomputable abbrev u3:=qX.m
abbrev pZ:List Str:=["_law_box_here","_law_many","_law_digit"]
noncomputable def lL:Pk HB 2 "_law_take" pZ (top 48) fun c k o=>o :=
 ⟨_,fun E  =>
  kB E fun nd hr=>
  (aV (br 2 nd (kK (lK 0 a_) (aQ 1)))
  (aV (Cq 0 (Ae (lK 0 a_) (aQ 1)))
  (aX (bq (aQ 2)))))⟩
noncomputable abbrev m3:=lL.m
abbrev iz:List Str:=["_law_box_here","_law_many","_law_way","_law_size","_law_heads","_law_turn","_law_some","_law_ahead","_law_fresh","_law_left","_law_order_here"]
noncomputable def pX:Pk HB 1 "_law_layout" iz (top 49) fun c k o=>Bi c.mg->lL.H c k->o :=
 ⟨_,fun E m i00=>
  kB E fun nd hr=>
  (aV (br 1 nd (d_ a_ (bX 0 i00 hr (aR a_ aU))))
  (aV (br 2 nd (bX 0 i00 hr (aR a_ aU)))
  (aV (br 3 nd (d_ a_ (bX 0 i00 hr (aR a_ aU))))
  (aV (cu (oJ (iR (f_ (aQ 2) a_) (ij (GR (aQ 1) a_)))) (aV (br 3 nd (n4 m.min (aR (aQ 1) (aR a_ aU))))
  (aX (bq (cU (aR (aQ 1) (aR (bW m.tuple (aR (bp (b9 (sF iz "_law_k" 11 (bU (cM rfl m.range (aR (aQ 3) aU))) fun _=>(bW m.tuple (aR (bp (mY m.sorted (wG (bp (c6 (aR (aQ 11) (aR (kK (d_ (aQ 11) a_) (aQ 3)) aU))))))) aU))))) aU)) aU)))))) bH)
  (aV (cu (oJ (iR (f_ (aQ 2) a_) (ij (GR (aQ 1) a_)))) (aV (br 3 nd (d_ a_ (bX 0 i00 hr (aR (ui (n4 m.min (aR (aQ 1) (aR a_ aU))) a_) aU))))
  (aX (bq (cU (aR (aQ 1) (aR (bW m.tuple (aR (bp (b9 (sF iz "_law_out" 11 (bU (cM rfl m.range (aR (aQ 3) aU))) fun _=>(bW m.tuple (aR (bp (b9 (oo (iz ++ (["_law_out"]:List Str)) "_law_k" 12 (bU (cM rfl m.range (aR (aQ 3) aU))) (fun _=>(gn hr (aQ 12) (aQ 11))) fun _=>(aQ 12)))) aU))))) aU)) aU)))))) bH)
  (aV (eA 4 nd (c6 aU))
  (aV (fA (cM rfl m.range (aR (aQ 3) aU)) (bG 5 nd) (aV (k5 6 nd (oo iz "_law_column" 11 (bU (cM rfl m.range (aR (aQ 1) aU))) (fun _=>(f_ (bX 0 i00 hr (aR a_ aU)) a_)) fun _=>(aQ 11)))
  (aV (cu (oJ (iR (Gy (aQ 2) a_) (ij (Af hr (o7 4) (nq (bp (c6 aU))))))) (aV (br 7 nd (lK 4 (bX 0 i00 hr (aR (kn 4 m.len) aU))))
  (aV (k5 8 nd (oo iz "_law_column" 11 (bU (bO (aQ 6))) (fun _=>(vn hr (bp (b9 (oo (iz ++ (["_law_column"]:List Str)) "_law_head" 12 (JD 4) (fun _=>(rB (aQ 11) (aQ 12))) fun _=>(aQ 12)))) (bp (c6 aU)))) fun _=>(aQ 11)))
  (aX (br 6 nd (bp (HU (nq (aQ 8)) (nq (bp (b9 (oo iz "_law_column" 11 (bU (bO (aQ 7))) (fun _=>(f_ (bX 0 i00 hr (aR a_ aU)) a_)) fun _=>(aQ 11))))))))))) bH)
  (aV (cu (oJ (iR (f_ (aQ 2) a_) (iR (Af hr (o7 4) (nq (bp (c6 aU)))) (ij (f_ (bX 0 i00 hr (aR a_ aU)) a_))))) (aX (br 6 nd (lK 4 (bX 0 i00 hr (aR (kn 4 m.len) aU))))) bH)
  (aX (eJ 4 (aR (Jy (bW m.tuple (aR (bp (oI m.sorted m.set (wG (aQ 6)))) aU)) (eT (cU (aR (bX 0 i00 hr (aR (aQ 1) aU)) aU)))) aU)))))))
  (aV (eA 9 nd (r9 m.list m.range (aR (aQ 3) aU)))
  (aV (k5 10 nd (sF (["_law_box_here","_law_many","_law_way","_law_size","_law_heads","?5","_law_some","_law_ahead","_law_fresh","_law_left","_law_order_here"]:List Str) "_law_turn" 11 (bU (cM rfl m.range (aR (aQ 3) aU))) fun _=>(B1 9 (aR (bX 0 i00 hr (aR (kn 9 m.len) aU)) aU))))
  (aX (bq (cU (aR (aQ 1) (aR (bW m.tuple (aR (bp (b9 (sF iz "_law_number" 11 (bU (bO (aQ 10))) fun _=>(lK 4 (aQ 11))))) aU)) aU))))))))))))))⟩
noncomputable abbrev Bx:=pX.m
abbrev HA:List Str:=["thing"]
noncomputable def rT:Pk HP 1 "is_whole" HA (top 7) fun c k o=>Bi c.mg->o :=
 ⟨_,fun E m=>
  kP E fun nd hr=>
  (aX (bq (gX (n9 .int m.isinstance m.int (aQ 0)) (eT (IC (n9 .bool m.isinstance m.bool (aQ 0)))))))⟩
noncomputable abbrev AF:=rT.m
abbrev AQ:List Str:=["thing","many"]
noncomputable def lZ:Pk HP 2 "is_below" AQ (top 8) fun c k o=>rT.H c k->o :=
 ⟨_,fun E i19=>
  kP E fun nd hr=>
  (aX (bq (gX (ba i19 hr (aR (aQ 0) aU)) (eT (Eu a_ (aQ 0) (aQ 1))))))⟩
noncomputable abbrev w4:=lZ.m
abbrev Hq:List Str:=["layout","thing"]
noncomputable def qp:Pk HP 2 "need_head" Hq (top 35) fun c k o=>Bi c.mg->lZ.H c k->o :=
 ⟨_,fun E m i02=>
  kP E fun nd hr=>
  (aX (cu (dH (bL (ba i02 hr (aR (aQ 1) (aR (c7 m.len (aR (bw (aQ 0) a_) aU)) aU))))) (aX i_) bH))⟩
noncomputable abbrev zW:=qp.m
abbrev Bj:List Str:=["layout","one","other","heads"]
noncomputable def qC:Pk HP 3 "common" Bj (top 37) fun c k o=>Bi c.mg->qp.H c k->o :=
 ⟨_,fun E m i0q=>
  kP E fun nd hr=>
  (aV (u5 (ba i0q hr (aR (aQ 0) (aR (aQ 1) aU))))
  (aV (u5 (ba i0q hr (aR (aQ 0) (aR (aQ 2) aU))))
  (aV (br 3 nd (bw (aQ 0) a_))
  (aX (bq (bW m.tuple (aR (bp (b9 (oo Bj "column" 4 (bU (bO (bw (aQ 3) (aQ 1)))) (fun _=>(rB (aQ 4) (bw (aQ 3) (aQ 2)))) fun _=>(aQ 4)))) aU)))))))⟩
noncomputable abbrev Bf:=qC.m
abbrev zg:List Str:=["layout","many"]
noncomputable def yZ:Pk HP 1 "pair_weights" zg (top 41) fun c k o=>Bi c.mg->qC.H c k->o :=
 ⟨_,fun E m i1a=>
  kP E fun nd hr=>
  (aV (br 1 nd (c7 m.len (aR (bw (aQ 0) a_) aU)))
  (aX (bq (xV (N':=zg) (own:=["one","other"]) (lo:=2) hr (bU (cM rfl m.range (aR (aQ 1) aU))) (fun _ _ _ _=>(bG 2 (show (zg ++ (["one","other"]:List Str):List Str).Nodup by decide +kernel))) (fun _ _ _ _=>f6) (fun _ _ _ _=>(xO rfl m.range (aR (d_ (aQ 2) a_) (aR (aQ 1) aU)))) (fun _ _ _ _=>(bG 3 (show (zg ++ (["one","other"]:List Str):List Str).Nodup by decide +kernel))) (fun _ _ _ _=>f6) (fun _ _ _ _=>(cU (aR (aQ 2) (aR (aQ 3) aU)))) (fun _ _ _ _=>(c7 m.len (aR (ba i1a hr (aR (aQ 0) (aR (aQ 2) (aR (aQ 3) aU)))) aU)))))))⟩
noncomputable abbrev IQ:=yZ.m
abbrev BF:List Str:=["layout","column","many","heads"]
noncomputable def se:Pk HP 2 "heads_of" BF (top 36) fun c k o=>Bi c.mg->lZ.H c k->o :=
 ⟨_,fun E m i02=>
  kP E fun nd hr=>
  (aV (sO (aQ 0) (fB (n:=2) (bR (bG 2 nd) (bR (bG 3 nd) d4))))
  (aV (cu (dH (bL (ba i02 hr (aR (aQ 1) (aR (aQ 2) aU))))) (aX i_) bH)
  (aX (bq (bW m.tuple (aR (bp (b9 (Nu (n:=2) BF ["number","head"] 4 (bU (kg m.enumerate (aR (aQ 3) aU))) (fun nd _=>(fB (n:=2) (bR (bG 4 nd) (bR (bG 5 nd) d4)))) (fun _=>wb (rB (aQ 1) (aQ 5))) fun _=>(aQ 4)))) aU))))))⟩
noncomputable abbrev B0:=se.m
abbrev Ax:List Str:=["layout"]
noncomputable def qV:Pk HP 1 "due_weight" Ax (top 44) fun c k o=>Bi c.mg->se.H c k->o :=
 ⟨_,fun E m i1b=>
  kP E fun nd hr=>
  (aX (bq (HH m.sum (aR (bp (b9 (sF Ax "column" 1 (bU (cM rfl m.range (aR (bw (aQ 0) a_) aU))) fun _=>(ua m.max (aR (ui (c7 m.len (aR (ba i1b hr (aR (aQ 0) (aR (aQ 1) aU))) aU)) a_) (aR a_ aU)))))) aU))))⟩
noncomputable abbrev A_:=qV.m
abbrev vR:List Str:=["labels","one","other","least","most"]
noncomputable def nR:Pk HP 3 "linked" vR (top 14) fun c k o=>Bi c.mg->o :=
 ⟨_,fun E m=>
  kP E fun nd hr=>
  (aV (br 3 nd (n4 m.min (aR (bw (aQ 0) (aQ 1)) (aR (bw (aQ 0) (aQ 2)) aU))))
  (aV (br 4 nd (ua m.max (aR (bw (aQ 0) (aQ 1)) (aR (bw (aQ 0) (aQ 2)) aU))))
  (aX (bq (bW m.tuple (aR (bp (b9 (sF vR "label" 5 (bU (bO (aQ 0))) fun _=>(L0 (vn hr (aQ 5) (aQ 4)) (aQ 3) (aQ 5))))) aU))))))⟩
noncomputable abbrev wJ:=nR.m
noncomputable abbrev yO:Stmt:=top 42
abbrev qi:List Str:=["weights","labels","total","one","other"]
theorem jS:cz qi ["weights","labels"] (aZ yO):=⟨rfl,rfl,rfl,by decide +kernel,rfl,by decide +kernel,by decide +kernel⟩
noncomputable def qm:M Fl :=
 (dU (q5 2 (pure (.int 0)))
  (dU (
  do let it <- (do let x <- (do let xs <- (oO (bZ 0) (m1 rO (m2 iq (bZ 0) (bZ 5))));pure (D.lst xs));lift (ck x));forM (iC 2 (f9 (ji 3) (f9 (ji 4) jY))) (wH ((m2 (l_ true) (m2 iq (bZ 1) (bZ 3)) (m2 iq (bZ 1) (bZ 4))) >>= lP) (dU (q5 1 (mC (bF 3 (bP vR wJ)) (du (bZ 1) (du (bZ 3) (du (bZ 4) (pure []))))))
  (q5 2 (m2 jA (bZ 2) (m2 iq (bZ 0) (xo (du (bZ 3) (du (bZ 4) (pure [])))))))) (pure .nx)) it.2 it.1)
  (do let d <- (bZ 2);pure (Fl.rt d))))
variable (P w K mg base) in
noncomputable abbrev gC (k:Nat):Prop:=Kn P w K mg base dQ k "most_more" ["weights","labels"] (mE 2 (bP qi qm))
theorem Ip {k:Nat} {c_l P_l:Addr} (LK:Kj K mg c_l P_l) (E:Ent K mg "most_more" ["weights","labels"] yO) (m:Bi mg) (i08:nR.H ⟨P,w,K,mg,base⟩ k):gC P w K mg base (k + 1) :=
 N9 LK E jS fun _ A outer s H E hr=>
  (aV (br 2 jS.nd a_)
  (aV (fA (bO (bp (pQ (N':=qi) (px:="pair") hr LK.toLamK rfl m.sorted (aQ 0) (fun _ _ _ _ _ hu=>(tP (xc hu (aQ 0) (aQ 5))))))) (fB (bR (bG 3 jS.nd) (bR (bG 4 jS.nd) d4))) (aX (cu (gn hr (d7 hr (aQ 1) (aQ 3)) (d7 hr (aQ 1) (aQ 4))) (aV (br 1 jS.nd (ba i08 hr (aR (aQ 1) (aR (aQ 3) (aR (aQ 4) aU)))))
  (aX (EA 2 jS.nd (d7 hr (aQ 0) (cU (aR (aQ 3) (aR (aQ 4) aU))))))) bH)))
  (aX (bq (aQ 2)))))
abbrev HR:List Str:=["layout","weights","labels","due","taken","one","other","weight","then"]
noncomputable def x3:Pk HP 1 "first_join_tree" HR (top 43) fun c k o=>Bi c.mg->qV.H c k->nR.H c k->gC c.P c.w c.K c.mg c.base k->yZ.H c k->o :=
 ⟨_,fun E m i1c i08 i0r G_q7=>
  kP E fun nd hr=>
  (aV (br 1 nd (ba G_q7 hr (aR (aQ 0) aU)))
  (aV (br 2 nd (jC m.tuple m.range (aR (c7 m.len (aR (d7 hr (aQ 0) a_) aU)) aU)))
  (aV (br 3 nd (ba i1c hr (aR (aQ 0) aU)))
  (aV (cu (gn hr (ba i0r hr (aR (aQ 1) (aR (aQ 2) aU))) (aQ 3)) (aX (bq dD)) bH)
  (aV (eA 4 nd (c6 aU))
  (aV (fA (FW (aQ 1)) (fB (n:=2) (bR (bG 5 nd) (bR (bG 6 nd) d4))) (aV (br 7 nd (d7 hr (aQ 1) (cU (aR (aQ 5) (aR (aQ 6) aU)))))
  (aX (cu (gn hr (d7 hr (aQ 2) (aQ 5)) (d7 hr (aQ 2) (aQ 6))) (aV (br 8 nd (ba i08 hr (aR (aQ 2) (aR (aQ 5) (aR (aQ 6) aU)))))
  (aX (cu (f_ (d_ (aQ 7) (ba i0r hr (aR (aQ 1) (aR (aQ 8) aU)))) (aQ 3)) (aV (eJ 4 (aR (cU (aR (aQ 5) (aR (aQ 6) aU))) aU))
  (aV (br 2 nd (aQ 8))
  (aX (Gb 3 nd (aQ 7))))) bH))) bH))))
  (aX (bq (xT 4 m.tuple)))))))))⟩
noncomputable abbrev DY:=x3.m
abbrev AB:List Str:=["layout"]
noncomputable def k_:Pk HP 1 "all_numbers" AB (top 16) fun c k o=>Bi c.mg->o :=
 ⟨_,fun E m=>
  kP E fun nd hr=>
  (aX (bq (jC m.tuple m.range (aR (c7 m.len (aR (bw (aQ 0) a_) aU)) aU))))⟩
noncomputable abbrev wY:=k_.m
abbrev p7:List Str:=["layout","left","number","heads","others"]
noncomputable def qK:Pk HP 3 "shared_by" p7 (top 17) fun c k o=>Bi c.mg->o :=
 ⟨_,fun E m=>
  kP E fun nd hr=>
  (aV (br 3 nd (bw (aQ 0) a_))
  (aV (br 4 nd (bp (b9 (oo p7 "other" 5 (bU (bO (aQ 1))) (fun _=>(gn hr (aQ 5) (aQ 2))) fun _=>(bw (aQ 3) (aQ 5))))))
  (aX (bq (bW m.tuple (aR (bp (b9 (oo p7 "column" 5 (bU (bO (bw (aQ 3) (aQ 2)))) (fun _=>(bL (tG m.any (aR (bp (b9 (sF (p7 ++ (["column"]:List Str)) "head" 6 (bU (bO (aQ 4))) fun _=>(qj (aQ 5) (aQ 6))))) aU)))) fun _=>(aQ 5)))) aU))))))⟩
noncomputable abbrev zH:=qK.m
abbrev u4:List Str:=["things","wanted"]
noncomputable def l5:Pk HP 2 "has_all" u4 (top 13) fun c k o=>Bi c.mg->o :=
 ⟨_,fun E m=>
  kP E fun nd hr=>
  (aX (bq (o8 m.all (aR (bp (b9 (sF u4 "one" 2 (bU (bO (aQ 1))) fun _=>(qj (aQ 2) (aQ 0))))) aU))))⟩
noncomputable abbrev nJ:=l5.m
abbrev yU:List Str:=["layout","left","number","heads","shared"]
noncomputable def kN:Pk HF 3 "holders_of" yU (top 18) fun c k o=>l5.H c k->qK.H c k->o :=
 ⟨_,fun E i09 i1d=>
  kF E fun nd hr=>
  (aV (br 3 nd (bw (aQ 0) a_))
  (aV (br 4 nd (ba i1d hr (aR (aQ 0) (aR (aQ 1) (aR (aQ 2) aU)))))
  (aX (h8 (b9 (oo yU "other" 5 (bU (bO (aQ 1))) (fun _=>(oJ (iR (gn hr (aQ 5) (aQ 2)) (ij (bL (ba i09 hr (aR (bw (aQ 3) (aQ 5)) (aR (aQ 4) aU)))))))) fun _=>(aQ 5)))))))⟩
noncomputable abbrev zh:=kN.m
abbrev Bp:List Str:=["layout","ahead","number"]
noncomputable def nC:Pk HP 3 "runs_on" Bp (top 27) fun c k o=>kN.H c k->o :=
 ⟨_,fun E i03=>
  kP E fun nd hr=>
  (aX (bq (z_ (vw hr (aQ 1) (cU aU)) (eT (L8 hr (bp (d6 i03 hr (aR (aQ 0) (aR (aQ 1) (aR (aQ 2) aU))))) (bp (c6 aU)))))))⟩
noncomputable abbrev vV:=nC.m
noncomputable abbrev K7:Stmt:=top 29
abbrev MR:List Str:=["layout","ahead","number","found"]
noncomputable def Ei (rec:List D->Option D):M Fl :=
 (dU (wH (m2 (fe false) (mC eD (du (bZ 1) (pure []))) (mC eD (du (m2 j9 (bZ 0) (pure (.int 1))) (pure []))) >>= lP) (do let d <- (bZ 1);pure (Fl.rt d)) (pure .nx))
  (dU (
  do let it <- (do let x <- (mC (bF 1 (bP AB wY)) (du (bZ 0) (pure [])));lift (ck x));forM (ji 2) (wH (uJ (m2 (sD true) (bZ 2) (bZ 1) >>= lP) (do let x <- (mC (bF 3 (bP Bp vV)) (du (bZ 0) (du (bZ 1) (du (bZ 2) (pure [])))));lift (c_ x))) (dU (q5 3 (mC (bF 2 rec) (du (bZ 0) (du (m2 k4 (bZ 1) (xo (du (bZ 2) (pure [])))) (pure [])))))
  (wH (m2 (lB true) (bZ 3) (pure .non) >>= lP) (do let d <- (bZ 3);pure (Fl.rt d)) (pure .nx))) (pure .nx)) it.2 it.1)
  (do let d <- (pure .non);pure (Fl.rt d))))
noncomputable def td:Nat->List D->Option D
 | 0=>fun _=>none
 | n + 1=>bP MR (Ei (td n))
variable (P w K mg base) in
noncomputable abbrev g5 (k:Nat):Prop:=Kn P w K mg base dQ k "running_from" ["layout","ahead"] (mE 2 (td 8))
theorem Hx {k:Nat} (E:Ent K mg "running_from" ["layout","ahead"] K7) (m:Bi mg) (i01:k_.H ⟨P,w,K,mg,base⟩ k) (i04:nC.H ⟨P,w,K,mg,base⟩ k):∀n:Nat,Kn P w K mg base dQ (k + n) "running_from" ["layout","ahead"] (mE 2 (td n))
 | 0=>DN E
 | n + 1=>by
  have G_q9:=Hx (k:=k) E m i01 i04 n
  have i01:=i01.up (Nat.le_add_right k n)
  have i04:=i04.up (Nat.le_add_right k n)
  exact Ow E fun nd _ _ _ _ _ _ _ hr=>
  (aV (cu (f_ (c7 m.len (aR (aQ 1) aU)) (c7 m.len (aR (bw (aQ 0) a_) aU))) (aX (bq (aQ 1))) bH)
  (aV (fA (bO (ba i01 hr (aR (aQ 0) aU))) (bG 2 nd) (aX (cu (oJ (iR (kE (aQ 2) (aQ 1)) (ij (bL (ba i04 hr (aR (aQ 0) (aR (aQ 1) (aR (aQ 2) aU)))))))) (aV (br 3 nd (ba G_q9 hr (aR (aQ 0) (aR (vU (aQ 1) (cU (aR (aQ 2) aU))) aU))))
  (aX (cu (vz (aQ 3) dD) (aX (bq (aQ 3))) bH))) bH)))
  (aX (bq dD))))
abbrev wx:List Str:=["layout"]
noncomputable def qO:Pk HP 1 "running_for" wx (top 30) fun c k o=>g5 c.P c.w c.K c.mg c.base k->o :=
 ⟨_,fun E G_q9=>
  kP E fun nd hr=>
  (aX (bq (ba G_q9 hr (aR (aQ 0) (aR (cU aU) aU)))))⟩
noncomputable abbrev vb:=qO.m
abbrev xf:List Str:=["layout","column","behind","having","mates"]
noncomputable def yE:Pk HP 3 "may_go_ahead" xf (top 31) fun c k o=>Bi c.mg->l5.H c k->o :=
 ⟨_,fun E m i09=>
  kP E fun nd hr=>
  (aV (br 3 nd (bp (b9 (oo xf "head" 5 (bU (bO (bw (aQ 0) a_))) (fun _=>(rB (aQ 1) (aQ 5))) fun _=>(aQ 5)))))
  (aV (br 4 nd (bp (b9 (oo xf "other" 5 (bU (bO (aQ 2))) (fun _=>(bL (tG m.any (aR (bp (b9 (sF (xf ++ (["other"]:List Str)) "head" 6 (bU (bO (aQ 3))) fun _=>(qj (aQ 5) (aQ 6))))) aU)))) fun _=>(aQ 5)))))
  (aX (bq (z_ (vw hr (aQ 3) (bp (c6 aU))) (eT (tG m.any (aR (bp (b9 (sF xf "head" 5 (bU (bO (aQ 3))) fun _=>(ba i09 hr (aR (aQ 5) (aR (aQ 4) aU)))))) aU))))))))⟩
noncomputable abbrev Ih:=yE.m
abbrev yg:List Str:=["layout","order","left","free"]
noncomputable def Bz:Pk HP 1 "column_order_for" yg (top 33) fun c k o=>Bi c.mg->yE.H c k->o :=
 ⟨_,fun E m G_q6=>
  kP E fun nd hr=>
  (aV (br 1 nd (cU aU))
  (aV (br 2 nd (jC m.tuple m.range (aR (bw (aQ 0) a_) aU)))
  (aV (p5 9 (bL (aQ 2)) (aV (br 3 nd (bp (b9 (oo yg "column" 4 (bU (bO (aQ 2))) (fun _=>(bL (ba G_q6 hr (aR (aQ 0) (aR (aQ 4) (aR (aQ 2) aU)))))) fun _=>(aQ 4)))))
  (aV (cu (dH (bL (aQ 3))) (aX (bq dD)) bH)
  (aV (E_ 1 nd (cU (aR (bw (aQ 3) a_) aU)))
  (aX (br 2 nd (bW m.tuple (aR (bp (b9 (oo yg "column" 4 (bU (bO (aQ 2))) (fun _=>(gn hr (aQ 4) (bw (aQ 3) a_))) fun _=>(aQ 4)))) aU))))))))
  (aX (bq (aQ 1))))))⟩
noncomputable abbrev zY:=Bz.m
abbrev zl:List Str:=["layout","left","found","number","holders"]
noncomputable def p9:Pk HF 2 "ears_among" zl (top 19) fun c k o=>kN.H c k->o :=
 ⟨_,fun E i03=>
  kF E fun nd hr=>
  (aV (eA 2 nd (c6 aU))
  (aV (fA (bO (aQ 1)) (bG 3 nd) (aV (br 4 nd (bp (d6 i03 hr (aR (aQ 0) (aR (aQ 1) (aR (aQ 3) aU))))))
  (aX (cu (bL (aQ 4)) (aX (eJ 2 (aR (cU (aR (aQ 3) (aR (bw (aQ 4) a_) aU))) aU))) bH))))
  (aX (h8 (tX 2)))))⟩
noncomputable abbrev vZ:=p9.m
abbrev y0:List Str:=["left","gone"]
noncomputable def m8:Pk HP 2 "all_but" y0 (top 20) fun c k o=>Bi c.mg->o :=
 ⟨_,fun E m=>
  kP E fun nd hr=>
  (aX (bq (bW m.tuple (aR (bp (b9 (oo y0 "number" 2 (bU (bO (aQ 0))) (fun _=>(gn hr (aQ 2) (aQ 1))) fun _=>(aQ 2)))) aU))))⟩
noncomputable abbrev ze:=m8.m
abbrev GD:List Str:=["layout","left","steps","found"]
noncomputable def qW:Pk HF 1 "steps_for" GD (top 25) fun c k o=>m8.H c k->k_.H c k->p9.H c k->o :=
 ⟨_,fun E i0a i01 i0s=>
  kF E fun nd hr=>
  (aV (br 1 nd (ba i01 hr (aR (aQ 0) aU)))
  (aV (eA 2 nd (c6 aU))
  (aV (br 3 nd (bp (d6 i0s hr (aR (aQ 0) (aR (aQ 1) aU)))))
  (aV (p5 8 (bL (aQ 3)) (aV (eJ 2 (aR (bw (aQ 3) a_) aU))
  (aV (br 1 nd (ba i0a hr (aR (aQ 1) (aR (bw (bw (aQ 3) a_) a_) aU))))
  (aX (br 3 nd (bp (d6 i0s hr (aR (aQ 0) (aR (aQ 1) aU)))))))))
  (aX (h8 (tX 2)))))))⟩
noncomputable abbrev yN:=qW.m
abbrev A4:List Str:=["thing","many"]
noncomputable def nH:Pk HP 2 "are_below" A4 (top 9) fun c k o=>Bi c.mg->lZ.H c k->o :=
 ⟨_,fun E m i02=>
  kP E fun nd hr=>
  (aX (bq (gX (n9 .tup m.isinstance m.tuple (aQ 0)) (eT (o8 m.all (aR (bp (b9 (sF A4 "part" 2 (bU (bO (aQ 0))) fun _=>(ba i02 hr (aR (aQ 2) (aR (aQ 1) aU)))))) aU))))))⟩
noncomputable abbrev zI:=nH.m
abbrev Lq:List Str:=["thing","many"]
noncomputable def zu:Pk HP 2 "is_two_below" Lq (top 10) fun c k o=>Bi c.mg->nH.H c k->o :=
 ⟨_,fun E m i0b=>
  kP E fun nd hr=>
  (aX (bq (gX (ba i0b hr (aR (aQ 0) (aR (aQ 1) aU))) (eT (tQ (c7 m.len (aR (aQ 0) aU)) a_)))))⟩
noncomputable abbrev Ju:=zu.m
abbrev Hs:List Str:=["layout","left","thing","ear","holder"]
noncomputable def qZ:Pk HP 3 "is_step" Hs (top 21) fun c k o=>Bi c.mg->kN.H c k->zu.H c k->o :=
 ⟨_,fun E m i03 G_q8=>
  kP E fun nd hr=>
  (aV (cu (dH (bL (ba G_q8 hr (aR (aQ 2) (aR (c7 m.len (aR (bw (aQ 0) a_) aU)) aU))))) (aX (bq iJ)) bH)
  (aV (sO (aQ 2) (fB (n:=2) (bR (bG 3 nd) (bR (bG 4 nd) d4))))
  (aX (bq (gX (qj (aQ 3) (aQ 1)) (eT (qj (aQ 4) (bp (d6 i03 hr (aR (aQ 0) (aR (aQ 1) (aR (aQ 3) aU))))))))))))⟩
noncomputable abbrev Ag:=qZ.m
abbrev GG:List Str:=["layout","thing","left","step"]
noncomputable def mM:Pk HP 2 "left_or_none" GG (top 22) fun c k o=>Bi c.mg->m8.H c k->k_.H c k->qZ.H c k->o :=
 ⟨_,fun E m i0a i01 i1e=>
  kP E fun nd hr=>
  (aV (cu (dH (bL (n9 .lst m.isinstance m.list (aQ 1)))) (aX (bq dD)) bH)
  (aV (br 2 nd (ba i01 hr (aR (aQ 0) aU)))
  (aV (fA (bO (aQ 1)) (bG 3 nd) (aV (cu (dH (bL (ba i1e hr (aR (aQ 0) (aR (aQ 2) (aR (aQ 3) aU)))))) (aX (bq dD)) bH)
  (aX (br 2 nd (ba i0a hr (aR (aQ 2) (aR (bw (aQ 3) a_) aU)))))))
  (aX (bq (aQ 2))))))⟩
noncomputable abbrev B2:=mM.m
abbrev zX:List Str:=["layout","steps","left"]
noncomputable def nQ:Pk HP 2 "left_by" zX (top 24) fun c k o=>mM.H c k->o :=
 ⟨_,fun E i0c=>
  kP E fun nd hr=>
  (aV (br 2 nd (ba i0c hr (aR (aQ 0) (aR (aQ 1) aU))))
  (aV (cu (H_ (aQ 2) dD) (aX i_) bH)
  (aX (bq (aQ 2)))))⟩
noncomputable abbrev BR:=nQ.m
abbrev Ak:List Str:=["_law_layout_here","_law_number","_law_others","_law_found","_law_column"]
noncomputable def qL:Pk HF 3 "_law_common" Ak (top 51) fun c k o=>o :=
 ⟨_,fun E  =>
  kF E fun nd hr=>
  (aV (eA 3 nd (c6 aU))
  (aV (fA (bO (bw (bw (aQ 0) a_) (aQ 1))) (bG 4 nd) (aX (cu (gn hr (bp (b9 (oo Ak "_law_other" 5 (bU (bO (aQ 2))) (fun _=>(rB (aQ 4) (bw (bw (aQ 0) a_) (aQ 5)))) fun _=>(aQ 5)))) (bp (c6 aU))) (aX (eJ 3 (aR (aQ 4) aU))) bH)))
  (aX (h8 (tX 3)))))⟩
noncomputable abbrev G6:=qL.m
abbrev Ba:List Str:=["layout","thing"]
noncomputable def qo:Pk HP 2 "are_steps" Ba (top 23) fun c k o=>mM.H c k->o :=
 ⟨_,fun E i0c=>
  kP E fun nd hr=>
  (aX (bq (vj (ba i0c hr (aR (aQ 0) (aR (aQ 1) aU))) dD)))⟩
noncomputable abbrev u2:=qo.m
abbrev DX:List Str:=["_law_layout_here","_law_order_here","_law_steps","_law_at","_law_some","_law_holders"]
noncomputable def yP:Pk HP 2 "_law_running_right" DX (top 52) fun c k o=>Bi c.mg->qL.H c k->qo.H c k->nQ.H c k->o :=
 ⟨_,fun E m i1f i1g i0d=>
  kP E fun nd hr=>
  (aV (eA 2 nd (c6 aU))
  (aV (fA (xI rfl m.range (aR (ui (c7 m.len (aR (aQ 1) aU)) a_) (aR a_ (aR (tP a_) aU)))) (bG 3 nd) (aV (br 4 nd (bp (d6 i1f hr (aR (aQ 0) (aR (bw (aQ 1) (aQ 3)) (aR (fV (aQ 1) ig (g_ (aQ 3))) aU))))))
  (aV (k5 5 nd (oo DX "_law_other" 6 (bU (bO (fV (aQ 1) ig (g_ (aQ 3))))) (fun _=>(vn hr (bp (b9 (oo (DX ++ (["_law_other"]:List Str)) "_law_one" 7 (bU (bO (aQ 4))) (fun _=>(kE (aQ 7) (bw (bw (aQ 0) a_) (aQ 6)))) fun _=>(aQ 7)))) (bp (c6 aU)))) fun _=>(aQ 6)))
  (aV (cu (vn hr (aQ 5) (bp (c6 aU))) (aX (bq iJ)) bH)
  (aX (eJ 2 (aR (cU (aR (bw (aQ 1) (aQ 3)) (aR (bw (aQ 5) (tP a_)) aU))) aU)))))))
  (aX (bq (gX (Jt.Tu.de_isB (xX i1g hr (i3 (nq (aQ 0)) (i3 (o7 2) vS))) iJ) (eT (vw hr (uC i0d hr (i3 (nq (aQ 0)) (i3 (o7 2) vS))) (fV (aQ 1) ig (g_ a_)))))))))⟩
noncomputable abbrev Mi:=yP.m
abbrev BG:List Str:=["_law_box_here","_law_many","_law_left"]
noncomputable def p6:Pk HB 2 "_law_order" BG (top 50) fun c k o=>Bi c.mg->lL.H c k->o :=
 ⟨_,fun E m i00=>
  kB E fun nd hr=>
  (aV (eA 2 nd (r9 m.list m.range (aR (aQ 1) aU)))
  (aX (bq (bW m.tuple (aR (bp (b9 (sF BG "_law_place" 3 (bU (cM rfl m.range (aR (aQ 1) aU))) fun _=>(B1 2 (aR (bX 0 i00 hr (aR (kn 2 m.len) aU)) aU))))) aU)))))⟩
noncomputable abbrev BQ:=p6.m
abbrev GZ:List Str:=["things"]
noncomputable def rA:Pk HP 1 "are_unlike" GZ (top 11) fun c k o=>Bi c.mg->o :=
 ⟨_,fun E m=>
  kP E fun nd hr=>
  (aX (bq (tQ (ym m.len m.set (wG (aQ 0))) (c7 m.len (aR (aQ 0) aU)))))⟩
noncomputable abbrev CP:=rA.m
abbrev L7:List Str:=["thing","many"]
noncomputable def o_:Pk HP 2 "are_all_below" L7 (top 12) fun c k o=>Bi c.mg->nH.H c k->rA.H c k->o :=
 ⟨_,fun E m i0b i1h=>
  kP E fun nd hr=>
  (aX (bq (gX (ba i0b hr (aR (aQ 0) (aR (aQ 1) aU))) (gX (tQ (c7 m.len (aR (aQ 0) aU)) (aQ 1)) (eT (ba i1h hr (aR (aQ 0) aU)))))))⟩
noncomputable abbrev tq:=o_.m
abbrev vJ:List Str:=["heads","places"]
noncomputable def rh:Pk HP 2 "moved" vJ (top 38) fun c k o=>Bi c.mg->o :=
 ⟨_,fun E m=>
  kP E fun nd hr=>
  (aX (bq (bW m.tuple (aR (bp (b9 (sF vJ "head" 2 (bU (bO (aQ 0))) fun _=>(bW m.tuple (aR (bp (mY m.sorted (wG (bp (b9 (sF (vJ ++ (["head"]:List Str)) "column" 3 (bU (bO (aQ 2))) fun _=>(d7 hr (aQ 1) (aQ 3)))))))) aU))))) aU))))⟩
noncomputable abbrev A8:=rh.m
abbrev sd:List Str:=["layout","order","many","heads"]
noncomputable def qQ:Pk HP 2 "named" sd (top 39) fun c k o=>Bi c.mg->o_.H c k->rh.H c k->o :=
 ⟨_,fun E m G_q5 i1i=>
  kP E fun nd hr=>
  (aV (sO (aQ 0) (fB (n:=2) (bR (bG 2 nd) (bR (bG 3 nd) d4))))
  (aV (cu (dH (bL (ba G_q5 hr (aR (aQ 1) (aR (aQ 2) aU))))) (aX i_) bH)
  (aX (bq (cU (aR (aQ 2) (aR (ba i1i hr (aR (aQ 3) (aR (y_ (N':=sd) (own:=["place","column"]) (lo:=4) hr (bU (kg m.enumerate (aR (aQ 1) aU))) (fun _ _ _ _=>(fB (n:=2) (bR (bG 4 (show (sd ++ (["place","column"]:List Str):List Str).Nodup by decide +kernel)) (bR (bG 5 (show (sd ++ (["place","column"]:List Str):List Str).Nodup by decide +kernel)) d4)))) (fun _ _ _ _=>f6) (fun _ _ _ _=>(aQ 5)) (fun _ _ _ _=>(aQ 4))) aU))) aU)))))))⟩
noncomputable abbrev zF:=qQ.m
abbrev Kk:List Str:=["layout","thing"]
noncomputable def tH:Pk HP 2 "is_column_order" Kk (top 32) fun c k o=>Bi c.mg->o_.H c k->yE.H c k->o :=
 ⟨_,fun E m G_q5 G_q6=>
  kP E fun nd hr=>
  (aV (cu (dH (bL (ba G_q5 hr (aR (aQ 1) (aR (bw (aQ 0) a_) aU))))) (aX (bq iJ)) bH)
  (aX (bq (o8 m.all (aR (bp (b9 (Nu (n:=2) Kk ["place","column"] 2 (bU (kg m.enumerate (aR (aQ 1) aU))) (fun nd _=>(fB (n:=2) (bR (bG 2 nd) (bR (bG 3 nd) d4)))) (fun _=>f6) fun _=>(ba G_q6 hr (aR (aQ 0) (aR (aQ 3) (aR (fV (aQ 1) (g_ (d_ (aQ 2) a_)) ig) aU))))))) aU)))))⟩
noncomputable abbrev CK:=tH.m
abbrev w9:List Str:=["_law_box_here","_law_layout_here","_law_order_here","_law_names","_law_later","_law_gone","_law_heads","_law_left"]
noncomputable def B4:Pk HB 3 "_law_columns_right" w9 (top 53) fun c k o=>Bi c.mg->p6.H c k->lL.H c k->x3.H c k->tH.H c k->qQ.H c k->o :=
 ⟨_,fun E m i1j i00 G_q3 G_q4 i1k=>
  kB E fun nd hr=>
  (aV (br 3 nd (bX 0 i1j hr (aR (bw (aQ 1) a_) aU)))
  (aV (br 4 nd (ba i1k hr (aR (aQ 1) (aR (aQ 3) aU))))
  (aV (cu (dH (bL (ba G_q4 hr (aR (aQ 4) (aR (bW m.tuple (aR (bp (b9 (sF w9 "_law_column" 8 (bU (bO (aQ 2))) fun _=>(yY (aQ 3) (aR (aQ 8) aU))))) aU)) aU))))) (aX (bq iJ)) bH)
  (aV (br 5 nd (fV (aQ 2) ig (g_ (bX 0 i00 hr (aR (c7 m.len (aR (aQ 2) aU)) aU)))))
  (aV (k5 6 nd (sF w9 "_law_head" 8 (bU (bO (bw (aQ 1) a_))) fun _=>(bW m.tuple (aR (bp (b9 (oo (w9 ++ (["_law_head"]:List Str)) "_law_column" 9 (bU (bO (aQ 8))) (fun _=>(kE (aQ 9) (aQ 5))) fun _=>(aQ 9)))) aU))))
  (aV (br 7 nd (bW m.tuple (aR (bp (b9 (oo w9 "_law_head" 8 (bU (bO (aQ 6))) (fun _=>(gn hr (aQ 8) (cU aU))) fun _=>(aQ 8)))) aU)))
  (aX (bq (z_ (vw hr (aQ 7) (cU aU)) (eT (vj (ba G_q3 hr (aR (cU (aR (bw (aQ 1) a_) (aR (aQ 7) aU))) aU)) dD)))))))))))⟩
noncomputable abbrev Lj:=B4.m
abbrev Bb:List Str:=["layout","thing"]
noncomputable def m5:Pk HP 2 "is_running" Bb (top 28) fun c k o=>Bi c.mg->o_.H c k->nC.H c k->o :=
 ⟨_,fun E m G_q5 i04=>
  kP E fun nd hr=>
  (aV (cu (dH (bL (ba G_q5 hr (aR (aQ 1) (aR (c7 m.len (aR (bw (aQ 0) a_) aU)) aU))))) (aX (bq iJ)) bH)
  (aX (bq (o8 m.all (aR (bp (b9 (Nu (n:=2) Bb ["place","number"] 2 (bU (kg m.enumerate (aR (aQ 1) aU))) (fun nd _=>(fB (n:=2) (bR (bG 2 nd) (bR (bG 3 nd) d4)))) (fun _=>f6) fun _=>(ba i04 hr (aR (aQ 0) (aR (fV (aQ 1) ig (g_ (aQ 2))) (aR (aQ 3) aU))))))) aU)))))⟩
noncomputable abbrev qz:=m5.m
abbrev u_:List Str:=["_law_script","_law_k","_law_box_here","_law_layout_here","_law_tree","_law_running","_law_columns","_law_steps","_law_order_here"]
theorem gN:cz u_ ["_law_script"] (aZ (top 54)):=⟨rfl,rfl,rfl,by decide +kernel,rfl,by decide +kernel,by decide +kernel⟩
noncomputable def yR:Pz u_ (top 54) fun c k o=>Bi c.mg->qX.H c k->B4.H c k->pX.H c k->yP.H c k->Bz.H c k->x3.H c k->tH.H c k->m5.H c k->nQ.H c k->qO.H c k->qW.H c k->o :=
 ⟨_,fun hr m i1l G_q1 i1m G_q0 G_q2 G_q3 G_q4 i1n i0d i1o i1p=>
  (aV (fA (cM rfl m.range (aR (ua m.max (aR a_ (aR (n4 m.min (aR (c7 m.len (aR (aQ 0) aU)) (aR a_ aU))) aU))) aU)) (bG 1 gN.nd) (aV (eA 2 gN.nd (d6 i1l hr (aR (aQ 0) (aR (aQ 1) aU))))
  (aV (br 3 gN.nd (bX 2 i1m hr aU))
  (aV (br 4 gN.nd (ba G_q3 hr (aR (aQ 3) aU)))
  (aV (HK 5 6 gN.nd (aR (ba i1o hr (aR (aQ 3) aU)) (aR (ba G_q2 hr (aR (aQ 3) aU)) aU)))
  (aV (cu (oJ (CN (gn hr (o5 (aQ 5) dD) (o5 (aQ 4) dD)) (uy (gn hr (o5 (aQ 6) dD) (o5 (aQ 4) dD))))) (aX (bq iJ)) bH)
  (aX (cu (vz (aQ 4) dD) (aV (cu (oJ (CN (dH (bL (ba G_q0 hr (aR (aQ 3) (aR (aQ 5) aU))))) (uy (dH (bL (bX 2 G_q1 hr (aR (aQ 3) (aR (aQ 6) aU)))))))) (aX (bq iJ)) bH)
  (aV (br 7 gN.nd (bp (d6 i1p hr (aR (aQ 3) aU))))
  (aV (br 8 gN.nd (vU (ba i0d hr (aR (aQ 3) (aR (aQ 7) aU))) (bW m.tuple (aR (bp (b9 (Nu (n:=2) u_ ["_law_ear","_law_holder"] 9 (bU (bO (bp (Ed (aQ 7))))) (fun nd _=>(fB (n:=2) (bR (bG 9 nd) (bR (bG 10 nd) d4)))) (fun _=>f6) fun _=>(aQ 9)))) aU))))
  (aX (cu (oJ (CN (dH (bL (ba i1n hr (aR (aQ 3) (aR (aQ 8) aU))))) (uy (dH (bL (ba G_q4 hr (aR (aQ 3) (aR (aQ 6) aU)))))))) (aX (bq iJ)) bH))))) bH))))))))
  (aX (bq iJ)))⟩
noncomputable abbrev G9:=yR.m
end
end K55
namespace K55
inductive dj (E:List (Nat × Nat)):Nat->Nat->Prop
 | refl (a:Nat):dj E a a
 | step {a b c:Nat}:((a,b) ∈ E ∨ (b,a) ∈ E)->dj E b c->dj E a c
theorem dj.trans {E:List (Nat × Nat)} {a b c:Nat} (h:dj E a b) (g:dj E b c):dj E a c:= by
 induction h with
 | refl=>exact g
 | step e _ ih=>exact .step e (ih g)
theorem dj.one {E:List (Nat × Nat)} {a b:Nat} (h:(a,b) ∈ E ∨ (b,a) ∈ E):dj E a b:=.step h (.refl b)
theorem dj.symm {E:List (Nat × Nat)} {a b:Nat} (h:dj E a b):dj E b a:= by
 induction h with
 | refl=>exact .refl _
 | step e _ ih=>exact ih.trans (.one e.symm)
theorem dj.mono {E F:List (Nat × Nat)} (s:∀e ∈ E,e ∈ F) {a b:Nat} (h:dj E a b):dj F a b:= by
 induction h with
 | refl=>exact .refl _
 | step e _ ih=>exact .step (e.imp (s _) (s _)) ih
theorem dj.nil {a b:Nat} (h:dj [] a b):a=b:= by
 cases h with
 | refl=>rfl
 | step e _=>rcases e with e | e <;> cases e
theorem su {E:List (Nat × Nat)} {u v a b:Nat}:dj ((u,v) :: E) a b ↔ dj E a b ∨ (dj E a u∧dj E v b) ∨ (dj E a v∧dj E u b):= by
 constructor
 .intro h
  induction h with
  | refl=>exact .inl (.refl _)
  | @step a b c e _ ih=>
   have e':(a=u∧b=v) ∨ (a=v∧b=u) ∨ (a,b) ∈ E ∨ (b,a) ∈ E:= by
    rcases e with e | e
    .rcases uS.mp e with e | e
     .cases e;exact .inl ⟨rfl,rfl⟩
     .exact .inr (.inr (.inl e))
    .rcases uS.mp e with e | e
     .cases e;exact .inr (.inl ⟨rfl,rfl⟩)
     .exact .inr (.inr (.inr e))
   rcases e' with ⟨rfl,rfl⟩ | ⟨rfl,rfl⟩ | e
   .rcases ih with h | ⟨_,h⟩ | ⟨_,h⟩
    .exact .inr (.inl ⟨.refl _,h⟩)
    .exact .inr (.inl ⟨.refl _,h⟩)
    .exact .inl h
   .rcases ih with h | ⟨_,h⟩ | ⟨_,h⟩
    .exact .inr (.inr ⟨.refl _,h⟩)
    .exact .inl h
    .exact .inr (.inr ⟨.refl _,h⟩)
   .rcases ih with h | ⟨h1,h2⟩ | ⟨h1,h2⟩
    .exact .inl (.step e h)
    .exact .inr (.inl ⟨.step e h1,h2⟩)
    .exact .inr (.inr ⟨.step e h1,h2⟩)
 .have m:∀e ∈ E,e ∈ (u,v) :: E:=fun e he=>wV _ he
  have uv:dj ((u,v) :: E) u v:=.one (.inl xS)
  rintro (h | ⟨h1,h2⟩ | ⟨h1,h2⟩)
  .exact h.mono m
  .exact (h1.mono m).trans (uv.trans (h2.mono m))
  .exact (h1.mono m).trans (uv.symm.trans (h2.mono m))
noncomputable def G_ (f:Nat->Nat) (E:List (Nat × Nat)):Prop:=∀a b,f a=f b ↔ dj E a b
noncomputable def ER (f:Nat->Nat) (u v:Nat):Nat->Nat:=fun a=>if f a=f u then f v else f a
theorem FA:G_ id []:=fun a b=>⟨fun h=>by cases h;exact .refl _,fun h=>h.nil⟩
theorem wm {f:Nat->Nat} {E:List (Nat × Nat)} (L:G_ f E) (u v:Nat):G_ (ER f u v) ((u,v) :: E):=fun a b=>by
 rw [su,<- L a b,<- L a u,<- L v b,<- L a v,<- L u b]
 unfold ER
 by_cases h1:f a=f u <;> by_cases h2:f b=f u
 .simp [h1,h2]
 .simp [h1,h2]
  constructor
  .exact fun h=>.inr (.inl h)
  .rintro (h | h | ⟨_,h⟩)
   .exact absurd h.symm h2
   .exact h
   .exact absurd h.symm h2
 .simp [h1,h2]
 .have h3:¬ f u=f b:=fun z=>h2 z.symm
  simp [h1,h2,h3]
theorem iV:∀E:List (Nat × Nat),∃f,G_ f E
 | []=>⟨id,FA⟩
 | (u,v) :: E=>by
  obtain ⟨f,L⟩:=iV E
  exact ⟨_,wm L u v⟩
noncomputable def uq:List Nat->List Nat
 | []=>[]
 | x :: l=>if x ∈ l then uq l else x :: uq l
theorem dX {a:Nat}:∀{l:List Nat},a ∈ uq l ↔ a ∈ l
 | []=>Iff.rfl
 | x :: l=>by
  unfold uq
  split
  .rename_i h
   rw [dX,uS]
   exact ⟨.inr,fun z=>z.elim (fun e=>e ▸ h) id⟩
  .rw [uS,dX,uS]
theorem lH:∀l:List Nat,(uq l).Nodup
 | []=>YN
 | x :: l=>by
  unfold uq
  split
  .exact lH l
  .rename_i h
   exact ZC.mpr ⟨fun z=>h (dX.mp z),lH l⟩
theorem G8:∀{l:List Nat},l.Nodup->uq l=l
 | [],_=>rfl
 | x :: l,h=>by
  have h:=ZC.mp h
  unfold uq
  rw [QC h.1,G8 h.2]
noncomputable def cls (f:Nat->Nat) (V:List Nat):Nat:=(uq (V.map f)).length
theorem k9 {f g:Nat->Nat}:∀{V:List Nat},(∀a ∈ V,∀b ∈ V,f a=f b ↔ g a=g b)->cls f V=cls g V
 | [],_=>rfl
 | x :: V,h=>by
  have ih:=k9 (f:=f) (g:=g) (V:=V) fun a ha b hb=>h a (wV _ ha) b (wV _ hb)
  have e:f x ∈ V.map f ↔ g x ∈ V.map g:= by
   rw [gE,gE]
   constructor
   .rintro ⟨y,hy,e⟩
    exact ⟨y,hy,(h y (wV _ hy) x xS).mp e⟩
   .rintro ⟨y,hy,e⟩
    exact ⟨y,hy,(h y (wV _ hy) x xS).mpr e⟩
  unfold cls at *
  rw [QW,QW]
  unfold uq
  by_cases q:f x ∈ V.map f
  .rw [gL q,gL (e.mp q)];exact ih
  .rw [QC q,QC fun z=>q (e.mpr z),gT,gT,ih]
theorem D7 {f:Nat->Nat} {V:List Nat} {u v:Nat} (hu:u ∈ V) (hv:v ∈ V) (h:f u ≠ f v):cls (ER f u v) V + 1=cls f V:= by
 have p:(uq (V.map (ER f u v)) ++ [f u]).Perm (uq (V.map f)):= by
  refine (ZH (Q3.mpr ⟨lH _,by simp,?_⟩) (lH _)).mpr fun a=>?_
  .intro a ha b hb e
   rw [jP.mp hb] at e
   subst e
   obtain ⟨y,_,e⟩:=gE.mp (dX.mp ha)
   unfold ER at e
   split at e
   .exact h e.symm
   .rename_i q;exact q e
  .rw [uT,dX,dX,gE,gE,jP]
   constructor
   .rintro (⟨y,hy,e⟩ | rfl)
    .unfold ER at e
     split at e
     .exact ⟨v,hv,e⟩
     .exact ⟨y,hy,e⟩
    .exact ⟨u,hu,rfl⟩
   .rintro ⟨y,hy,rfl⟩
    by_cases q:f y=f u
    .exact .inr q
    .exact .inl ⟨y,hy,QC q⟩
 have:=p.length_eq
 rw [fR] at this
 exact this
theorem tu {f:Nat->Nat} {V:List Nat}:cls f V ≤ 1 ↔ ∀a ∈ V,∀b ∈ V,f a=f b:= by
 constructor
 .intro h a ha b hb
  have h1:f a ∈ uq (V.map f):=dX.mpr (gE.mpr ⟨a,ha,rfl⟩)
  have h2:f b ∈ uq (V.map f):=dX.mpr (gE.mpr ⟨b,hb,rfl⟩)
  unfold cls at h
  match e:uq (V.map f),h with
  | [],_=>rw [e] at h1;cases h1
  | [x],_=>
   rw [e] at h1 h2
   rw [jP.mp h1,jP.mp h2]
  | _ :: _ :: _,h=>simp at h
 .intro h
  unfold cls
  match e:uq (V.map f) with
  | []=>simp
  | [x]=>simp
  | x :: y :: r=>
   have hx:x ∈ uq (V.map f):=by rw [e];simp
   have hy:y ∈ uq (V.map f):=by rw [e];simp
   obtain ⟨a,ha,ea⟩:=gE.mp (dX.mp hx)
   obtain ⟨b,hb,eb⟩:=gE.mp (dX.mp hy)
   have nd:=lH (V.map f)
   rw [e] at nd
   have:=(ZC.mp nd).1
   exact absurd (by rw [<- ea,<- eb,h a ha b hb];simp) this
noncomputable def gm (E:List (Nat × Nat)):Prop:=∀k,(h:k < E.length)->¬ dj (E.take k) E[k].1 E[k].2
theorem gm.sub {E:List (Nat × Nat)} {p:Nat × Nat->Bool} (h:gm E):gm (E.filter p):= by
 have gen:∀(F:List (Nat × Nat)),gm F->gm (F.filter p):= by
  intro F
  have rev:∀(n:Nat) (F:List (Nat × Nat)),F.length=n->gm F->gm (F.filter p):= by
   intro n
   induction n with
   | zero=>
    intro F hl _
    rw [VW hl]
    intro k hk
    simp at hk
   | succ n ih=>
    intro F hl hF
    have hne:F ≠ []:=fun z=>by rw [z] at hl;cases hl
    have e:=List.dropLast_concat_getLast hne
    generalize hG:F.dropLast=G at *
    generalize hx:F.getLast hne=x at *
    have lG:G.length=n:=by rw [<- hG,List.length_dropLast,hl];rfl
    have fG:gm G:=fun k hk z=>by
     have hk':k < F.length:=by omega
     refine hF k hk' ?_
     have e1:F.take k=G.take k:=by rw [<- e,QO (by omega)]
     have e2:F[k]=G[k]:= by
      have:F[k]? = G[k]?:=by rw [<- e,QF hk]
      rw [kW hk',kW hk] at this
      exact Q9 this
     rw [e1,e2];exact z
    have nx:¬ dj G x.1 x.2:=fun z=>by
     have hk':n < F.length:=by omega
     refine hF n hk' ?_
     have e1:F.take n=G:=by rw [<- e,QO (by omega),<- lG,V8]
     have e2:F[n]=x:= by
      have:F[n]? = some x:=by rw [<- e,Q2 (by omega),lG];simp
      rw [kW hk'] at this
      exact Q9 this
     rw [e1,e2];exact z
    have ih:=ih G lG fG
    rw [<- e,YV]
    cases hp:p x with
    | false=>simpa [hp] using ih
    | true=>
     have:[x].filter p=[x]:=by simp [hp]
     rw [this]
     intro k hk
     rw [fR,XA] at hk
     by_cases q:k < (G.filter p).length
     .rw [QO (by omega),WU q]
      exact ih k q
     .have:k=(G.filter p).length:=by omega
      subst this
      rw [QO (wF _),V8,WD (wF _)]
      simp only [Nat.sub_self,List.getElem_cons_zero]
      exact fun z=>nx (z.mono fun e he=>(wR.mp he).1)
  exact rev _ F rfl
 exact gen E h
theorem jc {V:List Nat} (nd:V.Nodup):∀(E:List (Nat × Nat)) (k:Nat),(∀e ∈ E,e.1 ∈ V∧e.2 ∈ V)->k ≤ E.length->∀f,G_ f (E.take k)->V.length ≤ cls f V + k∧((∀j,(h:j < E.length)->j < k->¬ dj (E.take j) E[j].1 E[j].2) ↔ cls f V + k=V.length)
 | E,0,hE,hk,f,L=>by
  have e:cls f V=V.length:= by
   have:=k9 (f:=f) (g:=id) (V:=V) fun a _ b _=>by
    rw [L a b]
    exact ⟨fun h=>by rw [List.take_zero] at h;exact h.nil,fun h=>by cases h;exact .refl _⟩
   rw [this]
   unfold cls
   rw [List.map_id,G8 nd]
  rw [e]
  exact ⟨by omega,⟨fun _=>by omega,fun _ j _ hj=>by omega⟩⟩
 | E,k + 1,hE,hk,f,L=>by
  have hk':k < E.length:=by omega
  obtain ⟨g,Lg⟩:=iV (E.take k)
  obtain ⟨i1,i2⟩:=jc nd E k hE (by omega) g Lg
  obtain ⟨mu,mv⟩:=hE _ (QH hk')
  have tk:E.take (k + 1)=E.take k ++ [E[k]]:=Q6 hk'
  have L2:=wm Lg E[k].1 E[k].2
  have same:cls f V=cls (ER g E[k].1 E[k].2) V:=k9 fun a _ b _=>by
   rw [L a b,L2 a b,tk]
   constructor
   .exact dj.mono fun e he=>by
     rcases uT.mp he with he | he
     .exact wV _ he
     .rw [jP.mp he];exact xS
   .exact dj.mono fun e he=>by
     rcases uS.mp he with he | he
     .rw [he];exact uT.mpr (.inr (jP.mpr rfl))
     .exact uT.mpr (.inl he)
  by_cases q:g E[k].1=g E[k].2
  .have e:ER g E[k].1 E[k].2=g:= by
    funext a
    unfold ER
    split
    .rename_i z;rw [z,q]
    .rfl
   rw [same,e]
   refine ⟨by omega,⟨fun h=>absurd ((Lg _ _).mp q) (h k hk' (by omega)),fun h=>by omega⟩⟩
  .have c:=D7 (f:=g) mu mv q
   rw [same]
   refine ⟨by omega,?_⟩
   constructor
   .intro h
    have:=i2.mp fun j hj hjk=>h j hj (by omega)
    omega
   .intro h j hj hjk
    by_cases e:j=k
    .subst e
     exact fun z=>q ((Lg _ _).mpr z)
    .exact i2.mpr (by omega) j hj (by omega)
theorem eI {V:List Nat} (nd:V.Nodup) {E:List (Nat × Nat)} (hE:∀e ∈ E,e.1 ∈ V∧e.2 ∈ V) {f:Nat->Nat} (L:G_ f E):V.length ≤ cls f V + E.length∧(gm E ↔ cls f V + E.length=V.length):= by
 have h:=jc nd E E.length hE (wF _) f (by rw [V8];exact L)
 exact ⟨h.1,⟨fun z=>h.2.mp fun j hj _=>z j hj,fun z j hj=>h.2.mpr z j hj hj⟩⟩
noncomputable def M6 (E:List (Nat × Nat)) (V:List Nat):Prop:=∀a ∈ V,∀b ∈ V,dj E a b
theorem D0 {E:List (Nat × Nat)} {V:List Nat} {f:Nat->Nat} (L:G_ f E):M6 E V ↔ cls f V ≤ 1:= by
 rw [tu]
 exact ⟨fun h a ha b hb=>(L a b).mpr (h a ha b hb),fun h a ha b hb=>(L a b).mp (h a ha b hb)⟩
theorem vy {f:Nat->Nat} {V:List Nat} (h:V ≠ []):1 ≤ cls f V:= by
 unfold cls
 cases V with
 | nil=>exact absurd rfl h
 | cons x V=>
  refine ZX (a:=f x) (dX.mpr ?_)
  simp
noncomputable abbrev Pr:=Nat × Nat
theorem CZ {f g:Nat->Nat}:∀{V:List Nat},(∀a ∈ V,∀b ∈ V,f a=f b->g a=g b)->cls g V ≤ cls f V
 | [],_=>wF _
 | x :: V,h=>by
  have ih:=CZ (f:=f) (g:=g) (V:=V) fun a ha b hb=>h a (wV _ ha) b (wV _ hb)
  unfold cls at *
  rw [QW,QW]
  unfold uq
  by_cases q:f x ∈ V.map f
  .have q':g x ∈ V.map g:= by
    obtain ⟨y,hy,e⟩:=gE.mp q
    exact gE.mpr ⟨y,hy,h y (wV _ hy) x xS e⟩
   rw [gL q,gL q'];exact ih
  .rw [QC q,gT]
   split
   .omega
   .rw [gT];omega
theorem sX {E F:List Pr} (h:∀e ∈ E,dj F e.1 e.2) {a b:Nat} (r:dj E a b):dj F a b:= by
 induction r with
 | refl a=>exact .refl a
 | step z _ ih=>
  rcases z with z | z
  .exact (h _ z).trans ih
  .exact (h _ z).symm.trans ih
theorem fg {E:List Pr} {e:Pr} (h:e ∈ E):dj E e.1 e.2:=.one (.inl h)
theorem oi:gm []:=fun k h=>absurd h (by simp)
theorem so {A B:List Pr} (h:gm (A ++ B)):gm A:=fun k hk=>by
 have:=h k (by simp;omega)
 rw [QO (by omega),WU hk] at this
 exact this
theorem rN {T:List Pr} {e:Pr}:gm (T ++ [e]) ↔ gm T∧¬ dj T e.1 e.2:= by
 constructor
 .intro h
  refine ⟨so h,?_⟩
  have:=h T.length (by simp)
  rw [QO (wF _),V8,WD (wF _)] at this
  simpa using this
 .rintro ⟨h1,h2⟩ k hk
  by_cases hk':k < T.length
  .rw [QO (by omega),WU hk']
   exact h1 k hk'
  .have:k=T.length:=by simp at hk;omega
   subst this
   rw [QO (wF _),V8,WD (wF _)]
   simpa using h2
noncomputable def ends (E:List Pr):List Nat:=uq (E.map (·.1) ++ E.map (·.2))
theorem jf {E:List Pr} {e:Pr} (h:e ∈ E):e.1 ∈ ends E∧e.2 ∈ ends E :=
 ⟨dX.mpr (uT.mpr (.inl (gE.mpr ⟨e,h,rfl⟩))),dX.mpr (uT.mpr (.inr (gE.mpr ⟨e,h,rfl⟩)))⟩
theorem JW {E F:List Pr} (hE:gm E) (hF:gm F) (h:∀e ∈ E,dj F e.1 e.2):E.length ≤ F.length:= by
 obtain ⟨f,Lf⟩:=iV E
 obtain ⟨g,Lg⟩:=iV F
 have nd:(ends (E ++ F)).Nodup:=lH _
 have c1:=(eI nd (fun e he=>jf (uT.mpr (.inl he))) Lf).2.mp hE
 have c2:=(eI nd (fun e he=>jf (uT.mpr (.inr he))) Lg).2.mp hF
 have c3:=CZ (f:=f) (g:=g) (V:=ends (E ++ F)) fun a _ b _ e=>(Lg a b).mpr (sX h ((Lf a b).mp e))
 omega
theorem CW {E F:List Pr} (p:E.Perm F) (h:gm E):gm F:= by
 obtain ⟨f,Lf⟩:=iV E
 have Lg:G_ f F:=fun a b=>(Lf a b).trans ⟨dj.mono fun e he=>p.mem_iff.mp he,dj.mono fun e he=>p.mem_iff.mpr he⟩
 have nd:(ends E).Nodup:=lH _
 have c1:=(eI nd (fun e he=>jf he) Lf).2.mp h
 refine (eI nd (fun e he=>jf (p.mem_iff.mpr he)) Lg).2.mpr ?_
 rw [<- p.length_eq];exact c1
theorem yH {E:List Pr} (h:gm E):E.Nodup:= by
 rw [List.nodup_iff_pairwise_ne,WC]
 intro i j hi hj hij e
 refine h j hj ?_
 rw [<- e]
 refine fg ?_
 rw [WE]
 exact ⟨i,by omega,rfl⟩
open Classical in
noncomputable def fC:List Pr->List Pr->List Pr
 | [],_=>[]
 | e :: r,T=>if dj T e.1 e.2 then fC r T else e :: fC r (T ++ [e])
theorem ja:∀(L T:List Pr),(fC L T).Sublist L
 | [],T=>.slnil
 | e :: r,T=>by
  unfold fC
  split
  .exact (ja r T).cons _
  .exact (ja r _).cons_cons _
theorem kr:∀{L T:List Pr},gm T->gm (T ++ fC L T)
 | [],T,h=>by unfold fC;rw [ZA];exact h
 | e :: r,T,h=>by
  unfold fC
  split
  .exact kr h
  .rename_i n
   have:=kr (L:=r) (rN.mpr ⟨h,n⟩)
   rw [Q4] at this
   exact this
theorem kI:∀{L T:List Pr},∀e ∈ L,dj (T ++ fC L T) e.1 e.2
 | [],_,e,he=>nomatch he
 | x :: r,T,e,he=>by
  unfold fC
  split
  .rename_i z
   rcases uS.mp he with rfl | he
   .exact z.mono fun e he=>uT.mpr (.inl he)
   .exact kI e he
  .rcases uS.mp he with rfl | he
   .exact fg (uT.mpr (.inr xS))
   .have:=kI (L:=r) (T:=T ++ [x]) e he
    rw [Q4] at this
    exact this
theorem vo {e:Pr} {r T:List Pr} (h:dj T e.1 e.2):fC (e :: r) T=fC r T:=by rw [fC,gL h]
theorem uZ {e:Pr} {r T:List Pr} (h:¬ dj T e.1 e.2):fC (e :: r) T=e :: fC r (T ++ [e]):=by rw [fC,QC h]
theorem ke:∀(A B T:List Pr),fC (A ++ B) T=fC A T ++ fC B (T ++ fC A T)
 | [],B,T=>by simp [fC]
 | e :: r,B,T=>by
  rw [List.cons_append]
  by_cases h:dj T e.1 e.2
  .rw [vo h,vo h];exact ke r B T
  .rw [uZ h,uZ h,ke r B (T ++ [e]),List.cons_append,Q4];rfl
noncomputable def wt (w:Pr->Int) (L:List Pr):Int:=(L.map w).sum
theorem eF (w:Pr->Int) (e:Pr) (L:List Pr):wt w (e :: L)=w e + wt w L:=by simp [wt]
theorem Gm {w:Pr->Int} {A B:List Pr} (p:A.Perm B):wt w A=wt w B:= by
 induction p with
 | nil=>rfl
 | cons x _ ih=>rw [eF,eF,ih]
 | swap x y l=>rw [eF,eF,eF,eF];omega
 | trans _ _ h1 h2=>exact h1.trans h2
theorem MM (w:Pr->Int) (p q:Pr->Bool):∀(L:List Pr) (d w0:Int),0 ≤ d->L.Pairwise (fun a b=>w b ≤ w a)->(∀e ∈ L,0 ≤ w e∧w e ≤ w0)->(∀k,(((L.take k).filter p).length:Int) ≤ d + ((L.take k).filter q).length) ->
  0 ≤ w0->wt w (L.filter p) ≤ d * w0 + wt w (L.filter q)
 | [],d,w0,hd,_,_,_,h0=>by
  have:=Int.mul_nonneg hd h0
  simpa [wt] using this
 | e :: r,d,w0,hd,hs,hw,hk,h0=>by
  have hs':=Z0.mp hs
  obtain ⟨w1,w2⟩:=hw e xS
  have m0:d * w e ≤ d * w0:=Int.mul_le_mul_of_nonneg_left w2 hd
  have k1:=hk 1
  have next:∀d':Int,0 ≤ d' -> (∀k,(((r.take k).filter p).length:Int) ≤ d' + ((r.take k).filter q).length)->wt w (r.filter p) ≤ d' * w e + wt w (r.filter q):=fun d' h1 h2=>
   MM w p q r d' (w e) h1 hs'.2 (fun x hx=>⟨(hw x (wV _ hx)).1,hs'.1 x hx⟩) h2 w1
  cases hp:p e <;> cases hq:q e
  .have h:=next d hd fun k=>by have:=hk (k + 1);simpa [hp,hq] using this
   simp only [Z4,hp,hq,ZD,YQ]
   omega
  .have h:=next (d + 1) (by omega) fun k=>by
    have:=hk (k + 1)
    simp [hp,hq] at this ⊢
    omega
   simp only [Z4,hp,hq,ZD,YQ,YM,eF]
   rw [Int.add_mul,Int.one_mul] at h
   omega
  .have h1:0 ≤ d - 1:=by simp [hp,hq] at k1;omega
   have h:=next (d - 1) h1 fun k=>by
    have:=hk (k + 1)
    simp [hp,hq] at this ⊢
    omega
   simp only [Z4,hp,hq,ZD,YQ,YM,eF]
   rw [Int.sub_mul,Int.one_mul] at h
   omega
  .have h:=next d hd fun k=>by
    have:=hk (k + 1)
    simp [hp,hq] at this ⊢
    omega
   simp only [Z4,hp,hq,YM,eF]
   omega
theorem pS {L C:List Pr} (nd:L.Nodup) (ndC:C.Nodup) (h:∀e ∈ C,e ∈ L):(L.filter fun e=>decide (e ∈ C)).Perm C:= by
 refine (ZH (nd.filter _) ndC).mpr fun e=>?_
 rw [wR,QD]
 exact ⟨fun z=>z.2,fun z=>⟨h e z,z⟩⟩
theorem kZ {A B T:List Pr} (nd:(A ++ B).Nodup):A.filter (fun e=>decide (e ∈ fC (A ++ B) T))=fC A T:= by
 have e1:A.filter (fun e=>decide (e ∈ fC (A ++ B) T))=A.filter fun e=>decide (e ∈ fC A T):= by
  refine ZF fun e he=>?_
  rw [ke,JP,uT]
  refine ⟨fun z=>z.elim id fun z=>?_,.inl⟩
  have hb:=(ja B _).mem z
  exact absurd rfl ((Q3.mp nd).2.2 e he e hb)
 rw [e1]
 have gen:∀{S L:List Pr},L.Nodup->S.Sublist L->L.filter (fun e=>decide (e ∈ S))=S:= by
  intro S L nd sl
  induction sl with
  | slnil=>rfl
  | cons a sl ih=>
   rename_i l1 l2
   have nd':=ZC.mp nd
   rw [Z4,QC (by simpa using fun z=>nd'.1 (sl.mem z)),ih nd'.2]
  | cons_cons a sl ih=>
   rename_i l1 l2
   have nd':=ZC.mp nd
   rw [Z4,gL (by simp)]
   congr 1
   rw [<- ih nd'.2]
   refine ZF fun e he=>?_
   rw [ih nd'.2,JP,uS]
   exact ⟨fun z=>z.elim (fun q=>absurd (q ▸ he) nd'.1) id,.inr⟩
 exact gen (Q3.mp nd).1 (ja A T)
theorem B8 {w:Pr->Int} {L T C:List Pr} (nd:L.Nodup) (hs:L.Pairwise fun a b=>w b ≤ w a) (hw:∀e ∈ L,0 ≤ w e) (hT:gm T) (hC:gm (T ++ C)) (hm:∀e ∈ C,e ∈ L):wt w C ≤ wt w (fC L T):= by
 have ndC:C.Nodup:=(Q3.mp (yH hC)).2.1
 have p:=pS nd ndC hm
 have hC':gm (T ++ L.filter fun e=>decide (e ∈ C)):=CW (p.symm.append_left T) hC
 obtain ⟨w0,h0,hw0⟩:∃w0:Int,0 ≤ w0∧∀e ∈ L,w e ≤ w0:= by
  cases L with
  | nil=>exact ⟨0,by omega,fun e he=>nomatch he⟩
  | cons x r=>exact ⟨w x,hw x xS,fun e he=>by
    rcases uS.mp he with rfl | he
    .exact Int.le_refl _
    .exact (Z0.mp hs).1 e he⟩
 have h:=MM w (fun e=>decide (e ∈ C)) (fun e=>decide (e ∈ fC L T)) L 0 w0 (Int.le_refl _) hs (fun e he=>⟨hw e he,hw0 e he⟩) (fun k=>?_) h0
 .rw [Gm p] at h
  have e:=kZ (A:=L) (B:=[]) (T:=T) (by rw [ZA];exact nd)
  rw [ZA] at e
  rw [e] at h
  simpa using h
 .have ndk:(L.take k ++ L.drop k).Nodup:=by rw [YZ];exact nd
  have e:=kZ (T:=T) ndk
  rw [YZ] at e
  rw [e]
  have f1:gm (T ++ (L.take k).filter fun e=>decide (e ∈ C)):= by
   have:L.filter (fun e=>decide (e ∈ C))=(L.take k).filter (fun e=>decide (e ∈ C)) ++ (L.drop k).filter fun e=>decide (e ∈ C):=by rw [<- YV,YZ]
   rw [this,<- Q4] at hC'
   exact so hC'
  have:=JW f1 (kr (L:=L.take k) hT) fun e he=>by
   rcases uT.mp he with he | he
   .exact fg (uT.mpr (.inl he))
   .exact kI e (wR.mp he).1
  rw [fR,fR] at this
  omega
section
variable (w:Pr->Int) (M:List Pr->Int)
open Classical in
noncomputable def pK:List Pr->List Pr->Int->List Pr
 | [],T,_=>T
 | e :: r,T,d=>if dj T e.1 e.2 then pK r T d else if w e + M (T ++ [e])=d then pK r (T ++ [e]) (d - w e) else pK r T d
theorem Mb {e:Pr} {r T:List Pr} {d:Int} (h:dj T e.1 e.2):pK w M (e :: r) T d=pK w M r T d:=by rw [pK,gL h]
theorem K9 {e:Pr} {r T:List Pr} {d:Int} (h:¬ dj T e.1 e.2) (h2:w e + M (T ++ [e])=d):pK w M (e :: r) T d=pK w M r (T ++ [e]) (d - w e):=by rw [pK,QC h,gL h2]
theorem L1 {e:Pr} {r T:List Pr} {d:Int} (h:¬ dj T e.1 e.2) (h2:w e + M (T ++ [e]) ≠ d):pK w M (e :: r) T d=pK w M r T d:=by rw [pK,QC h,QC h2]
end
section
variable {w:Pr->Int} {SL PL:List Pr} {n:Nat}
structure Fm (w:Pr->Int) (SL PL:List Pr) (n:Nat):Prop where
 perm:SL.Perm PL
 nd:PL.Nodup
 ord:SL.Pairwise fun a b=>w b ≤ w a
 pos:∀e ∈ PL,0 ≤ w e
 rng:∀e ∈ PL,e.1 < n∧e.2 < n
 con:∀a,a < n->∀b,b < n->dj PL a b
 one:1 ≤ n
theorem Fm.ndS (F:Fm w SL PL n):SL.Nodup:=F.perm.nodup_iff.mpr F.nd
theorem Fm.most (F:Fm w SL PL n) {T C:List Pr} (hT:gm T) (hC:gm (T ++ C)) (hm:∀e ∈ C,e ∈ PL):wt w C ≤ wt w (fC SL T) :=
 B8 F.ndS F.ord (fun e he=>F.pos e (F.perm.mem_iff.mp he)) hT hC fun e he=>F.perm.mem_iff.mpr (hm e he)
noncomputable def Pk (w:Pr->Int) (T:List Pr) (d:Int) (X:List Pr):Prop:=gm (T ++ X)∧wt w X=d
open Classical in
theorem JI (F:Fm w SL PL n) {T:List Pr}:∀e ∈ fC SL T,e ∈ PL:=fun e he=>F.perm.mem_iff.mp ((ja SL T).mem he)
open Classical in
end
theorem mH {α:Type} (f g:α->Int):∀L:List α,(∀x ∈ L,f x ≤ g x)->(L.map f).sum ≤ (L.map g).sum∧((L.map f).sum=(L.map g).sum ↔ ∀x ∈ L,f x=g x)
 | [],_=>⟨Int.le_refl _,⟨fun _ x hx=>(nomatch hx),fun _=>rfl⟩⟩
 | a :: r,h=>by
  obtain ⟨h1,h2⟩:=mH f g r fun x hx=>h x (wV _ hx)
  have h0:=h a xS
  simp only [QW,WV]
  refine ⟨by omega,⟨fun e x hx=>?_,fun e=>?_⟩⟩
  .rcases uS.mp hx with rfl | hx
   .omega
   .exact h2.mp (by omega) x hx
  .rw [e a xS,h2.mpr fun x hx=>e x (wV _ hx)]
theorem sum_add {α:Type} (f g:α->Int):∀L:List α,(L.map fun x=>f x + g x).sum=(L.map f).sum + (L.map g).sum
 | []=>rfl
 | a :: r=>by simp only [QW,WV,sum_add f g r];omega
theorem Bo {α:Type} (p:α->Bool):∀L:List α,(L.map fun x=>if p x=true then (1:Int) else 0).sum=(L.filter p).length
 | []=>rfl
 | a :: r=>by
  simp only [QW,WV,Bo p r,Z4]
  split <;> simp <;> omega
theorem k0 {α β:Type} (q:α->β->Bool) (C:List β):∀t:List α,(t.map fun e=>((C.filter (q e)).length:Int)).sum=(C.map fun c=>((t.filter fun e=>q e c).length:Int)).sum
 | []=>by
  have:∀C:List β,(C.map fun c=>((([]:List α).filter fun e=>q e c).length:Int)).sum=0:=fun C=>by
   induction C with
   | nil=>rfl
   | cons c r ih=>simpa using ih
  simpa using (this C).symm
 | e :: t=>by
  rw [QW,WV,k0 q C t,<- Bo (q e) C,<- sum_add]
  congr 1
  refine ZM fun c _=>?_
  rw [Z4]
  split <;> simp <;> omega
section
variable {hs:List (List Int)} {M:Nat} {t:List Pr}
noncomputable def co (hs:List (List Int)) (c i:Nat):Bool:=decide ((c:Int) ∈ hs.getD i [])
noncomputable def wh (hs:List (List Int)) (e:Pr):Int:=(((hs.getD e.1 []).filter fun x=>decide (x ∈ hs.getD e.2 [])).length:Nat)
noncomputable def vc (hs:List (List Int)) (c:Nat):List Nat:=(List.range hs.length).filter fun i=>co hs c i
noncomputable def ec (hs:List (List Int)) (t:List Pr) (c:Nat):List Pr:=t.filter fun e=>co hs c e.1 && co hs c e.2
noncomputable def qN (hs:List (List Int)) (M:Nat):Int:=((List.range M).map fun c=>max (((vc hs c).length:Int) - 1) 0).sum
theorem Ff (hh:∀h ∈ hs,h.Pairwise (· < ·)∧∀c ∈ h,0 ≤ c∧c < (M:Int)) (e:Pr):wh hs e=(((List.range M).filter fun c=>co hs c e.1 && co hs c e.2).length:Nat):= by
 have ok:(hs.getD e.1 []).Pairwise (· < ·)∧∀c ∈ hs.getD e.1 [],0 ≤ c∧c < (M:Int):= by
  rw [QA]
  cases q:hs[e.1]? with
  | none=>exact ⟨.nil,fun c hc=>nomatch hc⟩
  | some h=>exact hh h (Y6 q)
 unfold wh
 congr 1
 have nd1:((hs.getD e.1 []).filter fun x=>decide (x ∈ hs.getD e.2 [])).Nodup:=(ok.1.imp fun h=>Int.ne_of_lt h).filter _
 have nd2:(((List.range M).filter fun c=>co hs c e.1 && co hs c e.2).map fun (c:Nat)=>(c:Int)).Nodup:= by
  rw [List.nodup_iff_pairwise_ne,YD]
  exact (List.nodup_range.filter _).imp fun h z=>h (by omega)
 have p:=(ZH nd1 nd2).mpr fun x=>by
  simp only [wR,gE,QD,co,QI,uL]
  constructor
  .rintro ⟨h1,h2⟩
   obtain ⟨a,b⟩:=ok.2 x h1
   have e:((x.toNat:Nat):Int)=x:=WL a
   exact ⟨x.toNat,⟨by omega,by rw [e];exact ⟨h1,h2⟩⟩,e⟩
  .rintro ⟨c,⟨_,h1,h2⟩,rfl⟩
   exact ⟨h1,h2⟩
 rw [p.length_eq,fD]
theorem tR (ht:gm t) (hr:∀e ∈ t,e.1 < hs.length∧e.2 < hs.length) (c:Nat):((ec hs t c).length:Int) ≤ max (((vc hs c).length:Int) - 1) 0∧(((ec hs t c).length:Int)=max (((vc hs c).length:Int) - 1) 0 ↔ M6 (ec hs t c) (vc hs c)):= by
 have hF:gm (ec hs t c):=ht.sub
 have hV:∀e ∈ ec hs t c,e.1 ∈ vc hs c∧e.2 ∈ vc hs c:=fun e he=>by
  obtain ⟨h1,h2⟩:=wR.mp he
  simp only [QI] at h2
  exact ⟨wR.mpr ⟨uL.mpr (hr e h1).1,h2.1⟩,wR.mpr ⟨uL.mpr (hr e h1).2,h2.2⟩⟩
 have nd:(vc hs c).Nodup:=List.nodup_range.filter _
 obtain ⟨f,L⟩:=iV (ec hs t c)
 have k:=(eI nd hV L).2.mp hF
 by_cases hv:vc hs c=[]
 .have he:ec hs t c=[]:=List.eq_nil_iff_forall_not_mem.mpr fun e he=>by
   have:=(hV e he).1
   rw [hv] at this;cases this
  rw [he,hv]
  exact ⟨by decide,⟨fun _ a ha=>(nomatch ha),fun _=>by decide⟩⟩
 .have p:=vy (f:=f) hv
  rw [D0 L]
  omega
theorem nr (hh:∀h ∈ hs,h.Pairwise (· < ·)∧∀c ∈ h,0 ≤ c∧c < (M:Int)) (ht:gm t) (hr:∀e ∈ t,e.1 < hs.length∧e.2 < hs.length) :
  wt (wh hs) t ≤ qN hs M∧(wt (wh hs) t=qN hs M ↔ ∀c,c < M->M6 (ec hs t c) (vc hs c)):= by
 have e:wt (wh hs) t=((List.range M).map fun c=>((ec hs t c).length:Int)).sum:= by
  unfold wt
  rw [show (t.map (wh hs))=t.map fun e=>(((List.range M).filter ((fun e c=>co hs c e.1 && co hs c e.2) e)).length:Int) from ZM fun e _=>Ff hh e]
  exact k0 (fun (e:Pr) c=>co hs c e.1 && co hs c e.2) (List.range M) t
 have h:=mH (fun c=>((ec hs t c).length:Int)) (fun c=>max (((vc hs c).length:Int) - 1) 0) (List.range M) fun c _=>(tR ht hr c).1
 rw [e]
 refine ⟨h.1,h.2.trans ⟨fun z c hc=>(tR ht hr c).2.mp (z c (uL.mpr hc)),fun z c hc=>(tR ht hr c).2.mpr (z c (uL.mp hc))⟩⟩
end
noncomputable def stH (sm f:List Nat) (e:Pr):List Nat:=if (decide (e.1 ∈ f) != decide (e.2 ∈ f)) && decide (e.1 ∈ sm) && decide (e.2 ∈ sm) then f ++ [if e.1 ∈ f then e.2 else e.1] else f
noncomputable def pH (sm:List Nat) (P:List Pr) (f:List Nat):List Nat:=P.foldl (stH sm) f
section
variable {sm:List Nat} {P:List Pr}
noncomputable def both (sm:List Nat) (P:List Pr):List Pr:=P.filter fun e=>decide (e.1 ∈ sm) && decide (e.2 ∈ sm)
theorem MY {a b:List Nat} (nd:a.Nodup) (h:∀x ∈ a,x ∈ b):a.length ≤ b.length:= by
 induction a generalizing b with
 | nil=>exact QV _
 | cons x r ih=>
  have n:=ZC.mp nd
  have hx:x ∈ b:=h x xS
  have:=ih (b:=b.erase x) n.2 fun y hy=>(List.mem_erase_of_ne (show y ≠ x from fun z=>n.1 (z ▸ hy))).mpr (h y (wV _ hy))
  rw [List.length_erase_of_mem hx] at this
  have p:=ZX hx
  rw [gT]
  omega
end
noncomputable def wo (L:List Nat) (e:Nat):List Nat:=L.filter fun i=>decide (i ≠ e)
theorem bh {L:List Nat} {e x:Nat}:x ∈ wo L e ↔ x ∈ L∧x ≠ e:=by simp [wo,wR]
theorem kq (L:List Nat) (e x:Nat):wo (wo L e) x=wo (wo L x) e:= by
 unfold wo
 rw [XU,XU]
 exact ZF fun i _=>Bool.and_comm _ _
theorem j3 {L:List Nat} {e:Nat} (h:e ∈ L):(wo L e).length < L.length :=
 Y3.mpr ⟨e,h,by simp⟩
theorem fJ {L:List Nat} {e:Nat} (h:L.Nodup):(wo L e).Nodup:=h.filter _
structure Er (m:Nat->Nat->Bool) (L:List Nat) (e p:Nat):Prop where
 he:e ∈ L
 hp:p ∈ L
 ne:p ≠ e
 hold:∀c o,m e c=true->o ∈ L->o ≠ e->m o c=true->m p c=true
inductive Red (m:Nat->Nat->Bool):List Nat->Prop
 | one (x:Nat):Red m [x]
 | ear {L:List Nat} {e p:Nat} (h:Er m L e p) (r:Red m (wo L e)):Red m L
section
variable {m:Nat->Nat->Bool} {L:List Nat} {e p x q:Nat}
theorem Er.sub (E:Er m L e p) (h:p ≠ x) (h2:e ≠ x):Er m (wo L x) e p:=⟨bh.mpr ⟨E.he,h2⟩,bh.mpr ⟨E.hp,h⟩,E.ne,fun c o hc ho=>E.hold c o hc (bh.mp ho).1⟩
theorem Er.past (E:Er m L e p) (X:Er m L x e) (h:p ≠ x):Er m (wo L e) x p :=
 ⟨bh.mpr ⟨X.he,Ne.symm X.ne⟩,bh.mpr ⟨E.hp,E.ne⟩,h,fun c o hc ho hne hoc=>E.hold c o (X.hold c o hc (bh.mp ho).1 hne hoc) (bh.mp ho).1 (bh.mp ho).2 hoc⟩
theorem uz {y:Nat} (nd:L.Nodup) (h:∀o,o ∈ L ↔ o=y):L=[y]:= by
 cases L with
 | nil=>exact absurd ((h y).mpr rfl) (by simp)
 | cons a r=>
  have ha:=(h a).mp xS
  subst ha
  cases r with
  | nil=>rfl
  | cons b s=>
   have hb:=(h b).mp (by simp)
   subst hb
   simp at nd
theorem IA:∀(n:Nat) {L:List Nat} {e p:Nat},L.length ≤ n->L.Nodup->Er m L e p->Red m L->Red m (wo L e):= by
 intro n
 induction n with
 | zero=>
  intro L e p hn _ E R
  have:=ZX E.he
  omega
 | succ n ih=>
  intro L e p hn nd E R
  cases R with
  | one y=>
   have h1:=jP.mp E.he
   have h2:=jP.mp E.hp
   exact absurd (h2.trans h1.symm) E.ne
  | @ear _ x q X RX=>
   by_cases hx:x=e
   .subst hx;exact RX
   have sx:(wo L x).length ≤ n:=by have:=j3 X.he;omega
   have both:∀{p' q':Nat},Er m (wo L x) e p' -> Er m (wo L e) x q' -> Red m (wo L e):=fun E' X'=>.ear X' (by rw [kq];exact ih sx (fJ nd) E' RX)
   by_cases hp:p=x
   .subst hp
    by_cases hq:q=e
    .subst hq
     have hqp:q ∈ wo L p:=bh.mpr ⟨E.he,Ne.symm hx⟩
     have mem:∀{o},o ∈ L->o=p ∨ o ∈ wo L p:=fun {o} ho=>by
      by_cases z:o=p
      .exact .inl z
      .exact .inr (bh.mpr ⟨ho,z⟩)
     generalize hW:wo L p=W at *
     cases RX with
     | one y=>
      have hy:=jP.mp hqp
      subst hy
      have:wo L q=[p]:=uz (fJ nd) fun o=>⟨fun ho=>by
       obtain ⟨a,b⟩:=bh.mp ho
       exact (mem a).elim id fun z=>absurd (jP.mp z) b,fun ho=>by subst ho;exact bh.mpr ⟨X.he,hx⟩⟩
      rw [this]
      exact .one p
     | @ear _ y z Y RY=>
      subst hW
      obtain ⟨hy1,hy2⟩:=bh.mp Y.he
      obtain ⟨hz1,hz2⟩:=bh.mp Y.hp
      by_cases hyq:y=q
      .subst hyq
       refine .ear (e:=p) (p:=z) ⟨bh.mpr ⟨X.he,hx⟩,bh.mpr ⟨hz1,Y.ne⟩,hz2,fun c o hc ho hne hoc=>?_⟩ (by rw [kq];exact RY)
       obtain ⟨o1,o2⟩:=bh.mp ho
       exact Y.hold c o (X.hold c o hc o1 hne hoc) (bh.mpr ⟨o1,hne⟩) o2 hoc
      .have Y':Er m L y z:=⟨hy1,hz1,Y.ne,fun c o hc ho hne hoc=>by
        rcases mem ho with rfl | ho'
        .exact Y.hold c q hc hqp (Ne.symm hyq) (X.hold c y hoc hy1 hy2 hc)
        .exact Y.hold c o hc ho' hne hoc⟩
       have sy:(wo L y).length ≤ n:=by have:=j3 hy1;omega
       have Ry:Red m (wo (wo L y) q):=ih sy (fJ nd) (E.sub (Ne.symm hy2) (Ne.symm hyq)) (.ear (X.sub (Ne.symm hyq) (Ne.symm hy2)) (by rw [kq];exact RY))
       rw [kq] at Ry
       by_cases hzq:z=q
       .subst hzq
        exact .ear (E.past Y' (Ne.symm hy2)) Ry
       .exact .ear (Y'.sub hzq hyq) Ry
    .exact both ⟨bh.mpr ⟨E.he,Ne.symm hx⟩,bh.mpr ⟨X.hp,X.ne⟩,hq,fun c o hc ho hne hoc=>X.hold c o (E.hold c o hc (bh.mp ho).1 hne hoc) (bh.mp ho).1 (bh.mp ho).2 hoc⟩ (X.sub hq hx)
   .by_cases hq:q=e
    .subst hq
     exact both (E.sub hp (Ne.symm hx)) (E.past X hp)
    .exact both (E.sub hp (Ne.symm hx)) (X.sub hq hx)
theorem Red.off (nd:L.Nodup) (E:Er m L e p) (R:Red m L):Red m (wo L e):=IA L.length (wF _) nd E R
end
noncomputable def Dd (m:Nat->Nat->Bool) (t:List Pr) (c:Nat):List Pr:=t.filter fun e=>m e.1 c && m e.2 c
structure JF (m:Nat->Nat->Bool) (L:List Nat) (t:List Pr):Prop where
 inn:∀e ∈ t,e.1 ∈ L∧e.2 ∈ L
 fst:gm t
 con:∀c a b,a ∈ L->b ∈ L->m a c=true->m b c=true->dj (Dd m t c) a b
theorem dA {m:Nat->Nat->Bool} {t:List Pr} {c:Nat} {e:Pr}:e ∈ Dd m t c ↔ e ∈ t∧m e.1 c=true∧m e.2 c=true:=by simp [Dd,wR]
section
variable {m:Nat->Nat->Bool}
theorem JH {L:List Nat} (R:Red m L):∃t,JF m L t:= by
 induction R with
 | one x=>exact ⟨[],fun e he=>(nomatch he),oi,fun c a b ha hb _ _=>by rw [jP.mp ha,jP.mp hb];exact .refl _⟩
 | @ear L e p E _ ih=>
  obtain ⟨t,T⟩:=ih
  have nt:∀f ∈ t,f.1 ≠ e∧f.2 ≠ e:=fun f hf=>⟨(bh.mp (T.inn f hf).1).2,(bh.mp (T.inn f hf).2).2⟩
  refine ⟨t ++ [(p,e)],fun f hf=>?_,rN.mpr ⟨T.fst,fun r=>?_⟩,fun c a b ha hb hac hbc=>?_⟩
  .rcases uT.mp hf with z | z
   .exact ⟨(bh.mp (T.inn f z).1).1,(bh.mp (T.inn f z).2).1⟩
   .rw [jP.mp z];exact ⟨E.hp,E.he⟩
  .cases r.symm with
   | refl=>exact E.ne rfl
   | step z _=>exact z.elim (fun z=>(nt _ z).1 rfl) fun z=>(nt _ z).2 rfl
  .have up:∀{x y:Nat},dj (Dd m t c) x y->dj (Dd m (t ++ [(p,e)]) c) x y:=fun r=>r.mono fun f hf=>by
    obtain ⟨f1,f2⟩:=dA.mp hf
    exact dA.mpr ⟨ZO _ f1,f2⟩
   have to:∀{b:Nat},b ∈ L->b ≠ e->m b c=true->m e c=true->dj (Dd m (t ++ [(p,e)]) c) e b:=fun {b} hb hne hbc hec=>by
    have hpc:=E.hold c b hec hb hne hbc
    refine .step (.inr (dA.mpr ⟨uP _ (jP.mpr rfl),hpc,hec⟩)) (up (T.con c p b (bh.mpr ⟨E.hp,E.ne⟩) (bh.mpr ⟨hb,hne⟩) hpc hbc))
   by_cases qa:a=e
   .subst qa
    by_cases qb:b=a
    .subst qb;exact .refl _
    .exact to hb qb hbc hac
   .by_cases qb:b=e
    .subst qb
     exact (to ha qa hac hbc).symm
    .exact up (T.con c a b (bh.mpr ⟨ha,qa⟩) (bh.mpr ⟨hb,qb⟩) hac hbc)
noncomputable def mG (e:Nat) (f:Pr):Bool:=decide (f.1=e) || decide (f.2=e)
theorem AU {t:List Pr} (h:gm t) {f:Pr} (hf:f ∈ t):f.1 ≠ f.2:=fun z=>by
 obtain ⟨k,hk,rfl⟩:=ZS hf
 exact h k hk (by rw [z];exact .refl _)
theorem Gu {L:List Nat} (nd:L.Nodup) (hne:L ≠ []) {t:List Pr} (hE:∀e ∈ t,e.1 ∈ L∧e.2 ∈ L) (h:gm t):t.length + 1 ≤ L.length:= by
 obtain ⟨f,F⟩:=iV t
 have k:=(eI nd hE F).2.mp h
 have:=vy (f:=f) hne
 omega
theorem z9 {α:Type} (f:α->Int):∀(l:List α),(∀x ∈ l,2 ≤ f x)->2 * (l.length:Int) ≤ (l.map f).sum
 | [],_=>by simp
 | a :: r,h=>by
  have:=z9 f r fun x hx=>h x (wV _ hx)
  have:=h a xS
  simp only [QW,WV,gT]
  omega
theorem uW {α:Type} (f:α->Int):∀(l:List α),(∀x ∈ l,f x ≤ 2)->(l.map f).sum ≤ 2 * (l.length:Int)
 | [],_=>by simp
 | a :: r,h=>by
  have:=uW f r fun x hx=>h x (wV _ hx)
  have:=h a xS
  simp only [QW,WV,gT]
  omega
theorem leaf {L:List Nat} (nd:L.Nodup) (hne:L ≠ []) {t:List Pr} (hE:∀e ∈ t,e.1 ∈ L∧e.2 ∈ L) (h:gm t):∃e ∈ L,(t.filter (mG e)).length ≤ 1:= by
 refine Z5 fun q=>?_
 have all:∀v ∈ L,(2:Int) ≤ ((t.filter (mG v)).length:Int):=fun v hv=>by
  have:¬ (t.filter (mG v)).length ≤ 1:=fun z=>q ⟨v,hv,z⟩
  omega
 have s1:=z9 (fun v=>((t.filter (mG v)).length:Int)) L all
 have sw:=k0 (fun (f:Pr) v=>mG v f) L t
 have s2:=uW (fun f=>((L.filter ((fun (f:Pr) v=>mG v f) f)).length:Int)) t fun f _=>by
  have:=MY (a:=L.filter fun v=>mG v f) (b:=[f.1,f.2]) (nd.filter _) fun x hx=>by
   have:=(wR.mp hx).2
   simp only [mG,VN,QD] at this
   rcases this with z | z <;> simp [z]
  simp only [gT,ZE] at this
  show ((L.filter fun v=>mG v f).length:Int) ≤ 2
  omega
 rw [sw] at s2
 have:=Gu nd hne hE h
 have:2 * (L.length:Int) ≤ 2 * (t.length:Int):=Int.le_trans s1 s2
 omega
theorem Ja:∀(n:Nat) {L:List Nat} {t:List Pr},L.length ≤ n->L.Nodup->L ≠ []->JF m L t->Red m L:= by
 intro n
 induction n with
 | zero=>intro L t hn _ hne _;exact absurd (YR.mp (by omega)) hne
 | succ n ih=>
  intro L t hn nd hne T
  by_cases h1:L.length=1
  .obtain ⟨x,rfl⟩:=List.length_eq_one_iff.mp h1
   exact .one x
  have h2:2 ≤ L.length:=by have:=V5.mpr hne;omega
  obtain ⟨e,he,hd⟩:=leaf nd hne T.inn T.fst
  have hwne:wo L e ≠ []:=fun z=>by
   have:∀o ∈ L,o=e:=fun o ho=>Z5 fun q=>by
    have:=bh.mpr ⟨ho,q⟩
    rw [z] at this
    cases this
   have:=uz (y:=e) nd fun o=>⟨this o,fun q=>q ▸ he⟩
   rw [this] at h2
   simp at h2
  obtain ⟨p,hp,hpe,only⟩:∃p ∈ L,p ≠ e∧∀b,((e,b) ∈ t ∨ (b,e) ∈ t)->b=p:= by
   have tm:∀{b},((e,b) ∈ t ∨ (b,e) ∈ t)->∃f ∈ t.filter (mG e),f=(e,b) ∨ f=(b,e):=fun {b} z=>z.elim (fun z=>⟨_,wR.mpr ⟨z,by simp [mG]⟩,.inl rfl⟩) fun z=>⟨_,wR.mpr ⟨z,by simp [mG]⟩,.inr rfl⟩
   cases hl:t.filter (mG e) with
   | nil=>
    obtain ⟨p,hp⟩:=WG _ hwne
    obtain ⟨p1,p2⟩:=bh.mp hp
    refine ⟨p,p1,p2,fun b z=>?_⟩
    obtain ⟨f,hf,_⟩:=tm z
    rw [hl] at hf
    cases hf
   | cons f r=>
    have hr:r=[]:=by rw [hl] at hd;simp at hd;exact hd
    subst hr
    have hf:f ∈ t.filter (mG e):=by rw [hl];exact xS
    obtain ⟨f1,f2⟩:=wR.mp hf
    have fne:=AU T.fst f1
    have fi:=T.inn f f1
    simp only [mG,VN,QD] at f2
    have key:∀p,(f=(e,p) ∨ f=(p,e))->p ≠ e->∀b,((e,b) ∈ t ∨ (b,e) ∈ t)->b=p:=fun p hfp hpe b z=>by
     obtain ⟨g,hg,gb⟩:=tm z
     rw [hl] at hg
     have hg:=jP.mp hg
     subst hg
     rcases hfp with rfl | rfl <;> rcases gb with gb | gb <;> simp only [Prod.mk.injEq] at gb <;> omega
    rcases f2 with z | z
    .have hpe:f.2 ≠ e:=fun q=>fne (z.trans q.symm)
     exact ⟨f.2,fi.2,hpe,key _ (.inl (by rw [<- z])) hpe⟩
    .have hpe:f.1 ≠ e:=fun q=>fne (q.trans z.symm)
     exact ⟨f.1,fi.1,hpe,key _ (.inr (by rw [<- z])) hpe⟩
  have E:Er m L e p:=⟨he,hp,hpe,fun c o hec ho hne hoc=>by
   cases T.con c e o he ho hec hoc with
   | refl=>exact absurd rfl hne
   | @step _ b _ z _=>
    have zb:(e,b) ∈ t ∨ (b,e) ∈ t:=z.imp (fun z=>(dA.mp z).1) fun z=>(dA.mp z).1
    have:=only b zb
    subst this
    rcases z with z | z
    .exact (dA.mp z).2.2
    .exact (dA.mp z).2.1⟩
  refine .ear E (ih (t:=t.filter fun f=>!mG e f) (by have:=j3 he;omega) (fJ nd) hwne ⟨fun f hf=>?_,T.fst.sub,fun c a b ha hb hac hbc=>?_⟩)
  .obtain ⟨f1,f2⟩:=wR.mp hf
   simp only [mG,V0,Bool.or_eq_false_iff,YS] at f2
   exact ⟨bh.mpr ⟨(T.inn f f1).1,f2.1⟩,bh.mpr ⟨(T.inn f f1).2,f2.2⟩⟩
  .have go:∀{a b:Nat},dj (Dd m t c) a b->dj (Dd m (t.filter fun f=>!mG e f) c) (if a=e then p else a) (if b=e then p else b):=fun {a b} r=>by
    induction r with
    | refl=>exact .refl _
    | @step a x b z _ ih=>
     refine dj.trans ?_ ih
     have zt:(a,x) ∈ t ∨ (x,a) ∈ t:=z.imp (fun z=>(dA.mp z).1) fun z=>(dA.mp z).1
     by_cases qa:a=e
     .subst qa
      have:=only x zt
      subst this
      rw [gL rfl,QC hpe]
      exact .refl _
     .by_cases qx:x=e
      .subst qx
       have:=only a zt.symm
       subst this
       rw [gL rfl,QC qa]
       exact .refl _
      .rw [QC qa,QC qx]
       have nt:∀f:Pr,f ∈ Dd m t c->f.1 ≠ e->f.2 ≠ e->f ∈ Dd m (t.filter fun f=>!mG e f) c:=fun f hf h1 h2=>by
        obtain ⟨f1,f2⟩:=dA.mp hf
        exact dA.mpr ⟨wR.mpr ⟨f1,by simp [mG,h1,h2]⟩,f2⟩
       exact .one (z.imp (fun z=>nt _ z qa qx) fun z=>nt _ z qx qa)
   obtain ⟨a1,a2⟩:=bh.mp ha
   obtain ⟨b1,b2⟩:=bh.mp hb
   have:=go (T.con c a b a1 b1 hac hbc)
   rwa [QC a2,QC b2] at this
end
section
variable {m m':Nat->Nat->Bool} {L:List Nat}
theorem Red.imp {A:List Nat} (h:∀{L e p},(∀x ∈ L,x ∈ A)->Er m L e p->Er m' L e p) (R:Red m L):(∀x ∈ L,x ∈ A)->Red m' L:= by
 induction R with
 | one x=>exact fun _=>.one x
 | ear E _ ih=>exact fun s=>.ear (h s E) (ih fun x hx=>s x (bh.mp hx).1)
noncomputable abbrev rs (m:Nat->Nat->Bool) (B:List Nat):Nat->Nat->Bool:=fun i c=>m i c && decide (c ∈ B)
theorem cZ {B:List Nat} {i c:Nat}:rs m B i c=true ↔ m i c=true∧c ∈ B:=by simp [rs]
theorem Red.less {A B:List Nat} (h:∀c ∈ B,c ∈ A) (R:Red (rs m A) L):Red (rs m B) L:=R.imp (A:=L) (fun _ E=>⟨E.he,E.hp,E.ne,fun c o hc ho hne hoc=>by
 obtain ⟨h1,h2⟩:=cZ.mp hc
 obtain ⟨h3,_⟩:=cZ.mp hoc
 exact cZ.mpr ⟨(cZ.mp (E.hold c o (cZ.mpr ⟨h1,h c h2⟩) ho hne (cZ.mpr ⟨h3,h c h2⟩))).1,h2⟩⟩) fun _ z=>z
theorem Red.none (nd:L.Nodup) (hne:L ≠ []):Red (rs m []) L:= by
 have:∀(n:Nat) (L:List Nat),L.length ≤ n->L.Nodup->L ≠ []->Red (rs m []) L:= by
  intro n
  induction n with
  | zero=>intro L hn _ h;exact absurd (YR.mp (by omega)) h
  | succ n ih=>
   intro L hn nd h
   match L,nd with
   | [x],_=>exact .one x
   | x :: y :: r,nd=>
    have hxy:y ≠ x:=fun z=>by subst z;simp at nd
    refine .ear (e:=x) (p:=y) ⟨by simp,by simp,hxy,fun c o hc=>absurd (cZ.mp hc).2 (by simp)⟩ (ih _ (by have:=j3 (L:=x :: y :: r) (e:=x) (by simp);omega) (fJ nd) fun z=>?_)
    have:y ∈ wo (x :: y :: r) x:=bh.mpr ⟨by simp,hxy⟩
    rw [z] at this
    cases this
 exact this L.length L (wF _) nd hne
noncomputable def xp (m:Nat->Nat->Bool) (L:List Nat) (c:Nat) (B:List Nat):Prop:=(∀i ∈ L,m i c=false) ∨ ∃h ∈ L,m h c=true∧∀o ∈ B,(∃i ∈ L,m i c=true∧m i o=true)->m h o=true
theorem BX {c:Nat} {B:List Nat} (nd:L.Nodup) (F:xp m L c B) (R:Red (rs m B) L):Red (rs m (c :: B)) L:= by
 rcases F with F | ⟨h,hh,hc,hm⟩
 .refine R.imp (A:=L) (fun {K e p} s E=>⟨E.he,E.hp,E.ne,fun x o hx ho hne hox=>?_⟩) fun _ z=>z
  obtain ⟨h1,h2⟩:=cZ.mp hx
  obtain ⟨h3,_⟩:=cZ.mp hox
  rcases uS.mp h2 with rfl | h2
  .rw [F e (s e E.he)] at h1;cases h1
  .exact cZ.mpr ⟨(cZ.mp (E.hold x o (cZ.mpr ⟨h1,h2⟩) ho hne (cZ.mpr ⟨h3,h2⟩))).1,wV _ h2⟩
 .have go:∀(n:Nat) (K:List Nat),K.length ≤ n->K.Nodup->(∀x ∈ K,x ∈ L)->h ∈ K->Red (rs m B) K->Red (rs m (c :: B)) K:= by
   intro n
   induction n with
   | zero=>intro K hn _ _ hk;have:=ZX hk;omega
   | succ n ih=>
    intro K hn nd s hk R
    by_cases q:∃i ∈ K,i ≠ h∧m i c=true
    .obtain ⟨i,hi,hne,hic⟩:=q
     have sub:∀x,m i x=true->x ∈ B->m h x=true:=fun x hx hb=>hm x hb ⟨i,s i hi,hic,hx⟩
     have E1:Er (rs m B) K i h:=⟨hi,hk,Ne.symm hne,fun x o hx _ _ _=>by
      obtain ⟨h1,h2⟩:=cZ.mp hx
      exact cZ.mpr ⟨sub x h1 h2,h2⟩⟩
     have E2:Er (rs m (c :: B)) K i h:=⟨hi,hk,Ne.symm hne,fun x o hx _ _ _=>by
      obtain ⟨h1,h2⟩:=cZ.mp hx
      rcases uS.mp h2 with rfl | h2
      .exact cZ.mpr ⟨hc,xS⟩
      .exact cZ.mpr ⟨sub x h1 h2,wV _ h2⟩⟩
     exact .ear E2 (ih _ (by have:=j3 hi;omega) (fJ nd) (fun x hx=>s x (bh.mp hx).1) (bh.mpr ⟨hk,Ne.symm hne⟩) (R.off nd E1))
    .refine R.imp (A:=K) (fun {J e p} t E=>⟨E.he,E.hp,E.ne,fun x o hx ho hne hox=>?_⟩) fun _ z=>z
     obtain ⟨h1,h2⟩:=cZ.mp hx
     obtain ⟨h3,_⟩:=cZ.mp hox
     rcases uS.mp h2 with rfl | h2
     .have e1:e=h:=Z5 fun z=>q ⟨e,t e E.he,z,h1⟩
      have e2:o=h:=Z5 fun z=>q ⟨o,t o ho,z,h3⟩
      exact absurd (e2.trans e1.symm) hne
     .exact cZ.mpr ⟨(cZ.mp (E.hold x o (cZ.mpr ⟨h1,h2⟩) ho hne (cZ.mpr ⟨h3,h2⟩))).1,wV _ h2⟩
  exact go L.length L (wF _) nd (fun _ z=>z) hh R
theorem EE {k:Nat->Nat->Bool} (R:Red k L):(∃i ∈ L,∃c,k i c=true)->∃c,∃h ∈ L,k h c=true∧∀o,(∃i ∈ L,k i c=true∧k i o=true)->k h o=true:= by
 induction R with
 | one x=>
  rintro ⟨i,hi,c,hc⟩
  rw [jP.mp hi] at hc
  exact ⟨c,x,xS,hc,fun o ⟨j,hj,_,h⟩=>by rw [jP.mp hj] at h;exact h⟩
 | @ear L e p E _ ih=>
  rintro ⟨i,hi,c,hc⟩
  by_cases q:∃c,k e c=true∧∀o ∈ L,o ≠ e->k o c=false
  .obtain ⟨c,h1,h2⟩:=q
   refine ⟨c,e,E.he,h1,fun o ⟨j,hj,h3,h4⟩=>?_⟩
   by_cases z:j=e
   .rw [z] at h4;exact h4
   .rw [h2 j hj z] at h3;cases h3
  .have sub:∀c,k e c=true->k p c=true:=fun c hc=>by
    refine Z5 fun z=>q ⟨c,hc,fun o ho hne=>?_⟩
    cases w:k o c with
    | false=>rfl
    | true=>exact absurd (E.hold c o hc ho hne w) z
   obtain ⟨c,h,hh,h1,h2⟩:=ih (by
    by_cases z:i=e
    .subst z;exact ⟨p,bh.mpr ⟨E.hp,E.ne⟩,c,sub c hc⟩
    .exact ⟨i,bh.mpr ⟨hi,z⟩,c,hc⟩)
   refine ⟨c,h,(bh.mp hh).1,h1,fun o ⟨j,hj,h3,h4⟩=>?_⟩
   by_cases z:j=e
   .subst z
    exact h2 o ⟨p,bh.mpr ⟨E.hp,E.ne⟩,sub c h3,sub o h4⟩
   .exact h2 o ⟨j,bh.mpr ⟨hj,z⟩,h3,h4⟩
theorem w_ {B:List Nat} {b:Nat} (hb:b ∈ B) (R:Red (rs m B) L):∃c ∈ B,xp m L c B:= by
 by_cases q:∃i ∈ L,m i b=true
 .obtain ⟨i,hi,h⟩:=q
  obtain ⟨c,h,hh,h1,h2⟩:=EE R ⟨i,hi,b,cZ.mpr ⟨h,hb⟩⟩
  obtain ⟨h3,h4⟩:=cZ.mp h1
  refine ⟨c,h4,.inr ⟨h,hh,h3,fun o ho ⟨j,hj,h5,h6⟩=>?_⟩⟩
  exact (cZ.mp (h2 o ⟨j,hj,cZ.mpr ⟨h5,h4⟩,cZ.mpr ⟨h6,ho⟩⟩)).1
 .refine ⟨b,hb,.inl fun i hi=>?_⟩
  cases w:m i b with
  | false=>rfl
  | true=>exact absurd ⟨i,hi,w⟩ q
theorem Red.perm {K:List Nat} (p:L.Perm K) (nd:L.Nodup) (R:Red m L):Red m K:= by
 induction R generalizing K with
 | one x=>rw [List.perm_singleton.mp p.symm];exact .one x
 | @ear L e q E _ ih=>exact .ear ⟨p.mem_iff.mp E.he,p.mem_iff.mp E.hp,E.ne,fun c o hc ho=>E.hold c o hc (p.mem_iff.mpr ho)⟩ (ih (p.filter _) (fJ nd))
end
end K55
namespace K55
open PySem L2 Jt
section
noncomputable def hD (h:List Int):D:=.tup (h.map .int)
noncomputable def bA (m:Int) (hs:List (List Int)):D:=.tup [.int m,.tup (hs.map hD)]
noncomputable def lD (ls:List Nat):List D:=ls.map fun (i:Nat)=>.int (i:Int)
noncomputable def G (hs:List (List Int)) (i:Nat):List Int:=hs.getD i []
theorem yo (h:List Int):lg (h.map .int)=some (h.map V.int):= by
 induction h with
 | nil=>rfl
 | cons a r ih=>simp [lg,flat,ih]
theorem Fb (c:Int) (h:List Int):KD (.int c) (h.map V.int)=decide (c ∈ h):= by
 induction h with
 | nil=>rfl
 | cons a r ih=>
  show (a == c || KD (.int c) (r.map V.int))=_
  rw [ih]
  by_cases e:c=a
  .subst e;simp
  .simp [e,Ne.symm e]
theorem fI (neg:Bool) (c:Int) (h:List Int):sD neg (.int c) (hD h)=some (.bl (if neg then !decide (c ∈ h) else decide (c ∈ h))):= by
 simp [sD,hD,fW,flat,yo,Fb]
theorem gW (h:List Int):ck (hD h)=some (bz (h.map .int)):=rfl
theorem cB {α:Type} (f:α->Bool) (as:List α):boolsOf (as.map fun a=>.bl (f a))=some (as.map f):= by
 induction as with
 | nil=>rfl
 | cons a r ih=>simp [boolsOf,ih]
theorem g8 {α:Type} (xs:List α) (i:Nat) (h:i < xs.length):jw xs (i:Int)=some xs[i]:= by
 have h1:(i:Int) < xs.length:=by omega
 simp [jw,rH,h1,h]
theorem iX {hs:List (List Int)} {i:Nat} (h:i < hs.length):j9 (.tup (hs.map hD)) (.int (i:Int))=some (hD (G hs i)):= by
 show jw _ _=_
 rw [g8 _ _ (by simpa using h)]
 simp [G,h]
theorem cP (m:Int) (hs:List (List Int)):j9 (bA m hs) (.int 1)=some (.tup (hs.map hD)):=rfl
theorem gZ (m:Int) (hs:List (List Int)):j9 (bA m hs) (.int 0)=some (.int m):=rfl
theorem wI (neg:Bool) (a b:Int):l_ neg (.int a) (.int b)=some (.bl (if neg then !decide (a=b) else decide (a=b))):= by
 simp [l_,jk,fe,flat,j8]
theorem d5 (neg:Bool) (a b:Nat):l_ neg (.int (a:Int)) (.int (b:Int))=some (.bl (if neg then !decide (a=b) else decide (a=b))):= by
 rw [wI]
 simp only [Int.natCast_inj,show ((a:Int)=(b:Int))=(a=b) from propext YI]
theorem h9 (neg:Bool) (xs:List D):l_ neg (.lst xs) (.lst [])=some (.bl (if neg then !xs.isEmpty else xs.isEmpty)):= by
 cases xs <;> simp [l_,jk,dy,dy.go]
theorem jH (n:Nat):cq 0 n=lD (List.range n):= by
 simp [cq,lD]
theorem ik (n i:Nat) (h:i < (cq 0 n).length):(cq 0 n)[i]=.int (i:Int):=by simp [cq]
structure Bw (hs:List (List Int)) (ls:List Nat) (x:D):Prop where
 n:hs.length ≤ 6
 ln:ls.length ≤ 6
 lt:∀i ∈ ls,i < hs.length
 w:∀h ∈ hs,h.length ≤ 100
 x:ck x=some (bz (lD ls))
noncomputable def shared (hs:List (List Int)) (ls:List Nat) (n:Nat):List Int:=(G hs n).filter fun c=>ls.any fun o=>decide (o ≠ n) && decide (c ∈ G hs o)
noncomputable def holders (hs:List (List Int)) (ls:List Nat) (n:Nat):List Nat:=ls.filter fun o=>decide (o ≠ n) && (shared hs ls n).all fun c=>decide (c ∈ G hs o)
theorem Bw.g {hs:List (List Int)} {ls:List Nat} {x:D} (F:Bw hs ls x) (i:Nat):(G hs i).length ≤ 100:= by
 unfold G
 by_cases h:i < hs.length
 .rw [QA,kW h];exact F.w _ (QH h)
 .rw [QA,KW (by omega)];simp
variable {hs:List (List Int)} {ls:List Nat} {x:D}
theorem um (F:Bw hs ls x) (n:Nat):(shared hs ls n).length ≤ 100:= by
 have:=F.g n
 have:=QX (fun c=>ls.any fun o=>decide (o ≠ n) && decide (c ∈ G hs o)) (G hs n)
 unfold shared
 omega
noncomputable def je (hf:Nat->List Nat) (ls:List Nat):List D:=ls.filterMap fun n=>(hf n).head?.map fun (h:Nat)=>.tup [.int (n:Int),.int (h:Int)]
theorem kH (hf:Nat->List Nat) {k:Nat} (h:k < ls.length):je hf (ls.take (k + 1))=je hf (ls.take k) ++ ((hf ls[k]).head?.map fun (h:Nat)=>D.tup [.int (ls[k]:Int),.int (h:Int)]).toList:= by
 rw [Q6 h]
 unfold je
 rw [List.filterMap_append]
 congr 1
theorem yj (hf:Nat->List Nat) (ls:List Nat):(je hf ls).length ≤ ls.length:=List.length_filterMap_le _ _
theorem n6 {i j:Int} (h:-(2 ^ 64) < j) (h2:j < 2 ^ 64):oh (.int i) (.int j)=some (.int (i * j)):= by
 show (if ((decide (-(2 ^ 64) < i) && decide (i < 2 ^ 64)) || (decide (-(2 ^ 64) < j) && decide (j < 2 ^ 64)))=true then _ else _)=_
 rw [gL (by rw [QK h,QK h2];simp)]
theorem tD (ns:List Int) (k:Nat):∃c:Int,bP C0 wQ [.lst (ns.map .int),.int k]=some (.int c):= by
 have:∃d,bP C0 wQ [.lst (ns.map .int),.int k]=some d∧∃c,d=.int c:= by
  apply FG
  show Ok wQ [.pu (.lst (ns.map .int)),.pu (.int k)] _
  dsimp only [wQ,qJ]
  simp [eD,JB,c9]
  by_cases h:k < ns.length
  .have e:j9 (.lst (ns.map .int)) (.int (k:Int))=some (.int ns[k]):= by
    show jw _ _=_
    rw [g8 _ _ (by simpa using h)]
    simp
   simp [h,e]
  .simp [h,oh,jA,c9];omega
 obtain ⟨d,e,c,rfl⟩:=this
 exact ⟨c,e⟩
theorem cw (n j:Int) (h:0 < j) (h2:j < 1073741824):jq pZ m3 [.int n] [.int j]=some (.int (n % j),[.int (n / j)]):= by
 have:∃d xs',jq pZ m3 [.int n] [.int j]=some (d,xs')∧(d=.int (n % j)∧xs' = [.int (n / j)]):= by
  apply kb
  show Ok m3 [.ow true [.int n],.pu (.int j),.un] _
  dsimp only [m3,lL]
  simp [EK,JV,c9,j9,jw,rH,h,h2]
 obtain ⟨d,xs',e,rfl,rfl⟩:=this
 exact e
theorem yf (ns:List Int) (k:Nat):∃n:Int,ip zq u3 [.lst (ns.map .int),.int k]=some [.int n]:= by
 obtain ⟨c,ec⟩:=tD ns k
 have:∃d,ip zq u3 [.lst (ns.map .int),.int k]=some d∧∃c,d=[.int c]:= by
  apply Eh
  show Ok u3 [.pu (.lst (ns.map .int)),.pu (.int k),.un,.un,.un,.un] _
  dsimp only [u3,qX]
  simp [bF,ec,EK,JV,c9,fe,flat,j8]
  by_cases h:c % 2=0
  .simp [h]
  .simp [h,ju,cj]
   refine uk (cq 0 24) (fun _ δ=>∃a b x,δ=[.pu (.lst (ns.map .int)),.pu (.int k),.pu (.int c),.pu (.int a),.pu (.int b),x]) ?_ (fun i hk δ hI=>?_) (fun δ hI=>?_)
   .exact ⟨_,_,_,rfl⟩
   .obtain ⟨a,b,x,rfl⟩:=hI
    have hk':i < 24:=by simpa [cq] using hk
    have e2:oh (.int (7 * (i:Int))) (.int (i:Int))=some (.int (7 * (i:Int) * (i:Int))):=n6 (by omega) (by omega)
    have e3:∀z:Int,oh (.int z) (.int 48271)=some (.int (z * 48271)):=fun z=>n6 (by omega) (by omega)
    have e4:∀z:Int,oh (.int z) (.int 2147483647)=some (.int (z * 2147483647)):=fun z=>n6 (by omega) (by omega)
    have e5:oh (.int 7) (.int (i:Int))=some (.int (7 * (i:Int))):=n6 (by omega) (by omega)
    have e6:oh (.int 11) (.int (k:Int))=some (.int (11 * (k:Int))):=by simp [oh,c9]
    rw [ik]
    simp [e2,e3,e4,e5,e6,jA,c9]
   .obtain ⟨a,b,x,rfl⟩:=hI
    simp
 obtain ⟨d,e,c,rfl⟩:=this
 exact ⟨c,e⟩
noncomputable def pD (p:Nat × Nat):D:=.tup [.int (p.1:Int),.int (p.2:Int)]
noncomputable def eO (hs:List (List Int)) (ls:List Nat):List (Nat × Nat):=ls.filterMap fun n=>(holders hs ls n).head?.map fun h=>(n,h)
theorem Cz (hs:List (List Int)) (ls:List Nat):je (holders hs ls) ls=(eO hs ls).map pD:= by
 unfold je eO
 rw [List.map_filterMap]
 congr 1
 funext n
 cases (holders hs ls n).head? <;> rfl
noncomputable def ni (hs:List (List Int)):Nat->List Nat->List (Nat × Nat) × List Nat
 | 0,ls=>([],ls)
 | f + 1,ls=>match eO hs ls with
  | []=>([],ls)
  | p :: _=>(p :: (ni hs f (ls.filter fun i=>decide (i ≠ p.1))).1,(ni hs f (ls.filter fun i=>decide (i ≠ p.1))).2)
theorem oA {hs:List (List Int)} {ls:List Nat} (h:eO hs ls=[]):∀f,ni hs f ls=([],ls)
 | 0=>rfl
 | f + 1=>by unfold ni;rw [h]
theorem lu {hs:List (List Int)} {ls:List Nat} {p:Nat × Nat} {r:List (Nat × Nat)} (h:eO hs ls=p :: r) (f:Nat):ni hs (f + 1) ls=(p :: (ni hs f (ls.filter fun i=>decide (i ≠ p.1))).1,(ni hs f (ls.filter fun i=>decide (i ≠ p.1))).2):= by
 rw [ni,h]
theorem ka {hs:List (List Int)} {ls:List Nat} {p:Nat × Nat} {r:List (Nat × Nat)} (h:eO hs ls=p :: r):p.1 ∈ ls∧p.2 ∈ holders hs ls p.1:= by
 have:p ∈ eO hs ls:=by rw [h];exact xS
 obtain ⟨n,hn,e⟩:=WY.mp this
 obtain ⟨o,ho,rfl⟩:=Option.map_eq_some_iff.mp e
 exact ⟨hn,List.mem_of_mem_head? ho⟩
theorem fu {hs:List (List Int)} {ls:List Nat} {n o:Nat} (h:o ∈ holders hs ls n):o ∈ ls∧o ≠ n:= by
 unfold holders at h
 obtain ⟨h1,h2⟩:=wR.mp h
 simp only [QI,QD] at h2
 exact ⟨h1,h2.1⟩
structure Fn (hs:List (List Int)) (ls:List Nat):Prop where
 n:hs.length ≤ 6
 ln:ls.length ≤ 6
 lt:∀i ∈ ls,i < hs.length
 w:∀h ∈ hs,h.length ≤ 100
 nd:ls.Nodup
 pos:1 ≤ ls.length
theorem Fn.fit {hs:List (List Int)} {ls:List Nat} {x:D} (F:Fn hs ls) (h:ck x=some (bz (lD ls))):Bw hs ls x:=⟨F.n,F.ln,F.lt,F.w,h⟩
theorem lR {ls:List Nat} {a:Nat} (h:a ∈ ls):(ls.filter fun i=>decide (i ≠ a)).length < ls.length:= by
 have:=Y3 (p:=fun i=>decide (i ≠ a)) (l:=ls)
 exact this.mpr ⟨a,h,by simp⟩
theorem Fn.next {hs:List (List Int)} {ls:List Nat} {p:Nat × Nat} {r:List (Nat × Nat)} (F:Fn hs ls) (h:eO hs ls=p :: r):Fn hs (ls.filter fun i=>decide (i ≠ p.1)):= by
 obtain ⟨h1,h2⟩:=ka h
 obtain ⟨h3,h4⟩:=fu h2
 have:=lR h1
 refine ⟨F.n,by have:=F.ln;omega,fun i hi=>F.lt i (wR.mp hi).1,F.w,F.nd.filter _,?_⟩
 exact ZX (wR.mpr ⟨h3,by simpa using h4⟩)
variable {hs:List (List Int)} {ls:List Nat}
variable {hs:List (List Int)} {ls:List Nat}
variable {hs:List (List Int)} {ls:List Nat}
variable {hs:List (List Int)} {ls:List Nat} {x:D}
noncomputable def jM (m:Int) (h:List Int):Prop:=h ≠ []∧h.Pairwise (· < ·)∧∀c ∈ h,0 ≤ c∧c < m
theorem vL:∀(l:List Int) (lo hi:Int),l.Pairwise (· < ·)->(∀y ∈ l,lo ≤ y∧y < hi)->lo ≤ hi->(l.length:Int) ≤ hi - lo
 | [],lo,hi,_,_,h=>by simp;omega
 | z :: t,lo,hi,hp,hb,h=>by
  rw [Z0] at hp
  have hz:=hb z xS
  have:=vL t (z + 1) hi hp.2 (fun y hy=>⟨by have:=hp.1 y hy;omega,(hb y (wV _ hy)).2⟩) (by omega)
  rw [gT];omega
theorem jM.len {m:Int} {h:List Int} (H:jM m h) (h1:1 ≤ m) (hm:m ≤ 7):h.length ≤ 7:= by
 have:=vL h 0 m H.2.1 H.2.2 (by omega)
 omega
theorem dJ (a:Int):∀l:List Int,a ∈ gq l ↔ a ∈ l
 | []=>by simp [gq]
 | x :: r=>by
  unfold gq
  split
  .rename_i h
   rw [dJ a r,uS]
   constructor
   .exact .inr
   .rintro (rfl | h')
    .exact (dJ a r).mp h
    .exact h'
  .rw [uS,uS,dJ a r]
theorem dN:∀l:List Int,(gq l).Nodup
 | []=>by simp [gq]
 | x :: r=>by
  unfold gq
  split
  .exact dN r
  .rename_i h
   exact ZC.mpr ⟨h,dN r⟩
theorem qD {l:List Int} (h:l.Nodup):(cW l).Pairwise (· < ·):= by
 refine ((kQ l).and ((e_ l).nodup_iff.mpr h)).imp fun {a b} h=>?_
 have:=h.1
 have:=h.2
 omega
theorem jI {a:Int} {l:List Int}:a ∈ cW l ↔ a ∈ l:=(e_ l).mem_iff
theorem eK (h:List Int):dF (h.map .int)=some h:= by
 induction h with
 | nil=>rfl
 | cons a r ih=>simp [dF,ih]
theorem vf (h:List Int):(gq h).length ≤ h.length:= by
 induction h with
 | nil=>simp [gq]
 | cons a r ih=>unfold gq;split <;> simp <;> omega
theorem jx (h:List Int):(cW h).length=h.length:=(e_ h).length_eq
theorem Fj (neg:Bool) (xs:List D):Ks neg (.lst xs) (.lst [])=some (.bl (if neg then !xs.isEmpty else xs.isEmpty)):=h9 neg xs
theorem pW (hs:List (List Int)) (n:Int) (hp:0 < hs.length):∃h ∈ hs,j9 (.lst (hs.map hD)) (.int (n % (hs.length:Int)))=some (hD h):= by
 have h1:=YC n (show (hs.length:Int) ≠ 0 by omega)
 have h2:=VS n (show (0:Int) < hs.length by omega)
 obtain ⟨j,hj⟩:∃j:Nat,n % (hs.length:Int)=(j:Int):=⟨(n % (hs.length:Int)).toNat,by omega⟩
 have hlt:j < hs.length:=by omega
 refine ⟨hs[j],QH hlt,?_⟩
 rw [hj]
 show jw _ _=_
 rw [g8 _ _ (by simpa using hlt)]
 simp
theorem jO {α β:Type} (f:α->β):∀(l:List α) (j:Nat),(l.map f).eraseIdx j=(l.eraseIdx j).map f
 | [],_=>rfl
 | _ :: _,0=>rfl
 | a :: r,j + 1=>by
  show f a :: (r.map f).eraseIdx j=f a :: (r.eraseIdx j).map f
  rw [jO f r j]
theorem dR (xs:List D):cV [.lst xs]=some (.tup xs):=rfl
variable {hs:List (List Int)} {ls:List Nat}
variable {hs:List (List Int)} {ls:List Nat}
variable {hs:List (List Int)} {ls:List Nat}
end
section
noncomputable def LQ (d:D) (xs:List D):Prop:=∃(m:Int) (hs:List (List Int)) (n:Int),d=bA m hs∧xs=[.int n]∧1 ≤ hs.length∧hs.length ≤ 6∧(1 ≤ m∧m ≤ 7)∧∀h ∈ hs,jM m h
noncomputable def P1:Fl->DS->Prop:=fun fl δ=>∃d xs',fl=.rt d∧δ[0]? = some (.ow true xs')∧LQ d xs'
noncomputable def P2 (M Z k:Nat) (way:Int) (hs:List (List Int)) (δ:DS):Prop:=∃(n:Int) (x:D) (cs:List Int) (x7 x8:Jt.Slot),δ=[.ow true [.int n],.pu (.int M),.pu (.int way),.pu (.int Z),.ow false (hs.map hD),.pu (.int k),.pu x,x7,x8,.un,.un]∧fW x=some (cs.map .int)∧cs.length ≤ 14∧∀c ∈ cs,0 ≤ c∧c < (M:Int)
noncomputable def P4 (M Z k:Nat) (way:Int) (δ:DS):Prop:=∃(n:Int) (hs:List (List Int)) (x5 x6 x7 x8:Jt.Slot),δ=[.ow true [.int n],.pu (.int M),.pu (.int way),.pu (.int Z),.ow false (hs.map hD),x5,x6,x7,x8,.un,.un]∧hs.length=k∧∀h ∈ hs,jM M h
theorem oQ {ta tb:Jt.M Bool} {δ:DS} {P:Bool->DS->Prop} {b1:Bool} (h1:Ok ta δ fun b δ1=>b=b1∧δ1=δ) (hf:b1=false->P false δ) (ht:b1=true->Ok tb δ P):Ok (uJ ta tb) δ P:= by
 rw [w8]
 refine h1.mono fun b δ1 h=>?_
 obtain ⟨rfl,rfl⟩:=h
 cases b
 .exact hf rfl
 .exact ht rfl
theorem wX {ta tb:Jt.M Bool} {δ:DS} {b1 b2:Bool} (h1:Ok ta δ fun b δ1=>b=b1∧δ1=δ) (h2:Ok tb δ fun b δ1=>b=b2∧δ1=δ):Ok (uJ ta tb) δ fun b δ1=>b=(b1 && b2)∧δ1=δ :=
 oQ h1 (fun e=>by subst e;exact ⟨rfl,rfl⟩) (fun e=>by subst e;exact h2)
theorem lU (a b:Int):fe false (.int a) (.int b)=some (.bl (decide (a=b))):=eG false a b
theorem JQ (a b:Int):JB (.int a) (.int b)=some (.bl (decide (a < b))):=by simp [JB,c9]
theorem BW (a b:Int):NR (.int a) (.int b)=some (.bl (decide (a > b))):=by simp [NR,c9]
theorem vm (a b:Int):jA (.int a) (.int b)=some (.int (a + b)):=by simp [jA,c9]
theorem xJ {δ:DS} {d:D}:Ok (pure d:Jt.M D) δ fun d' δ1=>d' = d∧δ1=δ:=bg.mpr ⟨rfl,rfl⟩
theorem GH {δ:DS} {i k:Nat} {b:Bool} {xs:List D} (h:δ[i]? = some (.ow b xs)) (hl:xs.length=k):Ok (qq i) δ fun d δ1=>d=.int (k:Int)∧δ1=δ:=rb.mpr ⟨b,xs,h,by rw [hl],rfl⟩
theorem jJ {δ:DS} {op:D->D->Option D} {i:Nat} {c d:D} {b:Bool} (h:δ[i]? = some (.pu d)) (e:op d c=some (.bl b)):Ok (m2 op (bZ i) (pure c) >>= lP) δ fun b' δ1=>b' = b∧δ1=δ :=
 bf.mpr (iH.mpr (cY.mpr ⟨d,h,bg.mpr (dk e (ur.mpr ⟨b,rfl,rfl,rfl⟩))⟩))
theorem ib {δ:DS} {i:Nat} {n j:Int} {b:Bool} {fj:Jt.M D} {Q:D->DS->Prop} (h0:δ[i]? = some (.ow b [.int n])) (hf:Ok fj δ fun d δ1=>d=.int j∧δ1=δ) (hj:0 < j) (hj2:j < 1073741824) (q:Q (.int (n % j)) (δ.set i (.ow b [.int (n / j)]))):Ok (do let _ <- dv i;oH i 2 (jq pZ m3) (du fj (pure []))) δ Q:= by
 refine bf.mpr (fM.mpr ⟨b,_,h0,vp.mpr (b6.mpr (hf.mono fun d δ1 h=>?_))⟩)
 obtain ⟨rfl,rfl⟩:=h
 exact bg.mpr ⟨b,_,h0,rfl,_,cw n j hj hj2,q⟩
theorem AW {δ:DS} {i:Nat} {n j:Int} {b:Bool} {fj:Jt.M D} {Q:Bool->DS->Prop} (h0:δ[i]? = some (.ow b [.int n])) (hf:Ok fj δ fun d δ1=>d=.int j∧δ1=δ) (hj:0 < j) (hj2:j < 1073741824) (q:Q (decide (n % j=0)) (δ.set i (.ow b [.int (n / j)]))):Ok (m2 (fe false) (do let _ <- dv i;oH i 2 (jq pZ m3) (du fj (pure []))) (pure (.int 0)) >>= lP) δ Q :=
 bf.mpr (iH.mpr (ib h0 hf hj hj2 (bg.mpr (dk (lU _ _) (ur.mpr ⟨_,rfl,q⟩)))))
theorem Hj {δ:DS} {i:Nat} {b:Bool} {hs:List (List Int)} (h:δ[i]? = some (.ow b (hs.map hD))):Ok ((Fx (Ks true) (AH i) (do let x <- (do let xs <- (AE (pure []));pure (D.lst xs));pure (Hn.th x))) >>= lP) δ fun b' δ1=>b' = decide (hs ≠ [])∧δ1=δ:= by
 have e:Ks true (.lst (hs.map hD)) (.lst [])=some (.bl (decide (hs ≠ []))):= by
  rw [Fj]
  cases hs <;> rfl
 generalize decide (hs ≠ [])=c at *
 generalize hs.map hD=ys at *
 cases b <;> simp [h,e]
theorem pF (n0:Int):∃d xs',jq iz Bx [.int n0] []=some (d,xs')∧LQ d xs':= by
 apply kb
 show Ok Bx [.ow true [.int n0],.un,.un,.un,.un,.un,.un,.un,.un,.un,.un] P1
 dsimp only [Bx,pX]
 refine b4 (fun δ=>∃n many:Int,δ=[.ow true [.int n],.pu (.int many),.un,.un,.un,.un,.un,.un,.un,.un,.un]∧1 ≤ many∧many ≤ 7) ?_ ?_
 .exact dt.mpr (iH.mpr (bg.mpr (ib rfl xJ (by decide) (by decide) (dk (vm _ _) ⟨Y2 (WA 9),rfl,_,_,rfl,by omega,by omega⟩))))
 rintro _ ⟨n,many,rfl,hm1,hm2⟩
 refine b4 (fun δ=>∃n way:Int,δ=[.ow true [.int n],.pu (.int many),.pu (.int way),.un,.un,.un,.un,.un,.un,.un,.un]) ?_ ?_
 .exact dt.mpr (ib rfl xJ (by decide) (by decide) ⟨Y2 (WA 8),rfl,_,_,rfl⟩)
 rintro _ ⟨n,way,rfl⟩
 refine b4 (fun δ=>∃n size:Int,δ=[.ow true [.int n],.pu (.int many),.pu (.int way),.pu (.int size),.un,.un,.un,.un,.un,.un,.un]∧1 ≤ size∧size ≤ 6) ?_ ?_
 .exact dt.mpr (iH.mpr (bg.mpr (ib rfl xJ (by decide) (by decide) (dk (vm _ _) ⟨Y2 (WA 7),rfl,_,_,rfl,by omega,by omega⟩))))
 rintro _ ⟨n,size,rfl,hs1,hs2⟩
 refine dq (decide (way=4) && decide (many > 2)) (wX (jJ rfl (lU _ _)) (jJ rfl (BW _ _))) (fun hb=>?_) (fun hb=>?_)
 .obtain ⟨h4,hm⟩:=XI.mp hb
  obtain rfl:=ZV h4
  have hm:=ZV hm
  obtain ⟨N,hN,hN1,hN2⟩:∃N:Nat,(if 6 < many then 6 else many)=(N:Int)∧3 ≤ N∧N ≤ 6:= by
   refine ⟨(if 6 < many then 6 else many).toNat,?_,?_,?_⟩ <;> split <;> omega
  simp [oG,hN]
  refine bu (List.range N) (fun (k:Nat)=>.int (k:Int)) (fun k=>some (hD (cW [(k:Int),((k:Int) + 1) % (N:Int)]))) rfl ?_ (by simp;omega) (fun k _=>?_) ?_
  .have:cj N=true:=by simp [cj];omega
   simp [ju,this,cq]
  .have:0 < N:=by omega
   simp [jA,EK,c9,fW,sortI,dF,this,cV,hD]
  .simp [cV,fW,ZR]
   refine ⟨_,_,rfl,rfl,many,(List.range N).map fun (k:Nat)=>cW [(k:Int),((k:Int) + 1) % (N:Int)],n,by simp [bA],rfl,by simp;omega,by simp;omega,⟨hm1,hm2⟩,?_⟩
   intro h hh
   obtain ⟨k,hk,rfl⟩:=gE.mp hh
   have hk':=uL.mp hk
   have hN':(N:Int) ≤ many:=by rw [<- hN];split <;> omega
   have g1:=YC ((k:Int) + 1) (show (N:Int) ≠ 0 by omega)
   have g2:=VS ((k:Int) + 1) (show (0:Int) < N by omega)
   have ne:(k:Int) ≠ ((k:Int) + 1) % (N:Int):= by
    by_cases e:k + 1=N
    .have:((k:Int) + 1) % (N:Int)=0:=by rw [show (k:Int) + 1=(N:Int) by omega];exact Int.emod_self
     omega
    .rw [Int.emod_eq_of_lt (by omega) (by omega)];omega
   refine ⟨fun z=>?_,qD (by simp [ne]),fun c hc=>?_⟩
   .have:=jx [(k:Int),((k:Int) + 1) % (N:Int)]
    rw [z] at this
    simp at this
   .rw [jI] at hc
    simp only [uS,XD,or_false] at hc
    rcases hc with rfl | rfl <;> omega
 refine dq (decide (way=5) && decide (many > 2)) (wX (jJ rfl (lU _ _)) (jJ rfl (BW _ _))) (fun hb=>?_) (fun hb=>?_)
 .obtain ⟨h4,hm⟩:=XI.mp hb
  obtain rfl:=ZV h4
  have hm:=ZV hm
  obtain ⟨N,hN,hN1,hN2⟩:∃N:Nat,(if 6 < many then 6 else many)=(N:Int)∧3 ≤ N∧N ≤ 6:= by
   refine ⟨(if 6 < many then 6 else many).toNat,?_,?_,?_⟩ <;> split <;> omega
  have hp:(0:Int) < N - 2:=by omega
  have hq:(N:Int) - 2 < 1073741824:=by omega
  obtain ⟨S,hS,hS1,hS2⟩:∃S:Nat,3 + n % ((N:Int) - 2)=(S:Int)∧3 ≤ S∧S ≤ 6:= by
   have h1:=YC n (show (N:Int) - 2 ≠ 0 by omega)
   have h2:=VS n hp
   exact ⟨(3 + n % ((N:Int) - 2)).toNat,by omega,by omega,by omega⟩
  simp [-Prod.exists,oG,hN,yz,jA,c9,cw _ _ hp hq,hS]
  have hsm:cj S=true:=by simp [cj];omega
  refine bu (List.range S) (fun (k:Nat)=>.int (k:Int)) (fun k=>some (hD (((List.range S).filter fun i=>decide (i ≠ k)).map fun (i:Nat)=>(i:Int)))) rfl ?_ (by simp;omega) (fun k _=>?_) ?_
  .simp [ju,hsm,cq]
  .simp
   refine bu (List.range S) (fun (k:Nat)=>.int (k:Int)) (fun i=>if decide (i ≠ k)=true then some (.int (i:Int)) else none) rfl ?_ (by simp;omega) (fun i _=>?_) ?_
   .simp [ju,hsm,cq]
   .by_cases e:i=k <;> simp [d5,e]
   .rw [bJ]
    simp [cV,fW,hD]
  .simp [cV,fW,ZR]
   refine ⟨_,_,rfl,rfl,many,(List.range S).map fun (k:Nat)=>(((List.range S).filter fun i=>decide (i ≠ k)).map fun (i:Nat)=>(i:Int)),n / ((N:Int) - 2),by simp [bA],rfl,by simp;omega,by simp;omega,⟨hm1,hm2⟩,?_⟩
   intro h hh
   obtain ⟨k,hk,rfl⟩:=gE.mp hh
   have hN':(N:Int) ≤ many:=by rw [<- hN];split <;> omega
   have hSN:(S:Int) ≤ N:= by
    have h2:=VS n hp
    omega
   refine ⟨fun z=>?_,?_,fun c hc=>?_⟩
   .have:(if k=0 then 1 else 0) ∈ (List.range S).filter fun i=>decide (i ≠ k):=wR.mpr ⟨uL.mpr (by split <;> omega),by simp;split <;> omega⟩
    rw [List.map_eq_nil_iff] at z
    rw [z] at this
    cases this
   .rw [YD]
    exact ((List.pairwise_lt_range).filter _).imp fun {a b} (q:a < b)=>by show (a:Int) < (b:Int);omega
   .obtain ⟨i,hi,rfl⟩:=gE.mp hc
    have:=uL.mp (wR.mp hi).1
    omega
 obtain ⟨M,rfl⟩:∃M:Nat,many=(M:Int):=⟨many.toNat,by omega⟩
 obtain ⟨Z,rfl⟩:∃Z:Nat,size=(Z:Int):=⟨size.toNat,by omega⟩
 have hZ1:1 ≤ Z:=by omega
 have hZ2:Z ≤ 6:=by omega
 have hM1:1 ≤ M:=by omega
 have hM2:M ≤ 7:=by omega
 have sZ:cj Z=true:=by simp [cj];omega
 have sM:cj M=true:=by simp [cj];omega
 clear hb hs1 hs2
 refine b4 (fun δ=>δ=[.ow true [.int n],.pu (.int M),.pu (.int way),.pu (.int Z),.ow false [],.un,.un,.un,.un,.un,.un]) (by simp) ?_
 rintro _ rfl
 refine b4 (fun δ=>∃(n:Int) (hs:List (List Int)) (x5 x6 x7 x8:Jt.Slot),δ=[.ow true [.int n],.pu (.int M),.pu (.int way),.pu (.int Z),.ow false (hs.map hD),x5,x6,x7,x8,.un,.un]∧hs.length=Z∧∀h ∈ hs,jM M h) ?_ ?_
 .refine nT (cq 0 Z) (fun k δ=>P4 M Z k way δ) ?_ ?_ ?_ ?_
  .simp [ju,sZ]
  .exact ⟨n,[],.un,.un,.un,.un,rfl,rfl,by simp⟩
  .rintro k hk _ ⟨n,hs,x5,x6,x7,x8,rfl,hlen,hw⟩
   have hk':k < Z:=by simpa [cq] using hk
   rw [ik,cx]
   refine ⟨by simp,?_⟩
   simp only [VC,VD]
   refine b4 (fun δ=>∃(n:Int) (cs:List Int),δ=[.ow true [.int n],.pu (.int M),.pu (.int way),.pu (.int Z),.ow false (hs.map hD),.pu (.int k),.pu (.lst (cs.map .int)),x7,x8,.un,.un]∧cs.length ≤ 7∧∀c ∈ cs,0 ≤ c∧c < (M:Int)) ?_ ?_
   .simp only [dt,bf,bg]
    refine ft (cq 0 M) (fun _ acc δ=>∃(n:Int) (cs:List Int),acc=cs.map .int∧δ=[.ow true [.int n],.pu (.int M),.pu (.int way),.pu (.int Z),.ow false (hs.map hD),.pu (.int k),x6,x7,x8,.un,.un]∧∀c ∈ cs,0 ≤ c∧c < (M:Int)) rfl ?_ (by simp [cq];omega) ⟨n,[],rfl,rfl,by simp⟩ ?_ ?_
    .simp [ju,sM]
    .rintro j hj acc _ ha hl ⟨n,cs,rfl,rfl,hcM⟩
     have hjM:j < M:=by simpa [cq] using hj
     rw [ik]
     refine dI.mpr (cx.mpr ⟨wF 12,AW rfl xJ (by decide) (by decide) ?_⟩)
     by_cases q:n % 3=0
     .rw [QK q,gL rfl]
      refine cY.mpr ⟨_,rfl,rfl,_,cs ++ [(j:Int)],by rw [VO];rfl,rfl,fun c hc=>?_⟩
      rcases uT.mp hc with z | z
      .exact hcM c z
      .rw [jP.mp z];omega
     .rw [Z3 q,QC fN]
      exact ⟨rfl,_,cs,ZA _,rfl,hcM⟩
    .rintro xs _ hx hl ⟨n,cs,rfl,rfl,hcM⟩
     have:cs.length ≤ 7:=by simp [cq] at hx;omega
     exact ⟨by simp,trivial,n,cs,rfl,this,hcM⟩
   rintro _ ⟨n,cs,rfl,hcs,hcM⟩
   refine b4 (P2 M Z k way hs) ?_ ?_
   .refine qY (fun b δ=>δ=[.ow true [.int n],.pu (.int M),.pu (.int way),.pu (.int Z),.ow false (hs.map hD),.pu (.int k),.pu (.lst (cs.map .int)),x7,x8,.un,.un]∧(b=true->hs ≠ [])) ?_ ?_ ?_
    .exact oQ (jJ rfl (JQ _ _)) (fun _=>⟨rfl,fun e=>by cases e⟩) fun _=>(Hj rfl).mono fun b δ1 h=>⟨h.2,fun e=>ZV (h.1.symm.trans e)⟩
    .rintro _ ⟨rfl,hne⟩
     have hpos:0 < hs.length:=V5.mpr (hne rfl)
     obtain ⟨h,hh,eh⟩:=pW hs n hpos
     have et:=cw n hs.length (by omega) (by omega)
     refine b4 (fun δ=>∃n:Int,δ=[.ow true [.int n],.pu (.int M),.pu (.int way),.pu (.int Z),.ow false (hs.map hD),.pu (.int k),.pu (.lst (cs.map .int)),.pu (hD h),x8,.un,.un]) ?_ ?_
     .exact dt.mpr (nZ.mpr ⟨⟨_,_,rfl⟩,ib rfl (GH rfl (fD ..)) (by omega) (by omega) ⟨_,_,rfl,dk eh ⟨Y2 (WA 3),rfl,_,rfl⟩⟩⟩)
     rintro _ ⟨n,rfl⟩
     refine b4 (fun δ=>∃ds:List Int,δ=[.ow true [.int n],.pu (.int M),.pu (.int way),.pu (.int Z),.ow false (hs.map hD),.pu (.int k),.pu (.lst (cs.map .int)),.pu (hD h),.pu (.lst (ds.map .int)),.un,.un]∧ds.length ≤ 7∧∀c ∈ ds,0 ≤ c∧c < (M:Int)) ?_ ?_
     .simp only [dt,bf,bg]
      refine bu cs .int (fun c=>if (hs.filter fun h=>decide (c ∈ h)).isEmpty=true then some (.int c) else none) rfl ?_ (by omega) (fun c hc=>?_) ?_
      .simp [ck]
      .simp
       refine zy (i:=4) (b:=false) hs hD (fun h=>if decide (c ∈ h)=true then some (hD h) else none) rfl rfl ?_ (by omega) (fun h hh=>?_) ?_
       .simp
       .by_cases q:c ∈ h <;> simp [fI,q]
       .rw [bJ]
        cases q:(hs.filter fun h=>decide (c ∈ h)) with
        | nil=>
         have q':=List.filter_eq_nil_iff.mp q
         simpa [h9] using q'
        | cons a r=>
         have q':a ∈ hs.filter fun h=>decide (c ∈ h):=by rw [q];exact xS
         simp at q'
         simp [h9]
         exact ⟨a,q'⟩
      .rw [bJ]
       refine ⟨by simp,trivial,(cs.filter fun c=>(hs.filter fun h=>decide (c ∈ h)).isEmpty),rfl,?_⟩
       have:=QX (fun c=>(hs.filter fun h=>decide (c ∈ h)).isEmpty) cs
       exact ⟨by omega,fun c hc=>hcM c (wR.mp hc).1⟩
     rintro _ ⟨ds,rfl,hds,hdM⟩
     simp
     refine ft (h.map .int) (fun _ acc δ=>∃(n:Int) (cs':List Int),acc=cs'.map .int∧δ=[.ow true [.int n],.pu (.int M),.pu (.int way),.pu (.int Z),.ow false (hs.map hD),.pu (.int k),.pu (.lst (cs.map .int)),.pu (hD h),.pu (.lst (ds.map .int)),.un,.un]∧∀c ∈ cs',0 ≤ c∧c < (M:Int)) rfl ?_ (by have:=(hw h hh).len (by omega) (by omega);simp;omega) ⟨n,[],rfl,rfl,by simp⟩ ?_ ?_
     .simp [gW]
     .rintro j hj acc _ ha hl ⟨n,cs',rfl,rfl,hc'⟩
      have hj':j < h.length:=by simpa using hj
      rw [List.getElem_map]
      refine dI.mpr (cx.mpr ⟨wF 12,AW rfl xJ (by decide) (by decide) ?_⟩)
      by_cases q:n % 2=0
      .rw [QK q,gL rfl]
       refine cY.mpr ⟨_,rfl,rfl,_,cs' ++ [h[j]],by rw [VO];rfl,rfl,fun c hc=>?_⟩
       rcases uT.mp hc with z | z
       .exact hc' c z
       .rw [jP.mp z];exact (hw h hh).2.2 _ (QH hj')
      .rw [Z3 q,QC fN]
       exact ⟨rfl,_,cs',ZA _,rfl,hc'⟩
     .rintro xs _ hx hl ⟨n,cs',rfl,rfl,hc'⟩
      have hb:=(hw h hh).len (by omega) (by omega)
      have hc:cs'.length ≤ h.length:=by simpa using hx
      have hsm:ds.length + cs'.length ≤ 100000:=by omega
      simp [Ma,L9,hsm]
      refine ⟨_,_,ds ++ cs',_,_,rfl,by simp [fW],by simp;omega,fun c hc=>?_⟩
      rcases uT.mp hc with z | z
      .exact hdM c z
      .exact hc' c z
    .rintro _ ⟨rfl,hne⟩
     simp
     exact ⟨_,_,cs,_,_,rfl,by simp [fW],by omega,hcM⟩
   rintro _ ⟨n,x,cs,x7,x8,rfl,hx,hcs,hcM⟩
   refine b4 (P2 M Z k way hs) ?_ ?_
   .refine qY (fun b δ=>(∃n:Int,δ=[.ow true [.int n],.pu (.int M),.pu (.int way),.pu (.int Z),.ow false (hs.map hD),.pu (.int k),.pu x,x7,x8,.un,.un])∧(b=true->hs ≠ [])) ?_ ?_ ?_
    .exact oQ (jJ rfl (lU _ _)) (fun _=>⟨⟨_,rfl⟩,fun e=>by cases e⟩) fun _=>oQ (Hj rfl) (fun _=>⟨⟨_,rfl⟩,fun e=>by cases e⟩) fun e=>AW rfl xJ (by decide) (by decide) ⟨⟨_,rfl⟩,fun _=>ZV e⟩
    .rintro _ ⟨⟨n,rfl⟩,hne⟩
     have hpos:0 < hs.length:=V5.mpr (hne rfl)
     obtain ⟨h,hh,eh⟩:=pW hs n hpos
     have et:=cw n hs.length (by omega) (by omega)
     have:=(hw h hh).len (by omega) (by omega)
     exact dt.mpr (nZ.mpr ⟨⟨_,_,rfl⟩,ib rfl (GH rfl (fD ..)) (by omega) (by omega) ⟨_,_,rfl,dk eh ⟨Y2 (WA 4),rfl,_,_,h,_,_,rfl,rfl,by omega,(hw h hh).2.2⟩⟩⟩)
    .rintro _ ⟨⟨n,rfl⟩,hne⟩
     simp
     exact ⟨_,_,cs,_,_,rfl,hx,hcs,hcM⟩
   rintro _ ⟨n,x,cs,x7,x8,rfl,hx,hcs,hcM⟩
   refine eY ⟨_,_,rfl⟩ ?_
   have hc64:cs.length < 64:=by omega
   have hl1:=vf cs
   have hl2:=jx (gq cs)
   have eM:=cw n M (by omega) (by omega)
   have hl3:hs.length ≤ 100000:=by omega
   by_cases q:cW (gq cs)=[]
   .simp [-Prod.exists,hx,kc,eK,hc64,dR,c_,q,eM,hl3]
    refine ⟨_,hs ++ [[n % (M:Int)]],_,_,_,_,by simp [hD];exact ⟨rfl,rfl,rfl,rfl,rfl⟩,by simp [hlen],?_⟩
    intro h hh
    rcases uT.mp hh with hh | hh
    .exact hw h hh
    .rw [jP.mp hh]
     have g1:=YC n (show (M:Int) ≠ 0 by omega)
     have g2:=VS n (show (0:Int) < M by omega)
     exact ⟨by simp,by simp,fun c hc=>by rw [jP.mp hc];exact ⟨g1,g2⟩⟩
   .simp [-Prod.exists,hx,kc,eK,hc64,dR,c_,q,hl3]
    refine ⟨_,hs ++ [cW (gq cs)],_,_,_,_,by simp [hD];exact ⟨rfl,rfl,rfl,rfl,rfl⟩,by simp [hlen],?_⟩
    intro h hh
    rcases uT.mp hh with hh | hh
    .exact hw h hh
    .rw [jP.mp hh]
     exact ⟨q,qD (dN cs),fun c hc=>hcM c ((dJ c cs).mp (jI.mp hc))⟩
  .rintro _ ⟨n,hs,x5,x6,x7,x8,rfl,hlen,hw⟩
   have:(cq 0 Z).length=Z:=by simp [cq]
   rw [this] at hlen
   exact ⟨rfl,n,hs,x5,x6,x7,x8,rfl,hlen,hw⟩
 rintro _ ⟨n,hs,x5,x6,x7,x8,rfl,hlen,hw⟩
 refine b4 (fun δ=>δ=[.ow true [.int n],.pu (.int M),.pu (.int way),.pu (.int Z),.ow false (hs.map hD),x5,x6,x7,x8,.ow false (lD (List.range Z)),.un]) ?_ ?_
 .have:(Z:Int) < 100000:=by omega
  simp [mj,this,jH]
 rintro _ rfl
 refine b4 (fun δ=>∃(n:Int) (ls os:List Nat),δ=[.ow true [.int n],.pu (.int M),.pu (.int way),.pu (.int Z),.ow false (hs.map hD),x5,x6,x7,x8,.ow false (lD ls),.pu (.lst (lD os))]∧os.length=Z∧∀o ∈ os,o < Z) ?_ ?_
 .simp only [dt,bf,bg]
  refine ft (cq 0 Z) (fun k acc δ=>∃(n:Int) (ls os:List Nat),acc=lD os∧δ=[.ow true [.int n],.pu (.int M),.pu (.int way),.pu (.int Z),.ow false (hs.map hD),x5,x6,x7,x8,.ow false (lD ls),.un]∧os.length=k∧ls.length + k=Z∧(∀o ∈ os,o < Z)∧∀o ∈ ls,o < Z) rfl ?_ (by simp [cq];omega) ⟨n,List.range Z,[],rfl,rfl,rfl,by simp,by simp,by simp⟩ ?_ ?_
  .simp [ju,sZ]
  .rintro k hk acc _ ha hl ⟨n,ls,os,rfl,rfl,h1,h2,h3,h4⟩
   have hk':k < Z:=by simpa [cq] using hk
   have hpos:0 < ls.length:=by omega
   have et:=cw n ls.length (by omega) (by omega)
   have g1:=YC n (show (ls.length:Int) ≠ 0 by omega)
   have g2:=VS n (show (0:Int) < ls.length by omega)
   obtain ⟨j,hj⟩:∃j:Nat,n % (ls.length:Int)=(j:Int):=⟨(n % (ls.length:Int)).toNat,by omega⟩
   have hlt:j < ls.length:=by omega
   rw [hj] at et
   have ll:(lD ls).length=ls.length:=by simp [lD]
   rw [ik]
   simp only [dI,cx,bg]
   refine ⟨by simp,?_⟩
   simp only [YM]
   refine oM ⟨_,_,rfl⟩ ?_
   simp [-Prod.exists,ll,et]
   refine ⟨j,rfl,by omega,.int (ls[j]:Int),by simp [lD,hlt],_,ls.eraseIdx j,os ++ [ls[j]],by simp [lD],⟨rfl,jO _ ls j⟩,by simp [h1],?_,?_,fun o ho=>h4 o (List.mem_of_mem_eraseIdx ho)⟩
   .rw [Y4,gL hlt];omega
   .intro o ho
    rcases uT.mp ho with ho | ho
    .exact h3 o ho
    .rw [jP.mp ho];exact h4 _ (QH hlt)
  .rintro xs _ hx hl ⟨n,ls,os,rfl,rfl,h1,h2,h3,h4⟩
   have:(cq 0 Z).length=Z:=by simp [cq]
   exact ⟨by simp,trivial,n,ls,os,rfl,by omega,h3⟩
 rintro _ ⟨n,ls,os,rfl,h1,h3⟩
 simp
 refine bu os (fun (k:Nat)=>.int (k:Int)) (fun k=>some (hD (G hs k))) rfl ?_ (by omega) (fun k hk=>?_) ?_
 .simp [ck,lD]
 .have hlt:k < hs.length:=by have:=h3 k hk;omega
  have:j9 (.lst (hs.map hD)) (.int (k:Int))=some (hD (G hs k)):=iX hlt
  simp [this]
 .simp [cV,fW,ZR]
  refine ⟨_,_,rfl,rfl,M,os.map (G hs),n,by simp [bA],rfl,by simp;omega,by simp;omega,by omega,?_⟩
  intro h hh
  obtain ⟨k,hk,rfl⟩:=gE.mp hh
  have hlt:k < hs.length:=by have:=h3 k hk;omega
  have:G hs k ∈ hs:=by simp [G,hlt]
  exact hw _ this
end
section
theorem Lh (h w:List Int) (hw:w.length ≤ 100):bP u4 nJ [hD h,hD w]=some (.bl (w.all fun c=>decide (c ∈ h))):= by
 apply bx
 show Ok nJ [.pu (hD h),.pu (hD w)] _
 dsimp only [nJ,l5]
 simp
 refine bu w .int (fun c=>some (.bl (decide (c ∈ h)))) rfl ?_ (by omega) (fun c _=>?_) ?_
 .simp [gW]
 .simp [fI]
 .simp [o4,cB,ZR]
theorem Cn (m:Int) (hs:List (List Int)) (hn:hs.length ≤ 6):bP AB wY [bA m hs]=some (.tup (lD (List.range hs.length))):= by
 apply bx
 show Ok wY [.pu (bA m hs)] _
 dsimp only [wY,k_]
 have h1:(hs.length:Int) < 100000:=by omega
 simp [cP,eD,mj,h1,jH]
variable {hs:List (List Int)} {ls:List Nat} {x:D}
theorem LX (F:Bw hs ls x) (m:Int) {n:Nat} (hn:n < hs.length):bP p7 zH [bA m hs,x,.int n]=some (hD (shared hs ls n)):= by
 apply bx
 show Ok zH [.pu (bA m hs),.pu x,.pu (.int n),.un,.un] _
 dsimp only [zH,qK]
 simp [cP]
 refine bu ls (fun (i:Nat)=>.int (i:Int)) (fun i=>if decide (i ≠ n)=true then some (hD (G hs i)) else none) rfl ?_ (by have:=F.ln;omega) (fun i hi=>?_) ?_
 .simp [F.x,lD]
 .have:=F.lt i hi
  by_cases e:i=n <;> simp [d5,iX,this,e]
 rw [bJ]
 simp [iX,hn]
 refine bu (G hs n) .int (fun c=>if (ls.any fun o=>decide (o ≠ n) && decide (c ∈ G hs o))=true then some (.int c) else none) rfl ?_ (by have:=F.g n;omega) (fun c hc=>?_) ?_
 .simp [iX,hn,gW]
 .simp
  refine bu (ls.filter fun i=>decide (i ≠ n)) (fun i=>hD (G hs i)) (fun o=>some (.bl (decide (c ∈ G hs o)))) rfl ?_ (by have:=F.ln;have:=QX (fun i=>decide (i ≠ n)) ls;omega) (fun i hi=>?_) ?_
  .simp [ck]
  .simp [fI]
  .simp [t9,cB,ZR,c_]
 .rw [bJ]
  simp [cV,fW,hD,shared]
theorem zG (F:Bw hs ls x) (m:Int) {n:Nat} (hn:n < hs.length):ip yU zh [bA m hs,x,.int n]=some (lD (holders hs ls n)):= by
 apply kh
 show Ok zh [.pu (bA m hs),.pu x,.pu (.int n),.un,.un] _
 dsimp only [zh,kN]
 simp [cP,bF,LX F m hn]
 refine bu ls (fun (i:Nat)=>.int (i:Int)) (fun o=>if (decide (o ≠ n) && (shared hs ls n).all fun c=>decide (c ∈ G hs o))=true then some (.int (o:Int)) else none) rfl ?_ (by have:=F.ln;omega) (fun i hi=>?_) ?_
 .simp [F.x,lD]
 .have:=F.lt i hi
  by_cases e:i=n
  .simp [d5,e]
  .simp [d5,e,iX,this,bF,Lh _ _ (um F n),c_]
 .rw [bJ]
  simp [lD,holders]
theorem Mc (F:Bw hs ls x) (m:Int):ip zl vZ [bA m hs,x]=some (je (holders hs ls) ls):= by
 apply kh
 show Ok vZ [.pu (bA m hs),.pu x,.un,.un,.un] _
 dsimp only [vZ,p9]
 simp [F.x]
 refine uk (lD ls) (fun k δ=>∃a b,δ=[.pu (bA m hs),.pu x,.ow false (je (holders hs ls) (ls.take k)),a,b]) ?_ (fun k hk δ hI=>?_) (fun δ hI=>?_)
 .exact ⟨.un,.un,rfl⟩
 .obtain ⟨a,b,rfl⟩:=hI
  have hk':k < ls.length:=by simpa [lD] using hk
  have hl:ls[k] < hs.length:=F.lt _ (QH hk')
  have e1:(lD ls)[k]=.int (ls[k]:Int):=by simp [lD]
  rw [e1]
  simp [bF,zG F m hl,c_]
  cases q:holders hs ls ls[k] with
  | nil=>
   rw [gL (by simp [lD])]
   rw [kH _ hk',q]
   simp
  | cons o r=>
   rw [QC (by simp [lD])]
   refine eY ⟨_,_,rfl⟩ ?_
   simp [lD,j9,jw,rH]
   have:(je (holders hs ls) (ls.take k)).length ≤ 100000:= by
    have h1:=yj (holders hs ls) (ls.take k)
    have h2:=F.ln
    rw [ZT] at h1
    omega
   refine ⟨this,?_⟩
   rw [kH _ hk',q]
   simp
 .obtain ⟨a,b,rfl⟩:=hI
  simp [lD]
end
section
variable {ls:List Nat}
theorem Hg {x:D} (hx:ck x=some (bz (lD ls))) (hl:ls.length ≤ 6) (a:Nat):bP y0 ze [x,.int a]=some (.tup (lD (ls.filter fun i=>decide (i ≠ a)))):= by
 apply bx
 show Ok ze [.pu x,.pu (.int a)] _
 dsimp only [ze,m8]
 simp
 refine bu ls (fun (i:Nat)=>.int (i:Int)) (fun i=>if decide (i ≠ a)=true then some (.int (i:Int)) else none) rfl ?_ (by omega) (fun i hi=>?_) ?_
 .simp [hx,lD]
 .by_cases e:i=a <;> simp [d5,e]
 .rw [bJ]
  simp [cV,fW,lD]
theorem Hz (neg:Bool) (a:Nat) (ls:List Nat):sD neg (.int (a:Int)) (.lst (lD ls))=some (.bl (if neg then !decide (a ∈ ls) else decide (a ∈ ls))):= by
 have e:lD ls=(ls.map fun (i:Nat)=>(i:Int)).map D.int:=by simp [lD]
 have:=fI neg (a:Int) (ls.map fun (i:Nat)=>(i:Int))
 rw [e,show ∀xs:List D,sD neg (.int (a:Int)) (.lst xs)=sD neg (.int (a:Int)) (.tup xs) from fun _=>rfl]
 rw [show D.tup ((ls.map fun (i:Nat)=>(i:Int)).map D.int)=hD (ls.map fun (i:Nat)=>(i:Int)) from rfl,this]
 have:((a:Int) ∈ ls.map fun (i:Nat)=>(i:Int)) ↔ a ∈ ls:= by
  simp only [gE]
  constructor
  .rintro ⟨b,hb,e⟩
   have:b=a:=by omega
   exact this ▸ hb
  .exact fun h=>⟨a,h,rfl⟩
 simp only [this]
theorem LH (neg:Bool) (a:Nat) (ls:List Nat):sD neg (.int (a:Int)) (.tup (lD ls))=some (.bl (if neg then !decide (a ∈ ls) else decide (a ∈ ls))):=Hz neg a ls
end
section
variable {hs:List (List Int)} {ls:List Nat}
noncomputable def isInt:D->Bool
 | .int _=>true
 | _=>false
noncomputable def dE (n:Int):D->Bool
 | .int i=>decide (0 ≤ i) && decide (i < n)
 | _=>false
theorem zJ (x:D):bP HA AF [x]=some (.bl (isInt x)):= by
 apply bx
 show Ok AF [.pu x] _
 dsimp only [AF,rT]
 cases x <;> simp [b8,n8,isInt]
theorem zp (x:D) (n:Int):bP AQ w4 [x,.int n]=some (.bl (dE n x)):= by
 apply bx
 show Ok w4 [.pu x,.pu (.int n)] _
 dsimp only [w4,lZ]
 cases x with
 | int i=>
  by_cases h:0 ≤ i
  .simp [bF,zJ,isInt,dE,N_,JB,c9,h]
  .simp [bF,zJ,isInt,dE,N_,JB,c9,h]
 | _=>simp [bF,zJ,isInt,dE]
noncomputable def f7 (n:Int):D->Bool
 | .tup xs=>xs.all (dE n)
 | _=>false
noncomputable def Short (x:D):Prop:=∀xs,x=.tup xs->xs.length ≤ 60
theorem uQ {x:D} (n:Int) (h:Short x):bP A4 zI [x,.int n]=some (.bl (f7 n x)):= by
 apply bx
 show Ok zI [.pu x,.pu (.int n)] _
 dsimp only [zI,nH]
 cases x with
 | tup xs=>
  have hl:=h xs rfl
  simp [b8,n8]
  refine bu xs id (fun x=>some (.bl (dE n x))) rfl ?_ (by omega) (fun x hx=>?_) ?_
  .simp [ck]
  .simp [bF,zp]
  .simp [o4,cB,ZR,f7,ZP]
 | _=>simp [b8,n8,f7]
theorem iZ {n:Nat}:∀{xs:List D},xs.all (dE n)=true->∃ls:List Nat,xs=lD ls∧∀i ∈ ls,i < n
 | [],_=>⟨[],rfl,by simp⟩
 | x :: xs,h=>by
  simp only [WR,QI] at h
  obtain ⟨ls,rfl,hl⟩:=iZ h.2
  cases x with
  | int i=>
   simp only [dE,QI,QD] at h
   refine ⟨i.toNat :: ls,?_,?_⟩
   .simp [lD];omega
   .intro j hj
    rcases uS.mp hj with rfl | hj
    .omega
    .exact hl j hj
  | _=>simp [dE] at h
noncomputable def jK (n:Int) (d:D):Bool:=f7 n d && match d with
 | .tup [_,_]=>true
 | _=>false
theorem Og {x:D} (n:Int) (h:Short x):bP Lq Ju [x,.int n]=some (.bl (jK n x)):= by
 apply bx
 show Ok Ju [.pu x,.pu (.int n)] _
 dsimp only [Ju,zu]
 have e:=uQ n h
 cases q:f7 n x with
 | false=>
  rw [q] at e
  have:jK n x=false:=by unfold jK;rw [q];rfl
  rw [this]
  simp [bF,e]
 | true=>
  rw [q] at e
  cases x with
  | tup xs=>
   have:jK n (.tup xs)=decide (xs.length=2):= by
    unfold jK
    rw [q,Bool.true_and]
    match xs with
    | []=>rfl
    | [_]=>rfl
    | [_,_]=>rfl
    | _ :: _ :: _ :: r=>simp
   rw [this]
   have el:eD [.tup xs]=some (.int (xs.length:Int)):=by simp [eD]
   have eq:fe false (.int (xs.length:Int)) (.int 2)=some (.bl (decide (xs.length=2))):= by
    rw [eG]
    simp only [ZD,YQ]
    rw [JP.mpr (show ((xs.length:Int)=2) ↔ xs.length=2 by omega)]
   generalize decide (xs.length=2)=b at *
   simp [bF,e,el,eq]
  | _=>simp [f7] at q
noncomputable def gk (hs:List (List Int)) (ls:List Nat):D->Bool
 | .tup [.int a,.int b]=>(decide (0 ≤ a) && (decide (a < hs.length) && (decide (0 ≤ b) && decide (b < hs.length)))) && (decide (a.toNat ∈ ls) && decide (b.toNat ∈ holders hs ls a.toNat))
 | _=>false
noncomputable def lr:D->Nat
 | .tup (.int a :: _)=>a.toNat
 | _=>0
theorem AI {n:Nat} {d:D} (h:jK n d=true):∃a b:Nat,d=pD (a,b)∧a < n∧b < n:= by
 unfold jK at h
 cases d with
 | tup xs=>
  obtain ⟨h1,h2⟩:=XI.mp h
  obtain ⟨ls,rfl,hl⟩:=iZ (n:=n) h1
  match ls,h2,hl with
  | [a,b],_,hl=>exact ⟨a,b,rfl,hl a (by simp),hl b (by simp)⟩
  | [],h2,_=>cases h2
  | [_],h2,_=>cases h2
  | _ :: _ :: _ :: _,h2,_=>cases h2
 | _=>simp [f7] at h
theorem jE (a b:Nat) (ha:a < hs.length) (hb:b < hs.length):gk hs ls (pD (a,b))=(decide (a ∈ ls) && decide (b ∈ holders hs ls a)):= by
 show ((decide (0 ≤ (a:Int)) && (decide ((a:Int) < hs.length) && (decide (0 ≤ (b:Int)) && decide ((b:Int) < hs.length)))) && (decide ((a:Int).toNat ∈ ls) && decide ((b:Int).toNat ∈ holders hs ls (a:Int).toNat)))=_
 rw [QK (show 0 ≤ (a:Int) by omega),QK (show (a:Int) < hs.length by omega),QK (show 0 ≤ (b:Int) by omega),QK (show (b:Int) < hs.length by omega),Y1,Y1]
 rfl
theorem qI {d:D} (h:gk hs ls d=true):∃a b:Nat,d=pD (a,b)∧a < hs.length∧b < hs.length∧a ∈ ls∧b ∈ holders hs ls a:= by
 unfold gk at h
 split at h
 .rename_i a b
  simp only [QI,QD] at h
  obtain ⟨⟨h1,h2,h3,h4⟩,h5,h6⟩:=h
  refine ⟨a.toNat,b.toNat,?_,by omega,by omega,h5,h6⟩
  show _=D.tup [.int (a.toNat:Int),.int (b.toNat:Int)]
  rw [WL h1,WL h3]
 .cases h
theorem pz {d:D} (h:jK hs.length d=false):gk hs ls d=false:= by
 cases q:gk hs ls d with
 | false=>rfl
 | true=>
  obtain ⟨a,b,rfl,ha,hb,_,_⟩:=qI q
  have:jK hs.length (pD (a,b))=true:= by
   show (((decide (0 ≤ (a:Int)) && decide ((a:Int) < hs.length)) && ((decide (0 ≤ (b:Int)) && decide ((b:Int) < hs.length)) && true)) && true)=true
   rw [QK (show 0 ≤ (a:Int) by omega),QK (show (a:Int) < hs.length by omega),QK (show 0 ≤ (b:Int) by omega),QK (show (b:Int) < hs.length by omega)]
   rfl
  rw [this] at h
  cases h
theorem LU (F:Fn hs ls) (m:Int) {d:D} (h:Short d):bP Hs Ag [bA m hs,.tup (lD ls),d]=some (.bl (gk hs ls d)):= by
 apply bx
 show Ok Ag [.pu (bA m hs),.pu (.tup (lD ls)),.pu d,.un,.un] _
 dsimp only [Ag,qZ]
 have e:=Og hs.length h
 have e1:=cP m hs
 have en:eD [.tup (hs.map hD)]=some (.int (hs.length:Int)):=by simp [eD]
 have eh:=fun (a:Nat) (ha:a < hs.length)=>zG (F.fit (x:=.tup (lD ls)) rfl) m ha
 generalize bA m hs=lay at *
 generalize hs.map hD=hd at *
 refine dq (!jK hs.length d) ?_ (fun hb=>?_) (fun hb=>?_)
 .generalize jK hs.length d=b at *
  simp [bF,e1,en,e,c_]
 .have:jK hs.length d=false:=by simpa using hb
  rw [pz this]
  simp
 .have:jK hs.length d=true:=by simpa using hb
  obtain ⟨a,b,rfl,ha,hb'⟩:=AI this
  rw [jE a b ha hb']
  have i1:=LH false a ls
  have i2:=Hz false b (holders hs ls a)
  simp only [ZD,YQ] at i1 i2
  have eh:=eh a ha
  by_cases q:a ∈ ls
  .rw [QK q] at i1 ⊢
   generalize decide (b ∈ holders hs ls a)=bb at *
   simp [pD,iC,f9,jY,bF,i1,eh,i2]
  .rw [Z3 q] at i1 ⊢
   simp [pD,iC,f9,jY,i1]
end
section
variable {hs:List (List Int)} {ls:List Nat}
noncomputable def sk (hs:List (List Int)):List D->List Nat->Option (List Nat)
 | [],ls=>some ls
 | d :: r,ls=>if gk hs ls d=true then sk hs r (ls.filter fun i=>decide (i ≠ lr d)) else none
theorem kX (d:D) (r:List D):sk hs (d :: r) ls=if gk hs ls d=true then sk hs r (ls.filter fun i=>decide (i ≠ lr d)) else none:=rfl
noncomputable def qw:Option (List Nat)->D
 | none=>.non
 | some ls=>.tup (lD ls)
noncomputable def gV (hs:List (List Int)):D->D
 | .lst xs=>qw (sk hs xs (List.range hs.length))
 | _=>.non
noncomputable def MH (x:D):Prop:=∀xs,x=.lst xs->xs.length ≤ 60∧∀d ∈ xs,Short d
theorem Fn.step (F:Fn hs ls) {a b:Nat} (ha:a ∈ ls) (hb:b ∈ holders hs ls a):Fn hs (ls.filter fun i=>decide (i ≠ a)):= by
 obtain ⟨b1,b2⟩:=fu hb
 have hlt:=lR ha
 refine ⟨F.n,by have:=F.ln;omega,fun i hi=>F.lt i (wR.mp hi).1,F.w,F.nd.filter _,ZX (wR.mpr ⟨b1,by simpa using b2⟩)⟩
theorem G7 (m:Int) (F0:Fn hs (List.range hs.length)) {x:D} (hx:MH x):bP GG B2 [bA m hs,x]=some (gV hs x):= by
 apply bx
 show Ok B2 [.pu (bA m hs),.pu x,.un,.un] _
 dsimp only [B2,mM]
 cases x with
 | lst xs=>
  obtain ⟨hl,hsh⟩:=hx xs rfl
  have ea:=Cn m hs F0.n
  have es:=fun (ls:List Nat) (F:Fn hs ls) (d:D) (h:Short d)=>LU F m h
  rw [show gV hs (.lst xs)=qw (sk hs xs (List.range hs.length)) from rfl]
  generalize bA m hs=lay at *
  refine dq false (by simp [b8,n8,c_]) (fun h=>by cases h) fun _=>?_
  refine b4 (fun δ=>δ=[.pu lay,.pu (.lst xs),.pu (.tup (lD (List.range hs.length))),.un]) (by simp [bF,ea]) ?_
  rintro _ rfl
  rw [cy]
  refine nT xs (fun k δ=>∃(ls:List Nat) (a3:Jt.Slot),δ=[.pu lay,.pu (.lst xs),.pu (.tup (lD ls)),a3]∧Fn hs ls∧sk hs (xs.drop k) ls=sk hs xs (List.range hs.length)) (by simp [ck]) ⟨_,_,rfl,F0,rfl⟩ ?_ ?_
  .rintro k hk _ ⟨ls,a3,rfl,F,hg⟩
   rw [cx]
   refine ⟨by simp,?_⟩
   simp only [VC,VD]
   have hd:=hsh xs[k] (QH hk)
   have e:=es ls F xs[k] hd
   rw [QG hk] at hg
   rw [kX] at hg
   generalize hdk:xs[k]=d at *
   refine dq (!gk hs ls d) ?_ (fun hb=>?_) (fun hb=>?_)
   .generalize gk hs ls d=b at *
    simp [bF,e,c_]
   .have hb:gk hs ls d=false:=by simpa using hb
    rw [QC (by rw [hb];exact fN)] at hg
    rw [<- hg]
    simp [qw]
   .have hb:gk hs ls d=true:=by simpa using hb
    rw [gL hb] at hg
    obtain ⟨a,b,rfl,ha,hb',hal,hbh⟩:=qI hb
    have e0:j9 (pD (a,b)) (.int 0)=some (.int (a:Int)):=rfl
    have eb:=Hg (x:=.tup (lD ls)) rfl F.ln a
    have ee:lr (pD (a,b))=a:=Y1 a
    rw [ee] at hg
    generalize pD (a,b)=d at *
    simp [bF,e0,eb]
    exact ⟨ls.filter fun i=>decide (i ≠ a),by simp,F.step hal hbh,hg⟩
  .rintro _ ⟨ls,a3,rfl,F,hg⟩
   rw [ZU] at hg
   rw [<- hg]
   simp [sk,qw]
 | _=>simp [b8,n8,c_,gV]
noncomputable def pk:D->Bool
 | .non=>false
 | _=>true
theorem LR (m:Int) (F0:Fn hs (List.range hs.length)) {x:D} (hx:MH x):bP Ba u2 [bA m hs,x]=some (.bl (pk (gV hs x))):= by
 apply bx
 show Ok u2 [.pu (bA m hs),.pu x] _
 dsimp only [u2,qo]
 have e:=G7 m F0 hx
 have hn:lB true (gV hs x) .non=some (.bl (pk (gV hs x))):= by
  cases x with
  | lst xs=>
   show lB true (qw (sk hs xs (List.range hs.length))) .non=some (.bl (pk (qw (sk hs xs (List.range hs.length)))))
   cases sk hs xs (List.range hs.length) <;> rfl
  | _=>rfl
 generalize (pk (gV hs x))=bb at *
 generalize gV hs x=ld at *
 simp [bF,e,hn]
end
section
variable {hs:List (List Int)} {ls:List Nat}
theorem Lu (m:Int) (F0:Fn hs (List.range hs.length)):ip GD yN [bA m hs]=some ((ni hs hs.length (List.range hs.length)).1.map pD):= by
 apply kh
 show Ok yN [.pu (bA m hs),.un,.un,.un] _
 dsimp only [yN,qW]
 have ea:∀ls,Fn hs ls->ip zl vZ [bA m hs,.tup (lD ls)]=some ((eO hs ls).map pD):=fun ls F=>by
  rw [Mc (F.fit rfl) m,Cz]
 simp [bF,Cn m hs F0.n,ea _ F0]
 refine u9 (fun k δ=>∃(ls:List Nat) (done:List (Nat × Nat)),δ=[.pu (bA m hs),.pu (.tup (lD ls)),.ow false (done.map pD),.pu (.lst ((eO hs ls).map pD))]∧Fn hs ls∧ls.length ≤ k∧done.length + k ≤ 6∧done ++ (ni hs k ls).1=(ni hs hs.length (List.range hs.length)).1) ?_ 8 hs.length _ (by have:=F0.n;omega) ?_
 .rintro k _ ⟨ls,done,rfl,F,hl,hd,hg⟩
  cases q:eO hs ls with
  | nil=>
   rw [oA q] at hg
   simp [c_]
   simpa using Z6 (List.map pD) hg
  | cons p r=>
   obtain ⟨h1,h2⟩:=ka q
   have hlt:=lR h1
   cases k with
   | zero=>omega
   | succ k=>
    rw [lu q] at hg
    have eb:=Hg (ls:=ls) (x:=.tup (lD ls)) rfl F.ln p.1
    have e0:j9 (.lst (pD p :: r.map pD)) (.int 0)=some (pD p):=by simp [j9,jw,rH]
    have ei:j9 (pD p) (.int 0)=some (.int (p.1:Int)):=rfl
    simp [c_]
    refine eY ⟨_,_,rfl⟩ ?_
    have hd3:done.length ≤ 100000:=by omega
    simp [e0,hd3,ei,bF,eb,ea _ (F.next q)]
    have ea':=ea _ (F.next q)
    simp at ea'
    simp [ea']
    refine ⟨ls.filter fun i=>decide (i ≠ p.1),done ++ [p],by simp,F.next q,by omega,by simp;omega,by simpa using hg⟩
 .exact ⟨List.range hs.length,[],rfl,F0,by simp,by have:=F0.n;simpa using this,by simp⟩
end
section
variable {ls:List Nat}
theorem zV (n:Nat):∀(a b:List Int),dy.go (n + 1) (a.map D.int) (b.map D.int)=some (decide (a.take b.length=b.take a.length)):= by
 intro a
 induction a with
 | nil=>intro b;cases b <;> simp [dy.go]
 | cons x r ih=>
  intro b
  cases b with
  | nil=>simp [dy.go]
  | cons y t=>
   by_cases e:x=y
   .subst e
    simp [dy.go,dy,flat,x4,ih]
   .simp [dy.go,dy,flat,x4,e,ih]
theorem da (ls:List Nat):(lD ls).length=ls.length:=by simp [lD]
end
section
theorem sY:∀(hs:List (List Int)) (n:Nat),iU n (hs.map hD)=(List.range hs.length).map fun (i:Nat)=>.tup [.int ((n + i:Nat):Int),hD (G hs i)]:= by
 intro hs
 induction hs with
 | nil=>intro n;rfl
 | cons h r ih=>
  intro n
  show D.tup [.int (n:Int),hD h] :: iU (n + 1) (r.map hD)=_
  rw [ih,gT,YU,QW,ZI]
  congr 1
  refine ZM fun i _=>?_
  simp [G,Function.comp]
  omega
theorem n_ (neg:Bool) (k:Nat) (ls:List Nat):sD neg (.int (k:Int)) (.tup (lD ls))=some (.bl (if neg then !decide (k ∈ ls) else decide (k ∈ ls))):= by
 have:lD ls=(ls.map fun (i:Nat)=>(i:Int)).map .int:=by simp [lD]
 have e:=fI neg k (ls.map fun (i:Nat)=>(i:Int))
 unfold hD at e
 rw [this,e]
 have:((k:Int) ∈ ls.map fun (i:Nat)=>(i:Int))=(k ∈ ls):= by
  refine propext ⟨fun h=>?_,fun h=>gE.mpr ⟨k,h,rfl⟩⟩
  obtain ⟨i,hi,e⟩:=gE.mp h
  rw [<- YI.mp e];exact hi
 simp only [this]
end
section
variable {n:Nat}
theorem zM:∀(n:Nat) (ls:List Nat),ls.Nodup->(∀i ∈ ls,i < n)->ls.length ≤ n
 | 0,[],_,_=>wF _
 | 0,a :: r,_,h=>absurd (h a xS) (YW a)
 | n + 1,ls,hn,h=>by
  have h1:=zM n (ls.erase n) (hn.erase n) fun i hi=>by
   have:=(hn.mem_erase_iff).mp hi
   have:=h i this.2
   omega
  rw [List.length_erase] at h1
  split at h1 <;> omega
end
section
variable {hs:List (List Int)} {ls:List Nat}
theorem eG (neg:Bool) (a b:Int):fe neg (.int a) (.int b)=some (.bl (if neg then !decide (a=b) else decide (a=b))):= by
 simp [fe,flat,j8]
theorem il (neg:Bool) (a b:Bool):fe neg (.bl a) (.bl b)=some (.bl (if neg then !decide (a=b) else decide (a=b))):= by
 cases a <;> cases b <;> cases neg <;> rfl
theorem CM {n:Nat} (ls:List Nat):(lD ls).all (dE n)=ls.all fun i=>decide (i < n):= by
 unfold lD
 rw [XO]
 refine List.all_congr rfl fun i=>?_
 simp [dE]
theorem nh:∀l:List Int,(gq l).length=l.length ↔ l.Nodup
 | []=>by simp [gq]
 | x :: r=>by
  have h1:=vf r
  unfold gq
  rw [ZC,<- nh r]
  split
  .rename_i h
   rw [dJ] at h
   constructor
   .intro e;rw [gT] at e;omega
   .exact fun q=>absurd h q.1
  .rename_i h
   rw [dJ] at h
   simp [h]
theorem p8 {ls:List Nat}:(ls.map fun (i:Nat)=>(i:Int)).Nodup ↔ ls.Nodup:= by
 constructor
 .intro h
  exact List.Pairwise.of_map (S:=(· ≠ ·)) _ (fun a b hab e=>hab (by rw [e])) h
 .intro h
  exact List.Pairwise.map _ (fun a b hab e=>hab (YI.mp e)) h
theorem lz (ls:List Nat):dF (lD ls)=some (ls.map fun (i:Nat)=>(i:Int)):= by
 have:lD ls=(ls.map fun (i:Nat)=>(i:Int)).map .int:=by simp [lD]
 rw [this,eK]
theorem MU (ls:List Nat) (h:ls.length ≤ 60):bP GZ CP [.tup (lD ls)]=some (.bl (decide ls.Nodup)):= by
 apply bx
 show Ok CP [.pu (.tup (lD ls))] _
 dsimp only [CP,rA]
 have h2:ls.length < 4000:=by omega
 have e:((gq (ls.map fun (i:Nat)=>(i:Int))).length=ls.length)=ls.Nodup:= by
  have:=nh (ls.map fun (i:Nat)=>(i:Int))
  rw [fD] at this
  exact propext (this.trans p8)
 simp only [bf,iH,Au,cY,eR,b6,bg,Q7,ZZ,Jt.Slot.pu.injEq,VA]
 simp [fW,tE,lz,h2,eD,eG,il]
 rw [show (lD ls).length=ls.length by simp [lD]]
 simp only [Int.natCast_inj,show ∀a b:Nat,((a:Int)=(b:Int))=(a=b) from fun a b=>propext YI,e]
noncomputable def Good (n:Nat) (ls:List Nat):Prop:=ls.length=n∧ls.Nodup∧∀i ∈ ls,i < n
theorem pA {ls ls':List Nat} (e:lD ls=lD ls'):ls=ls':= by
 have:=Z6 dF e
 rw [lz,lz] at this
 exact List.map_inj_right (fun a b q=>YI.mp q) |>.mp (Q9 this)
theorem J8 {x:D} (n:Nat) (h:Short x):∃b,bP L7 tq [x,.int n]=some (.bl b)∧(b=true ↔ ∃ls,x=.tup (lD ls)∧Good n ls):= by
 cases hb:f7 n x with
 | false=>
  refine ⟨false,bx ?_,?_⟩
  .show Ok tq [.pu x,.pu (.int n)] _
   dsimp only [tq,o_]
   simp [bF,uQ _ h,hb]
  .simp only [ZD,false_iff]
   rintro ⟨ls,rfl,_,_,h3⟩
   rw [f7,CM] at hb
   rw [List.all_eq_false] at hb
   obtain ⟨i,hi,hi2⟩:=hb
   exact hi2 (QK (h3 i hi))
 | true=>
  cases x with
  | tup xs=>
   obtain ⟨ls,rfl,hl⟩:=iZ hb
   have hlen:ls.length ≤ 60:=by simpa [lD] using h _ rfl
   have ei:((ls.length:Int)=(n:Int))=(ls.length=n):=propext YI
   by_cases q:ls.length=n
   .refine ⟨decide ls.Nodup,bx ?_,?_⟩
    .show Ok tq [.pu (.tup (lD ls)),.pu (.int n)] _
     dsimp only [tq,o_]
     simp [bF,uQ _ h,hb,eD,eG,il,q,MU _ hlen,da]
    .rw [QD]
     constructor
     .intro hn;exact ⟨ls,rfl,q,hn,hl⟩
     .rintro ⟨ls',e,_,h2,_⟩
      rw [pA (D.tup.inj e)];exact h2
   .refine ⟨false,bx ?_,?_⟩
    .show Ok tq [.pu (.tup (lD ls)),.pu (.int n)] _
     dsimp only [tq,o_]
     simp only [bf,vX,eR,b6,cY,bg,iH,Q7,ZL,ZZ,Jt.Slot.pu.injEq,VA]
     simp [bF,uQ _ h,hb,eD,eG,il,da,ei,q]
    .simp only [ZD,false_iff]
     rintro ⟨ls',e,h1,_⟩
     rw [<- pA (D.tup.inj e)] at h1
     exact q h1
  | _=>cases hb
noncomputable def pl (os:List Nat) (c:Int):Int:=((os.idxOf c.toNat:Nat):Int)
variable {M:Nat} {os:List Nat}
theorem gK (h:Good M os) {c:Nat} (hc:c < M):c ∈ os:= by
 obtain ⟨h1,h2,h3⟩:=h
 refine Z5 fun q=>?_
 have:=zM M (c :: os) (ZC.mpr ⟨q,h2⟩) fun i hi=>by
  rcases uS.mp hi with rfl | hi
  .exact hc
  .exact h3 i hi
 rw [gT] at this
 omega
theorem oy (h:Good M os) {c:Nat} (hc:c < M):∃q:os.idxOf c < os.length,os[os.idxOf c]=c:=⟨List.idxOf_lt_length_iff.mpr (gK h hc),List.getElem_idxOf _⟩
theorem vh (h:Good M os) {a b:Nat} (ha:a < M) (hb:b < M) (e:os.idxOf a=os.idxOf b):a=b:= by
 obtain ⟨q1,e1⟩:=oy h ha
 obtain ⟨q2,e2⟩:=oy h hb
 rw [<- e1,<- e2]
 simp only [e]
theorem J_ (h:Good M os) {a b:Int} (ha:0 ≤ a∧a < M) (hb:0 ≤ b∧b < M) (e:pl os a=pl os b):a=b:= by
 have:=vh h (a:=a.toNat) (b:=b.toNat) (by omega) (by omega) (by unfold pl at e;omega)
 omega
noncomputable def nm (os:List Nat) (hs:List (List Int)):List (List Int):=hs.map fun h=>cW (h.map (pl os))
theorem kR {a:Nat} (ha:a < hs.length):G hs a ∈ hs:= by
 have:G hs a=hs[a]:=by simp [G,ha]
 rw [this];exact QH ha
theorem OZ {a:Nat} (ha:a < hs.length):G (nm os hs) a=cW ((G hs a).map (pl os)):=by simp [G,nm,ha]
end
section
variable {hs:List (List Int)} {ls os:List Nat} {M:Nat}
theorem z6 {α:Type} {lo own:Nat} {δ:DS} {fi:Jt.M iW} {turn:D->Jt.M (Option (Int × Int))} {Q:D->DS->Prop} (as:List α) (e:α->D) (g:α->Option (Int × Int)) (hl:δ.length=lo) (hi:Ok fi δ fun it δ'=>it=bz (as.map e)∧δ' = δ) (hn:as.length ≤ 100000)
  (ht:∀a ∈ as,Ok (turn (e a)) (δ ++ List.replicate own .un) fun o δ2=>o=g a∧δ2.take lo=δ) (hQ:Q (.dic (as.foldl (fun acc a=>Gq acc (g a)) [])) δ):Ok (ot lo own fi turn) δ Q:= by
 have gen:∀(es:List α) (acc:List (Int × Int)),(∀d ∈ es,d ∈ as)->gU own turn (fun _=>true) (bz (es.map e)).1 acc δ=some (es.foldl (fun acc a=>Gq acc (g a)) acc,δ):= by
  intro es
  induction es with
  | nil=>intro acc _;rfl
  | cons d es ih=>
   intro acc hs
   obtain ⟨o,δ2,e1,e0,e2⟩:=ht d (hs d xS)
   show gU own turn (fun _=>true) ((fun _=>some (e d)) :: (bz (es.map e)).1) acc δ=_
   unfold gU
   dsimp only
   rw [e1]
   dsimp only
   rw [hl,e2,ih _ fun x hx=>hs x (wV _ hx),e0]
   rfl
 unfold ot
 simp only [bf]
 refine ⟨(),δ,by unfold gB;rw [gL hl],hi.mono fun it δ' ⟨e1,e2⟩=>?_⟩
 subst e1;subst e2
 refine eS.mpr ⟨by simpa [bz] using hn,_,δ',gen as [] fun _ h=>h,?_⟩
 exact bg.mpr hQ
theorem ux (ns:List Int) (h:ns.length ≤ 60):sortI (ns.map .int)=some ((cW ns).map .int):= by
 unfold sortI
 rw [eK]
 exact gL (by omega)
theorem KH {places:D} {pf:Int->Int} (hp:∀h ∈ hs,∀c ∈ h,iq places (.int c)=some (.int (pf c))) (h6:hs.length ≤ 6) (h7:∀h ∈ hs,h.length ≤ 7):bP vJ A8 [.tup (hs.map hD),places]=some (.tup ((hs.map fun h=>cW (h.map pf)).map hD)):= by
 apply bx
 show Ok A8 [.pu (.tup (hs.map hD)),.pu places] _
 dsimp only [A8,rh]
 simp only [bf,eR,b6,bg]
 refine bu hs hD (fun h=>some (hD (cW (h.map pf)))) rfl (by simp [ck,fW]) (by omega) (fun h hh=>?_) ?_
 .simp only [dI,cx]
  refine ⟨by simp,?_⟩
  simp only [bg,YM,bf,eR,b6,Au]
  have l7:=h7 h hh
  refine bu h .int (fun c=>some (.int (pf c))) rfl (by simp [gW]) (by omega) (fun c hc=>?_) ?_
  .have:=hp h hh c hc
   simp [this]
  .have:=ux (h.map pf) (by simpa using Q1 l7 (by decide))
   rw [ZI] at this
   simp [fW,ZR,ZP] at this ⊢
   simp [this,dR,hD]
 .simp [dR,ZR,ZP]
noncomputable def yJ:Nat->List Nat->List (Int × Int)
 | _,[]=>[]
 | n,c :: r=>((c:Int),(n:Int)) :: yJ (n + 1) r
theorem qr:∀(os:List Nat) (n:Nat),iU n (lD os)=(yJ n os).map fun p=>.tup [.int p.2,.int p.1]
 | [],_=>rfl
 | c :: r,n=>by
  show D.tup [.int (n:Int),.int (c:Int)] :: iU (n + 1) (lD r)=_
  rw [qr r (n + 1)]
  rfl
theorem sf:∀(os:List Nat) (n:Nat),(yJ n os).map (·.1)=os.map fun (i:Nat)=>(i:Int)
 | [],_=>rfl
 | c :: r,n=>by
  show (c:Int) :: (yJ (n + 1) r).map (·.1)=_
  rw [sf r (n + 1)]
  rfl
theorem wz:∀(os:List Nat) (n:Nat),(yJ n os).length=os.length
 | [],_=>rfl
 | c :: r,n=>by
  show (yJ (n + 1) r).length + 1=_
  rw [wz r (n + 1)]
  rfl
theorem F_ {acc:List (Int × Int)} {k v:Int} (h:k ∉ acc.map (·.1)):mw acc k v=acc ++ [(k,v)]:= by
 unfold mw
 rw [QC]
 intro q
 obtain ⟨p,hp,e⟩:=QY.mp q
 exact h (gE.mpr ⟨p,hp,ZV e⟩)
theorem ve:∀(ps acc:List (Int × Int)),((acc ++ ps).map (·.1)).Nodup->ps.foldl (fun acc a=>Gq acc (some (a.1,a.2))) acc=acc ++ ps
 | [],acc,_=>(ZA _).symm
 | p :: ps,acc,h=>by
  have hn:p.1 ∉ acc.map (·.1):= by
   rw [VO,Q3] at h
   intro q
   exact h.2.2 _ q _ (gE.mpr ⟨p,xS,rfl⟩) rfl
  show ps.foldl _ (mw acc p.1 p.2)=_
  rw [F_ hn,ve ps (acc ++ [(p.1,p.2)]) (by rwa [Q4])]
  rw [Q4]
  rfl
theorem rY:∀(os:List Nat) (n:Nat) (c:Nat),c ∈ os->j6 (yJ n os) (c:Int)=some ((n + os.idxOf c:Nat):Int)
 | d :: r,n,c,h=>by
  unfold j6
  show Option.map (·.2) (List.find? (fun p=>decide (p.1=(c:Int))) (((d:Int),(n:Int)) :: yJ (n + 1) r))=_
  rw [V1]
  by_cases q:d=c
  .subst q
   simp
  .have q':¬ ((d:Int)=(c:Int)):=fun z=>q (YI.mp z)
   have hc:c ∈ r:= by
    rcases uS.mp h with e | e
    .exact absurd e.symm q
    .exact e
   have ih:=rY r (n + 1) c hc
   unfold j6 at ih
   simp only [q',decide_false]
   have hb:(d == c)=false:=by simp [q]
   rw [ih,XN,hb,show n + 1 + r.idxOf c=n + (r.idxOf c + 1) by omega]
   rfl
theorem dY:∀(l:List Nat) (j:Nat) (h:j < l.length),(l[j] :: l.eraseIdx j).Perm l
 | a :: r,0,_=>VT _
 | a :: r,j + 1,h=>(List.Perm.swap a (r[j]'(W8 h)) (r.eraseIdx j)).trans ((dY r j (W8 h)).cons a)
theorem rV (n0:Int) {Z:Nat} (hZ:Z ≤ 7):∃d xs',jq BG BQ [.int n0] [.int Z]=some (d,xs')∧(∃os:List Nat,d=.tup (lD os)∧Good Z os)∧∃n:Int,xs' = [.int n]:= by
 apply kb
 show Ok BQ [.ow true [.int n0],.pu (.int Z),.un] _
 dsimp only [BQ,p6]
 have hn:(Z:Int) < 100000:=by omega
 have sZ:cj Z=true:=by simp [cj];omega
 refine b4 (fun δ=>δ=[.ow true [.int n0],.pu (.int Z),.ow false (lD (List.range Z))]) (by simp [mj,hn,jH]) ?_
 rintro _ rfl
 simp only [bf,eR,b6,bg]
 refine ft (cq 0 Z) (fun k acc δ=>∃(n:Int) (ls os:List Nat),acc=lD os∧δ=[.ow true [.int n],.pu (.int Z),.ow false (lD ls)]∧(os.length=k∧ls.length + k=Z)∧(os ++ ls).Perm (List.range Z)) rfl ?_ (by simp [cq];omega) ⟨n0,List.range Z,[],rfl,rfl,⟨rfl,by simp⟩,by simp⟩ ?_ ?_
 .simp [ju,sZ]
 .rintro k hk acc _ ha hl ⟨n,ls,os,rfl,rfl,⟨h1,h2⟩,h3⟩
  have hk':k < Z:=by simpa [cq] using hk
  have et:=cw n ls.length (by omega) (by omega)
  have g1:=YC n (show (ls.length:Int) ≠ 0 by omega)
  have g2:=VS n (show (0:Int) < ls.length by omega)
  obtain ⟨j,hj⟩:∃j:Nat,n % (ls.length:Int)=(j:Int):=⟨(n % (ls.length:Int)).toNat,by omega⟩
  have hlt:j < ls.length:=by omega
  rw [hj] at et
  rw [ik]
  simp only [dI,cx,bg]
  refine ⟨by simp,?_⟩
  simp only [YM]
  refine oM ⟨_,_,rfl⟩ ?_
  simp [-Prod.exists,da,et]
  refine ⟨j,rfl,by omega,.int (ls[j]:Int),by simp [lD,hlt],_,ls.eraseIdx j,os ++ [ls[j]],by simp [lD],⟨rfl,jO _ ls j⟩,⟨by simp [h1],?_⟩,?_⟩
  .rw [Y4,gL hlt];omega
  .rw [Q4]
   exact (List.Perm.append_left os (dY ls j hlt)).trans h3
 .rintro xs _ hx hl ⟨n,ls,os,rfl,rfl,⟨h1,h2⟩,h3⟩
  have e:(cq 0 Z).length=Z:=by simp [cq]
  rw [e] at h1 h2
  have e0:ls=[]:=YR.mp (by omega)
  subst e0
  rw [ZA] at h3
  simp [cV,fW]
  exact ⟨os,rfl,h1,h3.symm.nodup QU,fun i hi=>uL.mp (h3.mem_iff.mp hi)⟩
end
section
variable {hs:List (List Int)} {os:List Nat} {M:Nat}
theorem KP (g:Good M os) (hM:M ≤ 7) (h6:hs.length ≤ 6) (H:∀h ∈ hs,jM M h) (h7:∀h ∈ hs,h.length ≤ 7):bP sd zF [bA M hs,.tup (lD os)]=some (bA M (nm os hs)):= by
 apply bx
 show Ok zF [.pu (bA M hs),.pu (.tup (lD os)),.un,.un] _
 dsimp only [zF,qQ]
 have sh:Short (.tup (lD os)):=fun xs e=>by cases e;rw [da,g.1];omega
 obtain ⟨b,e0,hb⟩:=J8 M sh
 have hb:b=true:=hb.mpr ⟨os,rfl,g⟩
 subst hb
 have mv:=KH (hs:=hs) (places:=.dic (yJ 0 os)) (pf:=pl os) (fun h hh c hc=>by
  have b:=(H h hh).2.2 c hc
  obtain ⟨k,rfl⟩:∃k:Nat,c=(k:Int):=⟨c.toNat,by omega⟩
  show (j6 (yJ 0 os) (k:Int)).map D.int=_
  rw [rY os 0 k (gK g (by omega))]
  simp [pl]) h6 h7
 refine b4 (fun δ=>δ=[.pu (bA M hs),.pu (.tup (lD os)),.pu (.int M),.pu (.tup (hs.map hD))]) (by unfold bA;simp [iC,f9,jY]) ?_
 rintro _ rfl
 refine dq false ?_ (fun h=>by cases h) fun _=>?_
 .simp [bF,e0,c_]
 .simp only [bf,i5,eR,b6,bg,cY,Q7,ZL,ZZ,Jt.Slot.pu.injEq,VA]
  refine z6 (yJ 0 os) (fun p=>.tup [.int p.2,.int p.1]) (fun p=>some (p.1,p.2)) rfl ?_ (by rw [wz,g.1];omega) (fun p _=>?_) ?_
  .simp [jG,tU,qr]
  .unfold qR
   simp [iC,f9,jY]
  .rw [ve (yJ 0 os) [] (by rw [List.nil_append,sf];exact p8.mpr g.2.1),List.nil_append]
   simp [bF,mv,bA,nm]
end
section
noncomputable def runs (hs:List (List Int)) (ls:List Nat) (n:Nat):Bool:=ls.isEmpty || ls.any fun o=>ls.all fun p=>(G hs n).all fun c=>!decide (c ∈ G hs p) || decide (c ∈ G hs o)
theorem jn (neg:Bool) (xs:List D):l_ neg (.tup xs) (.tup [])=some (.bl (if neg then !xs.isEmpty else xs.isEmpty)):= by
 cases xs <;> simp [l_,jk,dy,dy.go]
variable {hs:List (List Int)} {ls:List Nat}
theorem gh {n:Nat} (hn:n ∉ ls):(!(holders hs ls n).isEmpty)=ls.any fun o=>ls.all fun p=>(G hs n).all fun c=>!decide (c ∈ G hs p) || decide (c ∈ G hs o):= by
 unfold holders
 rw [Z1]
 simp only [V0,List.isEmpty_eq_false_iff_exists_mem,wR,QY,QI,QD,QT,shared,VN,V0,YS]
 constructor
 .rintro ⟨o,ho,_,h⟩
  refine ⟨o,ho,fun p hp c hc=>?_⟩
  by_cases q:c ∈ G hs p
  .exact .inr (h c ⟨hc,p,hp,fun e=>hn (e ▸ hp),q⟩)
  .exact .inl q
 .rintro ⟨o,ho,h⟩
  refine ⟨o,ho,fun e=>hn (e ▸ ho),fun c ⟨hc,p,hp,_,q⟩=>?_⟩
  rcases h p hp c hc with h | h
  .exact absurd q h
  .exact h
theorem GV (F:Bw hs ls (.tup (lD ls))) (m:Int) {n:Nat} (hn:n < hs.length) (hnl:n ∉ ls):bP Bp vV [bA m hs,.tup (lD ls),.int n]=some (.bl (runs hs ls n)):= by
 apply bx
 show Ok vV [.pu (bA m hs),.pu (.tup (lD ls)),.pu (.int n)] _
 dsimp only [vV,nC]
 cases q:ls.isEmpty with
 | true=>
  have:(lD ls).isEmpty=true:=by simpa [lD] using q
  simp [jn,this,runs,q]
 | false=>
  have:(lD ls).isEmpty=false:=by simpa [lD] using q
  have e2:(lD (holders hs ls n)).isEmpty=(holders hs ls n).isEmpty:=by simp [lD]
  simp [jn,this,runs,q,bF,zG F m hn,h9,e2]
  rw [<- gh hnl]
  simp
end
section
theorem jg (xs:List D) (k:Nat):cutD xs none (some (k:Int))=xs.take k:= by
 unfold cutD
 rw [show HT.sIx xs.length 0 none=0 from rfl,HT.sIx_nat,XT,Nat.sub_zero]
 rw [List.take_eq_take_iff]
 omega
theorem km (ls:List Nat) (k:Nat):(lD ls).take k=lD (ls.take k):=by simp [lD,List.map_take]
theorem vK (ls:List Nat):∀n:Nat,iU n (lD ls)=(List.range ls.length).map fun (i:Nat)=>.tup [.int ((n + i:Nat):Int),.int ((ls.getD i 0:Nat):Int)]:= by
 induction ls with
 | nil=>intro n;rfl
 | cons a r ih=>
  intro n
  show D.tup [.int n,.int a] :: iU (n + 1) (lD r)=_
  rw [ih,gT,YU]
  simp only [QW,ZI,List.getD_cons_zero,Nat.add_zero]
  congr 1
  refine ZM fun i _=>?_
  simp [Nat.add_assoc,Nat.add_comm 1 i]
structure Lay (hs:List (List Int)):Prop where
 n1:1 ≤ hs.length
 n:hs.length ≤ 6
 w:∀h ∈ hs,h.length ≤ 100
variable {hs:List (List Int)} {ls:List Nat}
theorem Lay.fit (L:Lay hs) (h1:ls.length ≤ 6) (h2:∀i ∈ ls,i < hs.length):Bw hs ls (.tup (lD ls)):=⟨L.n,h1,h2,L.w,rfl⟩
noncomputable def Run (hs:List (List Int)) (ls:List Nat):Prop:=∀k,k < ls.length->runs hs (ls.take k) (ls.getD k 0)=true
theorem getD_mem {k:Nat} (h:k < ls.length):ls.getD k 0=ls[k]:=by simp [h]
theorem eB (h:ls.Nodup) {k:Nat} (hk:k < ls.length):ls.getD k 0 ∉ ls.take k:= by
 rw [getD_mem hk]
 intro hm
 obtain ⟨i,hi,e⟩:=WE.mp hm
 have:=(List.getElem_inj h).mp e
 omega
theorem Mu (L:Lay hs) (m:Int) {x:D} (h:Short x):∃b,bP Bb qz [bA m hs,x]=some (.bl b)∧(b=true ↔ ∃ls,x=.tup (lD ls)∧Good hs.length ls∧Run hs ls):= by
 obtain ⟨b0,e0,h0⟩:=J8 hs.length h
 cases b0 with
 | false=>
  refine ⟨false,bx ?_,?_⟩
  .show Ok qz [.pu (bA m hs),.pu x] _
   dsimp only [qz,m5]
   simp [bF,cP,eD,e0,c_]
  .constructor
   .intro q;cases q
   .rintro ⟨ls,e,hg,_⟩;exact h0.mpr ⟨ls,e,hg⟩
 | true=>
  obtain ⟨ls,rfl,hg⟩:=h0.mp rfl
  obtain ⟨g1,g2,g3⟩:=id hg
  have h6:=L.n
  refine ⟨(List.range ls.length).all fun k=>runs hs (ls.take k) (ls.getD k 0),bx ?_,?_⟩
  .show Ok qz [.pu (bA m hs),.pu (.tup (lD ls))] _
   dsimp only [qz,m5]
   simp [bF,cP,eD,e0,c_]
   refine bu (List.range ls.length) (fun (i:Nat)=>.tup [.int (i:Int),.int ((ls.getD i 0:Nat):Int)]) (fun k=>some (.bl (runs hs (ls.take k) (ls.getD k 0)))) rfl ?_ (by simp;omega) (fun k hk=>?_) ?_
   .have:=vK ls 0
    simp only [XQ] at this
    simp [jG,tU,this]
   .have hk':k < ls.length:=by simpa using hk
    have F:Bw hs (ls.take k) (.tup (lD (ls.take k))):=L.fit (by rw [ZT];omega) fun i hi=>g3 i (Y7 hi)
    have e1:=GV F m (n:=ls.getD k 0) (by rw [getD_mem hk'];exact g3 _ (QH hk')) (eB g2 hk')
    simp only [dI,jd,gT,ZE,YM,fU,gH,cx,bg]
    simp [GC,jg,km,bF]
    rw [QA] at e1
    simp [e1]
   .simp only [ZQ,o4,cB]
    simp [XO,ZP]
  .rw [QT]
   constructor
   .intro q
    exact ⟨ls,rfl,hg,fun k hk=>q k (uL.mpr hk)⟩
   .rintro ⟨ls',e,_,q⟩ k hk
    rw [<- pA (D.tup.inj e)] at q
    exact q k (uL.mp hk)
noncomputable def jQ {β:Type} (g:Nat->Option β) (k:Nat):Option β:=(List.range k).findSome? g
theorem nj {β:Type} {g:Nat->Option β} {k:Nat} (h:jQ g k=none):jQ g (k + 1)=g k:= by
 unfold jQ at *
 rw [List.range_succ,List.findSome?_append,h,Option.none_or]
 simp
theorem za {β:Type} {g:Nat->Option β} {k n:Nat} {r:β} (h:jQ g k=none) (hk:k < n) (e:g k=some r):jQ g n=some r:= by
 have h1:=nj h
 unfold jQ at *
 have hsp:List.range n=List.range (k + 1) ++ (List.range n).drop (k + 1):= by
  rw [<- WW (show k + 1 ≤ n from hk),<- List.take_range,WW (show k + 1 ≤ n from hk),YZ]
 rw [hsp,List.findSome?_append,h1,e,Option.some_or]
noncomputable def C6 (hs:List (List Int)) (rec:List Nat->Option (List Nat)) (ls:List Nat) (k:Nat):Option (List Nat):=if (!decide (k ∈ ls) && runs hs ls k)=true then rec (ls ++ [k]) else none
noncomputable def gz (hs:List (List Int)):Nat->List Nat->Option (List Nat)
 | 0,_=>none
 | f + 1,ls=>if ls.length=hs.length then some ls else jQ (C6 hs (gz hs f) ls) hs.length
noncomputable def rQ:Option (List Nat)->D
 | none=>.non
 | some ls=>.tup (lD ls)
theorem JN (ls:List Nat) (k:Nat) (h:ls.length ≤ 6):k4 (.tup (lD ls)) (.tup [.int (k:Int)])=some (.tup (lD (ls ++ [k]))):= by
 show (if (lD ls).length + 1 ≤ 100000 then _ else _)=_
 rw [gL (by rw [da];omega)]
 simp [lD]
theorem gY (L:Lay hs) (m:Int):∀(f:Nat) (ls:List Nat),ls.length ≤ hs.length->(∀i ∈ ls,i < hs.length)->hs.length < f + ls.length->td f [bA m hs,.tup (lD ls)]=some (rQ (gz hs f ls))
 | 0,ls,h1,_,h3=>by omega
 | f + 1,ls,h1,h2,h3=>by
  show bP MR (Ei (td f)) _=_
  have h6:=L.n
  have F:Bw hs ls (.tup (lD ls)):=L.fit (by omega) h2
  apply bx
  show Ok (Ei (td f)) [.pu (bA m hs),.pu (.tup (lD ls)),.un,.un] _
  unfold Ei
  by_cases e:ls.length=hs.length
  .refine dq true ?_ (fun _=>?_) (fun h=>by cases h)
   .simp [eD,cP,eG,il,da,e]
   .simp [gz,e,rQ]
  .have e':¬ ((ls.length:Int)=(hs.length:Int)):=fun q=>e (YI.mp q)
   refine dq false ?_ (fun h=>by cases h) (fun _=>?_)
   .simp [eD,cP,eG,il,da,e']
   rw [cy]
   have sr:gz hs (f + 1) ls=jQ (C6 hs (gz hs f) ls) hs.length:= by
    show (if _ then _ else _)=_
    rw [QC e]
   refine nT (lD (List.range hs.length)) (fun k δ=>(∃a b,δ=[.pu (bA m hs),.pu (.tup (lD ls)),a,b])∧jQ (C6 hs (gz hs f) ls) k=none) ?_ ⟨⟨_,_,rfl⟩,rfl⟩ ?_ ?_
   .simp [bF,Cn m hs h6,ck]
   .rintro k hk _ ⟨⟨a,b,rfl⟩,hp⟩
    have hk':k < hs.length:=by simpa [lD] using hk
    have e1:(lD (List.range hs.length))[k]=.int (k:Int):=by simp [lD]
    have nx:=nj hp
    rw [e1,cx]
    refine ⟨by simp,?_⟩
    simp only [VC,VD]
    by_cases q1:k ∈ ls
    .simp [n_,q1]
     rw [nx];simp [C6,q1]
    .have er:=GV F m hk' q1
     cases q2:runs hs ls k with
     | false=>
      rw [q2] at er
      simp [n_,q1,bF,er,c_]
      rw [nx];simp [C6,q2]
     | true=>
      rw [q2] at er
      have ih:=gY L m f (ls ++ [k]) (by simp;omega) (fun i hi=>by
       rcases uT.mp hi with h | h
       .exact h2 i h
       .rw [jP.mp h];exact hk') (by simp;omega)
      cases q3:gz hs f (ls ++ [k]) with
      | none=>
       rw [q3] at ih
       simp [n_,q1,bF,er,c_,JN ls k (by omega),ih,rQ,lB,qU]
       rw [nx];simp [C6,q1,q2,q3]
      | some r=>
       rw [q3] at ih
       simp [n_,q1,bF,er,c_,JN ls k (by omega),ih,rQ,lB,qU]
       rw [sr]
       rw [za hp hk' (r:=r) (by simp [C6,q1,q2,q3])]
   .rintro _ ⟨⟨a,b,rfl⟩,hp⟩
    simp
    rw [sr]
    rw [da,Q5] at hp
    rw [hp];rfl
end
section
structure B9 (m:Int) (M:Nat) (hs:List (List Int)):Prop where
 m:m=(M:Int)
 M1:1 ≤ M
 M7:M ≤ 7
 n1:1 ≤ hs.length
 n:hs.length ≤ 6
 w:∀h ∈ hs,h.length ≤ 7
noncomputable def pL (hs:List (List Int)) (c:Nat):List (List Int):=hs.filter fun h=>decide ((c:Int) ∈ h)
noncomputable def kD (hs:List (List Int)) (c o:Nat):Bool:=(pL hs c).any fun h=>decide ((o:Int) ∈ h)
noncomputable def free (hs:List (List Int)) (c:Nat) (L:List Nat):Bool:=(pL hs c).isEmpty || (pL hs c).any fun h=>L.all fun o=>!kD hs c o || decide ((o:Int) ∈ h)
theorem ql {hs:List (List Int)} {c:Nat} {L:List Nat}:free hs c L=true ↔ pL hs c=[] ∨ ∃h ∈ pL hs c,∀o ∈ L,kD hs c o=true->(o:Int) ∈ h:= by
 unfold free
 simp only [VN,WB,QY,QT,V0,QD]
 refine or_congr Iff.rfl ⟨fun ⟨h,hh,k⟩=>⟨h,hh,fun o ho m=>?_⟩,fun ⟨h,hh,k⟩=>⟨h,hh,fun o ho=>?_⟩⟩
 .rcases k o ho with q | q
  .rw [m] at q;cases q
  .exact q
 .cases q:kD hs c o
  .exact .inl rfl
  .exact .inr (k o ho q)
theorem xr {hs:List (List Int)} {c:Nat} {L L':List Nat} (h:∀o ∈ L',o ≠ c->o ∈ L) (f:free hs c L=true):free hs c L' = true:= by
 rw [ql] at *
 rcases f with f | ⟨h',hh,k⟩
 .exact .inl f
 .refine .inr ⟨h',hh,fun o ho m=>?_⟩
  by_cases e:o=c
  .subst e
   exact ZV (wR.mp hh).2
  .exact k o (h o ho e) m
theorem uI (h w:List Int) (hw:w.length ≤ 100):bP u4 nJ [hD h,.lst (w.map .int)]=some (.bl (w.all fun c=>decide (c ∈ h))):= by
 apply bx
 show Ok nJ [.pu (hD h),.pu (.lst (w.map .int))] _
 dsimp only [nJ,l5]
 simp
 refine bu w .int (fun c=>some (.bl (decide (c ∈ h)))) rfl ?_ (by omega) (fun c _=>?_) ?_
 .simp [ck]
 .simp [fI]
 .simp [o4,cB,ZR]
variable {m:Int} {M:Nat} {hs:List (List Int)} {ls:List Nat}
theorem Ec (c:Nat):(pL hs c).length ≤ hs.length:=QX _ _
theorem KR (L:B9 m M hs) (c:Nat) (hl:ls.length ≤ 7):bP xf Ih [bA m hs,.int c,.tup (lD ls)]=some (.bl (free hs c ls)):= by
 apply bx
 show Ok Ih [.pu (bA m hs),.pu (.int c),.pu (.tup (lD ls)),.un,.un] _
 dsimp only [Ih,yE]
 have h6:=L.n
 have hv:=Ec (hs:=hs) c
 refine b4 (fun δ=>δ=[.pu (bA m hs),.pu (.int c),.pu (.tup (lD ls)),.pu (.lst ((pL hs c).map hD)),.un]) ?_ ?_
 .simp only [dt,bf,bg]
  refine bu hs hD (fun h=>if decide ((c:Int) ∈ h)=true then some (hD h) else none) rfl ?_ (by omega) (fun h hh=>?_) ?_
  .simp [cP,ck]
  .by_cases q:(c:Int) ∈ h <;> simp [fI,q]
  .rw [bJ]
   simp [pL]
 rintro _ rfl
 refine b4 (fun δ=>δ=[.pu (bA m hs),.pu (.int c),.pu (.tup (lD ls)),.pu (.lst ((pL hs c).map hD)),.pu (.lst ((ls.filter fun o=>kD hs c o).map fun (i:Nat)=>.int (i:Int)))]) ?_ ?_
 .simp only [dt,bf,bg]
  refine bu ls (fun (i:Nat)=>.int (i:Int)) (fun o=>if kD hs c o=true then some (.int (o:Int)) else none) rfl ?_ (by omega) (fun o ho=>?_) ?_
  .simp [ck,lD]
  .simp only [dI,cx,bf,eR,b6,bg]
   refine ⟨by simp,?_⟩
   refine bu (pL hs c) hD (fun h=>some (.bl (decide ((o:Int) ∈ h)))) rfl ?_ (by omega) (fun h hh=>?_) ?_
   .simp [ck]
   .simp [fI]
   .simp only [ZQ,t9,cB]
    cases q:kD hs c o
    .have:((pL hs c).any fun h=>decide ((o:Int) ∈ h))=false:=q
     simp [XR,ZP,c_]
     rw [List.any_eq_false] at this
     simpa using this
    .have:((pL hs c).any fun h=>decide ((o:Int) ∈ h))=true:=q
     simp [XR,ZP,c_]
     rw [QY] at this
     simpa using this
  .rw [bJ]
   simp
 rintro _ rfl
 cases q:(pL hs c).isEmpty with
 | true=>
  have e1:((pL hs c).map hD).isEmpty=true:=by rw [XF];exact q
  simp [h9,free,q]
 | false=>
  have e1:((pL hs c).map hD).isEmpty=false:=by rw [XF];exact q
  simp only [bf,BK,iH,cY,uX,bg,eS,Q7,ZL,ZZ,Jt.Slot.pu.injEq,VA,ZE,QV,true_and,h9,e1,gc,eR,b6]
  simp only [ZD,YQ]
  refine bu (pL hs c) hD (fun h=>some (.bl ((ls.filter fun o=>kD hs c o).all fun o=>decide ((o:Int) ∈ h)))) rfl ?_ (by omega) (fun h hh=>?_) ?_
  .simp [ck]
  .have hfl:=QX (fun o=>kD hs c o) ls
   have:=uI h ((ls.filter fun o=>kD hs c o).map fun (i:Nat)=>(i:Int)) (by rw [fD];omega)
   rw [ZI,XO] at this
   simp [bF]
   exact dk this (by simp [ZP])
  .simp only [ZQ,t9,cB]
   simp only [Option.map_some,gc,XR,ZP,id]
   congr 2
   simp only [free,q,Bool.false_or]
   refine Z6 _ (funext fun h=>?_)
   rw [List.all_filter]
theorem B7 (xs:List D) (k:Nat):cutD xs (some ((k:Int) + 1)) none=xs.drop (k + 1):= by
 unfold cutD
 rw [show (k:Int) + 1=((k + 1:Nat):Int) by simp,HT.sIx_nat,show HT.sIx xs.length xs.length none=xs.length from rfl]
 by_cases h:k + 1 ≤ xs.length
 .rw [WW h,V7 (by rw [List.length_drop];omega)]
 .rw [Nat.min_eq_right (by omega),ZU,List.drop_eq_nil_of_le (by omega)];simp
noncomputable def Ord (hs:List (List Int)) (ls:List Nat):Prop:=∀k,k < ls.length->free hs (ls.getD k 0) (ls.drop (k + 1))=true
theorem Mm (L:B9 m M hs) {x:D} (h:Short x):∃b,bP Kk CK [bA m hs,x]=some (.bl b)∧(b=true ↔ ∃ls,x=.tup (lD ls)∧Good M ls∧Ord hs ls):= by
 obtain ⟨b0,e0,h0⟩:=J8 M h
 have hm:=L.m
 subst hm
 cases b0 with
 | false=>
  refine ⟨false,bx ?_,?_⟩
  .show Ok CK [.pu (bA M hs),.pu x] _
   dsimp only [CK,tH]
   simp [bF,gZ,e0,c_]
  .constructor
   .intro q;cases q
   .rintro ⟨ls,e,hg,_⟩;exact h0.mpr ⟨ls,e,hg⟩
 | true=>
  obtain ⟨ls,rfl,hg⟩:=h0.mp rfl
  obtain ⟨g1,g2,g3⟩:=id hg
  have h7:=L.M7
  refine ⟨(List.range ls.length).all fun k=>free hs (ls.getD k 0) (ls.drop (k + 1)),bx ?_,?_⟩
  .show Ok CK [.pu (bA M hs),.pu (.tup (lD ls))] _
   dsimp only [CK,tH]
   simp [bF,gZ,e0,c_]
   refine bu (List.range ls.length) (fun (i:Nat)=>.tup [.int (i:Int),.int ((ls.getD i 0:Nat):Int)]) (fun k=>some (.bl (free hs (ls.getD k 0) (ls.drop (k + 1))))) rfl ?_ (by simp;omega) (fun k hk=>?_) ?_
   .have:=vK ls 0
    simp only [XQ] at this
    simp [jG,tU,this]
   .have e1:=KR L (ls:=ls.drop (k + 1)) (ls.getD k 0) (by rw [List.length_drop];omega)
    have ed:(lD ls).drop (k + 1)=lD (ls.drop (k + 1)):=by simp [lD,List.map_drop]
    simp only [dI,jd,gT,ZE,YM,fU,gH,cx,bg]
    rw [QA] at e1
    simp [GC,jA,c9,B7,ed,bF,e1]
   .simp only [ZQ,o4,cB]
    simp [XO,ZP]
  .rw [QT]
   constructor
   .intro q
    exact ⟨ls,rfl,hg,fun k hk=>q k (uL.mpr hk)⟩
   .rintro ⟨ls',e,_,q⟩ k hk
    rw [<- pA (D.tup.inj e)] at q
    exact q k (uL.mp hk)
end
section
variable {m:Int} {M:Nat} {hs:List (List Int)} {ls:List Nat}
theorem kG {δ0:DS} {tt:Jt.M Bool} {body:Jt.M Fl} {Q:Fl->DS->Prop} (I:Nat->DS->Prop) (h:∀k δ,I k δ->Ok tt δ fun b δ1=>(b=true->∃j,k=j + 1∧Ok body δ1 fun fl δ2=>match fl with
   | .nx=>I j δ2
   | .ct=>I j δ2
   | .bk=>Q .nx δ2
   | .rt d=>Q (.rt d) δ2
   | .rf d=>Q (.rf d) δ2)∧(b=false->Q .nx δ1)) :
  ∀(f n:Nat) (δ:DS),n < f->I n δ->Ok (FO tt body f) δ Q
 | 0,n,δ,hf,_=>by omega
 | f + 1,n,δ,hf,hI=>by
  unfold FO
  rw [bf]
  refine (h n δ hI).mono fun b δ1 hb=>?_
  cases b with
  | false=>exact bg.mpr (hb.2 rfl)
  | true=>
   obtain ⟨j,rfl,hj⟩:=hb.1 rfl
   show Ok (body >>= _) δ1 Q
   rw [bf]
   refine hj.mono fun fl δ2 hI2=>?_
   cases fl with
   | nx=>exact kG (δ0:=δ0) I h f j δ2 (by omega) hI2
   | ct=>exact kG (δ0:=δ0) I h f j δ2 (by omega) hI2
   | bk=>exact bg.mpr hI2
   | rt d=>exact bg.mpr hI2
   | rf d=>exact bg.mpr hI2
noncomputable def sE (hs:List (List Int)):Nat->List Nat->List Nat->Option (List Nat)
 | 0,_,_=>none
 | f + 1,ord,left=>if left.isEmpty=true then some ord else match left.filter fun c=>free hs c left with
  | []=>none
  | c :: _=>sE hs f (ord ++ [c]) (left.filter fun o=>!decide (o=c))
theorem FT {f:Nat} {ord:List Nat}:sE hs (f + 1) ord []=some ord:=rfl
theorem Cf {f:Nat} {ord left:List Nat} (h1:left.isEmpty=false) (h:(left.filter fun c=>free hs c left)=[]):sE hs (f + 1) ord left=none:= by
 unfold sE
 rw [h1,h];rfl
theorem zL {f:Nat} {ord left t:List Nat} {c:Nat} (h1:left.isEmpty=false) (h:(left.filter fun c=>free hs c left)=c :: t):sE hs (f + 1) ord left=sE hs f (ord ++ [c]) (left.filter fun o=>!decide (o=c)):= by
 rw [sE,h1,h];rfl
theorem iA:∀{left:List Nat} {c:Nat},left.Nodup->c ∈ left->(left.filter fun o=>!decide (o=c)).length + 1=left.length
 | [],c,_,h=>by cases h
 | a :: r,c,hn,h=>by
  rw [ZC] at hn
  by_cases e:a=c
  .subst e
   have:(r.filter fun o=>!decide (o=a))=r:=WM.mpr fun o ho=>by
    have:o ≠ a:=fun q=>hn.1 (q ▸ ho)
    simp [this]
   rw [Z4]
   simp [this]
  .have hc:c ∈ r:= by
    rcases uS.mp h with q | q
    .exact absurd q.symm e
    .exact q
   have:=iA hn.2 hc
   rw [Z4]
   simp only [e,decide_false,Bool.not_false,YM,gT]
   omega
theorem O6 (L:B9 m M hs):bP yg zY [bA m hs]=some (rQ (sE hs (M + 1) [] (List.range M))):= by
 have hm:=L.m
 subst hm
 apply bx
 show Ok zY [.pu (bA M hs),.un,.un,.un] _
 dsimp only [zY,Bz]
 have h7:=L.M7
 have hn:(M:Int) < 100000:=by omega
 refine b4 (fun δ=>δ=[.pu (bA M hs),.pu (.tup []),.un,.un]) (by simp) ?_
 rintro _ rfl
 refine b4 (fun δ=>δ=[.pu (bA M hs),.pu (.tup []),.pu (.tup (lD (List.range M))),.un]) (by simp [gZ,mj,hn,jH]) ?_
 rintro _ rfl
 rw [cy]
 refine kG (δ0:=[]) (fun k δ=>∃ord left a3,δ=[.pu (bA M hs),.pu (.tup (lD ord)),.pu (.tup (lD left)),a3]∧left.length=k∧left.Nodup∧ord.length + left.length=M∧sE hs (k + 1) ord left=sE hs (M + 1) [] (List.range M)) ?_ 9 M _ (by omega) ⟨[],List.range M,.un,rfl,by simp,QU,by simp,rfl⟩
 rintro k _ ⟨ord,left,a3,rfl,g1,g2,g3,g4⟩
 cases q:left.isEmpty with
 | true=>
  have e1:(lD left).isEmpty=true:=by simpa [lD] using q
  rw [WB.mp q] at g4
  rw [FT] at g4
  simp [c_,e1]
  rw [<- g4];rfl
 | false=>
  have e1:(lD left).isEmpty=false:=by simpa [lD] using q
  simp only [bf,cY,Q7,ZL,ZZ,Jt.Slot.pu.injEq,VA,c_,e1,gc]
  refine ⟨fun _=>?_,fun h=>by cases h⟩
  have hpos:0 < left.length:=V5.mpr fun z=>by rw [z] at q;cases q
  refine ⟨k - 1,by omega,?_⟩
  have hfl:=QX (fun c=>free hs c left) left
  refine b4 (fun δ=>δ=[.pu (bA M hs),.pu (.tup (lD ord)),.pu (.tup (lD left)),.pu (.lst (lD (left.filter fun c=>free hs c left)))]) ?_ ?_
  .simp only [dt,bf,bg]
   refine bu left (fun (i:Nat)=>.int (i:Int)) (fun c=>if free hs c left=true then some (.int (c:Int)) else none) rfl ?_ (by omega) (fun c hc=>?_) ?_
   .simp [ck,lD]
   .have:=KR L c (ls:=left) (by omega)
    cases q2:free hs c left <;> rw [q2] at this <;> simp [bF,this,c_]
   .rw [bJ]
    simp [lD]
  rintro _ rfl
  cases q2:(left.filter fun c=>free hs c left) with
  | nil=>
   refine dq true ?_ (fun _=>?_) (fun h=>by cases h)
   .simp [c_,lD]
   .rw [Cf q q2] at g4
    simp [<- g4,rQ]
  | cons c t=>
   have hc:c ∈ left:=(wR.mp (show c ∈ left.filter fun c=>free hs c left by rw [q2];exact xS)).1
   refine dq false ?_ (fun h=>by cases h) (fun _=>?_)
   .simp [c_,lD]
   have ei:j9 (.lst (lD (c :: t))) (.int 0)=some (.int (c:Int)):=by simp [lD,j9,jw,rH]
   refine b4 (fun δ=>δ=[.pu (bA M hs),.pu (.tup (lD (ord ++ [c]))),.pu (.tup (lD left)),.pu (.lst (lD (c :: t)))]) ?_ ?_
   .simp [ei,JN ord c (by omega)]
   rintro _ rfl
   simp only [dt,bf,eR,b6,bg]
   refine bu left (fun (i:Nat)=>.int (i:Int)) (fun o=>if (!decide (o=c))=true then some (.int (o:Int)) else none) rfl ?_ (by omega) (fun o ho=>?_) ?_
   .simp [ck,lD]
   .by_cases e:o=c <;> simp [ei,d5,e]
   .rw [bJ]
    have hl:=iA g2 hc
    rw [zL q q2] at g4
    simp only [cV,fW,Option.map_some,gc]
    refine ⟨by simp,ord ++ [c],left.filter fun o=>!decide (o=c),.pu (.lst (lD (c :: t))),by simp [lD],by omega,g2.filter _,by rw [fR,XA];omega,?_⟩
    rw [show k - 1 + 1=k by omega]
    exact g4
end
section
variable {hs:List (List Int)} {M:Nat}
theorem Lb {M:Nat} (h6:hs.length ≤ 6) (c:Nat) (hc:c < M):bP BF B0 [bA M hs,.int c]=some (.tup (lD (vc hs c))):= by
 apply bx
 show Ok B0 [.pu (bA M hs),.pu (.int c),.un,.un] _
 dsimp only [B0,se]
 refine b4 (fun δ=>δ=[.pu (bA M hs),.pu (.int c),.pu (.int M),.pu (.tup (hs.map hD))]) ?_ ?_
 .simp [bA]
 rintro _ rfl
 have eb:bP AQ w4 [.int (c:Int),.int (M:Int)]=some (.bl true):= by
  rw [zp]
  simp [dE]
  omega
 refine dq false ?_ (by simp) fun _=>?_
 .simp [bF,eb,c_]
 simp only [bf,eR,b6,bg]
 refine bu (List.range hs.length) (fun (i:Nat)=>.tup [.int (i:Int),hD (G hs i)]) (fun i=>if decide ((c:Int) ∈ G hs i)=true then some (.int (i:Int)) else none) rfl ?_ (by simp;omega) (fun i hi=>?_) ?_
 .have:=sY hs 0
  simp [jG,tU,this]
 .by_cases q:(c:Int) ∈ G hs i <;> simp [fI,q]
 .rw [bJ]
  simp [cV,fW,lD,vc,co,G]
theorem Dw {N:List Str} {body:Jt.M Fl} {ds:List D} (h:Ok body (entry N ds) fun fl _=>fl=.nx):bP N body ds=some .non:= by
 obtain ⟨z,δ',e,rfl⟩:=h
 unfold bP
 rw [e]
theorem uB (hs:List (List Int)):eD [.tup (hs.map hD)]=some (.int (hs.length:Int)):=by simp [eD]
theorem E5 {a n:Nat} (h:a < n):dE (n:Int) (.int (a:Int))=true:=by simp [dE];omega
theorem A0 {a:Nat} (m:Int) (h:a < hs.length):bP Hq zW [bA m hs,.int (a:Int)]=some .non:= by
 apply Dw
 show Ok zW [.pu (bA m hs),.pu (.int (a:Int))] _
 dsimp only [zW,qp]
 have e:=zp (.int (a:Int)) (hs.length:Int)
 rw [E5 h] at e
 have e1:=cP m hs
 have e2:=uB hs
 generalize bA m hs=lay at *
 refine qY (fun b δ=>b=false∧δ=[.pu lay,.pu (.int (a:Int))]) ?_ (fun _ h=>by cases h.1) ?_
 .simp [bF,e,e1,e2,c_]
 .rintro _ ⟨_,rfl⟩
  simp
noncomputable def rq (hs:List (List Int)) (a b:Nat):List Int:=(G hs a).filter fun c=>decide (c ∈ G hs b)
theorem Ml (m:Int) (h7:∀h ∈ hs,h.length ≤ 7) {a b:Nat} (ha:a < hs.length) (hb:b < hs.length):bP Bj Bf [bA m hs,.int (a:Int),.int (b:Int)]=some (hD (rq hs a b)):= by
 apply bx
 show Ok Bf [.pu (bA m hs),.pu (.int (a:Int)),.pu (.int (b:Int)),.un] _
 dsimp only [Bf,qC]
 have n1:=A0 m ha
 have n2:=A0 m hb
 have e1:=cP m hs
 have ga:=iX ha
 have gb:=iX hb
 have g7:(G hs a).length ≤ 7:= by
  have:G hs a=hs[a]:=by simp [G,ha]
  rw [this];exact h7 _ (QH ha)
 generalize bA m hs=lay at *
 refine b4 (fun δ=>δ=[.pu lay,.pu (.int (a:Int)),.pu (.int (b:Int)),.un]) (by simp [bF,n1]) ?_
 rintro _ rfl
 refine b4 (fun δ=>δ=[.pu lay,.pu (.int (a:Int)),.pu (.int (b:Int)),.un]) (by simp [bF,n2]) ?_
 rintro _ rfl
 refine b4 (fun δ=>δ=[.pu lay,.pu (.int (a:Int)),.pu (.int (b:Int)),.pu (.tup (hs.map hD))]) (by simp [e1]) ?_
 rintro _ rfl
 simp only [bf,eR,b6,bg]
 refine bu (G hs a) .int (fun c=>if decide (c ∈ G hs b)=true then some (.int c) else none) rfl ?_ (by omega) (fun c _=>?_) ?_
 .simp [ga,gW]
 .by_cases q:c ∈ G hs b <;> simp [gb,fI,q]
 .rw [bJ]
  simp [dR,rq,hD]
theorem vq {H:List Nat} {k:Nat} (h:k < H.length):j9 (.tup (lD H)) (.int (k:Int))=some (.int ((H.getD k 0:Nat):Int)):= by
 show jw (lD H) (k:Int)=_
 rw [g8 (lD H) k (by rw [da];exact h)]
 simp [lD,h]
theorem oB {H:List Nat} {k:Nat} (h:k < H.length):iq (.tup (lD H)) (.int (k:Int))=some (.int ((H.getD k 0:Nat):Int)):=vq h
noncomputable def chg (x y:Nat) (l:List Nat):List Nat:=l.map fun z=>if z=x then y else z
noncomputable def lnk (l:List Nat) (a b:Nat):List Nat:=chg (max (l.getD a 0) (l.getD b 0)) (min (l.getD a 0) (l.getD b 0)) l
theorem Hi {l:List Nat} (h6:l.length ≤ 6) {a b:Nat} (ha:a < l.length) (hb:b < l.length):bP vR wJ [.tup (lD l),.int (a:Int),.int (b:Int)]=some (.tup (lD (lnk l a b))):= by
 apply bx
 show Ok wJ [.pu (.tup (lD l)),.pu (.int (a:Int)),.pu (.int (b:Int)),.un,.un] _
 dsimp only [wJ,nR]
 have xa:=vq ha
 have xb:=vq hb
 have mn:oG [.int ((l.getD a 0:Nat):Int),.int ((l.getD b 0:Nat):Int)]=some (.int ((min (l.getD a 0) (l.getD b 0):Nat):Int)):= by
  simp only [oG]
  congr 2
  omega
 have mx:n5 [.int ((l.getD a 0:Nat):Int),.int ((l.getD b 0:Nat):Int)]=some (.int ((max (l.getD a 0) (l.getD b 0):Nat):Int)):= by
  simp only [n5]
  congr 2
  omega
 have si:ck (.tup (lD l))=some (bz (l.map fun (i:Nat)=>D.int (i:Int))):=rfl
 unfold lnk
 generalize min (l.getD a 0) (l.getD b 0)=mi at *
 generalize max (l.getD a 0) (l.getD b 0)=ma at *
 generalize ((l.getD a 0:Nat):Int)=ya at *
 generalize ((l.getD b 0:Nat):Int)=yb at *
 generalize D.tup (lD l)=ld at *
 refine b4 (fun δ=>δ=[.pu ld,.pu (.int (a:Int)),.pu (.int (b:Int)),.pu (.int (mi:Int)),.un]) (by simp [xa,xb,mn]) ?_
 rintro _ rfl
 refine b4 (fun δ=>δ=[.pu ld,.pu (.int (a:Int)),.pu (.int (b:Int)),.pu (.int (mi:Int)),.pu (.int (ma:Int))]) (by simp [xa,xb,mx]) ?_
 rintro _ rfl
 simp only [bf,eR,b6,bg]
 refine bu l (fun (i:Nat)=>.int (i:Int)) (fun z=>some (.int ((if z=ma then mi else z:Nat):Int))) rfl ?_ (by omega) (fun z _=>?_) ?_
 .simp [si]
 .by_cases q:z=ma
  .simp [d5,q]
  .simp [d5,q]
 .rw [ZQ]
  simp [dR,chg,lD]
structure G0 (n:Nat) (l:List Nat) (T:List Pr):Prop where
 len:l.length=n
 eq:∀a b,a < n->b < n->(l.getD a 0=l.getD b 0 ↔ dj T a b)
theorem wq (n:Nat):G0 n (List.range n) []:=⟨Q5,fun a b ha hb=>by
 simp only [QA,V4 ha,V4 hb,Option.getD_some]
 exact ⟨fun h=>by cases h;exact .refl _,fun h=>h.nil⟩⟩
theorem vW {x y a:Nat} {l:List Nat} (ha:a < l.length):(chg x y l).getD a 0=if l.getD a 0=x then y else l.getD a 0:= by
 unfold chg
 simp [QA,kW ha]
theorem G0.lnk {n:Nat} {l:List Nat} {T:List Pr} (h:G0 n l T) {u v:Nat} (hu:u < n) (hv:v < n):G0 n (lnk l u v) (T ++ [(u,v)]):= by
 refine ⟨by unfold K55.lnk chg;rw [fD];exact h.len,fun a b ha hb=>?_⟩
 have e:dj (T ++ [(u,v)]) a b ↔ dj ((u,v) :: T) a b:=⟨dj.mono fun e he=>by
  rcases uT.mp he with z | z
  .exact wV _ z
  .rw [jP.mp z];exact xS,dj.mono fun e he=>by
  rcases uS.mp he with z | z
  .rw [z];exact uT.mpr (.inr (jP.mpr rfl))
  .exact uT.mpr (.inl z)⟩
 rw [e,su,<- h.eq a b ha hb,<- h.eq a u ha hu,<- h.eq v b hv hb,<- h.eq a v ha hv,<- h.eq u b hu hb]
 unfold K55.lnk
 rw [vW (by rw [h.len];exact ha),vW (by rw [h.len];exact hb)]
 generalize l.getD a 0=A
 generalize l.getD b 0=B
 generalize l.getD u 0=U
 generalize l.getD v 0=V
 by_cases q:U ≤ V
 .rw [Nat.max_eq_right q,WW q]
  by_cases h1:A=V
  .rw [gL h1]
   by_cases h2:B=V
   .rw [gL h2];omega
   .rw [QC h2];omega
  .rw [QC h1]
   by_cases h2:B=V
   .rw [gL h2];omega
   .rw [QC h2];omega
 .rw [Nat.max_eq_left (by omega),Nat.min_eq_right (by omega)]
  by_cases h1:A=U
  .rw [gL h1]
   by_cases h2:B=U
   .rw [gL h2];omega
   .rw [QC h2];omega
  .rw [QC h1]
   by_cases h2:B=U
   .rw [gL h2];omega
   .rw [QC h2];omega
theorem Kf {fi:Jt.M iW} {turn:D->Jt.M (Option ((Int × Int) × Int))} {acc:Jt.PL} {δ:DS} {Q:Jt.PL->DS->Prop} (ds:List D) (I:Nat->Jt.PL->DS->Prop) (hi:Ok fi δ fun it δ'=>it=bz ds∧δ' = δ) (hn:ds.length ≤ 1000) (h0:I 0 acc δ)
  (ht:∀k (hk:k < ds.length) acc δ,I k acc δ->Ok (turn ds[k]) δ fun o δ2=>I (k + 1) (Jf acc o) δ2) (hQ:∀acc δ,I ds.length acc δ->Q acc δ):Ok (ue fi turn acc) δ Q:= by
 have gen:∀(m k:Nat) (acc:Jt.PL) (δ:DS),ds.length - k=m->k ≤ ds.length->I k acc δ->∃acc' δ',gF turn (fun _=>true) (bz (ds.drop k)).1 acc δ=some (acc',δ')∧I ds.length acc' δ':= by
  intro m
  induction m with
  | zero=>
   intro k acc δ hm hk hI
   have:k=ds.length:=by omega
   subst this
   rw [ZU]
   exact ⟨acc,δ,rfl,hI⟩
  | succ m ih=>
   intro k acc δ hm hk hI
   have hk':k < ds.length:=by omega
   rw [QG hk']
   obtain ⟨o,δ2,e1,q⟩:=ht k hk' acc δ hI
   obtain ⟨acc',δ',e2,q2⟩:=ih (k + 1) (Jf acc o) δ2 (by omega) (by omega) q
   refine ⟨acc',δ',?_,q2⟩
   show gF turn (fun _=>true) ((fun _=>some ds[k]) :: (bz (ds.drop (k + 1))).1) acc δ=_
   unfold gF
   dsimp only
   rw [e1]
   exact e2
 unfold ue
 simp only [bf]
 refine hi.mono fun it δ' ⟨e1,e2⟩=>?_
 subst e1;subst e2
 obtain ⟨acc',δ2,e3,q⟩:=gen _ 0 acc δ' rfl (QV _) h0
 rw [XT] at e3
 exact ⟨(),δ',by unfold lift xy;simp [bz,hn],acc',δ2,e3,hQ _ _ q⟩
theorem ye {lo own:Nat} {fi:Jt.M iW} {turn:D->Jt.PL->Jt.M Jt.PL} {δ:DS} {Q:D->DS->Prop} (ds:List D) (I:Nat->Jt.PL->Prop) (hl:δ.length=lo) (hi:Ok fi δ fun it δ'=>it=bz ds∧δ' = δ) (hn:ds.length ≤ 1000) (h0:I 0 [])
  (ht:∀k (hk:k < ds.length) acc,I k acc->Ok (turn ds[k] acc) (δ ++ List.replicate own .un) fun acc2 δ2=>I (k + 1) acc2∧δ2.take lo=δ) (hQ:∀acc,I ds.length acc->Q (.dip acc) δ):Ok (ku lo own fi turn) δ Q:= by
 have gen:∀(m k:Nat) (acc:Jt.PL),ds.length - k=m->k ≤ ds.length->I k acc->∃acc',gJ own turn (fun _=>true) (bz (ds.drop k)).1 acc δ=some (acc',δ)∧I ds.length acc':= by
  intro m
  induction m with
  | zero=>
   intro k acc hm hk hI
   have:k=ds.length:=by omega
   subst this
   rw [ZU]
   exact ⟨acc,rfl,hI⟩
  | succ m ih=>
   intro k acc hm hk hI
   have hk':k < ds.length:=by omega
   rw [QG hk']
   obtain ⟨o,δ2,e1,q,e0⟩:=ht k hk' acc hI
   obtain ⟨acc',e2,q2⟩:=ih (k + 1) o (by omega) (by omega) q
   refine ⟨acc',?_,q2⟩
   show gJ own turn (fun _=>true) ((fun _=>some ds[k]) :: (bz (ds.drop (k + 1))).1) acc δ=_
   unfold gJ
   dsimp only
   rw [e1]
   dsimp only
   rw [hl,e0]
   exact e2
 unfold ku
 simp only [bf]
 refine ⟨(),δ,by unfold gB;rw [gL hl],hi.mono fun it δ' ⟨e1,e2⟩=>?_⟩
 subst e1;subst e2
 obtain ⟨acc',e3,q⟩:=gen _ 0 [] rfl (QV _) h0
 rw [XT] at e3
 exact ⟨(),δ',by unfold lift xy;simp [bz,hn],acc',δ',e3,bg.mpr (hQ _ q)⟩
end
section
variable {hs:List (List Int)}
noncomputable def row (n i:Nat):List Pr:=(List.range (n - (i + 1))).map fun j=>(i,i + 1 + j)
noncomputable def GS (n k:Nat):List Pr:=(List.range k).flatMap (row n)
noncomputable abbrev Pn (n:Nat):List Pr:=GS n n
theorem fY {n k:Nat} {e:Pr}:e ∈ GS n k ↔ e.1 < k∧e.1 < e.2∧e.2 < n:= by
 unfold GS row
 simp only [List.mem_flatMap,uL,gE]
 constructor
 .rintro ⟨i,hi,j,hj,rfl⟩
  dsimp only
  omega
 .rintro ⟨h1,h2,h3⟩
  exact ⟨e.1,h1,e.2 - (e.1 + 1),by omega,by ext <;> dsimp only <;> omega⟩
theorem B3 (n k:Nat):GS n (k + 1)=GS n k ++ row n k:= by
 unfold GS
 rw [List.range_succ,List.flatMap_append]
 simp
theorem Lk:∀n,n < 7->(Pn n).Nodup:=by decide +kernel
theorem Bq:∀n,n < 7->(Pn n).length ≤ 15:=by decide +kernel
noncomputable def dW (hs:List (List Int)) (L:List Pr):Jt.PL:=L.map fun e=>(((e.1:Int),(e.2:Int)),wh hs e)
theorem BJ {L:List Pr} {e:Pr} (h:e ∉ L) (v:Int):mh (dW hs L) ((e.1:Int),(e.2:Int)) v=dW hs L ++ [(((e.1:Int),(e.2:Int)),v)]:= by
 unfold mh
 rw [QC]
 intro z
 rw [QY] at z
 obtain ⟨p,hp,z⟩:=z
 obtain ⟨f,hf,rfl⟩:=gE.mp hp
 rw [QD] at z
 have z1:=Z6 Prod.fst z
 have z2:=Z6 Prod.snd z
 dsimp only at z1 z2
 have:f=e:=by ext <;> omega
 exact h (this ▸ hf)
theorem B6 {n i j:Nat} (h:j < n - (i + 1)):(row n i).take (j + 1)=(row n i).take j ++ [(i,i + 1 + j)]:= by
 have hl:j < (row n i).length:=by unfold row;simpa using h
 rw [Q6 hl]
 simp [row]
theorem N2 (m:Int) (h6:hs.length ≤ 6) (h7:∀h ∈ hs,h.length ≤ 7):bP zg IQ [bA m hs]=some (.dip (dW hs (Pn hs.length))):= by
 apply bx
 show Ok IQ [.pu (bA m hs),.un] _
 dsimp only [IQ,yZ]
 have cm:=fun {a b:Nat} (ha:a < hs.length) (hb:b < hs.length)=>Ml m h7 ha hb
 have e1:=cP m hs
 have e2:=uB hs
 generalize bA m hs=lay at *
 refine b4 (fun δ=>δ=[.pu lay,.pu (.int (hs.length:Int))]) (by simp [e1,e2]) ?_
 rintro _ rfl
 simp only [bf,bg]
 have sN:cj (hs.length:Int)=true:=by simp [cj];omega
 refine ye (lD (List.range hs.length)) (fun k acc=>acc=dW hs (GS hs.length k)) rfl ?_ ?_ rfl ?_ ?_
 .simp [ju,sN,jH]
 .simp [lD];omega
 .rintro k hk _ rfl
  have hk2:k < hs.length:=by simpa [lD] using hk
  have itm:(lD (List.range hs.length))[k]=.int (k:Int):=by simp [lD]
  rw [itm]
  have s1:cj ((k:Int) + 1)=true:=by simp [cj];omega
  have ed:((hs.length:Int) - ((k:Int) + 1)).toNat=hs.length - (k + 1):=by omega
  unfold l0
  simp only [bf,cx,bg,YM]
  refine ⟨by simp,?_⟩
  show Ok _ [.pu lay,.pu (.int (hs.length:Int)),.pu (.int (k:Int)),.un] _
  refine Kf (cq ((k:Int) + 1) (hs.length - (k + 1))) (fun j acc δ=>acc=dW hs (GS hs.length k ++ (row hs.length k).take j)∧∃z,δ=[.pu lay,.pu (.int (hs.length:Int)),.pu (.int (k:Int)),z]) ?_ ?_ ⟨by simp,_,rfl⟩ ?_ ?_
  .simp [jA,c9,Iu,sN,s1,ed]
  .simp [cq];omega
  .rintro j hj _ _ ⟨rfl,z,rfl⟩
   have hj2:j < hs.length - (k + 1):=by simpa [cq] using hj
   have itj:(cq ((k:Int) + 1) (hs.length - (k + 1)))[j]=.int ((k + 1 + j:Nat):Int):=by simp [cq]
   rw [itj]
   have c:=cm hk2 (show k + 1 + j < hs.length by omega)
   have lb:eD [hD (rq hs k (k + 1 + j))]=some (.int (wh hs (k,k + 1 + j))):=by simp [eD,hD,wh,rq,G]
   generalize hD (rq hs k (k + 1 + j))=bd at *
   unfold j4
   simp only [bf,cx,bg,YM,i5,b6,cY,eR]
   simp only [gT,ZE,VC,VD,ZL,Q7,ZZ,Jt.Slot.pu.injEq,VA,eS,bF,YM,c,gc,lb,bg]
   refine ⟨by omega,by omega,?_,_,rfl⟩
   show mh _ ((((k,k + 1 + j):Pr).1:Int),(((k,k + 1 + j):Pr).2:Int)) _=_
   rw [BJ,B6 hj2,<- Q4]
   .unfold dW
    rw [VO (l₂:=[_])]
    rfl
   .intro h
    rcases uT.mp h with h | h
    .have:=fY.mp h;dsimp only at this;omega
    .rw [WE] at h
     obtain ⟨i,hi,h⟩:=h
     simp [row] at h hi
     omega
  .rintro _ _ ⟨rfl,z,rfl⟩
   refine ⟨?_,rfl⟩
   have:(row hs.length k).take (cq ((k:Int) + 1) (hs.length - (k + 1))).length=row hs.length k:= by
    rw [V7]
    simp [row,cq]
   rw [this,B3]
 .rintro _ rfl
  simp [lD]
theorem uO {e:Pr}:∀{L:List Pr},e ∈ L->lq (dW hs L) (e.1:Int) (e.2:Int)=some (wh hs e)
 | [],h=>nomatch h
 | f :: L,h=>by
  unfold lq dW
  rw [QW,V1]
  by_cases q:f=e
  .subst q;simp
  .have:¬ (((f.1:Int),(f.2:Int))=((e.1:Int),(e.2:Int))):=fun z=>q (by
    have z1:=Z6 Prod.fst z
    have z2:=Z6 Prod.snd z
    dsimp only at z1 z2
    ext <;> omega)
   simp only [this,decide_false]
   exact uO ((uS.mp h).resolve_left fun z=>q z.symm)
theorem ts {L:List Pr} {e:Pr} (h:e ∈ L):iq (.dip (dW hs L)) (pD e)=some (.int (wh hs e)):= by
 show (lq (dW hs L) (e.1:Int) (e.2:Int)).map D.int=_
 rw [uO h];rfl
theorem vQ {L:List Pr} {a b c d:Jt.Slot}:∀{R:List Pr},(∀e ∈ R,e ∈ L)->iE (m1 rO (m2 iq (bZ 0) (bZ 5))) (dW hs R) [.pu (.dip (dW hs L)),a,b,c,d]=some (R.map fun e=>- wh hs e,[.pu (.dip (dW hs L)),a,b,c,d])
 | [],_=>rfl
 | e :: R,h=>by
  have ih:=vQ (L:=L) (a:=a) (b:=b) (c:=c) (d:=d) fun x hx=>h x (wV _ hx)
  have ix:=ts (hs:=hs) (h e xS)
  have o:(m1 rO (m2 iq (bZ 0) (bZ 5))) [.pu (.dip (dW hs L)),a,b,c,d,.pu (pD e)]=some (.int (- wh hs e),[.pu (.dip (dW hs L)),a,b,c,d,.pu (pD e)]):= by
   have:Ok (m1 rO (m2 iq (bZ 0) (bZ 5))) [.pu (.dip (dW hs L)),a,b,c,d,.pu (pD e)] fun x δ=>x=.int (- wh hs e)∧δ=[.pu (.dip (dW hs L)),a,b,c,d,.pu (pD e)]:= by
    unfold m1
    simp [ix,rO]
   obtain ⟨x,δ,e1,rfl,rfl⟩:=this
   exact e1
  show iE _ ((((e.1:Int),(e.2:Int)),wh hs e) :: dW hs R) _=_
  unfold iE
  show (match (m1 rO (m2 iq (bZ 0) (bZ 5))) [.pu (.dip (dW hs L)),a,b,c,d,.pu (pD e)] with
   | some (.int k,δ')=>_
   | _=>none)=_
  rw [o]
  dsimp only [List.length_cons,List.length_nil,List.take_succ_cons,List.take_zero]
  rw [ih]
  rfl
theorem qu {α:Type} {ks:List Int} {vs:List α} (h:vs.length=ks.length) (z z':α):So.pickI ks z vs=So.pickI ks z' vs:= by
 unfold So.pickI
 split
 .rfl
 .rename_i hl
  have b:=(So.ordI_ok (ks:=ks) (by omega)).1
  have p:(So.ordI ks).toList.Perm (List.range ks.length):=by simpa using Y9.mp b
  refine ZM fun i hi=>?_
  have:=uL.mp (p.mem_iff.mp hi)
  simp [QA,kW (show i < vs.length by omega)]
noncomputable def SL (hs:List (List Int)):List Pr:=So.pickI ((Pn hs.length).map fun e=>- wh hs e) (0,0) (Pn hs.length)
theorem Iy (e:Pr):0 ≤ wh hs e:=by unfold wh;omega
theorem fm (h6:hs.length ≤ 6) (h1:1 ≤ hs.length):Fm (wh hs) (SL hs) (Pn hs.length) hs.length where
 perm:=So.pickI_perm _ _ _ (by simp)
 nd:=Lk _ (by omega)
 ord:= by
  have h:=So.pickI_sorted ((Pn hs.length).map fun e=>- wh hs e)
  rw [qu rfl 0 (- wh hs (0,0)),<- So.pickI_map _ (fun e=>- wh hs e) (0,0),YD] at h
  exact h.imp fun z=>by omega
 pos:=fun e _=>Iy e
 rng:=fun e he=>by have:=fY.mp he;omega
 con:=fun a ha b hb=>by
  rcases Nat.lt_trichotomy a b with h | h | h
  .exact fg (e:=(a,b)) (fY.mpr ⟨ha,h,hb⟩)
  .subst h;exact .refl _
  .exact (fg (e:=(b,a)) (fY.mpr ⟨hb,h,ha⟩)).symm
 one:=h1
theorem MW (h6:hs.length ≤ 6) {l:List Nat} {T:List Pr} (hl:G0 hs.length l T):bP qi qm [.dip (dW hs (Pn hs.length)),.tup (lD l)]=some (.int (wt (wh hs) (fC (SL hs) T))):= by
 apply bx
 show Ok qm [.pu (.dip (dW hs (Pn hs.length))),.pu (.tup (lD l)),.un,.un,.un] _
 unfold qm
 refine b4 (fun δ=>δ=[.pu (.dip (dW hs (Pn hs.length))),.pu (.tup (lD l)),.pu (.int 0),.un,.un]) (by simp) ?_
 rintro _ rfl
 have F:∀e ∈ SL hs,e ∈ Pn hs.length:=fun e he=>(So.pickI_perm _ _ _ (by simp)).mem_iff.mp he
 rw [cy]
 refine nT ((SL hs).map pD) (fun k δ=>∃(l':List Nat) (a b:Jt.Slot),G0 hs.length l' (T ++ fC ((SL hs).take k) T)∧δ=[.pu (.dip (dW hs (Pn hs.length))),.pu (.tup (lD l')),.pu (.int (wt (wh hs) (fC ((SL hs).take k) T))),a,b]) ?_ ⟨l,.un,.un,by simpa [fC] using hl,by simp [fC,wt]⟩ ?_ ?_
 .have ks:=vQ (hs:=hs) (L:=Pn hs.length) (a:=.pu (.tup (lD l))) (b:=.pu (.int 0)) (c:=.un) (d:=.un) (R:=Pn hs.length) fun _ z=>z
  have hlen:(dW hs (Pn hs.length)).length < 64:= by
   have:=Bq hs.length (by omega)
   simp [dW];omega
  have em:(dW hs (Pn hs.length)).map (fun p=>pairD p.1)=(Pn hs.length).map pD:= by
   unfold dW
   rw [ZI]
   rfl
  have ep:So.pickI ((Pn hs.length).map fun e=>- wh hs e) .non ((Pn hs.length).map pD)=(SL hs).map pD:= by
   rw [qu (by simp) .non (pD (0,0)),<- So.pickI_map]
   rfl
  unfold oO
  simp only [bf,cY,Q7,ZZ,Jt.Slot.pu.injEq,VA]
  rw [gL hlen]
  simp only [bf]
  exact ⟨_,_,ks,by dsimp only;rw [bg,em,ep,bg];simp [ck]⟩
 .rintro k hk _ ⟨l',a,b,hL,rfl⟩
  have hk2:k < (SL hs).length:=by simpa using hk
  have itm:((SL hs).map pD)[k]=pD (SL hs)[k]:=by simp
  rw [itm]
  have he:=F _ (QH hk2)
  have ek:(SL hs).take (k + 1)=(SL hs).take k ++ [(SL hs)[k]]:=Q6 hk2
  rw [ek,ke]
  generalize (SL hs)[k]=e at he
  generalize fC ((SL hs).take k) T=X at hL
  have hm:=fY.mp he
  have x1:=oB (H:=l') (k:=e.1) (by rw [hL.len];omega)
  have x2:=oB (H:=l') (k:=e.2) (by rw [hL.len];omega)
  have lk:=Hi (l:=l') (by rw [hL.len];exact h6) (a:=e.1) (b:=e.2) (by rw [hL.len];omega) (by rw [hL.len];omega)
  have iw:=ts (hs:=hs) he
  have ee:=hL.eq e.1 e.2 (by omega) (by omega)
  have hL2:=hL.lnk (u:=e.1) (v:=e.2) (by omega) (by omega)
  have ne:=d5 true (l'.getD e.1 0) (l'.getD e.2 0)
  unfold pD at iw ⊢
  generalize lnk l' e.1 e.2=l2 at *
  generalize l'.getD e.1 0=y1 at *
  generalize l'.getD e.2 0=y2 at *
  generalize D.dip (dW hs (Pn hs.length))=W at *
  simp only [jd,gT,ZE,YM,fU,cx,gH,VC,VD]
  refine ⟨by omega,by omega,?_⟩
  by_cases q:dj (T ++ X) e.1 e.2
  .refine qY (fun b δ=>b=false∧δ=[.pu W,.pu (.tup (lD l')),.pu (.int (wt (wh hs) X)),.pu (.int (e.1:Int)),.pu (.int (e.2:Int))]) ?_ (fun _ h=>by cases h.1) ?_
   .rw [QK (ee.mpr q)] at ne
    simp [x1,x2,ne]
   .rintro _ ⟨_,rfl⟩
    refine bg.mpr ⟨l',.pu (.int (e.1:Int)),.pu (.int (e.2:Int)),?_,?_⟩
    .rw [vo q];simpa [fC] using hL
    .rw [vo q];simp [fC]
  .have q':¬ y1=y2:=fun z=>q (ee.mp z)
   refine qY (fun b δ=>b=true∧δ=[.pu W,.pu (.tup (lD l')),.pu (.int (wt (wh hs) X)),.pu (.int (e.1:Int)),.pu (.int (e.2:Int))]) ?_ ?_ (fun _ h=>by cases h.1)
   .simp only [Z3 q'] at ne
    simp [x1,x2,ne]
   .rintro _ ⟨_,rfl⟩
    refine b4 (fun δ=>δ=[.pu W,.pu (.tup (lD l2)),.pu (.int (wt (wh hs) X)),.pu (.int (e.1:Int)),.pu (.int (e.2:Int))]) (by simp [bF,lk]) ?_
    rintro _ rfl
    simp only [dt,iH,cY,i5,b6,bg,eS,ZL,Q7,ZZ,Jt.Slot.pu.injEq,VA,iw,gc,gT,ZE,VC,VD,jA,c9,YM]
    refine ⟨by omega,by omega,l2,.pu (.int (e.1:Int)),.pu (.int (e.2:Int)),?_,?_⟩
    .rw [uZ q];simpa [fC] using hL2
    .rw [uZ q];simp [fC,wt]
 .rintro _ ⟨l',a,b,hL,rfl⟩
  have:(SL hs).take ((SL hs).map pD).length=SL hs:=by simp
  rw [this]
  simp
end
section
variable {hs:List (List Int)} {M:Nat}
theorem sum_ints (ns:List Int) (h1:ns.length ≤ 1000) (h2:∀i ∈ ns,0 ≤ i∧i ≤ 1000000):zw [.lst (ns.map .int)]=some (.int ns.sum):= by
 have:kl ns=true:= by
  unfold kl
  simp only [QI,QD,QT]
  exact ⟨h1,h2⟩
 show (dF (ns.map .int)).bind _=_
 rw [eK]
 simp [this]
theorem L4 (h6:hs.length ≤ 6) (hM:M ≤ 7):bP Ax A_ [bA M hs]=some (.int (qN hs M)):= by
 apply bx
 show Ok A_ [.pu (bA M hs)] _
 dsimp only [A_,qV]
 have e0:=gZ (M:Int) hs
 have ho:=fun (c:Nat) (hc:c < M)=>Lb h6 c hc
 generalize bA (M:Int) hs=lay at *
 have sM:cj (M:Int)=true:=by simp [cj];omega
 simp only [bf,eR,b6,bg]
 refine bu (List.range M) (fun (c:Nat)=>.int (c:Int)) (fun c=>some (.int (max (((vc hs c).length:Int) - 1) 0))) rfl ?_ (by simp;omega) (fun c hc=>?_) ?_
 .simp [e0,ju,sM,cq]
 .have h:=ho c (uL.mp hc)
  have hm:n5 [.int (((vc hs c).length:Int) - 1),.int 0]=some (.int (max (((vc hs c).length:Int) - 1) 0)):= by
   simp only [n5]
   refine Z6 (fun z:Int=>some (D.int z)) ?_
   omega
  have hl:eD [.tup (lD (vc hs c))]=some (.int ((vc hs c).length:Int)):=by simp [eD,lD]
  generalize D.tup (lD (vc hs c))=vd at *
  simp [bF,h,hl,yz,c9,hm]
 .rw [ZQ]
  have s:=sum_ints ((List.range M).map fun c=>max (((vc hs c).length:Int) - 1) 0) (by simp;omega) fun i hi=>by
   obtain ⟨c,_,rfl⟩:=gE.mp hi
   have:(vc hs c).length ≤ 6:= by
    unfold vc
    have:=QX (fun i=>co hs c i) (List.range hs.length)
    rw [Q5] at this
    omega
   omega
  rw [ZI] at s
  show Ok (lift (zw [.lst _])) _ _
  rw [show ((fun c:Nat=>D.int (max (((vc hs c).length:Int) - 1) 0))=(D.int ∘ fun c=>max (((vc hs c).length:Int) - 1) 0)) from rfl,s]
  simp [qN]
noncomputable abbrev Mw (hs:List (List Int)) (T:List Pr):Int:=wt (wh hs) (fC (SL hs) T)
theorem F9 (n:Nat) (h:n ≤ 6):mj [.int (n:Int)]=some (lD (List.range n)):= by
 have:((n:Int) < 100000 ∧ -(2 ^ 62) ≤ (n:Int)):=by omega
 simp [mj,this,jH]
theorem A6 (hs:List (List Int)) (L:List Pr):BB (.dip (dW hs L))=some (bz (L.map pD)):= by
 show some (bz ((dW hs L).map fun p=>pairD p.1))=_
 unfold dW
 rw [ZI]
 rfl
theorem Ll (h1:1 ≤ hs.length) (h6:hs.length ≤ 6) (h7:∀h ∈ hs,h.length ≤ 7) (hM:M ≤ 7) :
  bP HR DY [bA M hs]=some (if Mw hs []=qN hs M then .tup ((pK (wh hs) (Mw hs) (Pn hs.length) [] (qN hs M)).map pD) else .non):= by
 apply bx
 show Ok DY [.pu (bA M hs),.un,.un,.un,.un,.un,.un,.un,.un] _
 dsimp only [DY,x3]
 have e1:iq (bA (M:Int) hs) (.int 1)=some (.tup (hs.map hD)):=rfl
 have e2:=uB hs
 have pw:=N2 (M:Int) h6 h7
 have dw:=L4 h6 hM
 have mm:=fun {l:List Nat} {T:List Pr} (hl:G0 hs.length l T)=>MW h6 hl
 have mm0:=mm (wq hs.length)
 have kd:=A6 hs (Pn hs.length)
 have iw:=fun (e:Pr) (he:e ∈ Pn hs.length)=>ts (hs:=hs) he
 have rl:=F9 _ h6
 have le15:=Bq hs.length (by omega)
 generalize bA (M:Int) hs=lay at *
 generalize D.dip (dW hs (Pn hs.length))=W at *
 generalize qN hs M=d0 at *
 refine b4 (fun δ=>δ=[.pu lay,.pu W,.un,.un,.un,.un,.un,.un,.un]) (by simp [bF,pw]) ?_
 rintro _ rfl
 refine b4 (fun δ=>δ=[.pu lay,.pu W,.pu (.tup (lD (List.range hs.length))),.un,.un,.un,.un,.un,.un]) (by simp [e1,e2,rl]) ?_
 rintro _ rfl
 refine b4 (fun δ=>δ=[.pu lay,.pu W,.pu (.tup (lD (List.range hs.length))),.pu (.int d0),.un,.un,.un,.un,.un]) (by simp [bF,dw]) ?_
 rintro _ rfl
 have ne:=wI true (Mw hs []) d0
 refine dq (!decide (Mw hs []=d0)) ?_ (fun h=>?_) fun h=>?_
 .rw [gL rfl] at ne
  simp [bF,mm0,ne]
  exact Decidable.em _
 .have:¬ Mw hs []=d0:=by simpa using h
  rw [QC this]
  simp
 .have:Mw hs []=d0:=by simpa using h
  rw [gL this]
  refine b4 (fun δ=>δ=[.pu lay,.pu W,.pu (.tup (lD (List.range hs.length))),.pu (.int d0),.ow false [],.un,.un,.un,.un]) (by simp) ?_
  rintro _ rfl
  rw [cy]
  refine nT ((Pn hs.length).map pD) (fun k δ=>∃(T:List Pr) (l:List Nat) (d:Int) (a b c e:Jt.Slot),G0 hs.length l T∧T.length ≤ k∧pK (wh hs) (Mw hs) ((Pn hs.length).drop k) T d=pK (wh hs) (Mw hs) (Pn hs.length) [] d0∧δ=[.pu lay,.pu W,.pu (.tup (lD l)),.pu (.int d),.ow false (T.map pD),a,b,c,e]) ?_ ⟨[],_,d0,.un,.un,.un,.un,wq _,wF _,by simp,rfl⟩ ?_ ?_
  .simp [kd]
  .rintro k hk _ ⟨T,l,d,a,b,c,e0,hL,hT,hf,rfl⟩
   have hk2:k < (Pn hs.length).length:=by simpa using hk
   have itm:((Pn hs.length).map pD)[k]=pD (Pn hs.length)[k]:=by simp
   rw [itm]
   have he:(Pn hs.length)[k] ∈ Pn hs.length:=QH hk2
   rw [QG hk2] at hf
   generalize (Pn hs.length)[k]=e at he hf
   have hm:=fY.mp he
   have x1:=oB (H:=l) (k:=e.1) (by rw [hL.len];omega)
   have x2:=oB (H:=l) (k:=e.2) (by rw [hL.len];omega)
   have lk:=Hi (l:=l) (by rw [hL.len];exact h6) (a:=e.1) (b:=e.2) (by rw [hL.len];omega) (by rw [hL.len];omega)
   have iw:=iw e he
   have ee:=hL.eq e.1 e.2 (by omega) (by omega)
   have hL2:=hL.lnk (u:=e.1) (v:=e.2) (by omega) (by omega)
   have mm2:=mm hL2
   have ne:=d5 true (l.getD e.1 0) (l.getD e.2 0)
   unfold pD at iw
   show Ok (iC 2 _ (.tup [.int (e.1:Int),.int (e.2:Int)])) _ _
   generalize lnk l e.1 e.2=l2 at *
   generalize l.getD e.1 0=y1 at *
   generalize l.getD e.2 0=y2 at *
   simp only [jd,gT,ZE,YM,fU,cx,gH,VC,VD]
   refine ⟨by omega,by omega,?_⟩
   refine b4 (fun δ=>δ=[.pu lay,.pu W,.pu (.tup (lD l)),.pu (.int d),.ow false (T.map pD),.pu (.int (e.1:Int)),.pu (.int (e.2:Int)),.pu (.int (wh hs e)),e0]) (by simp [iw]) ?_
   rintro _ rfl
   by_cases q:dj T e.1 e.2
   .refine qY (fun b δ=>b=false∧δ=[.pu lay,.pu W,.pu (.tup (lD l)),.pu (.int d),.ow false (T.map pD),.pu (.int (e.1:Int)),.pu (.int (e.2:Int)),.pu (.int (wh hs e)),e0]) ?_ (fun _ h=>by cases h.1) ?_
    .rw [QK (ee.mpr q)] at ne
     simp [x1,x2,ne]
    .rintro _ ⟨_,rfl⟩
     rw [Mb _ _ q] at hf
     exact bg.mpr ⟨T,l,d,_,_,_,_,hL,by omega,hf,rfl⟩
   .have q':¬ y1=y2:=fun z=>q (ee.mp z)
    refine qY (fun b δ=>b=true∧δ=[.pu lay,.pu W,.pu (.tup (lD l)),.pu (.int d),.ow false (T.map pD),.pu (.int (e.1:Int)),.pu (.int (e.2:Int)),.pu (.int (wh hs e)),e0]) ?_ ?_ (fun _ h=>by cases h.1)
    .simp only [Z3 q'] at ne
     simp [x1,x2,ne]
    .rintro _ ⟨_,rfl⟩
     refine b4 (fun δ=>δ=[.pu lay,.pu W,.pu (.tup (lD l)),.pu (.int d),.ow false (T.map pD),.pu (.int (e.1:Int)),.pu (.int (e.2:Int)),.pu (.int (wh hs e)),.pu (.tup (lD l2))]) (by simp [bF,lk]) ?_
     rintro _ rfl
     have eqf:fe false (.int (wh hs e + Mw hs (T ++ [e]))) (.int d)=some (.bl (decide (wh hs e + Mw hs (T ++ [e])=d))):=by simp [fe,flat,j8]
     change bP qi qm [W,.tup (lD l2)]=some (.int (Mw hs (T ++ [e]))) at mm2
     generalize ht:Mw hs (T ++ [e])=m2' at *
     refine qY (fun b δ=>b=decide (wh hs e + m2' = d)∧δ=[.pu lay,.pu W,.pu (.tup (lD l)),.pu (.int d),.ow false (T.map pD),.pu (.int (e.1:Int)),.pu (.int (e.2:Int)),.pu (.int (wh hs e)),.pu (.tup (lD l2))]) ?_ ?_ ?_
     .simp [bF,mm2,jA,c9,eqf]
      exact (Decidable.em _).symm
     .rintro _ ⟨h,rfl⟩
      have h:wh hs e + m2' = d:=by simpa using h.symm
      rw [K9 _ _ q (by rw [ht];exact h)] at hf
      refine b4 (fun δ=>δ=[.pu lay,.pu W,.pu (.tup (lD l)),.pu (.int d),.ow false ((T ++ [e]).map pD),.pu (.int (e.1:Int)),.pu (.int (e.2:Int)),.pu (.int (wh hs e)),.pu (.tup (lD l2))]) ?_ ?_
      .refine eY ⟨_,_,rfl⟩ ?_
       simp only [b6,i5,cY,bg,eS,ZL,Q7,ZZ,Jt.Slot.pu.injEq,VA,gT,ZE]
       refine ⟨by omega,_,false,_,rfl,rfl,by simp;omega,trivial,?_⟩
       rw [VO]
       rfl
      rintro _ rfl
      refine b4 (fun δ=>δ=[.pu lay,.pu W,.pu (.tup (lD l2)),.pu (.int d),.ow false ((T ++ [e]).map pD),.pu (.int (e.1:Int)),.pu (.int (e.2:Int)),.pu (.int (wh hs e)),.pu (.tup (lD l2))]) (by simp) ?_
      rintro _ rfl
      simp only [dt,iH,cY,ZL,Q7,ZZ,Jt.Slot.pu.injEq,VA,yz,c9,YM,gc,gT,ZE,VC,VD]
      exact ⟨by omega,T ++ [e],l2,d - wh hs e,_,_,_,_,hL2,by simp;omega,hf,rfl⟩
     .rintro _ ⟨h,rfl⟩
      have h:¬ wh hs e + m2' = d:=by simpa using h.symm
      rw [L1 _ _ q (by rw [ht];exact h)] at hf
      exact bg.mpr ⟨T,l,d,_,_,_,_,hL,by omega,hf,rfl⟩
  .rintro _ ⟨T,l,d,a,b,c,e0,hL,hT,hf,rfl⟩
   have:(Pn hs.length).drop ((Pn hs.length).map pD).length=[]:=by simp
   rw [this] at hf
   simp only [pK] at hf
   rw [<- hf]
   simp
end
noncomputable abbrev mm (hs:List (List Int)):Nat->Nat->Bool:=fun i c=>decide ((c:Int) ∈ G hs i)
theorem dh {hs:List (List Int)} {i c:Nat}:mm hs i c=true ↔ (c:Int) ∈ G hs i:=by simp
section
variable {hs:List (List Int)} {ls:List Nat}
theorem y9 (K:∀i,∀x ∈ G hs i,(0:Int) ≤ x) {n o:Nat} (hn:n ∈ ls):o ∈ holders hs ls n ↔ Er (mm hs) ls n o:= by
 constructor
 .intro h
  obtain ⟨h1,h2⟩:=wR.mp h
  simp only [QI,QD,QT] at h2
  exact ⟨hn,h1,h2.1,fun c p hc hp hne hpc=>dh.mpr (h2.2 _ (wR.mpr ⟨dh.mp hc,QY.mpr ⟨p,hp,by simp [hne,dh.mp hpc]⟩⟩))⟩
 .intro E
  refine wR.mpr ⟨E.hp,?_⟩
  simp only [QI,QD,QT]
  refine ⟨E.ne,fun c hc=>?_⟩
  obtain ⟨h1,h2⟩:=wR.mp hc
  obtain ⟨p,hp,h3⟩:=QY.mp h2
  simp only [QI,QD] at h3
  obtain ⟨k,rfl⟩:∃k:Nat,c=(k:Int):=⟨c.toNat,by have:=K n c h1;omega⟩
  exact dh.mp (E.hold k p (dh.mpr h1) hp h3.1 (dh.mpr h3.2))
theorem DZ (K:∀i,∀x ∈ G hs i,(0:Int) ≤ x) {e p:Nat} (E:Er (mm hs) ls e p):eO hs ls ≠ []:=fun z=>by
 have h:=(y9 K E.he).mpr E
 cases q:(holders hs ls e).head? with
 | none=>rw [List.head?_eq_none_iff] at q;rw [q] at h;cases h
 | some o=>
  have:(e,o) ∈ eO hs ls:=WY.mpr ⟨e,E.he,by rw [q];rfl⟩
  rw [z] at this
  cases this
theorem vB (K:∀i,∀x ∈ G hs i,(0:Int) ≤ x):∀(f:Nat) (ls:List Nat),ls.length ≤ f + 1->ls.Nodup->Red (mm hs) ls->∃x,(ni hs f ls).2=[x]
 | 0,ls,hl,nd,R=>by
  cases R with
  | one x=>exact ⟨x,rfl⟩
  | @ear _ e p E r=>
   have h1:=ZX E.he
   have h2:=j3 E.he
   have:p ∈ wo ls e:=bh.mpr ⟨E.hp,E.ne⟩
   have:=ZX this
   omega
 | f + 1,ls,hl,nd,R=>by
  cases q:eO hs ls with
  | nil=>
   rw [oA q]
   cases R with
   | one x=>exact ⟨x,rfl⟩
   | ear E r=>exact absurd q (DZ K E)
  | cons p r=>
   rw [lu q]
   obtain ⟨h1,h2⟩:=ka q
   have E:=(y9 K h1).mp h2
   have:=j3 E.he
   exact vB K f _ (by unfold wo at this;omega) (fJ nd) (R.off nd E)
theorem Aj {n:Nat}:runs hs ls n=true ↔ ls=[] ∨ ∃o ∈ ls,∀p ∈ ls,∀c ∈ G hs n,c ∈ G hs p->c ∈ G hs o:= by
 unfold runs
 simp only [VN,WB,QY,QT,V0,YS,QD]
 constructor
 .rintro (h | ⟨o,ho,h⟩)
  .exact .inl h
  .exact .inr ⟨o,ho,fun p hp c hc hcp=>(h p hp c hc).elim (fun z=>absurd hcp z) id⟩
 .rintro (h | ⟨o,ho,h⟩)
  .exact .inl h
  .refine .inr ⟨o,ho,fun p hp c hc=>?_⟩
   by_cases z:c ∈ G hs p
   .exact .inr (h p hp c hc z)
   .exact .inl z
theorem D_ {a:Nat} (h:a ∉ ls):wo (ls ++ [a]) a=ls:= by
 unfold wo
 rw [YV,WM.mpr fun x hx=>by simp;exact fun z=>h (z ▸ hx)]
 simp
theorem wA (K:∀i,∀x ∈ G hs i,(0:Int) ≤ x) {n:Nat} (hn:n ∉ ls):runs hs ls n=true ↔ ls=[] ∨ ∃o,Er (mm hs) (ls ++ [n]) n o:= by
 rw [Aj]
 refine or_congr_right ⟨fun ⟨o,ho,h⟩=>⟨o,by simp,by simp [ho],fun z=>hn (z ▸ ho),fun c p hc hp hne hpc=>?_⟩,fun ⟨o,E⟩=>?_⟩
 .rcases uT.mp hp with z | z
  .exact dh.mpr (h p z c (dh.mp hc) (dh.mp hpc))
  .exact absurd (jP.mp z) hne
 .have ho:o ∈ ls:= by
   rcases uT.mp E.hp with z | z
   .exact z
   .exact absurd (jP.mp z) E.ne
  refine ⟨o,ho,fun p hp c hc hcp=>?_⟩
  obtain ⟨k,rfl⟩:∃k:Nat,c=(k:Int):=⟨c.toNat,by have:=K n c hc;omega⟩
  exact dh.mp (E.hold k p (dh.mpr hc) (ZO _ hp) (fun z=>hn (z ▸ hp)) (dh.mpr hcp))
theorem m6 {a k:Nat} (h:k < ls.length):(ls ++ [a]).getD k 0=ls.getD k 0:= by
 rw [QA,QF h,<- QA]
theorem jm {a:Nat}:Run hs (ls ++ [a]) ↔ Run hs ls∧runs hs ls a=true:= by
 constructor
 .intro h
  refine ⟨fun k hk=>?_,?_⟩
  .have:=h k (by rw [fR];omega)
   rw [QO (by omega),m6 hk] at this
   exact this
  .have:=h ls.length (by simp)
   simpa using this
 .rintro ⟨h1,h2⟩ k hk
  rw [fR,XA] at hk
  by_cases z:k < ls.length
  .rw [QO (by omega),m6 z]
   exact h1 k z
  .obtain rfl:k=ls.length:=by omega
   simpa using h2
theorem uR (K:∀i,∀x ∈ G hs i,(0:Int) ≤ x):∀(n:Nat) (ls:List Nat),ls.length ≤ n->ls.Nodup->ls ≠ []->Run hs ls->Red (mm hs) ls
 | 0,ls,hl,_,hne,_=>absurd (YR.mp (by omega)) hne
 | n + 1,ls,hl,nd,hne,R=>by
  rcases List.eq_nil_or_concat ls with z | ⟨init,a,rfl⟩
  .exact absurd z hne
  .rw [List.concat_eq_append] at *
   obtain ⟨h1,h2⟩:=jm.mp R
   have na:a ∉ init:= by
    rw [Q3] at nd
    exact fun z=>nd.2.2 a z a (by simp) rfl
   rcases (wA K na).mp h2 with z | ⟨o,E⟩
   .subst z;exact .one a
   .have hi:init ≠ []:=fun z=>by
     subst z
     have:=E.hp
     simp at this
     exact E.ne this
    refine .ear E ?_
    rw [D_ na]
    exact uR K n init (by rw [fR] at hl;simp at hl;omega) (Q3.mp nd).1 hi h1
theorem EI (K:∀i,∀x ∈ G hs i,(0:Int) ≤ x) (R:Red (mm hs) ls):ls.Nodup->∃r,r.Perm ls∧Run hs r:= by
 induction R with
 | one x=>exact fun _=>⟨[x],.refl _,fun k hk=>by
   obtain rfl:k=0:=by simp at hk;omega
   rfl⟩
 | @ear L e p E _ ih=>
  intro nd
  obtain ⟨r,pr,rr⟩:=ih (fJ nd)
  have ne:e ∉ r:=fun z=>(bh.mp (pr.mem_iff.mp z)).2 rfl
  have pm:(r ++ [e]).Perm L:= by
   refine (ZH ?_ nd).mpr fun x=>?_
   .rw [Q3]
    exact ⟨pr.nodup_iff.mpr (fJ nd),by simp,fun a ha b hb z=>by rw [jP.mp hb] at z;exact ne (z ▸ ha)⟩
   .rw [uT,pr.mem_iff,bh,jP]
    constructor
    .rintro (z | rfl)
     .exact z.1
     .exact E.he
    .intro h
     by_cases q:x=e
     .exact .inr q
     .exact .inl ⟨h,q⟩
  refine ⟨r ++ [e],pm,jm.mpr ⟨rr,(wA K ne).mpr (.inr ⟨p,pm.mem_iff.mpr E.he,pm.mem_iff.mpr E.hp,E.ne,fun c o hc ho=>E.hold c o hc (pm.mem_iff.mp ho)⟩)⟩⟩
end
section
variable {hs:List (List Int)} {ls:List Nat}
theorem uo {β:Type} {g:Nat->Option β} {n:Nat} (h:jQ g n=none):∀k,k < n->g k=none:=fun k hk=>by
 unfold jQ at h
 exact List.findSome?_eq_none_iff.mp h k (uL.mpr hk)
theorem sJ {β:Type} {g:Nat->Option β} {n:Nat} {r:β} (h:jQ g n=some r):∃k,k < n∧g k=some r:= by
 unfold jQ at h
 obtain ⟨k,hk,e⟩:=List.exists_of_findSome?_eq_some h
 exact ⟨k,uL.mp hk,e⟩
theorem KG {rec:List Nat->Option (List Nat)} {k:Nat} {r:List Nat} (h:C6 hs rec ls k=some r):k ∉ ls∧runs hs ls k=true∧rec (ls ++ [k])=some r:= by
 unfold C6 at h
 split at h
 .rename_i q
  simp only [QI,V0,YS] at q
  exact ⟨q.1,q.2,h⟩
 .cases h
theorem iQ:∀(f:Nat) (ls r:List Nat),gz hs f ls=some r->Run hs ls->ls.Nodup->(∀i ∈ ls,i < hs.length)->Good hs.length r∧Run hs r
 | 0,ls,r,h,_,_,_=>by cases h
 | f + 1,ls,r,h,R,nd,lt=>by
  rw [gz] at h
  split at h
  .rename_i q
   cases h
   exact ⟨⟨q,nd,lt⟩,R⟩
  .obtain ⟨k,hk,e⟩:=sJ h
   obtain ⟨h1,h2,h3⟩:=KG e
   refine iQ f (ls ++ [k]) r h3 (jm.mpr ⟨R,h2⟩) ?_ fun i hi=>?_
   .rw [Q3]
    exact ⟨nd,by simp,fun a ha b hb z=>by rw [jP.mp hb] at z;exact h1 (z ▸ ha)⟩
   .rcases uT.mp hi with z | z
    .exact lt i z
    .rw [jP.mp z];exact hk
theorem mJ {r:List Nat} (g:Good hs.length r) (R:Run hs r):∀(f:Nat) (ls t:List Nat),hs.length < f + ls.length->r=ls ++ t->gz hs f ls ≠ none
 | 0,ls,t,hf,e=>fun _=>by
  have:=g.1
  rw [e,fR] at this
  omega
 | f + 1,ls,t,hf,e=>fun h=>by
  rw [gz] at h
  split at h
  .cases h
  .rename_i q
   cases t with
   | nil=>rw [ZA] at e;exact q (e ▸ g.1)
   | cons k t=>
    have hk:k < hs.length:=g.2.2 k (by rw [e];simp)
    have e':r=ls ++ [k] ++ t:=by rw [e];simp
    have nk:k ∉ ls:=fun z=>by
     have:=g.2.1
     rw [e,Q3] at this
     exact this.2.2 k z k (by simp) rfl
    have rk:runs hs ls k=true:= by
     have:=R ls.length (by rw [e];simp)
     rw [e] at this
     simpa using this
    have:=uo h k hk
    unfold C6 at this
    rw [gL (by simp [nk,rk])] at this
    exact mJ g R f (ls ++ [k]) t (by rw [fR];simp;omega) e' this
theorem wK (K:∀i,∀x ∈ G hs i,(0:Int) ≤ x) (h1:1 ≤ hs.length) {f:Nat} (hf:hs.length < f):(∃r,gz hs f []=some r) ↔ Red (mm hs) (List.range hs.length):= by
 have r0:Run hs []:=fun k hk=>by simp at hk
 constructor
 .rintro ⟨r,e⟩
  obtain ⟨g,R⟩:=iQ f [] r e r0 YN (fun i hi=>(nomatch hi))
  have rn:r ≠ []:=fun z=>by have:=g.1;rw [z] at this;simp at this;omega
  have p:r.Perm (List.range hs.length):=(ZH g.2.1 QU).mpr fun x=>⟨fun z=>uL.mpr (g.2.2 x z),fun z=>gK g (uL.mp z)⟩
  exact (uR K r.length r (wF _) g.2.1 rn R).perm p g.2.1
 .intro R
  obtain ⟨r,p,rr⟩:=EI K R QU
  have g:Good hs.length r:=⟨by rw [p.length_eq,Q5],p.nodup_iff.mpr QU,fun i hi=>uL.mp (p.mem_iff.mp hi)⟩
  cases q:gz hs f [] with
  | none=>exact absurd q (mJ g rr f [] r (by simpa using hf) rfl)
  | some r=>exact ⟨r,rfl⟩
theorem jF {h:List Int}:h ∈ hs ↔ ∃i ∈ List.range hs.length,G hs i=h:= by
 constructor
 .intro hh
  obtain ⟨i,hi,rfl⟩:=ZS hh
  exact ⟨i,uL.mpr hi,by simp [G,hi]⟩
 .rintro ⟨i,hi,rfl⟩
  exact kR (uL.mp hi)
theorem kj {c:Nat} {L:List Nat}:free hs c L=true ↔ xp (mm hs) (List.range hs.length) c L:= by
 rw [ql]
 have hv:∀h,h ∈ pL hs c ↔ h ∈ hs∧(c:Int) ∈ h:=fun h=>by simp [pL,wR]
 have mt:∀o,kD hs c o=true ↔ ∃i ∈ List.range hs.length,mm hs i c=true∧mm hs i o=true:=fun o=>by
  unfold kD
  rw [QY]
  constructor
  .rintro ⟨h,h1,h2⟩
   obtain ⟨h3,h4⟩:=(hv h).mp h1
   obtain ⟨i,hi,rfl⟩:=jF.mp h3
   exact ⟨i,hi,dh.mpr h4,dh.mpr (by simpa using h2)⟩
  .rintro ⟨i,hi,h1,h2⟩
   exact ⟨G hs i,(hv _).mpr ⟨jF.mpr ⟨i,hi,rfl⟩,dh.mp h1⟩,by simpa using dh.mp h2⟩
 refine or_congr ?_ ?_
 .rw [List.eq_nil_iff_forall_not_mem]
  constructor
  .intro h i hi
   cases q:mm hs i c with
   | false=>rfl
   | true=>exact absurd ((hv _).mpr ⟨jF.mpr ⟨i,hi,rfl⟩,dh.mp q⟩) (h _)
  .intro h x hx
   obtain ⟨h1,h2⟩:=(hv x).mp hx
   obtain ⟨i,hi,rfl⟩:=jF.mp h1
   have:=h i hi
   rw [dh.mpr h2] at this
   cases this
 .constructor
  .rintro ⟨h,h1,h2⟩
   obtain ⟨h3,h4⟩:=(hv h).mp h1
   obtain ⟨i,hi,rfl⟩:=jF.mp h3
   exact ⟨i,hi,dh.mpr h4,fun o ho z=>dh.mpr (h2 o ho ((mt o).mpr z))⟩
  .rintro ⟨i,hi,h1,h2⟩
   exact ⟨G hs i,(hv _).mpr ⟨jF.mpr ⟨i,hi,rfl⟩,dh.mp h1⟩,fun o ho z=>dh.mp (h2 o ho ((mt o).mp z))⟩
theorem pq:∀(f:Nat) (ord left:List Nat) {r:List Nat},sE hs f ord left=some r->left.Nodup->1 ≤ hs.length->Red (rs (mm hs) left) (List.range hs.length)∧∃s,r=ord ++ s∧s.Perm left∧Ord hs s
 | 0,_,_,_,h,_,_=>by cases h
 | f + 1,ord,left,r,h,nd,h1=>by
  rw [sE] at h
  split at h
  .rename_i q
   cases h
   have:left=[]:=WB.mp q
   subst this
   exact ⟨Red.none QU fun z=>by have:=List.range_eq_nil.mp z;omega,[],by simp,.refl _,fun k hk=>by simp at hk⟩
  .split at h
   .cases h
   .rename_i c t q
    have hc:c ∈ left.filter fun c=>free hs c left:=by rw [q];exact xS
    obtain ⟨c1,c2⟩:=wR.mp hc
    have ew:(left.filter fun o=>!decide (o=c))=wo left c:= by
     unfold wo
     exact ZF fun x _=>by simp
    rw [ew] at h
    obtain ⟨R,s,rfl,ps,os⟩:=pq f (ord ++ [c]) (wo left c) h (fJ nd) h1
    have pm:(c :: s).Perm left:= by
     refine (ZH ?_ nd).mpr fun x=>?_
     .exact ZC.mpr ⟨fun z=>(bh.mp (ps.mem_iff.mp z)).2 rfl,ps.nodup_iff.mpr (fJ nd)⟩
     .rw [uS,ps.mem_iff,bh]
      constructor
      .rintro (rfl | z)
       .exact c1
       .exact z.1
      .intro z
       by_cases w:x=c
       .exact .inl w
       .exact .inr ⟨z,w⟩
    have fr:=kj.mp c2
    have R2:=BX QU (c:=c) (B:=wo left c) (fr.imp id fun ⟨h,a,b,d⟩=>⟨h,a,b,fun o ho=>d o (bh.mp ho).1⟩) R
    refine ⟨R2.less fun x hx=>?_,c :: s,by simp,pm,fun k hk=>?_⟩
    .by_cases w:x=c
     .rw [w];exact xS
     .exact wV _ (bh.mpr ⟨hx,w⟩)
    .cases k with
     | zero=>
      show free hs c s=true
      exact xr (fun o ho _=>(bh.mp (ps.mem_iff.mp ho)).1) c2
     | succ k=>
      have:=os k (by simpa using hk)
      simpa using this
theorem wg:∀(f:Nat) (ord left:List Nat),left.length < f->Red (rs (mm hs) left) (List.range hs.length)->∃r,sE hs f ord left=some r
 | 0,_,_,hf,_=>by omega
 | f + 1,ord,left,hf,R=>by
  rw [sE]
  split
  .exact ⟨_,rfl⟩
  .rename_i q
   obtain ⟨b,hb⟩:∃b,b ∈ left:=WG _ fun z=>q (by rw [z];rfl)
   obtain ⟨c,hc,F⟩:=w_ hb R
   split
   .rename_i z
    have:c ∈ left.filter fun c=>free hs c left:=wR.mpr ⟨hc,kj.mpr F⟩
    rw [z] at this
    cases this
   .rename_i c' t z
    have hc':c' ∈ left.filter fun c=>free hs c left:=by rw [z];exact xS
    have c1:=(wR.mp hc').1
    have ew:(left.filter fun o=>!decide (o=c'))=wo left c':= by
     unfold wo
     exact ZF fun x _=>by simp
    rw [ew]
    exact wg f _ _ (by have:=j3 c1;omega) (R.less fun x hx=>(bh.mp hx).1)
end
noncomputable def x_ (e:Pr):Pr:=(min e.1 e.2,max e.1 e.2)
theorem lj (e:Pr):x_ e=e ∨ x_ e=(e.2,e.1):= by
 obtain ⟨a,b⟩:=e
 unfold x_
 by_cases h:a ≤ b
 .left;simp [WW h,Nat.max_eq_right h]
 .right;simp [Nat.min_eq_right (Nat.le_of_not_le h),Nat.max_eq_left (Nat.le_of_not_le h)]
theorem uV {t:List Pr} {a b:Nat}:dj (t.map x_) a b ↔ dj t a b:= by
 constructor
 .intro h
  refine sX (fun e he=>?_) h
  obtain ⟨f,hf,rfl⟩:=gE.mp he
  rcases lj f with z | z
  .rw [z];exact fg hf
  .rw [z];exact (fg hf).symm
 .intro h
  refine sX (fun e he=>?_) h
  have:=fg (gE.mpr ⟨e,he,rfl⟩:x_ e ∈ t.map x_)
  rcases lj e with z | z
  .rw [z] at this;exact this
  .rw [z] at this;exact this.symm
theorem Gj {t:List Pr} (h:gm t):gm (t.map x_):=fun k hk r=>by
 rw [fD] at hk
 rw [<- List.map_take,uV,List.getElem_map] at r
 rcases lj t[k] with z | z
 .rw [z] at r;exact h k hk r
 .rw [z] at r;exact h k hk r.symm
section
variable {hs:List (List Int)} {M:Nat}
theorem Iz (t:List Pr) (c:Nat):ec hs (t.map x_) c=(ec hs t c).map x_:= by
 unfold ec
 rw [List.filter_map]
 congr 1
 refine ZF fun e _=>?_
 show (co hs c (x_ e).1 && co hs c (x_ e).2)=_
 rcases lj e with z | z
 .rw [z]
 .rw [z];exact Bool.and_comm _ _
theorem k3 (h1:1 ≤ hs.length) (h6:hs.length ≤ 6) (H:∀h ∈ hs,jM M h):Mw hs []=qN hs M ↔ Red (mm hs) (List.range hs.length):= by
 have hh:∀h ∈ hs,h.Pairwise (· < ·)∧∀c ∈ h,0 ≤ c∧c < (M:Int):=fun h hh=>(H h hh).2
 have F:=fm h6 h1
 have gf:gm (fC (SL hs) []):=by have:=kr (L:=SL hs) (T:=[]) oi;simpa using this
 have gr:∀e ∈ fC (SL hs) [],e.1 < hs.length∧e.2 < hs.length:=fun e he=>F.rng e (JI F e he)
 have W:=nr hh gf gr
 constructor
 .intro e
  have cn:=W.2.mp e
  refine Ja hs.length (t:=fC (SL hs) []) (by rw [Q5];exact wF _) QU (fun z=>by have:=List.range_eq_nil.mp z;omega) ⟨fun e he=>⟨uL.mpr (gr e he).1,uL.mpr (gr e he).2⟩,gf,fun c a b ha hb hac hbc=>?_⟩
  have hc:c < M:= by
   have:=(hh _ (kR (uL.mp ha))).2 _ (dh.mp hac)
   omega
  exact cn c hc a (wR.mpr ⟨ha,hac⟩) b (wR.mpr ⟨hb,hbc⟩)
 .intro R
  obtain ⟨t,T⟩:=JH R
  have tf:=Gj T.fst
  have tr:∀e ∈ t.map x_,e.1 < hs.length∧e.2 < hs.length:=fun e he=>by
   obtain ⟨f,hf,rfl⟩:=gE.mp he
   obtain ⟨a,b⟩:=T.inn f hf
   have a:=uL.mp a
   have b:=uL.mp b
   rcases lj f with z | z
   .rw [z];exact ⟨a,b⟩
   .rw [z];exact ⟨b,a⟩
  have V:=(nr hh tf tr).2.mpr fun c _ a ha b hb=>by
   rw [Iz,uV]
   obtain ⟨a1,a2⟩:=wR.mp ha
   obtain ⟨b1,b2⟩:=wR.mp hb
   exact T.con c a b a1 b1 a2 b2
  have mo:=F.most (T:=[]) (C:=t.map x_) oi (by simpa using tf) fun e he=>by
   obtain ⟨f,hf,rfl⟩:=gE.mp he
   obtain ⟨a,b⟩:=T.inn f hf
   have a:=uL.mp a
   have b:=uL.mp b
   have:=AU T.fst hf
   refine fY.mpr ?_
   show min f.1 f.2 < hs.length∧min f.1 f.2 < max f.1 f.2∧max f.1 f.2 < hs.length
   omega
  have:=W.1
  show wt (wh hs) (fC (SL hs) [])=_
  omega
end
section
variable {hs:List (List Int)} {ls:List Nat}
theorem Dj {α:Type} {a b:List α} (h:∀i,i ∈ a ↔ i ∈ b) (f:α->Bool):a.any f=b.any f:= by
 rw [Z1,QY,QY]
 exact ⟨fun ⟨x,hx,y⟩=>⟨x,(h x).mp hx,y⟩,fun ⟨x,hx,y⟩=>⟨x,(h x).mpr hx,y⟩⟩
theorem uD {a b:List Nat} (h:∀i,i ∈ a ↔ i ∈ b) (n:Nat):shared hs a n=shared hs b n :=
 ZF fun c _=>Dj h _
theorem jU {a b:List Nat} (h:∀i,i ∈ a ↔ i ∈ b) {n o:Nat}:o ∈ holders hs a n ↔ o ∈ holders hs b n:= by
 unfold holders
 rw [wR,wR,uD h,h]
theorem jo (p:List Nat) (a:Nat):holders hs (p ++ [a]) a=holders hs p a:= by
 have:shared hs (p ++ [a]) a=shared hs p a:=ZF fun c _=>by simp
 unfold holders
 rw [this,YV]
 simp
noncomputable def hl (hs:List (List Int)) (p:List Nat) (a:Nat):Nat:=(holders hs p a).getLastD 0
noncomputable def pN (hs:List (List Int)) (r:List Nat):Nat->List (Nat × Nat)
 | 0=>[]
 | t + 1=>(r.getD (t + 1) 0,hl hs (r.take (t + 1)) (r.getD (t + 1) 0)) :: pN hs r t
theorem Jr {p:List Nat} {a:Nat} (h:holders hs p a ≠ []):hl hs p a ∈ holders hs p a:= by
 unfold hl
 rw [List.getLastD_eq_getLast?,List.getLast?_eq_some_getLast h]
 exact List.getLast_mem h
theorem j5 {r:List Nat} (nd:r.Nodup) (R:Run hs r) {t:Nat} (ht:t + 1 < r.length):holders hs (r.take (t + 1)) (r.getD (t + 1) 0) ≠ []:= by
 have h:=R (t + 1) ht
 have hn:=gh (hs:=hs) (eB nd ht)
 have hne:(r.take (t + 1)).isEmpty=false:= by
  cases r with
  | nil=>simp at ht
  | cons=>rfl
 unfold runs at h
 rw [hne,Bool.false_or,<- hn] at h
 intro z
 rw [z] at h
 cases h
theorem u0 {r:List Nat} (nd:r.Nodup) (R:Run hs r) (hlt:∀i ∈ r,i < hs.length):∀t,t < r.length->∀ls,ls.Nodup->(∀i,i ∈ ls ↔ i ∈ r.take (t + 1))->sk hs ((pN hs r t).map pD) ls=some (r.take 1)
 | 0,ht,ls,hd,hm=>by
  have h1:r.take 1=[r.getD 0 0]:= by
   cases r with
   | nil=>simp at ht
   | cons=>rfl
  rw [h1] at hm ⊢
  show some ls=_
  rw [uz (y:=r.getD 0 0) hd fun o=>by rw [hm,jP]]
 | t + 1,ht,ls,hd,hm=>by
  have ha:=getD_mem ht
  have ham:r.getD (t + 1) 0 ∈ r:=by rw [ha];exact QH _
  have hx:=Jr (j5 nd R ht)
  have hy:=(fu hx).1
  have hb:=hlt _ (Y7 hy)
  have hs2:r.take (t + 2)=r.take (t + 1) ++ [r.getD (t + 1) 0]:=by rw [ha];exact (List.take_append_getElem ht).symm
  have nm:=eB nd ht
  show sk hs (pD (r.getD (t + 1) 0,_) :: _) ls=_
  rw [kX,jE _ _ (hlt _ ham) hb,QK ((hm _).mpr (by rw [hs2];simp)),QK,Bool.true_and,gL rfl]
  .refine u0 nd R hlt t (by omega) _ (hd.filter _) fun i=>?_
   have:lr (pD (r.getD (t + 1) 0,hl hs (r.take (t + 1)) (r.getD (t + 1) 0)))=r.getD (t + 1) 0:=by simp [lr,pD]
   rw [wR,this,hm,hs2,uT,jP,QD]
   constructor
   .rintro ⟨h | h,q⟩
    .exact h
    .exact absurd h q
   .intro h
    exact ⟨.inl h,fun q=>nm (q ▸ h)⟩
  .refine (jU (b:=r.take (t + 1) ++ [r.getD (t + 1) 0]) fun i=>by rw [hm,hs2]).mpr ?_
   rw [jo]
   exact hx
theorem Js {a:Nat} {p:List Nat} (nd:(p ++ [a]).Nodup) {ls:List Nat} (hm:∀i,i ∈ ls ↔ i ∈ p ++ [a]) {o:Nat} (h:o ∈ holders hs ls a):runs hs p a=true:= by
 have h1:=(jU hm).mp h
 rw [jo] at h1
 have hn:a ∉ p:=fun q=>by
  rw [Q3] at nd
  exact nd.2.2 a q a (by simp) rfl
 unfold runs
 rw [<- gh hn,VN]
 right
 cases q:holders hs p a with
 | nil=>rw [q] at h1;cases h1
 | cons=>rfl
theorem uU:∀(f:Nat) (ls:List Nat) {x:Nat},ls.Nodup->(∀i ∈ ls,i < hs.length)->(ni hs f ls).2=[x]->(([x] ++ ((ni hs f ls).1.map (·.1)).reverse).Perm ls∧Run hs ([x] ++ ((ni hs f ls).1.map (·.1)).reverse))∧sk hs ((ni hs f ls).1.map pD) ls=some [x]
 | 0,ls,x,nd,hlt,e=>by
  have e:ls=[x]:=e
  subst e
  refine ⟨⟨.refl _,fun k hk=>?_⟩,rfl⟩
  have:k=0:=by simpa [ni] using hk
  subst this
  rfl
 | f + 1,ls,x,nd,hlt,e=>by
  cases q:eO hs ls with
  | nil=>
   rw [oA q] at e ⊢
   have e:ls=[x]:=e
   subst e
   refine ⟨⟨.refl _,fun k hk=>?_⟩,rfl⟩
   have:k=0:=by simpa using hk
   subst this
   rfl
  | cons p r=>
   obtain ⟨m1,m2⟩:=ka q
   rw [lu q] at e ⊢
   obtain ⟨⟨g1,g2⟩,g3⟩:=uU f (ls.filter fun i=>decide (i ≠ p.1)) (nd.filter _) (fun i hi=>hlt i (wR.mp hi).1) e
   have hm:∀i,i ∈ ls ↔ i ∈ ([x] ++ ((ni hs f (ls.filter fun i=>decide (i ≠ p.1))).1.map (·.1)).reverse) ++ [p.1]:=fun i=>by
    rw [uT,g1.mem_iff,wR,jP,QD]
    constructor
    .intro h
     by_cases z:i=p.1
     .exact .inr z
     .exact .inl ⟨h,z⟩
    .rintro (h | h)
     .exact h.1
     .rw [h];exact m1
   have nd2:(([x] ++ ((ni hs f (ls.filter fun i=>decide (i ≠ p.1))).1.map (·.1)).reverse) ++ [p.1]).Nodup:= by
    rw [Q3]
    refine ⟨g1.nodup_iff.mpr (nd.filter _),by simp,fun a ha b hb=>?_⟩
    have:=(wR.mp (g1.mem_iff.mp ha)).2
    rw [jP.mp hb]
    simpa using this
   refine ⟨⟨?_,?_⟩,?_⟩
   .rw [QW,YE,<- Q4]
    exact (ZH nd2 nd).mpr fun i=>(hm i).symm
   .rw [QW,YE,<- Q4]
    exact jm.mpr ⟨g2,Js nd2 hm m2⟩
   .show sk hs (pD (p.1,p.2) :: _) ls=_
    rw [kX,jE _ _ (hlt _ m1) (hlt _ (fu m2).1),QK m1,QK m2,Bool.true_and,gL rfl]
    have:lr (pD (p.1,p.2))=p.1:=by simp [lr,pD]
    rw [this]
    exact g3
end
section
variable {hs:List (List Int)} {os ls:List Nat} {M:Nat}
theorem LY (g:Good M os) (H:∀h ∈ hs,jM M h) {i:Nat} (hi:i < hs.length) {c:Nat} (hc:c < M):mm (nm os hs) i (os.idxOf c)=mm hs i c:= by
 have hh:=(H _ (kR hi)).2.2
 rw [Z1,dh,dh,OZ hi,jI,gE]
 constructor
 .rintro ⟨x,hx,e⟩
  have h1:=hh x hx
  have:x=(c:Int):=J_ g h1 ⟨by omega,by omega⟩ (by rw [e];simp [pl])
  rwa [<- this]
 .intro h
  exact ⟨_,h,by simp [pl]⟩
theorem ub:(nm os hs).length=hs.length:=fD _
theorem xp.map {m m':Nat->Nat->Bool} {L:List Nat} {f:Nat->Nat} (h:∀i ∈ L,∀c,c < M->m' i (f c)=m i c) {c:Nat} (hc:c < M) {B:List Nat} (hB:∀o ∈ B,o < M) (F:xp m L c B):xp m' L (f c) (B.map f):= by
 rcases F with F | ⟨p,hp,h1,h2⟩
 .exact .inl fun i hi=>by rw [h i hi c hc];exact F i hi
 .refine .inr ⟨p,hp,by rw [h p hp c hc];exact h1,fun o ho ⟨i,hi,q1,q2⟩=>?_⟩
  obtain ⟨o',ho',rfl⟩:=gE.mp ho
  rw [h p hp o' (hB o' ho')]
  exact h2 o' ho' ⟨i,hi,by rw [<- h i hi c hc];exact q1,by rw [<- h i hi o' (hB o' ho')];exact q2⟩
theorem J5 (g:Good M os) (H:∀h ∈ hs,jM M h) (gl:Good M ls) (o:Ord hs ls):Good M (ls.map fun c=>os.idxOf c)∧Ord (nm os hs) (ls.map fun c=>os.idxOf c):= by
 obtain ⟨g1,g2,g3⟩:=gl
 refine ⟨⟨by rw [fD,g1],?_,fun i hi=>?_⟩,fun k hk=>?_⟩
 .unfold List.Nodup
  rw [YD]
  exact List.Pairwise.imp_of_mem (fun {a b} ha hb' q e=>q (vh g (g3 a ha) (g3 b hb') e)) g2
 .obtain ⟨c,hc,rfl⟩:=gE.mp hi
  have:=(oy g (g3 c hc)).1
  rwa [g.1] at this
 .rw [fD] at hk
  have h1:=kj.mp (o k hk)
  have hc:=g3 _ (show ls.getD k 0 ∈ ls by simp [hk])
  rw [kj,ub,<- List.map_drop]
  have:(ls.map fun c=>os.idxOf c).getD k 0=os.idxOf (ls.getD k 0):=by simp [hk]
  rw [this]
  exact h1.map (M:=M) (fun i hi c hc=>LY g H (uL.mp hi) hc) hc fun o ho=>g3 o (List.mem_of_mem_drop ho)
end
section
variable {m:Nat->Nat->Bool} {L:List Nat}
theorem Red.of_map {f:Nat->Nat} {K:List Nat} (R:Red m K):∀L,K=L.map f->(∀a ∈ L,∀b ∈ L,f a=f b->a=b)->Red (fun i=>m (f i)) L:= by
 induction R with
 | one x=>
  intro L e _
  match L,e with
  | [y],_=>exact .one y
 | @ear K e p E r ih=>
  rintro L rfl hi
  obtain ⟨a,ha,rfl⟩:=gE.mp E.he
  obtain ⟨b,hb,rfl⟩:=gE.mp E.hp
  refine .ear (p:=b) ⟨ha,hb,fun q=>E.ne (by rw [q]),fun c o h1 h2 h3 h4=>E.hold c (f o) h1 (gE.mpr ⟨o,h2,rfl⟩) (fun q=>h3 (hi o h2 a ha q)) h4⟩ (ih _ ?_ fun x hx y hy=>hi x (bh.mp hx).1 y (bh.mp hy).1)
  unfold wo
  rw [List.filter_map]
  congr 1
  refine ZF fun i hh=>?_
  simp only [Function.comp,JP]
  exact ⟨fun q z=>q (by rw [z]),fun q z=>q (hi i hh a ha z)⟩
theorem qg:∀(es:List Nat) {L:List Nat},L.Nodup->(∀e ∈ es,∀c,m e c=false)->(∃q ∈ L,q ∉ es)->Red m L->Red m (L.filter fun i=>!decide (i ∈ es))
 | [],L,nd,h,hq,R=>by
  rw [WM.mpr fun i _=>by simp]
  exact R
 | e :: es,L,nd,h,⟨q,hq,hn⟩,R=>by
  have hn:q ≠ e∧q ∉ es:=⟨fun z=>hn (z ▸ xS),fun z=>hn (wV _ z)⟩
  have e1:(L.filter fun i=>!decide (i ∈ e :: es))=(wo L e).filter fun i=>!decide (i ∈ es):= by
   unfold wo
   rw [XU]
   exact ZF fun i _=>by simp [Bool.and_comm]
  rw [e1]
  refine qg es (fJ nd) (fun x hx=>h x (wV _ hx)) ⟨q,bh.mpr ⟨hq,hn.1⟩,hn.2⟩ ?_
  by_cases he:e ∈ L
  .exact R.off nd ⟨he,hq,hn.1,fun c o hc=>by rw [h e xS c] at hc;cases hc⟩
  .have:wo L e=L:=WM.mpr fun i hi=>by
    simp only [QD]
    exact fun z=>he (z ▸ hi)
   rw [this]
   exact R
variable {hs:List (List Int)}
noncomputable def cut (gone:List Int) (h:List Int):List Int:=h.filter fun c=>!decide (c ∈ gone)
noncomputable def j7 (gone:List Int) (hs:List (List Int)):List (List Int):=(hs.map (cut gone)).filter fun h=>!h.isEmpty
noncomputable def jh (hs:List (List Int)):List Nat:=(List.range hs.length).filter fun i=>!(G hs i).isEmpty
theorem AJ:∀(hs:List (List Int)),(jh hs).map (G hs)=hs.filter fun h=>!h.isEmpty:=fun hs=>by
 unfold jh
 have:hs=(List.range hs.length).map (G hs):= by
  apply List.ext_getElem (by simp)
  intro i h1 h2
  simp [G,h1]
 conv=>rhs;rw [this]
 rw [List.filter_map]
 rfl
theorem D1 (gone:List Int) (R:Red (mm hs) (List.range hs.length)) (hne:j7 gone hs ≠ []):Red (mm (j7 gone hs)) (List.range (j7 gone hs).length):= by
 generalize e2:hs.map (cut gone)=h2
 have hl:h2.length=hs.length:=by rw [<- e2,fD]
 have hG:∀i,i < hs.length->G h2 i=cut gone (G hs i):=fun i hi=>by rw [<- e2];simp [G,hi]
 have hc:j7 gone hs=(jh h2).map (G h2):=by rw [AJ,<- e2];rfl
 have R2:Red (mm h2) (List.range hs.length):=R.imp (A:=List.range hs.length) (fun {L e p} s E=>⟨E.he,E.hp,E.ne,fun c o h1 ho hne h3=>by
  rw [dh,hG _ (uL.mp (s _ E.he)),cut,wR] at h1
  rw [dh,hG _ (uL.mp (s _ ho)),cut,wR] at h3
  rw [dh,hG _ (uL.mp (s _ E.hp)),cut,wR]
  exact ⟨dh.mp (E.hold c o (dh.mpr h1.1) ho hne (dh.mpr h3.1)),h1.2⟩⟩) fun x hx=>hx
 rw [hc] at hne ⊢
 have hne2:jh h2 ≠ []:=fun z=>hne (by rw [z];rfl)
 obtain ⟨q,hq⟩:=WG _ hne2
 obtain ⟨hq1,hq2⟩:=wR.mp hq
 have R3:=qg ((List.range hs.length).filter fun i=>(G h2 i).isEmpty) QU (fun e he c=>by
  have:=(wR.mp he).2
  rw [WB] at this
  simp [mm,this]) ⟨q,hl ▸ hq1,fun z=>by have:=(wR.mp z).2;rw [this] at hq2;cases hq2⟩ R2
 have e3:((List.range hs.length).filter fun i=>!decide (i ∈ (List.range hs.length).filter fun i=>(G h2 i).isEmpty))=jh h2:= by
  unfold jh
  rw [hl]
  refine ZF fun i hi=>?_
  congr 1
  rw [Z1,QD,wR]
  exact ⟨fun h=>h.2,fun h=>⟨hi,h⟩⟩
 rw [e3] at R3
 have nd:(jh h2).Nodup:=List.nodup_range.filter _
 have R4:=R3.of_map (f:=fun j=>(jh h2).getD j 0) (List.range (jh h2).length) (by
  apply List.ext_getElem (by simp)
  intro i h1 h2
  simp at h2
  simp [h1]) fun a ha b hb e=>by
   have ha:=uL.mp ha
   have hb:=uL.mp hb
   simp only [QA,kW ha,kW hb,Option.getD_some] at e
   exact (List.getElem_inj nd).mp e
 rw [fD]
 refine R4.imp (A:=List.range (jh h2).length) (fun {L e p} s E=>?_) fun x hx=>hx
 have gg:∀j ∈ L,∀c,mm ((jh h2).map (G h2)) j c=mm h2 ((jh h2).getD j 0) c:=fun j hj c=>by
  have hj:=uL.mp (s j hj)
  show decide ((c:Int) ∈ G _ j)=decide ((c:Int) ∈ G h2 _)
  have:G ((jh h2).map (G h2)) j=G h2 ((jh h2).getD j 0):=by simp [G,hj]
  rw [this]
 exact ⟨E.he,E.hp,E.ne,fun c o h1 ho hne h3=>by
  rw [gg _ E.he] at h1
  rw [gg _ ho] at h3
  rw [gg _ E.hp]
  exact E.hold c o h1 ho hne h3⟩
theorem Gh {M:Nat} {gone:List Int} (H:∀h ∈ hs,jM M h):∀h ∈ j7 gone hs,jM M h:=fun h hh=>by
 obtain ⟨h1,h2⟩:=wR.mp hh
 obtain ⟨h0,hm,rfl⟩:=gE.mp h1
 have:=H h0 hm
 exact ⟨(fun z=>by rw [z] at h2;exact absurd h2 (by simp)),this.2.1.filter _,fun c hc=>this.2.2 c (wR.mp hc).1⟩
theorem BO (gone:List Int):(j7 gone hs).length ≤ hs.length:=Q1 (QX _ _) (by rw [fD];exact wF _)
end
local macro_rules | `(tactic| rfl')=>`(tactic| repeat (first
 | with_reducible first | refine rG ?_ | refine vg ?_ | refine Oi ?_ | refine N5 ?_ | refine oMt ?_ | refine A9 ?_ | refine OU ?_ | refine O7 ?_ | refine oTup ?_ | refine oLst ?_ | refine OT ?_ | refine Jh ?_ | refine B5 ?_ | refine DD ?_ | refine O1 ?_ | refine HC ?_ | refine N6 ?_ | refine Ki ?_ | refine Ie ?_ | refine Jo ?_ | refine HJ ?_ | refine zC ?_ | refine Jw ?_ | refine O5 ?_ | refine OC ?_ | refine Br ?_ | refine Oh ?_ | refine NX ?_ | refine Pa ?_ | refine y4 ?_ | refine Jc ?_ | refine EG.t ?_ | refine EG.f ?_ | refine Jn ?_ | refine Ko ?_
 | ((with_reducible first | apply HG | apply BH | apply Kl | apply HX | apply zB | apply JL | apply JX | apply JG | apply O9 | apply DV | apply I0 | apply Iv);exact rfl)
 | ((with_reducible first | apply BP | apply uM);exact rfl;with_reducible assumption)
 | ((with_reducible apply yT);first | with_reducible assumption | exact rfl)
 | ((with_reducible apply MG.mk);exact rfl;exact rfl;first | with_reducible assumption | exact cw _ _ (by omega) (by omega))
 | ((with_reducible apply Kv.mk);exact rfl;first | assumption | (simp only [fD,fR,gT,ZE];omega))
 | ((with_reducible apply LJ.mk);exact rfl;omega;with_reducible assumption)
 | ((with_reducible apply Mv.mk);exact rfl;first | with_reducible assumption | exact rfl)
 | ((with_reducible show _=_);exact rfl) | refine And.intro rfl ?_ | refine oL rfl ?_ | ((with_reducible apply oT);exact rfl) | ((with_reducible apply oF);exact rfl) | ((with_reducible apply oT);first | assumption | exact QK (by assumption)) | ((with_reducible apply oF);first | assumption | exact Z3 (by assumption))))
section
variable {hs:List (List Int)} {ls:List Nat} {M:Nat}
theorem Lx (L:Lay hs) (m:Int):bP wx vb [bA m hs]=some (rQ (gz hs 8 [])):= by
 apply bx
 dsimp only [vb,qO]
 have e:td 8 [bA m hs,.tup []]=some (rQ (gz hs 8 [])):=gY L m 8 [] (by simp) (by simp) (by have:=L.n;simp;omega)
 rfl'
theorem GF (m:Int) (F0:Fn hs (List.range hs.length)) {x:D} (hx:MH x) {r:List Nat} (h:gV hs x=.tup (lD r)):bP zX BR [bA m hs,x]=some (.tup (lD r)):= by
 apply bx
 dsimp only [BR,nQ]
 have e:=G7 m F0 hx
 rw [h] at e
 rfl'
 refine m_ ?_
 rfl'
noncomputable def MI (hs:List (List Int)) (n:Nat) (L:List Nat):List Int:=(G hs n).filter fun c=>L.any fun o=>decide (c ∈ G hs o)
theorem Bg {hs:List (List Int)} {n:Nat} (hn:n < hs.length):j9 (.tup (hs.map hD)) (.int (n:Int))=some (hD (G hs n)):= by
 show jw _ _=_
 rw [g8 _ _ (by simpa using hn)]
 simp [G,hn]
theorem mI {α β:Type} (p:α->Bool) (f:α->β):∀l:List α,(l.filterMap fun x=>if p x=true then some (f x) else none)=(l.filter p).map f
 | []=>rfl
 | x :: l=>by cases h:p x <;> simp [h,mI p f l]
theorem ud (neg:Bool) {α:Type} (f:α->D) (l:List α):l_ neg (.lst (l.map f)) (.lst [])=some (.bl (if neg then !l.isEmpty else l.isEmpty)):= by
 cases l <;> cases neg <;> rfl
theorem oe (m:Int) {n:Nat} (hn:n < hs.length) (h7:∀h ∈ hs,h.length ≤ 7) (hl:ls.length ≤ 6) (hlt:∀i ∈ ls,i < hs.length) :
  ip Ak G6 [bA m hs,.int n,.tup (lD ls)]=some ((MI hs n ls).map .int):= by
 apply kh
 dsimp only [G6,qL]
 have e1:=Bg hn
 have hg:=h7 _ (kR hn)
 rfl'
 refine IU ((G hs n).map .int) (fun k δ=>∃s,δ=[.pu (bA m hs),.pu (.int n),.pu (.tup (lD ls)),.ow false ((((G hs n).take k).filter fun c=>ls.any fun o=>decide (c ∈ G hs o)).map .int),s]) (by rfl') ⟨_,rfl⟩ (fun k hk δ ⟨s,hs'⟩=>?_) fun δ ⟨s,hs'⟩=>?_
 .subst hs'
  have hk':k < (G hs n).length:=by simpa using hk
  have hc:((G hs n).map D.int)[k]=.int ((G hs n)[k]):=by simp
  rw [hc,Q6 hk',YV,VO]
  generalize (G hs n)[k]=c
  have lf:=QX (fun c=>ls.any fun o=>decide (c ∈ G hs o)) ((G hs n).take k)
  have lt:((G hs n).take k).length ≤ 7:=by rw [ZT];omega
  generalize ((G hs n).take k).filter _=acc at *
  rfl'
  refine bu ls (fun (i:Nat)=>.int (i:Int)) (fun o=>if decide (c ∈ G hs o)=true then some (.int (o:Int)) else none) rfl (by rfl') (by omega) (fun o ho=>?_) ?_
  .have e2:=Bg (hlt o ho)
   have e3:sD false (.int c) (hD (G hs o))=some (.bl (decide (c ∈ G hs o))):=fI false c (G hs o)
   rfl'
   generalize decide (c ∈ G hs o)=b
   cases b
   .rfl'
   .rfl'
  .have ef:(ls.filterMap fun o=>if decide (c ∈ G hs o)=true then some (D.int (o:Int)) else none)=(ls.filter fun o=>decide (c ∈ G hs o)).map fun (o:Nat)=>D.int (o:Int):= by
    exact mI _ _ _
   rw [ef]
   have e4:=ud true (fun (o:Nat)=>D.int (o:Int)) (ls.filter fun o=>decide (c ∈ G hs o))
   have e5:(!(ls.filter fun o=>decide (c ∈ G hs o)).isEmpty)=ls.any fun o=>decide (c ∈ G hs o):= by
    rw [Z1]
    simp
   rw [gL rfl,e5] at e4
   rfl'
   generalize hb:(ls.any fun o=>decide (c ∈ G hs o))=b
   cases b
   .rfl'
    exact ⟨_,by simp [hb];rfl⟩
   .rfl'
    exact ⟨_,by simp [hb];rfl⟩
 .subst hs'
  rw [fD,V8]
  rfl'
theorem oz {ls:List Nat} {n:Nat} (hn:n ∉ ls):(ls.filter fun o=>(MI hs n ls).all fun c=>decide (c ∈ G hs o))=holders hs ls n:= by
 have e1:MI hs n ls=shared hs ls n:=ZF fun c _=>by
  rw [Z1,QY,QY]
  refine exists_congr fun o=>and_congr_right fun ho=>?_
  have:o ≠ n:=fun q=>hn (q ▸ ho)
  simp [this]
 rw [e1]
 refine ZF fun o ho=>?_
 have:o ≠ n:=fun q=>hn (q ▸ ho)
 simp [this]
theorem jr (r:List Nat):∀T,(pN hs r T).length=T
 | 0=>rfl
 | T + 1=>by show (pN hs r T).length + 1=_;rw [jr r T]
theorem vF (r:List Nat):∀(T k:Nat) (h:k < (pN hs r T).length),(pN hs r T)[k]=(r.getD (T - k) 0,hl hs (r.take (T - k)) (r.getD (T - k) 0))
 | T + 1,0,_=>rfl
 | T + 1,k + 1,h=>by
  show (pN hs r T)[k]'(W8 h)=_
  rw [vF r T k,Nat.add_sub_add_right]
theorem zo {H:List Nat} (h:H ≠ []) (h6:H.length ≤ 6):j9 (.lst (lD H)) (.int (-1))=some (.int ((H.getLastD 0:Nat):Int)):= by
 show jw _ _=_
 have hp:=V5.mpr h
 have:rH (lD H).length (-1)=some (H.length - 1):= by
  unfold rH
  simp [lD]
  omega
 unfold jw
 rw [this]
 obtain ⟨a,ha⟩:∃a,H[H.length - 1]? = some a:=⟨_,kW (by omega)⟩
 simp [lD,List.getLastD_eq_getLast?,List.getLast?_eq_getElem?,ha]
theorem A7 {T:Nat} (h1:(-100000:Int) < (T:Int)) (h2:(T:Int) < 100000):B_ [.int (T:Int),.int 0,.int (-1)]=some (bz (jT (T:Int) T)):= by
 simp [B_,h1,h2]
theorem Fo {n:Nat} {f:List D->Option D} {ds:List D} {d:D} (h:f ds=some d) (hl:ds.length=n) (hf:flatOnly d=some d):xR n f ds=some d:= by
 unfold xR
 rw [gL hl,h]
 exact hf
theorem y8 {n:Nat} {f:List D->Option D} {ds:List D} {d:D} (h:f ds=some d) (hl:ds.length=n) (hf:ox d=true):nX n f ds=some d:= by
 unfold nX
 rw [gL hl,h]
 exact gL hf
theorem PF {C I:Jt.M D} {δ:DS} {Q:D->DS->Prop} (h:Ok C δ fun x o=>x=.bl true∧Ok I o Q):Ok (Eb C I) δ Q:=vX.mpr (h.mono fun _ _ ⟨e,h⟩=>by subst e;exact h)
theorem IP (x:Nat):l_ false (.tup (lD [x])) (.tup (lD [x]))=some (.bl true):= by
 have:=zV 7 [(x:Int)] [(x:Int)]
 simp [l_,jk,dy,lD] at this ⊢
 simp [this]
theorem iy (L:Lay hs) (m:Int) (h7:∀h ∈ hs,h.length ≤ 7) (F0:Fn hs (List.range hs.length)) (g:Good hs.length ls) (R:Run hs ls) :
  bP DX Mi [bA m hs,.tup (lD ls)]=some (.bl true):= by
 apply bx
 dsimp only [Mi,yP]
 obtain ⟨g1,g2,g3⟩:=g
 have hl6:=L.n
 have h1:=F0.ln
 obtain ⟨T,hT⟩:∃T,ls.length=T + 1:=⟨ls.length - 1,by have:=F0.pos;rw [Q5] at this;omega⟩
 have er:B_ [.int ((lD ls).length - 1:Int),.int 0,.int (-1)]=some (bz (jT (T:Int) T)):= by
  rw [da,hT]
  have:((T + 1:Nat):Int) - 1=(T:Int):=by omega
  rw [this]
  exact A7 (by omega) (by omega)
 have es:yz (.int ((lD ls).length:Int)) (.int 1)=some (.int ((lD ls).length - 1:Int)):=rfl
 rfl'
 refine IU (jT (T:Int) T) (fun k δ=>∃a b c,δ=[.pu (bA m hs),.pu (.tup (lD ls)),.ow false (((pN hs ls T).take k).map pD),a,b,c]) (by rfl') ⟨_,_,_,rfl⟩ (fun k hk δ ⟨a,b,c,hd⟩=>?_) fun δ ⟨a,b,c,hd⟩=>?_
 .subst hd
  have hk':k < T:=by simpa [jT] using hk
  obtain ⟨t,ht⟩:∃t,T - k=t + 1:=⟨T - k - 1,by omega⟩
  have hc:(jT (T:Int) T)[k]=.int ((t + 1:Nat):Int):=by simp [jT];omega
  have htl:t + 1 < ls.length:=by omega
  have hb:k < (pN hs ls T).length:=by rw [jr];exact hk'
  rw [hc,Q6 hb,vF,ht,VO]
  have am:ls.getD (t + 1) 0 ∈ ls:=by rw [getD_mem htl];exact QH _
  have e1:=vq (H:=ls) htl
  have e2:GC (.tup (lD ls)) none (some ((t + 1:Nat):Int))=some (.tup (lD (ls.take (t + 1)))):= by
   show some (D.tup (cutD _ _ _))=_
   rw [jg,km]
  have hp6:(ls.take (t + 1)).length ≤ 6:=by rw [ZT];omega
  have hplt:∀i ∈ ls.take (t + 1),i < hs.length:=fun i hi=>g3 i (Y7 hi)
  have e3:=oe m (g3 _ am) h7 hp6 hplt
  have nn:=eB g2 htl
  have hne:=j5 g2 R htl
  have hbl:((pN hs ls T).take k).length ≤ 7:=by rw [ZT,jr];omega
  have hcm:(MI hs (ls.getD (t + 1) 0) (ls.take (t + 1))).length ≤ 7:=Q1 (QX _ _) (h7 _ (kR (g3 _ am)))
  have ph:=oz (hs:=hs) nn
  generalize (pN hs ls T).take k=acc at *
  have hx:hl hs (ls.take (t + 1)) (ls.getD (t + 1) 0)=(holders hs (ls.take (t + 1)) (ls.getD (t + 1) 0)).getLastD 0:=rfl
  generalize ls.getD (t + 1) 0=n at *
  generalize ls.take (t + 1)=p at *
  generalize MI hs n p=cm at *
  rfl'
  refine bu p (fun (i:Nat)=>.int (i:Int)) (fun o=>if (cm.all fun c=>decide (c ∈ G hs o))=true then some (.int (o:Int)) else none) rfl (by rfl') (by omega) (fun o ho=>?_) ?_
  .have e4:=Bg (hplt o ho)
   rfl'
   refine bu cm .int (fun c=>if (!decide (c ∈ G hs o))=true then some (.int c) else none) rfl (by rfl') (by omega) (fun c hc=>?_) ?_
   .have e5:sD true (.int c) (hD (G hs o))=some (.bl (!decide (c ∈ G hs o))):=fI true c (G hs o)
    rfl'
    generalize decide (c ∈ G hs o)=b
    cases b
    .rfl'
    .rfl'
   .rw [mI]
    have e6:=ud false D.int (cm.filter fun c=>!decide (c ∈ G hs o))
    have e7:(cm.filter fun c=>!decide (c ∈ G hs o)).isEmpty=cm.all fun c=>decide (c ∈ G hs o):= by
     rw [Z1]
     simp
    rw [QC (by simp),e7] at e6
    rfl'
    generalize hb:(cm.all fun c=>decide (c ∈ G hs o))=b
    cases b
    .rfl'
    .rfl'
  .rw [mI,ph]
   have hh6:(holders hs p n).length ≤ 6:=Q1 (QX _ _) hp6
   have e8:=ud false (fun (i:Nat)=>D.int (i:Int)) (holders hs p n)
   have e9:(holders hs p n).isEmpty=false:= by
    cases q:holders hs p n with
    | nil=>exact absurd q hne
    | cons=>rfl
   rw [QC (by simp),e9] at e8
   have e10:j9 (.lst ((holders hs p n).map fun (i:Nat)=>D.int (i:Int))) (.int (-1))=_:=zo hne hh6
   have e11:rO (.int 1)=some (.int (-1)):=rfl
   rw [hx]
   generalize holders hs p n=H at *
   rfl'
   refine m_ ?_
   rfl'
   exact ⟨_,_,_,rfl⟩
 .subst hd
  have el:(jT (T:Int) T).length=T:=by simp [jT]
  have el2:(pN hs ls T).take T=pN hs ls T:=V7 (by rw [jr];exact wF _)
  rw [el,el2]
  have hg:gV hs (.lst ((pN hs ls T).map pD))=.tup (lD (ls.take 1)):= by
   show qw (sk hs _ _)=_
   rw [u0 g2 R g3 T (by omega) _ QU fun i=>by
    rw [uL,V7 (by omega)]
    exact ⟨gK ⟨g1,g2,g3⟩,g3 i⟩]
   rfl
  have ht:MH (.lst ((pN hs ls T).map pD)):=fun xs e=>by
   cases e
   refine ⟨by rw [fD,jr];omega,fun d hd=>?_⟩
   obtain ⟨p,_,rfl⟩:=gE.mp hd
   intro xs e
   cases e
   simp
  have ea:=LR m F0 ht
  rw [hg] at ea
  have eb:=GF m F0 ht hg
  have e2:GC (.tup (lD ls)) none (some 1)=some (.tup (lD (ls.take 1))):= by
   show some (D.tup (cutD _ none (some ((1:Nat):Int))))=_
   rw [jg,km]
  have ht1:ls.take 1=[ls.getD 0 0]:= by
   cases ls with
   | nil=>simp at hT
   | cons=>rfl
  have e3:l_ false (.tup (lD (ls.take 1))) (.tup (lD (ls.take 1)))=some (.bl true):=by rw [ht1];exact IP _
  have l1:xR 2 (bP Ba u2) [bA m hs,.lst ((pN hs ls T).map pD)]=some (.bl true):=Fo ea rfl rfl
  have l2:nX 2 (bP zX BR) [bA m hs,.lst ((pN hs ls T).map pD)]=some (.tup (lD (ls.take 1))):=y8 eb rfl (by rw [ht1];rfl)
  generalize (pN hs ls T).map pD=xs at *
  rfl'
  refine PF ?_
  rfl'
end
local macro_rules | `(tactic| rfl')=>`(tactic| repeat (first
 | with_reducible first | refine rG ?_ | refine vg ?_ | refine Oi ?_ | refine N5 ?_ | refine oMt ?_ | refine A9 ?_ | refine OU ?_ | refine O7 ?_ | refine oTup ?_ | refine oLst ?_ | refine OT ?_ | refine Jh ?_ | refine B5 ?_ | refine DD ?_ | refine O1 ?_ | refine HC ?_ | refine N6 ?_ | refine Ki ?_ | refine Ie ?_ | refine Jo ?_ | refine HJ ?_ | refine zC ?_ | refine Jw ?_ | refine O5 ?_ | refine OC ?_ | refine Br ?_ | refine Oh ?_ | refine NX ?_ | refine Pa ?_ | refine y4 ?_ | refine Jc ?_ | refine EG.t ?_ | refine EG.f ?_ | refine Jn ?_ | refine Ko ?_
 | ((with_reducible first | apply HG | apply BH | apply Kl | apply HX | apply zB | apply JL | apply JX | apply JG | apply O9 | apply DV | apply I0 | apply Iv);exact rfl)
 | ((with_reducible first | apply BP | apply uM);exact rfl;with_reducible assumption)
 | ((with_reducible apply yT);first | with_reducible assumption | exact rfl)
 | ((with_reducible apply MG.mk);exact rfl;exact rfl;first | with_reducible assumption | exact cw _ _ (by omega) (by omega))
 | ((with_reducible apply Kv.mk);exact rfl;first | assumption | (simp only [fD,fR,gT,ZE];omega))
 | ((with_reducible apply LJ.mk);exact rfl;omega;with_reducible assumption)
 | ((with_reducible apply Mv.mk);exact rfl;first | with_reducible assumption | exact rfl)
 | ((with_reducible show _=_);exact rfl) | refine And.intro rfl ?_ | refine oL rfl ?_ | ((with_reducible apply oT);exact rfl) | ((with_reducible apply oF);exact rfl) | ((with_reducible apply oT);first | assumption | exact QK (by assumption)) | ((with_reducible apply oF);first | assumption | exact Z3 (by assumption))))
section
variable {hs:List (List Int)} {ls os:List Nat} {M:Nat}
theorem O_ {fo:Jt.M D} {fs:Jt.M (List D)} {δ:DS} {Q:D->DS->Prop} (h:Ok fo δ fun x o=>Ok fs o fun ds C=>Ok (lift (og x ds)) C Q):Ok (Mq fo fs) δ Q:=bf.mpr (h.mono fun _ _ h=>bf.mpr h)
theorem Pg {C I:Jt.M D} {δ:DS} {Q:D->DS->Prop} (b:Bool) (h:Ok C δ fun x o=>x=.bl b∧if b=true then Q (.bl true) o else Ok I o Q):Ok (M4 C I) δ Q:=BK.mpr (h.mono fun _ _ ⟨e,h⟩=>by subst e;cases b;exact h;exact h)
theorem DR (l:List Nat):dF (lD l)=some (l.map fun (i:Nat)=>(i:Int)):= by
 have:=eK (l.map fun (i:Nat)=>(i:Int))
 rw [ZI] at this
 exact this
theorem zj {c:Nat} (h:c ∈ os):og (.tup (lD os)) [.int (c:Int)]=some (.int (os.idxOf c:Nat)):= by
 show (dF (lD os)).bind _=_
 rw [DR]
 have e:(os.map fun (i:Nat)=>(i:Int)).idxOf (c:Int)=os.idxOf c:= by
  induction os with
  | nil=>rfl
  | cons x r ih=>
   by_cases q:x=c
   .subst q;simp [XN]
   .have q2:¬ (x:Int)=(c:Int):=by omega
    have:=ih (by rcases uS.mp h with z | z;exact absurd z.symm q;exact z)
    have b1:(x == c)=false:=by simp [q]
    have b2:((x:Int) == (c:Int))=false:=by rw [V3];exact q2
    rw [QW,XN,XN,b1,b2,this]
 simp [e]
 exact ⟨c,h,rfl⟩
theorem Kq (l:List Nat):D.tup (lD l)=hD (l.map fun (i:Nat)=>(i:Int)):=by simp [lD,hD,ZI,ZP]
theorem ir (n0:Int) (L:B9 M M hs) (H:∀h ∈ hs,jM M h) (R:Red (mm hs) (List.range hs.length)) (g:Good M ls) (o:Ord hs ls) :
  ∃d xs',jq w9 Lj [.int n0] [bA M hs,.tup (lD ls)]=some (d,xs')∧d=.bl true∧∃n:Int,xs' = [.int n]:= by
 apply kb
 dsimp only [Lj,B4]
 have hM:=L.M7
 have h1:=L.n1
 have hM1:=L.M1
 obtain ⟨d1,x1,e1,⟨os,rfl,go⟩,n1,rfl⟩:=rV n0 (Z:=M) hM
 have e2:=gZ (M:Int) hs
 have e2b:=cP (M:Int) hs
 have h7:=L.w
 have e3:=KP go hM L.n H h7
 obtain ⟨o1,o2⟩:=J5 go H g o
 obtain ⟨b,e5,hb⟩:=Mm (m:=M) (M:=M) (hs:=nm os hs) ⟨rfl,L.M1,hM,by rw [ub];exact h1,by rw [ub];exact L.n,fun h hh=>by
  obtain ⟨h0,q,rfl⟩:=gE.mp hh
  rw [jx,fD];exact h7 h0 q⟩ (x:=.tup (lD (ls.map fun c=>os.idxOf c))) (fun xs e=>by cases e;rw [da,fD,g.1];omega)
 obtain rfl:b=true:=hb.mpr ⟨_,rfl,o1,o2⟩
 have hl:ls.length=M:=g.1
 have et:=cw n1 ((lD ls).length:Int) (by rw [da];omega) (by rw [da];omega)
 obtain ⟨j,hj⟩:∃j:Nat,n1 % ((lD ls).length:Int)=(j:Int):=⟨(n1 % ((lD ls).length:Int)).toNat,by have:=YC n1 (show ((lD ls).length:Int) ≠ 0 by rw [da];omega);omega⟩
 rw [hj] at et
 have es:GC (.tup (lD ls)) none (some (j:Int))=some (.tup (lD (ls.take j))):= by
  show some (D.tup (cutD _ _ _))=_
  rw [jg,km]
 rw [Kq (ls.take j)] at es
 rfl'
 refine m_ ?_
 rfl'
 refine bu ls (fun (i:Nat)=>.int (i:Int)) (fun c=>some (.int ((os.idxOf c:Nat):Int))) rfl (by rfl') (by omega) (fun c hc=>?_) ?_
 .have ei:=zj (gK go (g.2.2 c hc))
  rfl'
  refine O_ ?_
  rfl'
 rw [ZQ]
 have ed:cV [.lst (ls.map fun c=>D.int ((os.idxOf c:Nat):Int))]=some (.tup (lD (ls.map fun c=>os.idxOf c))):= by
  show some (D.tup _)=some (D.tup _)
  simp [lD,ZI,ZP]
 rfl'
 have sg:∀c:Int,sD true (.int c) (hD ((ls.take j).map fun (i:Nat)=>(i:Int)))=some (.bl (!decide (c ∈ (ls.take j).map fun (i:Nat)=>(i:Int)))):=fun c=>fI true c _
 have h6:=L.n
 generalize (ls.take j).map (fun (i:Nat)=>(i:Int))=gone at *
 refine bu hs hD (fun h=>some (hD (cut gone h))) rfl (by rfl') (by omega) (fun h hh=>?_) ?_
 .have hh7:=h7 h hh
  rfl'
  refine bu h .int (fun c=>if (!decide (c ∈ gone))=true then some (.int c) else none) rfl (by rfl') (by omega) (fun c hc=>?_) ?_
  .have sc:=sg c
   generalize decide (c ∈ gone)=b at sc ⊢
   cases b
   .rfl'
   .rfl'
  .rw [mI]
   have e:cV [.lst ((h.filter fun c=>!decide (c ∈ gone)).map .int)]=some (hD (cut gone h)):=rfl
   rfl'
 rw [ZQ]
 have em:(hs.map fun h=>hD (cut gone h))=(hs.map (cut gone)).map hD:=by rw [ZI];rfl
 rw [em]
 rfl'
 refine bu (hs.map (cut gone)) hD (fun h=>if (!h.isEmpty)=true then some (hD h) else none) rfl (by rfl') (by rw [fD];omega) (fun h hh=>?_) ?_
 .have e:=jn true (h.map D.int)
  rw [gL rfl,XF] at e
  have e':l_ true (hD h) (.tup [])=some (.bl (!h.isEmpty)):=e
  generalize h.isEmpty=b at e' ⊢
  cases b
  .rfl'
  .rfl'
 rw [mI]
 have e:cV [.lst (((hs.map (cut gone)).filter fun h=>!h.isEmpty).map hD)]=some (.tup ((j7 gone hs).map hD)):=rfl
 rfl'
 have ef:=jn false ((j7 gone hs).map hD)
 rw [QC (by simp),XF] at ef
 cases hc:(j7 gone hs).isEmpty with
 | true=>
  rw [hc] at ef
  refine Pg true ?_
  rfl'
  exact ⟨_,_,rfl,rfl,rfl,_,rfl⟩
 | false=>
  rw [hc] at ef
  refine Pg false ?_
  have hne:j7 gone hs ≠ []:=fun z=>by rw [z] at hc;cases hc
  have l1:1 ≤ (j7 gone hs).length:=V5.mpr hne
  have l6:=Q1 (BO (hs:=hs) gone) h6
  have ok:=Gh (gone:=gone) H
  have ej:=Ll (M:=M) l1 l6 (fun h hh=>by
   obtain ⟨h1,_⟩:=wR.mp hh
   obtain ⟨h0,q,rfl⟩:=gE.mp h1
   exact Q1 (QX _ _) (h7 h0 q)) hM
  rw [gL ((k3 l1 l6 ok).mpr (D1 gone R hne))] at ej
  generalize (pK _ _ _ _ _).map pD=tr at ej
  have ej':bP HR DY [.tup [.int M,.tup ((j7 gone hs).map hD)]]=some (.tup tr):=ej
  rfl'
  exact ⟨_,_,rfl,rfl,rfl,_,rfl⟩
end
local macro_rules | `(tactic| rfl')=>`(tactic| repeat (first
 | with_reducible first | refine rG ?_ | refine vg ?_ | refine Oi ?_ | refine N5 ?_ | refine oMt ?_ | refine A9 ?_ | refine OU ?_ | refine O7 ?_ | refine oTup ?_ | refine oLst ?_ | refine OT ?_ | refine Jh ?_ | refine B5 ?_ | refine DD ?_ | refine O1 ?_ | refine HC ?_ | refine N6 ?_ | refine Ki ?_ | refine Ie ?_ | refine Jo ?_ | refine HJ ?_ | refine zC ?_ | refine Jw ?_ | refine O5 ?_ | refine OC ?_ | refine Br ?_ | refine Oh ?_ | refine NX ?_ | refine Pa ?_ | refine y4 ?_ | refine Jc ?_ | refine EG.t ?_ | refine EG.f ?_ | refine Jn ?_ | refine Ko ?_
 | ((with_reducible first | apply HG | apply BH | apply Kl | apply HX | apply zB | apply JL | apply JX | apply JG | apply O9 | apply DV | apply I0 | apply Iv);exact rfl)
 | ((with_reducible first | apply BP | apply uM);exact rfl;with_reducible assumption)
 | ((with_reducible apply yT);first | with_reducible assumption | exact rfl)
 | ((with_reducible apply MG.mk);exact rfl;exact rfl;first | with_reducible assumption | exact cw _ _ (by omega) (by omega))
 | ((with_reducible apply Kv.mk);exact rfl;first | assumption | (simp only [fD,fR,gT,ZE];omega))
 | ((with_reducible apply LJ.mk);exact rfl;omega;with_reducible assumption)
 | ((with_reducible apply Mv.mk);exact rfl;first | with_reducible assumption | exact rfl)
 | ((with_reducible show _=_);exact rfl) | refine And.intro rfl ?_ | refine oL rfl ?_ | ((with_reducible apply oT);exact rfl) | ((with_reducible apply oF);exact rfl) | ((with_reducible apply oT);first | assumption | exact QK (by assumption)) | ((with_reducible apply oF);first | assumption | exact Z3 (by assumption))))
section
variable {hs:List (List Int)} {os:List Nat} {M:Nat}
inductive LS (z0:Jt.Slot):DS->Prop
 | mk (a1 a2 a3 a4 a5 a6 a7 a8:Jt.Slot):LS z0 [z0,a1,a2,a3,a4,a5,a6,a7,a8]
theorem Km {N:Nat} (h:N ≤ 1000):ju [.int (N:Int)]=some (bz (cq 0 N)):= by
 have:cj (N:Int)=true:=by simp [cj];omega
 simp [ju,this]
theorem A3 (H:∀h ∈ hs,jM M h):Red (rs (mm hs) (List.range M)) (List.range hs.length) ↔ Red (mm hs) (List.range hs.length):= by
 have lt:∀{i c},i ∈ List.range hs.length->mm hs i c=true->c ∈ List.range M:=fun hi h=>by
  have:=(H _ (kR (uL.mp hi))).2.2 _ (dh.mp h)
  exact uL.mpr (by omega)
 constructor
 .intro R
  exact R.imp (A:=List.range hs.length) (fun s E=>⟨E.he,E.hp,E.ne,fun c o h1 ho hne h2=>(cZ.mp (E.hold c o (cZ.mpr ⟨h1,lt (s _ E.he) h1⟩) ho hne (cZ.mpr ⟨h2,lt (s _ ho) h2⟩))).1⟩) fun x hx=>hx
 .intro R
  exact R.imp (A:=List.range hs.length) (fun s E=>⟨E.he,E.hp,E.ne,fun c o h1 ho hne h2=>cZ.mpr ⟨E.hold c o (cZ.mp h1).1 ho hne (cZ.mp h2).1,(cZ.mp h1).2⟩⟩) fun x hx=>hx
theorem MV {fs:Jt.M (List D)} {g:Jt.M Fl} {δ:DS} {Q:Fl->DS->Prop} {i j:Nat} (h:Ok fs δ fun ds o=>∃x y,ds=[x,y]∧i < o.length∧j < o.length∧Ok g ((o.set i (.pu x)).set j (.pu y)) Q):Ok (dU (Ic i j fs) g) δ Q:= by
 refine cy.mpr ?_
 unfold Ic
 refine bf.mpr (h.mono ?_)
 rintro ds o ⟨x,y,rfl,hi,hj,h⟩
 exact rG (cx.mpr ⟨hi,rG (cx.mpr ⟨by rw [List.length_set];exact hj,vg h⟩)⟩)
theorem Bc:∀ns:List Int,ns.length ≤ 63->(∀i ∈ ns,Builtin.Int.intBits i ≤ 2 ^ 20)->bP u_ G9 [.lst (ns.map .int)]=some (.bl true):= by
 intro ns hns _
 apply bx
 dsimp only [G9,yR]
 obtain ⟨m,e1⟩:∃m:Int,oG [.int ((ns.map D.int).length:Int),.int 4]=some (.int m)∧m ≤ 4:=⟨_,rfl,by split <;> omega⟩
 obtain ⟨e1,m4⟩:=e1
 obtain ⟨N,e2,N4⟩:∃N:Nat,n5 [.int 1,.int m]=some (.int (N:Int))∧N ≤ 4:= by
  refine ⟨(if m > 1 then m else 1).toNat,?_,by split <;> omega⟩
  show some (D.int (if m > 1 then m else 1))=_
  rw [WL (by split <;> omega)]
 have e3:=Km (N:=N) (by omega)
 refine IU (cq 0 N) (fun _=>LS (.pu (.lst (ns.map .int)))) (by rfl') (.mk ..) ?_ ?_
 .rintro k hk _ ⟨a1,a2,a3,a4,a5,a6,a7,a8⟩
  have hkN:k < N:=by simpa [cq] using hk
  rw [ik]
  obtain ⟨n,en⟩:=yf ns k
  obtain ⟨d,o,el,m,hs,n1,rfl,rfl,h1,h6,hm,hq⟩:=pF n
  obtain ⟨M,rfl⟩:∃M:Nat,m=(M:Int):=⟨m.toNat,by omega⟩
  have h7:∀h ∈ hs,h.length ≤ 7:=fun h hh=>(hq h hh).len (by omega) (by omega)
  have L:Lay hs:=⟨h1,h6,fun h hh=>Q1 (h7 h hh) (by omega)⟩
  have LC:B9 M M hs:=⟨rfl,by omega,by omega,h1,h6,h7⟩
  have F0:Fn hs (List.range hs.length):=⟨h6,by rw [Q5];exact h6,fun i hi=>uL.mp hi,L.w,QU,by rw [Q5];exact h1⟩
  have et:=Ll (M:=M) h1 h6 h7 (by omega)
  have er:=Lx L M
  have ec:=O6 LC
  have K:∀i,∀x ∈ G hs i,(0:Int) ≤ x:=fun i x hx=>by
   by_cases hi:i < hs.length
   .exact ((hq _ (kR hi)).2.2 x hx).1
   .simp [G,hi] at hx
  by_cases R:Red (mm hs) (List.range hs.length)
  .rw [gL ((k3 h1 h6 hq).mpr R)] at et
   generalize (pK _ _ _ _ _).map pD=tr at et
   obtain ⟨r,hr⟩:=(wK K h1 (f:=8) (by omega)).mpr R
   obtain ⟨g,rr⟩:=iQ 8 [] r hr (fun k hk=>by simp at hk) YN (fun i hi=>(nomatch hi))
   obtain ⟨s,hc⟩:=wg (M + 1) [] (List.range M) (by rw [Q5];omega) ((A3 hq).mpr R)
   obtain ⟨_,s',e0,ps,os⟩:=pq (M + 1) [] (List.range M) hc QU h1
   obtain rfl:s=s':=by simpa using e0
   have gs:Good M s:=⟨by rw [ps.length_eq,Q5],ps.nodup_iff.mpr QU,fun i hi=>uL.mp (ps.mem_iff.mp hi)⟩
   rw [hr] at er
   rw [hc] at ec
   have er:bP wx vb [bA M hs]=some (.tup (lD r)):=er
   have ec:bP yg zY [bA M hs]=some (.tup (lD s)):=ec
   have e4:=iy L M h7 F0 g rr
   obtain ⟨_,_,e5,rfl,n2,rfl⟩:=ir n1 LC hq R gs os
   have e6:=Lu M F0
   obtain ⟨x,hx⟩:=vB K hs.length (List.range hs.length) (by rw [Q5];omega) QU R
   obtain ⟨⟨p1,p2⟩,p3⟩:=uU hs.length (List.range hs.length) QU (fun i hi=>uL.mp hi) hx
   generalize hE:(ni hs hs.length (List.range hs.length)).1=E at *
   have hEl:E.length ≤ 6:= by
    have:=p1.length_eq
    simp at this
    omega
   have hg:gV hs (.lst (E.map pD))=.tup (lD [x]):= by
    show qw (sk hs _ _)=_
    rw [p3]
    rfl
   have ht:MH (.lst (E.map pD)):=fun xs e=>by
    cases e
    refine ⟨by rw [fD];omega,fun d hd=>?_⟩
    obtain ⟨p,_,rfl⟩:=gE.mp hd
    intro xs e
    cases e
    simp
   have e7:=GF M F0 ht hg
   have gO:Good hs.length ([x] ++ (E.map (·.1)).reverse):=⟨by rw [p1.length_eq,Q5],p1.nodup_iff.mpr QU,fun i hi=>uL.mp (p1.mem_iff.mp hi)⟩
   obtain ⟨b1,e8,hb1⟩:=Mu L M (x:=.tup (lD ([x] ++ (E.map (·.1)).reverse))) (fun xs e=>by cases e;rw [da,gO.1];omega)
   obtain rfl:b1=true:=hb1.mpr ⟨_,rfl,gO,p2⟩
   obtain ⟨b2,e9,hb2⟩:=Mm LC (x:=.tup (lD s)) (fun xs e=>by cases e;rw [da,gs.1];omega)
   obtain rfl:b2=true:=hb2.mpr ⟨_,rfl,gs,os⟩
   have e10:k4 (.tup (lD [x])) (.tup (lD (E.map (·.1)).reverse))=some (.tup (lD ([x] ++ (E.map (·.1)).reverse))):= by
    show (if (lD [x]).length + (lD (E.map (·.1)).reverse).length ≤ 100000 then _ else _)=_
    rw [gL (by simp [lD];omega)]
    simp [lD]
   have e11:ck (.lst (E.map pD).reverse)=some (bz (E.reverse.map pD)):=by rw [List.map_reverse];rfl
   rfl'
   refine MV ?_
   rfl'
   refine ⟨_,_,rfl,by simp,by simp,?_⟩
   refine m_ ?_
   rfl'
   refine m_ ?_
   rfl'
   refine bu E.reverse pD (fun e=>some (.int (e.1:Int))) rfl (by rfl') (by rw [WI];omega) (fun e he=>?_) ?_
   .rfl'
    show Ok (iC 2 _ (.tup [.int (e.1:Int),.int (e.2:Int)])) _ _
    rfl'
   rw [ZQ]
   have e12:cV [.lst (E.reverse.map fun e=>D.int (e.1:Int))]=some (.tup (lD (E.map (·.1)).reverse)):= by
    show some (D.tup _)=some (D.tup _)
    simp [lD,ZI,List.map_reverse,ZP]
   rfl'
   exact .mk ..
  .rw [QC fun z=>R ((k3 h1 h6 hq).mp z)] at et
   have hr:gz hs 8 []=none:= by
    cases q:gz hs 8 [] with
    | none=>rfl
    | some r=>exact absurd ((wK K h1 (f:=8) (by omega)).mp ⟨r,q⟩) R
   have hc:sE hs (M + 1) [] (List.range M)=none:= by
    cases q:sE hs (M + 1) [] (List.range M) with
    | none=>rfl
    | some r=>exact absurd ((A3 hq).mp (pq (M + 1) [] (List.range M) q QU h1).1) R
   rw [hr] at er
   rw [hc] at ec
   have er:bP wx vb [bA M hs]=some .non:=er
   have ec:bP yg zY [bA M hs]=some .non:=ec
   rfl'
   refine MV ?_
   rfl'
   refine ⟨_,_,rfl,by simp,by simp,?_⟩
   refine m_ ?_
   rfl'
   exact .mk ..
 .rintro _ ⟨a1,a2,a3,a4,a5,a6,a7,a8⟩
  rfl'
end
theorem all_mk {l:PySem.W.OpenLaw} {w:World} {K:PySem.W.Frag} {h:Heap} {mg:Str->Option Value} {fa:Addr} (X:K.In h) (G:h.Ns mainGlobals mg) (hfa:mg "law" = some (.ref fa))
  {f_l c_l b_l:Addr} {oc_l:Value} {od_l ob_l:Option Addr} {fd_l:FuncData} {sl_l sm_l sn_l:Array (Option Value)} {vs_l:Array Value} (la:PySem.W.nsIn K mainGlobals dC=some (some (.ref f_l))) (ll:K.lookup f_l=some ⟨oc_l,od_l,.func fd_l,sl_l⟩) (lh:fd_l.code=.ref c_l) (lc:K.lookup c_l=some ⟨.type "code",ob_l,.fields vs_l,sm_l⟩) (lb:PySem.W.nsIn K mainGlobals "__builtins__" = some (some (.ref b_l))) (lm:K.lookup b_l=some ⟨.type "module",some builtinsNs,.plain,sn_l⟩) (lv:codeOk vs_l c_l b_l=true)
  (i0z:Fh K "_law_cell" (top 46))
  (i1q:Fh K "_law_box" (top 47))
  (i10:Fh K "_law_take" (top 48))
  (i0m:Fh K "_law_layout" (top 49))
  (i1r:Fh K "is_whole" (top 7))
  (i1t:Fh K "is_below" (top 8))
  (i11:Fh K "need_head" (top 35))
  (i21:Fh K "common" (top 37))
  (i0h:Fh K "pair_weights" (top 41))
  (i1u:Fh K "heads_of" (top 36))
  (i0t:Fh K "due_weight" (top 44))
  (i22:Fh K "linked" (top 14))
  (i13:Fh K "most_more" yO)
  (i0e:Fh K "first_join_tree" (top 43))
  (i0n:Fh K "all_numbers" (top 16))
  (i14:Fh K "shared_by" (top 17))
  (i1v:Fh K "has_all" (top 13))
  (i0u:Fh K "holders_of" (top 18))
  (i1w:Fh K "runs_on" (top 27))
  (i0i:Fh K "running_from" K7)
  (i0o:Fh K "running_for" (top 30))
  (i0j:Fh K "may_go_ahead" (top 31))
  (i07:Fh K "column_order_for" (top 33))
  (i0v:Fh K "ears_among" (top 19))
  (i1x:Fh K "all_but" (top 20))
  (i15:Fh K "steps_for" (top 25))
  (i16:Fh K "are_below" (top 9))
  (i0k:Fh K "is_two_below" (top 10))
  (i1y:Fh K "is_step" (top 21))
  (i0l:Fh K "left_or_none" (top 22))
  (i20:Fh K "left_by" (top 24))
  (i0p:Fh K "_law_common" (top 51))
  (i17:Fh K "are_steps" (top 23))
  (i05:Fh K "_law_running_right" (top 52))
  (i0w:Fh K "_law_order" (top 50))
  (i0x:Fh K "are_unlike" (top 11))
  (i0g:Fh K "are_all_below" (top 12))
  (i23:Fh K "moved" (top 38))
  (i24:Fh K "named" (top 39))
  (i0f:Fh K "is_column_order" (top 32))
  (i06:Fh K "_law_columns_right" (top 53))
  (i0y:Fh K "is_running" (top 28))
  (i25:Fh K "law" (top 54))
  (z:PySem.W.nsIn K mainGlobals "all" = some none∧PySem.W.nsIn K mainGlobals "any" = some none∧PySem.W.nsIn K mainGlobals "bool" = some none∧PySem.W.nsIn K mainGlobals "enumerate" = some none∧PySem.W.nsIn K mainGlobals "int" = some none∧PySem.W.nsIn K mainGlobals "isinstance" = some none∧PySem.W.nsIn K mainGlobals "len" = some none∧PySem.W.nsIn K mainGlobals "list" = some none∧PySem.W.nsIn K mainGlobals "max" = some none∧PySem.W.nsIn K mainGlobals "min" = some none∧PySem.W.nsIn K mainGlobals "range" = some none∧PySem.W.nsIn K mainGlobals "set" = some none∧PySem.W.nsIn K mainGlobals "sorted" = some none∧PySem.W.nsIn K mainGlobals "sum" = some none∧PySem.W.nsIn K mainGlobals "tuple" = some none)
 :(∃c PT,PySem.W.tabIn K dC=some (c,PT))∧∃fd:FuncData,(∀(s:Shared) (v:Value),BindsTo s fd ⟨[v],[]⟩ [("_law_script",v)])∧∀base:Heap,K.In base->base.Ns mainGlobals mg->dG l.prog w K mg base dQ 13 fa fd ["_law_script"] sU:= by
 have m:Bi mg:=⟨QR X G z.1,QR X G z.2.1,QR X G z.2.2.1,QR X G z.2.2.2.1,QR X G z.2.2.2.2.1,QR X G z.2.2.2.2.2.1,QR X G z.2.2.2.2.2.2.1,QR X G z.2.2.2.2.2.2.2.1,QR X G z.2.2.2.2.2.2.2.2.1,QR X G z.2.2.2.2.2.2.2.2.2.1,QR X G z.2.2.2.2.2.2.2.2.2.2.1,QR X G z.2.2.2.2.2.2.2.2.2.2.2.1,QR X G z.2.2.2.2.2.2.2.2.2.2.2.2.1,QR X G z.2.2.2.2.2.2.2.2.2.2.2.2.2.1,QR X G z.2.2.2.2.2.2.2.2.2.2.2.2.2.2⟩
 have LK:=Ez X G la ll lh lc lb lm lv
 exact ⟨⟨_,_,LK.tab⟩,Ot X G hfa i25 (fun _ _ _ _ _ _ s v=>.of_eq rfl) gN (fun base=>by
  let C:Cw:=⟨l.prog,w,K,mg,base⟩
  have i18:qJ.H C 1:=qJ.h (cJ X G i0z) m
  have i1l:qX.H C 2:=qX.h (cJ X G i1q) m i18.u
  have i00:lL.H C 1:=lL.h (cJ X G i10)
  have i1m:pX.H C 2:=pX.h (cJ X G i0m) m i00.u
  have i19:rT.H C 1:=rT.h (cJ X G i1r) m
  have i02:lZ.H C 2:=lZ.h (cJ X G i1t) i19.u
  have i0q:qp.H C 3:=qp.h (cJ X G i11) m i02.u
  have i1a:qC.H C 4:=qC.h (cJ X G i21) m i0q.u
  have G_q7:yZ.H C 5:=yZ.h (cJ X G i0h) m i1a.u
  have i1b:se.H C 3:=se.h (cJ X G i1u) m i02.u
  have i1c:qV.H C 4:=qV.h (cJ X G i0t) m i1b.u
  have i08:nR.H C 1:=nR.h (cJ X G i22) m
  have i0r:gC l.prog w K mg base 2:=Ip LK (cJ X G i13) m i08.u
  have G_q3:x3.H C 6:=x3.h (cJ X G i0e) m i1c.u i08.u i0r.u G_q7.u
  have i01:k_.H C 1:=k_.h (cJ X G i0n) m
  have i1d:qK.H C 1:=qK.h (cJ X G i14) m
  have i09:l5.H C 1:=l5.h (cJ X G i1v) m
  have i03:kN.H C 2:=kN.h (cJ X G i0u) i09.u i1d.u
  have i04:nC.H C 3:=nC.h (cJ X G i1w) i03.u
  have G_q9:g5 l.prog w K mg base 11:=Hx (k:=3) (cJ X G i0i) m i01.u i04.u 8
  have i1o:qO.H C 12:=qO.h (cJ X G i0o) G_q9.u
  have G_q6:yE.H C 2:=yE.h (cJ X G i0j) m i09.u
  have G_q2:Bz.H C 3:=Bz.h (cJ X G i07) m G_q6.u
  have i0s:p9.H C 3:=p9.h (cJ X G i0v) i03.u
  have i0a:m8.H C 1:=m8.h (cJ X G i1x) m
  have i1p:qW.H C 4:=qW.h (cJ X G i15) i0a.u i01.u i0s.u
  have i0b:nH.H C 3:=nH.h (cJ X G i16) m i02.u
  have G_q8:zu.H C 4:=zu.h (cJ X G i0k) m i0b.u
  have i1e:qZ.H C 5:=qZ.h (cJ X G i1y) m i03.u G_q8.u
  have i0c:mM.H C 6:=mM.h (cJ X G i0l) m i0a.u i01.u i1e.u
  have i0d:nQ.H C 7:=nQ.h (cJ X G i20) i0c.u
  have i1f:qL.H C 1:=qL.h (cJ X G i0p)
  have i1g:qo.H C 7:=qo.h (cJ X G i17) i0c.u
  have G_q0:yP.H C 8:=yP.h (cJ X G i05) m i1f.u i1g.u i0d.u
  have i1j:p6.H C 2:=p6.h (cJ X G i0w) m i00.u
  have i1h:rA.H C 1:=rA.h (cJ X G i0x) m
  have G_q5:o_.H C 4:=o_.h (cJ X G i0g) m i0b.u i1h.u
  have i1i:rh.H C 1:=rh.h (cJ X G i23) m
  have i1k:qQ.H C 5:=qQ.h (cJ X G i24) m G_q5.u i1i.u
  have G_q4:tH.H C 5:=tH.h (cJ X G i0f) m G_q5.u G_q6.u
  have G_q1:B4.H C 7:=B4.h (cJ X G i06) m i1j.u i00.u G_q3.u G_q4.u i1k.u
  have i1n:m5.H C 5:=m5.h (cJ X G i0y) m G_q5.u i04.u
  exact fun _ _ _ _ _ _ _ hr=>Pz.h (c:=C) (yR ) hr m i1l.u G_q1.u i1m.u G_q0.u G_q2.u G_q3.u G_q4.u i1n.u i0d.u i1o.u i1p.u) fun _ _ _ F=>E6 F Bc⟩
end K55
open PySem PySem.W PyProof.Rows
set_option maxRecDepth 100000
set_option maxHeartbeats 0
namespace Hd
open PySem PySem.W PySem.Calls PyProof.Rows
def run (st:SharedT→Thread→Option (SharedT×Thread)) (ok:Thread→Bool):Nat→SharedT→Thread→Option SharedT
 |0,_,_=>none
 |n+1,s,t=>match through t with
  |true=>some s
  |false=>match ok t with
   |false=>none
   |true=>match st s t with
    |some (s',t')=>run st ok n s' t'
    |none=>none
theorem spec {p:Program} {w:World} {m:Nat} {a:Option Value}:∀ {n:Nat} {s s':SharedT} {t:Thread},run (stepT (denote treeTable) p w) (stepOk m a) n s t=some s'→topRun treeTable p w m a n s.abs t=some s'.abs
 |0,_,_,_,h=>by cases h
 |n+1,s,s',t,h=>by
  unfold run at h
  unfold topRun
  cases ht:through t with
  |true=>rw[ht] at h;cases h;rfl
  |false=>
   rw[ht] at h
   cases hk:stepOk m a t with
   |false=>rw[hk] at h;cases h
   |true=>
    rw[hk] at h
    cases hs:stepT (denote treeTable) p w s t with
    |none=>rw[hs] at h;cases h
    |some r=>obtain ⟨s2,t2⟩:=r;rw[hs] at h;rw[stepT_spec hs];exact spec h
noncomputable def S0 (w:World) (os:OsState):SharedT:=⟨(boot_heap w.params).objs.toList.zipIdx.foldl (fun t x=>t.ins x.2 x.1) BT.nil,11,(boot_heap w.params).life,Array.mk [],boot_drawn,boot_toks,os⟩
theorem S0_abs (w:World) (os:OsState):(S0 w os).abs=⟨boot_heap w.params,Array.mk [],boot_drawn,boot_toks,os⟩:=by kernel_rfl
theorem size (w:World):((boot_heap w.params).isNs mainGlobals && (Array.mk []:Array GenState).size==0,(boot_heap w.params).objs.size,(boot_heap w.params).nsMap mainGlobals "__annotations__")=(true,11,some (.ref 6)):=by kernel_rfl
noncomputable abbrev go (p:Program) (w:World) (os:OsState):Option SharedT:=run (Fast.tw10156331382660048174 (Fast.tw11892475500146522536 Fast.tw14364793385576792824) p w) (Fast.tw6613529449190102663 11 (some (.ref 6))) 8000 (S0 w os) (topStub p)
abbrev Xt (q:Program) (s:Shared):Bool:=xlAt q [] s && recOk [] s
noncomputable abbrev sn (p q:Program) (S:SharedT):=Fast.tw4187177175401517315 q [] (Fast.tw5923862056798008813 p.main.body) (Xt q) true S.abs
noncomputable abbrev ok (p:Program) (w:World) (S:SharedT):Bool:=staticsOk (importedModules p.main.body) (boot_heap w.params) S.abs.heap && namesBound p S.abs.heap && gensDone S.abs && laidKept (boot_heap w.params) S.abs.heap
theorem left {p q:Program} {α:Type} {Yf:Shared→α} {Ya:World→α} (e:opening p=plainProg p.main.scope.names) (f:∀ s,fenceModules? p s=some s)
  (u1:∀ w:World,(fun os=>(go p w os).map fun S=>(ok p w S,(sn p q S).1))=fun _=>some (true,(openGood q []).1))
  (u2:∀ w:World,(fun os=>(go p w os).map fun S=>(sn p q S).2)=fun _=>some (openGood q []).2)
  (u3:∀ w:World,(fun os=>(go p w os).map fun S=>Yf S.abs)=fun _=>some (Ya w)):LeftO p q [] (Xt q) Yf Ya 8000 true:=fun w=>by
 obtain ⟨⟨h,gs,d,k,os⟩,e1,e'⟩:=Option.map_eq_some_iff.mp (boot_open (N:=8000) e (by decide) f w)
 obtain ⟨rfl,rfl,rfl,rfl⟩:h=boot_heap w.params∧gs=Array.mk []∧d=boot_drawn∧k=boot_toks:=by simpa using e'
 obtain ⟨z1,z2,z3⟩:_∧_∧_:=by simpa only [Prod.mk.injEq] using size w
 obtain ⟨S,r,l1⟩:=Option.map_eq_some_iff.mp (congrFun (u1 w) os)
 have l2:=congrFun (u2 w) os
 have l3:=congrFun (u3 w) os
 simp only [r,Option.map_some,Option.some.injEq] at l2 l3
 obtain ⟨l1,l4⟩:=Prod.mk.inj l1
 unfold sn at l2 l4
 rw[←Fast.te4187177175401517315,←Fast.te5923862056798008813] at l2 l4
 unfold go at r
 rw[←Fast.te10156331382660048174,←Fast.te11892475500146522536,←Fast.te14364793385576792824,←Fast.te6613529449190102663] at r
 have r:=spec r
 rw[S0_abs] at r
 have t:topFrom treeTable p w 8000 ⟨boot_heap w.params,Array.mk [],boot_drawn,boot_toks,os⟩=some S.abs:=by
  unfold topFrom
  dsimp only
  rw[z1,z2,z3,r]
  show (match ok p w S with |true=>_|false=>_)=_
  rw[l1]
 unfold openEnds
 rw[e1]
 show (topFrom treeTable p w 8000 _).map _=_
 rw[t]
 exact congrArg some (Prod.ext (Prod.ext l4 l2) l3)
abbrev p:=PySem.Challenge.rw_jointrees_k55_whole_orders_and_trees.row.prog
abbrev q:Program:=view p [1,2,3,4,5,7,8,9,10,11,12,13,14,16,17,18,19,20,21,22,23,24,25,27,28,29,30,31,32,33,35,36,37,38,39,41,42,43,44,46,47,48,49,50,51,52,53,54]
theorem law:PySem.Challenge.rw_jointrees_k55_whole_orders_and_trees.wellSaid=true:=by
 rw[Fast.te9446332074065402090]
 kernel_rfl
theorem u1 (w:World):(fun os=>(go p w os).map fun S=>(ok p w S,(sn p q S).1))=fun _=>some (true,(openGood q []).1):=by kernel_rfl
theorem u2 (w:World):(fun os=>(go p w os).map fun S=>(sn p q S).2)=fun _=>some (openGood q []).2:=by kernel_rfl
end Hd
open PySem PySem.W PyProof.Rows
set_option hygiene false in
local macro_rules |`(tactic|o_head $H)=>`(tactic|(refine holds_open (r:=PySem.Challenge.rw_jointrees_k55_whole_orders_and_trees.row) (q:=Hd.q) (loose:=[]) (Xt:=Hd.Xt Hd.q) (XP:=XL Hd.q []) (Yf:=Hook.obs $H) (Ya:=Hook.val $H) (YP:=Hook.says $H) (N:=8000) ?hl (Hook.of $H) (Hook.keeps $H) (fun s e=>xl_of s (Bool.and_eq_true_iff.mp e).1) XL.keeps (by rfl) (by rfl) (by rfl) (fun s e=>recFacts_of (Bool.and_eq_true_iff.mp e).2) (by rfl) (by assumption) (by decide +kernel) ⟨rfl,rfl,rfl,rfl,rfl,by decide +kernel⟩ ?hw ?hc;(case hl=>exact Hd.left (by kernel_rfl) (fun s=>by kernel_rfl) Hd.u1 Hd.u2 (fun w=>by kernel_rfl))))
set_option maxRecDepth 100000 in
set_option maxHeartbeats 0 in
theorem PySem.Challenge.cw_jointrees_k55_whole_orders_and_trees_holds : PySem.Challenge.rw_jointrees_k55_whole_orders_and_trees.Holds := by
 w_on;refine holds_law Hd.law fun said=>?_;k_head;(case hw=>w_witness2)
 k_fill
 refine Jt.walkM (l:=PySem.Challenge.rw_jointrees_k55_whole_orders_and_trees) (k:=13) rfl rfl ⟨rfl,by decide,by decide,rfl⟩ (fun w h Y=>PySem.W.km_in_of Y) ?L ?NT ?RT ?F
 case L=>intro w;kernel_rfl
 case NT=>intro w;kernel_rfl
 case RT=>kernel_rfl
 case F=>
  intro w mg fa h K' bm sl U KX G hmg hbm hlk
  refine' K55.all_mk KX G hmg (U.ns ?la) (U.lk ?ll) ?lh (U.lk ?lc) (U.ns ?lb) (Jt.bm_eq KX G hbm hlk (U.ns ?lb)) ?lv (U.fh ?_) (U.fh ?_) (U.fh ?_) (U.fh ?_) (U.fh ?_) (U.fh ?_) (U.fh ?_) (U.fh ?_) (U.fh ?_) (U.fh ?_) (U.fh ?_) (U.fh ?_) (U.fh ?_) (U.fh ?_) (U.fh ?_) (U.fh ?_) (U.fh ?_) (U.fh ?_) (U.fh ?_) (U.fh ?_) (U.fh ?_) (U.fh ?_) (U.fh ?_) (U.fh ?_) (U.fh ?_) (U.fh ?_) (U.fh ?_) (U.fh ?_) (U.fh ?_) (U.fh ?_) (U.fh ?_) (U.fh ?_) (U.fh ?_) (U.fh ?_) (U.fh ?_) (U.fh ?_) (U.fh ?_) (U.fh ?_) (U.fh ?_) (U.fh ?_) (U.fh ?_) (U.fh ?_) (U.fh ?_) ?z
  (case la=>k_is);(case ll=>k_is);(case lh=>exact rfl);(case lc=>k_is);(case lb=>k_is);(case lv=>kernel_rfl)
  case z=>refine ⟨U.ns ?_,U.ns ?_,U.ns ?_,U.ns ?_,U.ns ?_,U.ns ?_,U.ns ?_,U.ns ?_,U.ns ?_,U.ns ?_,U.ns ?_,U.ns ?_,U.ns ?_,U.ns ?_,U.ns ?_⟩ <;> k_is
  all_goals (refine' Jt.fh_mk ?a ?l ?c ?k;(case a=>k_is);(case l=>k_is);(case c=>k_is);(case k=>k_is))
